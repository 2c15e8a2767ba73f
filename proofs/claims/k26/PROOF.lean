import PyProof.Rows.All
import Wide.All
import OpenK.AllK
import Wide.FinOn
import Lean
import PyProof.EqAt
import PyProof.EqKinds
import PyProof.TupleCall
import PyProof.AttrMissHeap
import KE.KDictOf
import PyProof.ConsumeWalk
import PyProof.ZipIter
import PyProof.EnumMake
import KE.KEqDict
import KE.KDictSum
import KE.KItemsList
import KE.KSortTup
import PyProof.CallStr
import PyProof.CollectIter
import PyProof.DictFindH
import PyProof.DictRoadsH
import PyProof.FString
import PyProof.FString5
import PyProof.FactsAll.tuple_2
import PyProof.FactsAll.zip_1
import PyProof.ListMulRoad
import PyProof.ListRange
import PyProof.MeetsStr
import PyProof.NeKinds
import PyProof.P3Eq
import PyProof.Rows.Range3
import PyProof.Rows.ReprOcc
import PyProof.Rows.RuleDivmod
import PyProof.Rows.SortShell
import PyProof.Rows.StrWeight2
import PyProof.StrCalls2
import PyProof.StrCalls5
import PyProof.StrWalks
import PyProof.WalksMore
import PySem.Challenge.RW_neverstuck_k26_whole_quiet_moves_exchang
set_option Elab.async false
set_option linter.all false
set_option maxRecDepth 100000
set_option maxHeartbeats 4000000
set_option compiler.small 0
set_option compiler.extract_closed false
set_option compiler.reuse false
noncomputable section
local macro_rules | `(tactic| ac_nf) => `(tactic| kernel_rfl)
local macro_rules | `(tactic| nofun) => `(tactic| walk_at "r")
abbrev Ug:=@PySem.wpAny_bind
abbrev Uh:=@List.length_map
abbrev Ui:=@List.getElem?_eq_some_iff
abbrev Uj:=@PySem.Heap.get?_push_of_some
abbrev Uk:=@PySem.wpAny_pure
abbrev Ul:=@List.mem_of_getElem?
abbrev Um:=@List.getElem?_eq_getElem
abbrev Uo:=@List.mem_cons_self
abbrev Ur:=@List.mem_cons_of_mem
abbrev Us:=@Nat.le_refl
abbrev Ut:=@if_pos
abbrev Uu:=@if_neg
abbrev Uv:=@List.map_cons
abbrev Uw:=@List.length_cons
abbrev Ux:=@List.getElem?_map
abbrev Uy:=@List.length_append
abbrev UA:=@List.size_toArray
abbrev UB:=@PySem.Heap.lt_size
abbrev UC:=@List.mem_singleton
abbrev UD:=@PySem.Heap.get?_push_size
abbrev UE:=@List.mem_cons
abbrev UG:=@List.getElem?_append_left
abbrev UH:=@List.map_append
abbrev UI:=@List.length_range
abbrev UJ:=@Bool.and_eq_true
abbrev UK:=@Bool.false_eq_true
abbrev UL:=@Nat.le_trans
abbrev UM:=@List.length_take
abbrev UN:=@Nat.lt_of_lt_of_le
abbrev UO:=@Int.toNat_natCast
abbrev UP:=@Bool.and_eq_true_iff
abbrev UQ:=@Nat.ne_of_lt
abbrev UR:=@List.mem_map
abbrev US:=@List.getElem?_append_right
abbrev UT:=@Option.bind_some
abbrev UU:=@List.mem_append_right
abbrev UW:=@List.reverse_cons
abbrev UX:=@decide_eq_false
abbrev UY:=@List.getElem?_eq_none
abbrev UZ:=@PySem.wpAny_field
abbrev U0:=@Bool.false_ne_true
abbrev U1:=@Array.getElem?_eq_getElem
abbrev U2:=@PySem.wpAny_newObj_type
abbrev U3:=@PyProof.Rows.slot_tuple_getitem
abbrev U4:=@Option.map_some
abbrev U5:=@List.mem_append
abbrev U6:=@PySem.wpAny_callSpecial?_slot
abbrev U7:=@List.getElem?_take_of_lt
abbrev U8:=@List.length_reverse
abbrev U9:=@PySem.wpAny_holding
abbrev Va:=@Nat.zero_le
abbrev Vb:=@PySem.wpAny_call_entry
abbrev Vc:=@decide_eq_true_eq
abbrev Vd:=@Nat.le_add_right
abbrev Ve:=@decide_eq_true
abbrev Vf:=@List.getElem?_set_ne
abbrev Vg:=@List.mem_range
abbrev Vh:=@Option.map_eq_some_iff
abbrev Vi:=@List.lookup_cons
abbrev Vj:=@PySem.wpAny_mono
abbrev Vk:=@of_decide_eq_true
abbrev Vl:=@PySem.PassesOwn.never
abbrev Vm:=@PyProof.Rows.callWith_type1
abbrev Vn:=@PySem.wpAny_seqItems
abbrev Vo:=@List.getElem?_cons_succ
abbrev Vp:=@List.getD_eq_getElem?_getD
abbrev Vq:=@PySem.Heap.size_push
abbrev Vr:=@Nat.zero_add
abbrev Vs:=@List.getElem?_set_self
abbrev Vt:=@Nat.le_succ_of_le
abbrev Vu:=@if_false
abbrev Vv:=@decide_eq_true_iff
abbrev Vw:=@PySem.W.kia_one
abbrev Vx:=@List.length_nil
abbrev Vy:=@List.append_nil
abbrev Vz:=@Bool.eq_iff_iff
abbrev VA:=@Ne.symm
abbrev VB:=@List.take_length
abbrev VC:=@List.filterMap_cons
abbrev VD:=@List.mem_iff_getElem?
abbrev VE:=@Bool.not_true
abbrev VF:=@Int.emod_nonneg
abbrev VG:=@bne_self_eq_false
abbrev VH:=@PySem.sizeLine_eq
abbrev VI:=@PySem.Around.under_plainId
abbrev VJ:=@PySem.mem_of_lookup
abbrev VL:=@PySem.wpAny_standAt
abbrev VM:=@PySem.wpAny_setState_of
abbrev VN:=@Array.getElem?_toList
abbrev VO:=@beq_iff_eq
abbrev VP:=@Int.emod_lt_of_pos
abbrev VQ:=@List.map_nil
abbrev VR:=@PySem.Heap.get?_update_self
abbrev VS:=@Array.mem_toList_iff
abbrev VT:=@PySem.wpAny_isInstance
abbrev VU:=@PySem.F.plainAttrs_list
abbrev VW:=@List.append_assoc
abbrev VX:=@Int.eq_ofNat_of_zero_le
abbrev VY:=@List.length_set
abbrev VZ:=@Bool.or_eq_true
abbrev V0:=@List.replicate_succ
abbrev V1:=@PySem.wpAny_rule
abbrev V2:=@List.all_eq_true
abbrev V3:=@PySem.Heap.get?_update_other
abbrev V4:=@Classical.byContradiction
abbrev V5:=@List.nodup_cons
abbrev V6:=@List.find?_cons
abbrev V7:=@PySem.wpAny_Call_Name_kw
abbrev V8:=@List.map_map
abbrev V9:=@Nat.lt_irrefl
abbrev Wa:=@PySem.codeAny_builtin
abbrev Wc:=@PySem.F.slot_zip_next
abbrev We:=@beq_self_eq_true
abbrev Wf:=@PySem.wpAny_truthy_bool
abbrev Wg:=@Nat.succ_le_succ
abbrev Wh:=@List.length_drop
abbrev Wi:=@Nat.le_succ
abbrev Wj:=@Nat.lt_or_ge
abbrev Wk:=@List.take_of_length_le
abbrev Wl:=@List.pairwise_cons
abbrev Wm:=@List.filterMap_map
abbrev Wn:=@Array.forIn_toList
abbrev Wo:=@PySem.wpAny_askSetting
abbrev Wq:=@Nat.not_lt_zero
abbrev Wr:=@List.length_singleton
abbrev Ws:=@List.flatten_cons
abbrev Wt:=@PySem.wpAny_typeOf
abbrev Wu:=@PySem.wpAny_passesOwn
abbrev Wv:=@List.take_succ
abbrev Ww:=@Array.getElem?_eq_some_iff
abbrev Wx:=@PySem.wpAny_attempt
abbrev Wy:=@if_true
abbrev Wz:=@PySem.F.slot_enumerate_next
abbrev WA:=@Nat.le_of_lt
abbrev WB:=@List.any_eq_true
abbrev WC:=@Array.length_toList
abbrev WD:=@PySem.isSubtype_stop
abbrev WE:=@PySem.F.slot_tuple_iterator_next
abbrev WG:=@List.any_cons
abbrev WH:=@Nat.min_eq_left
abbrev WI:=@PySem.Str.length_append
abbrev WJ:=@List.findIdx?_eq_some_iff_getElem
abbrev WK:=@PySem.plainId_quiet
abbrev WL:=@PySem.F.slot_list_append
abbrev WM:=@List.ext_getElem?
abbrev WN:=@PySem.wpAny_specialOf
abbrev WO:=@PySem.wpAny_pyIter_tuple
abbrev WQ:=@PySem.wpAny_getItem_str_slice
abbrev WR:=@List.take_append_drop
abbrev WS:=@Nat.lt_succ_self
abbrev WT:=@Array.toList_inj
abbrev WU:=@PySem.F.slot_tuple_hash
abbrev WV:=@List.take_append_of_le_length
abbrev WW:=@List.forIn_cons
abbrev WX:=@beq_eq_false_iff_ne
abbrev WY:=@PySem.hashByValue_scannable
abbrev WZ:=@List.getElem?_range
abbrev W0:=@Int.toNat_of_nonneg
abbrev W2:=@PySem.wpAny_forIn_list
abbrev W3:=@Nat.succ_pos
abbrev W4:=@List.mem_filterMap
abbrev W5:=@List.drop_zero
abbrev W6:=@Bool.and_false
abbrev W7:=@List.drop_eq_getElem_cons
abbrev W8:=@PySem.F.plain_extend_loop
abbrev W9:=@Nat.le_of_succ_le
abbrev Xa:=@List.pairwise_map
abbrev Xb:=@List.nodup_append
abbrev Xc:=@PySem.F.type_list_append
abbrev Xd:=@PySem.F.args_tuple_add_2
abbrev Xe:=@List.length_filterMap_le
abbrev Xf:=@List.all_cons
abbrev Xg:=@List.Perm.eq_of_pairwise
abbrev Xh:=@Bool.true_and
abbrev Xi:=@PySem.wpAny_newTuple
abbrev Xj:=@PySem.tupleKind_room_in1
abbrev Xk:=@PySem.call_meets
abbrev Xl:=@PySem.Obj.data_mapFields
abbrev Xm:=@PySem.F.entry_tuple_add
abbrev Xn:=@Option.bind_eq_some_iff
abbrev Xo:=@List.length_eq_zero_iff
abbrev Xp:=@List.isEmpty_nil
abbrev Xq:=@List.getElem_mem
abbrev Xr:=@List.filter_cons
abbrev Xs:=@PySem.SeqAt.eqAt_reads
abbrev Xu:=@PySem.F.slot_tuple_add
abbrev Xv:=@Nat.lt_trans
abbrev Xw:=@List.any_map
abbrev Xx:=@PySem.Heap.get?_push_ne
abbrev Xy:=@PySem.F.args_zip_next_1
abbrev Xz:=@Nat.zero_lt_one
abbrev XA:=@Nat.min_le_left
abbrev XB:=@PySem.wpAny_comprehension_free
abbrev XC:=@PySem.F.slot_list_extend
abbrev XD:=@List.set_append_right
abbrev XE:=@List.getElem?_toArray
abbrev XF:=@Array.mem_of_getElem?
abbrev XG:=@PySem.Heap.size_update
abbrev XH:=@PySem.F.slot_zip_getattribute
abbrev XI:=@PySem.F.entry_zip_next
abbrev XJ:=@List.mem_of_mem_take
abbrev XM:=@List.mem_append_left
abbrev XN:=@List.length_dropLast
abbrev XO:=@List.forIn_nil
abbrev XQ:=@PySem.codeAny_mono
abbrev XR:=@PySem.SetTable.insertAt_perm
abbrev XS:=@PySem.wpAny_execs_nil
abbrev XT:=@PySem.post_val_or_str
abbrev XU:=@Nat.add_assoc
abbrev XW:=@List.map_take
abbrev XX:=@PySem.builtinLookup_eq_fast
abbrev XY:=@List.getElem_range
abbrev XZ:=@PySem.wpAny_updateSeq_pair
abbrev X0:=@PySem.wpAny_letGo
abbrev X1:=@Option.isSome_map
abbrev X2:=@Nat.sub_self
abbrev X3:=@Nat.ne_of_gt
abbrev X4:=@Nat.lt_trichotomy
abbrev X5:=@Nat.add_left_comm
abbrev X6:=@Nat.add_comm
abbrev X7:=@List.take_sublist
abbrev X8:=@List.getElem?_inj
abbrev X9:=@PySem.wpAny_setEntries_of
abbrev Yb:=@PySem.Heap.SameBut.update
abbrev Yc:=@List.nodup_range
abbrev Yd:=@PySem.wpAny_onRaise
abbrev Ye:=@List.eq_nil_of_length_eq_zero
abbrev Yg:=@PySem.Calls.spliced_cons
abbrev Yh:=@List.of_mem_zip
abbrev Yi:=@List.nil_append
abbrev Yj:=@List.foldl_cons
abbrev Yk:=@List.dropLast_concat_getLast
abbrev Yl:=@Array.getD_eq_getD_getElem?
abbrev Ym:=@PySem.wpAny_sequenceKey
abbrev Yn:=@PySem.wpAny_pyIter_list
abbrev Yo:=@PySem.slot_list_getitem
abbrev Yp:=@PySem.fits_of_scanBound
abbrev Yq:=@PySem.eqIsQuiet_byValue
abbrev Yr:=@PySem.Calls.spliced_nil
abbrev Ys:=@Nat.mod_lt
abbrev Yt:=@List.nodup_iff_pairwise_ne
abbrev Yu:=@List.length_eraseIdx_of_lt
abbrev Yv:=@PySem.F.slot_dict_getitem
abbrev Yw:=@PyProof.Rows.slicePart_none
abbrev Yx:=@List.mem_or_eq_of_mem_set
abbrev Yy:=@List.findIdx?_eq_none_iff
abbrev Yz:=@PySem.noFill_tuple_add
abbrev YA:=@PySem.F.type_list_extend
abbrev YB:=@Option.isSome_iff_exists
abbrev YC:=@List.sum_cons
abbrev YD:=@List.map_drop
abbrev YE:=@List.Pairwise.imp_of_mem
abbrev YF:=@Bool.or_false
abbrev YG:=@decide_eq_false_iff_not
abbrev YH:=@PySem.F.slot_list_index
abbrev YI:=@PyProof.Rows.entry_tuple_getitem
abbrev YJ:=@Option.join_eq_some_iff
abbrev YK:=@List.pairwise_mergeSort
abbrev YL:=@List.getElem?_replicate
abbrev YM:=@List.getElem?_cons_zero
abbrev YN:=@PySem.wpAny_updateSeq
abbrev YO:=@PySem.typeLookup_type
abbrev YQ:=@PySem.W.cellsFrom_some
abbrev YR:=@PySem.F.args_tuple_iterator_next_1
abbrev YS:=@Nat.sub_zero
abbrev YT:=@List.length_pos_of_mem
abbrev YU:=@List.find?_cons_of_neg
abbrev YV:=@List.drop_eq_nil_of_le
abbrev YW:=@Int.ediv_one
abbrev YX:=@Array.getElem?_eq_none
abbrev YY:=@PySem.F.entry_tuple_iterator_next
abbrev YZ:=@PyProof.Rows.assignInOrder_cons
abbrev Y0:=@PyProof.Rows.args_tuple_getitem
abbrev Y1:=@List.filterMap_eq_map
abbrev Y2:=@PySem.wpAny_setField
abbrev Y3:=@PySem.Calls.Name_function_global
abbrev Y4:=@Nat.pow_le_pow_right
abbrev Y5:=@List.dropLast_concat
abbrev Y6:=@Array.getElem_of_mem
abbrev Y7:=@List.mergeSort_perm
abbrev Y8:=@List.map_congr_left
abbrev Y9:=@of_decide_eq_false
abbrev Za:=@PySem.wpAny_getItem_list_slice
abbrev Zb:=@PySem.seq_tuple_add
abbrev Zc:=@PySem.evalPart_none
abbrev Zd:=@PySem.W.kitx_tuple
abbrev Ze:=@PySem.SetTable.toList_insertAt
abbrev Zf:=@Option.isNone_some
abbrev Zg:=@Nat.eq_zero_or_pos
abbrev Zh:=@Nat.eq_or_lt_of_le
abbrev Zi:=@Nat.add_sub_cancel
abbrev Zj:=@List.getElem?_take
abbrev Zk:=@List.findIdx?_cons
abbrev Zl:=@PySem.W.kitx_list
abbrev Zm:=@PySem.W.kitx_dict
abbrev Zn:=@PySem.F.args_enumerate_next_1
abbrev Zo:=@Nat.lt_succ_of_lt
abbrev Zq:=@List.flatMap_cons
abbrev Zr:=@List.find?_append
abbrev Zs:=@List.any_eq_false
abbrev Zt:=@Bool.not_eq_true'
set_option hygiene false
set_option hygiene true
abbrev FR:=PySem.W.Frag
namespace Hd
open PySem PySem.W PySem.Spec PyProof.Rows
noncomputable def Dc:List Value->Option (List Int)
 | []=>some []
 | .int i _::r=>(Dc r).map fun is=>i::is
 | _=>none
noncomputable def DA(v:Value)(t:String):Bool:=match v with
 | .type s=>decide (s=t)
 | _=>false
noncomputable def rowAt(h:Heap)(e:DictEntry):Option (Str×Int×List Int):=match e.key with
 | .str x _=>match e.val with
  | .ref t=>match h.get? t with
   | some u=>if DA u.cls "tuple"&&u.dict.isNone then(match u.data with
     | .seq its _=>if its.size≤100 then(Dc its.toList).map fun is=>(x,e.hash,is) else none
     | _=>none) else none
   | none=>none
  | _=>none
 | _=>none
noncomputable def l9(h:Heap):List DictEntry->Option (List (Str×Int×List Int))
 | []=>some []
 | e::r=>(rowAt h e).bind fun x=>(l9 h r).map fun xs=>x::xs
noncomputable def tabAt(h:Heap)(nm:Str):Option (List (Str×Int×List Int)):=match h.nsMap mainGlobals nm with
 | some (.ref a)=>if a==sysModules then none else(match h.get? a with
  | some o=>if DA o.cls "dict"&&o.dict.isNone&&decide (o.slots=#[]) then(match o.data with
    | .dict es _=>l9 h es.toList
    | _=>none) else none
  | none=>none)
 | _=>none
theorem Kt(row:String)(h0:∀w:World,(fencedOpening treeTable p w N).map (fun s₀=>(topFrom treeTable p (w.withFollow row false) N s₀).map (fun s=>(openSeen q loose (importedModules p.main.body) Xt true s,Yf s)))=some (some (openGood q loose,Ya (w.withFollow row false))))(h1:∀w:World,(fencedOpening treeTable p w N).map (fun s₀=>(topFrom treeTable p (w.withFollow row true) N s₀).map (fun s=>(openSeen q loose (importedModules p.main.body) Xt true s,Yf s)))=some (some (openGood q loose,Ya (w.withFollow row true)))):LeftO p q loose Xt Yf Ya N true:=fun w=>by
 obtain⟨s₀,a,b0⟩:=Vh.mp (h0 w);obtain⟨s₁,a1,b1⟩:=Vh.mp (h1 w);have e:=World.withFollow_self w row;unfold openEnds;cases hb:w.params.followText row <;> rw[hb] at e
 ·rw[a];rw[e] at b0;exact b0
 ·rw[a1];rw[e] at b1;exact b1
end Hd
namespace Mi
open PySem
abbrev pw:Program:=PySem.Challenge.pw_neverstuck_k26_whole_quiet_moves_exchang
noncomputable def top(i:Nat):Stmt:=pw.main.body.getD i (.Pass ⟨0,0,0,0⟩)
noncomputable def kM:List (Str×List Int):=[("say",[2,0]),("call",[3,0]),("within",[2,1]),("all",[2,1]),("ask",[2,2]),("by",[3,3]),("either",[1,2]),("again",[1,1])]
noncomputable def view:Program:={pw with main:={pw.main with body:=[top 1,top 2,top 4,top 5,top 6,top 8,top 9,top 10,top 11,top 12,top 13,top 14,top 16,top 17,top 18,top 19,top 20,top 21,top 22,top 23,top 24,top 25,top 26,top 27,top 28,top 29,top 30,top 32,top 33,top 34,top 35,top 36,top 37,top 38,top 39,top 40,top 41,top 42,top 44,top 45,top 46,top 47,top 48,top 49,top 50,top 51,top 52,top 53,top 54,top 55,top 56,top 57,top 58,top 59,top 60,top 61,top 62]}}
end Mi
local macro_rules | `(tactic| walk_at "s") => `(tactic| exact⟨rfl, rfl, rfl, by decide +kernel, rfl, by decide +kernel, by decide +kernel⟩)
namespace Mi
open PySem PySem.W PyProof.Rows
abbrev ya(w:World):=some (kM.map fun x:Str×List Int=>(x.1,hashStr w x.1,x.2))
abbrev Xt:Shared->Bool:=fun s=>xlAt view [] s&&recOk (RowW.records (OpenRow.toRowW PySem.Challenge.rw_neverstuck_k26_whole_quiet_moves_exchang.row)) s
abbrev Yf:Shared->Option (List (Str×Int×List Int)):=fun s=>Hd.tabAt s.heap "SHAPES"
theorem Qq(w:World):(fencedOpening treeTable pw w 20000).map (fun s₀=>(topFrom treeTable pw (w.withFollow "special-get-raises" false) 20000 s₀).map (fun s=>(openSeen view (["SHAPES"]:List Str) (importedModules pw.main.body) Xt true s,Yf s)))=some (some (openGood view (["SHAPES"]:List Str),(ya) (w.withFollow "special-get-raises" false))):=by ac_nf
theorem Qp(w:World):(fencedOpening treeTable pw w 20000).map (fun s₀=>(topFrom treeTable pw (w.withFollow "special-get-raises" true) 20000 s₀).map (fun s=>(openSeen view (["SHAPES"]:List Str) (importedModules pw.main.body) Xt true s,Yf s)))=some (some (openGood view (["SHAPES"]:List Str),(ya) (w.withFollow "special-get-raises" true))):=by ac_nf
theorem left:LeftO pw view (["SHAPES"]:List Str) Xt Yf (ya) 20000:=Hd.Kt "special-get-raises" Qq Qp
theorem Ms:PySem.Challenge.rw_neverstuck_k26_whole_quiet_moves_exchang.wellSaid=true:=by
 unfold OpenLaw.wellSaid
 repeat(with_reducible refine look_both ?_ (by decide+kernel))
 unfold OpenRow.wellSaid
 repeat(with_reducible refine look_both ?_ (by decide+kernel))
 unfold OpenRow.partSaid
 repeat(with_reducible refine look_both ?_ (by decide+kernel))
 unfold looksOpen
 repeat(with_reducible refine look_both ?_ (by decide+kernel))
 decide+kernel
end Mi
theorem b5{α:Type}{p:α}{C:Prop}(h:none=some p):C:=nomatch h
namespace L2
open PySem PySem.Spec PyProof.Rows
abbrev Key:=Sum Int Str
noncomputable def vN:Key->Value->Bool
 | .inl k,v=>Value.isInt k v
 | .inr x,v=>Value.isStrOf x v
noncomputable def NL(w:World):Key->Int
 | .inl k=>hashInt k
 | .inr x=>hashStr w x
theorem bX:∀{k:Key} {v:Value},vN k v=true->(∃i t,k=Sum.inl i∧v=Value.int i t)∨(∃x t,k=Sum.inr x∧v=Value.str x t)
 | .inl i,v,h=>by
  obtain⟨t,e⟩:=Value.isInt_shape (k:=i) (v:=v) h;exact .inl ⟨i,t,rfl,e⟩
 | .inr x,v,h=>by
  obtain⟨t,e⟩:=Value.isStrOf_shape (x:=x) (v:=v) h;exact .inr ⟨x,t,rfl,e⟩
theorem ES(i:Int)(t:Tok):vN (.inl i) (.int i t)=true:=by simp[vN,Value.isInt]
theorem ER(x:Str)(t:Tok):vN (.inr x) (.str x t)=true:=by simp[vN,Value.isStrOf]
theorem NK(a b:Int):decide ((Sum.inl a:Key)=Sum.inl b)=(a==b):=by
 by_cases e:a=b
 ·subst e;simp
 ·have h:¬(Sum.inl a:Key)=Sum.inl b:=fun q=>e (Sum.inl.inj q);rw[UX h];exact(WX.mpr e).symm
theorem NH(a b:Str):decide ((Sum.inr a:Key)=Sum.inr b)=decide (a=b):=by
 by_cases e:a=b
 ·subst e;simp
 ·have h:¬(Sum.inr a:Key)=Sum.inr b:=fun q=>e (Sum.inr.inj q);rw[UX h,UX e]
theorem NJ(a:Int)(b:Str):decide ((Sum.inl a:Key)=Sum.inr b)=false:=UX (fun q=>nomatch q)
theorem NI(a:Str)(b:Int):decide ((Sum.inr a:Key)=Sum.inl b)=false:=UX (fun q=>nomatch q)
noncomputable def bF(prog:Program)(w:World):PySem.KeyKind prog w Key where
 is:=vN
 hash:=NL w
 inj:=fun v a b ha hb=>by
  rcases bX ha with⟨i,t,rfl,rfl⟩ |⟨x,t,rfl,rfl⟩
  ·rcases bX hb with⟨j,u,rfl,e⟩ |⟨y,u,rfl,e⟩
   ·injection e with e1 _;rw[e1]
   ·exact nomatch e
  ·rcases bX hb with⟨j,u,rfl,e⟩ |⟨y,u,rfl,e⟩
   ·exact nomatch e
   ·injection e with e1 _;rw[e1]
 byValue:=fun k v h=>by
  rcases bX h with⟨i,t,rfl,rfl⟩ |⟨x,t,rfl,rfl⟩ <;> rfl
 pyHash:=fun hv h=>by
  rcases bX hv with⟨i,t,rfl,rfl⟩ |⟨x,t,rfl,rfl⟩
  ·exact wpAny_pyHash_int h
  ·exact wpAny_pyHash_str h
 eqBool:=fun hu hv h=>by
  rcases bX hu with⟨i,t,rfl,rfl⟩ |⟨x,t,rfl,rfl⟩
  ·rcases bX hv with⟨j,u,rfl,rfl⟩ |⟨y,u,rfl,rfl⟩
   ·rw[NK] at h;exact wpAny_eqBool_int h
   ·rw[NJ] at h;exact SeqAt.EqAt.int_str i t y u _ _ _ _ h
  ·rcases bX hv with⟨j,u,rfl,rfl⟩ |⟨y,u,rfl,rfl⟩
   ·rw[NI] at h;exact SeqAt.EqAt.str_int x t j u _ _ _ _ h
   ·rw[NH] at h;exact wpAny_eqBool_str h
 «strs»:=fun k x t v h=>by
  rcases bX h with⟨i,u,rfl,e⟩ |⟨y,u,rfl,e⟩
  ·exact nomatch e
  ·injection e with e1 _
   subst e1;cases v <;> rfl
theorem qi(prog:Program)(w:World)(i:Int)(t:Tok):(bF prog w).is (.inl i) (.int i t)=true:=ES i t
theorem qh(prog:Program)(w:World)(x:Str)(t:Tok):(bF prog w).is (.inr x) (.str x t)=true:=ER x t
inductive V where
 | bz | bl (b:Bool) | int (i:Int) | str (x:Str) | byt (b:Array UInt8) | OZ (b:UInt64) | ref (a:Addr) | ty (n:String)
 deriving DecidableEq
def RelV:V->Value->Prop
 | .bz,u=>u=Value.none
 | .bl b,u=>u=Value.bool b
 | .int i,u=>∃t,u=Value.int i t
 | .str x,u=>∃t,u=Value.str x t
 | .byt b,u=>∃t,u=Value.bytes b t
 | .OZ b,u=>∃t,u=Value.float b t
 | .ref a,u=>u=Value.ref a
 | .ty n,u=>u=Value.type n
abbrev Vals:List V->List Value->Prop:=Paired RelV
theorem Vals.length(r:Vals xs us):xs.length=us.length:=Paired.length r
theorem Vals.get:∀{xs:List V} {us:List Value} {i:Nat} {x:V},Vals xs us->xs[i]?=some x->∃u,us[i]?=some u∧RelV x u
 | _,_,_,_,.nil,e=>by simp at e
 | _,_,0,_,.cons r _,e=>by simp at e;subst e;exact⟨_,rfl,r⟩
 | _,_,i+1,x,.cons _ t,e=>by
  obtain⟨u,h1,h2⟩:=Vals.get (i:=i) (x:=x) t (by simpa using e);exact⟨u,by simpa using h1,h2⟩
theorem Vals.set(r:RelV x u):∀{xs:List V} {us:List Value} (i:Nat),Vals xs us->Vals (xs.set i x) (us.set i u)
 | _,_,_,.nil=>.nil
 | _,_,0,.cons _ t=>.cons r t
 | _,_,i+1,.cons q t=>.cons q (Vals.set r i t)
theorem Vals.append:∀{xs ys:List V} {us ws:List Value},Vals xs us->Vals ys ws->Vals (xs++ys) (us++ws)
 | _,_,_,_,.nil,s=>s
 | _,_,_,_,.cons r t,s=>.cons r (Vals.append t s)
theorem Vals.take:∀{xs:List V} {us:List Value} (n:Nat),Vals xs us->Vals (xs.take n) (us.take n)
 | _,_,0,_=>.nil
 | _,_,_+1,.nil=>.nil
 | _,_,n+1,.cons r t=>.cons r (Vals.take n t)
theorem Vals.drop:∀{xs:List V} {us:List Value} (n:Nat),Vals xs us->Vals (xs.drop n) (us.drop n)
 | _,_,0,r=>r
 | _,_,_+1,.nil=>.nil
 | _,_,n+1,.cons _ t=>Vals.drop n t
def t7:Option V->Option Value->Prop
 | some v,some u=>RelV v u
 | none,none=>True
 | _,_=>False
def KV{κ:Type}:List (κ×V)->List (κ×Value)->Prop:=Paired fun(p:κ×V)(q:κ×Value)=>p.1=q.1∧RelV p.2 q.2
noncomputable def kV:Key->V
 | .inl i=>.int i
 | .inr x=>.str x
inductive HO where
 | lst (xs:List V)
 | tup (xs:List V)
 | dK (kvs:List (Key×V)) | dT (kvs:List (List Key×V))
 | set (S:Int->Bool) (n:Nat)
 | ins (C dx:Addr) (fs:List (Str×V))
 | own (x:Addr)
 | xd (fs:List (Str×V))
 | met (f x:Addr)
 | RT (lo hi:Int)
 | Dm (o:Obj) (u:HO)
 | Ma (ps:Array Value)
 | ext (φ:Heap->Prop)
 | O0 (φ:World->Heap->Prop)
abbrev Hp:=Addr->Option HO
noncomputable def upd(H:Hp)(a:Addr)(o:HO):Hp:=fun b=>if b=a then some o else H b
theorem aR:upd H a o a=some o:=by unfold upd;rw[Ut rfl]
theorem aF(h:b≠a):upd H a o b=H b:=by unfold upd;rw[Uu h]
theorem Jb:upd (upd H a o) a u=upd H a u:=by
 funext b;unfold upd;split <;> rfl
theorem Qj{H:Hp}{a b:Addr}{o u:HO}(h:H a=some o)(h':H b=some u)(d:o≠u):a≠b:=by
 intro e;subst e;rw[h] at h';exact d (Option.some.inj h')
theorem aO{H:Hp}{a b:Addr}{o:HO}(h:H a=some o)(h':H b=none):a≠b:=by
 intro e;subst e;rw[h] at h';cases h'
def yz(h:Heap)(a:Addr)(items:Array Value):Prop:=∃o,h.get? a=some o∧o.cls=.type "tuple"∧(∃n,o.data=.seq items n)∧o.dict=none
theorem yz.tup(x:yz h a items):IsTup h a items:=let⟨o,e,c,d,_⟩:=x;⟨o,e,c,d⟩
theorem yz.new(h:Heap)(items:Array Value):yz (h.push {cls:=.type "tuple",data:=.seq items}) h.objs.size items:=⟨_,UD _ rfl,rfl,⟨_,rfl⟩,rfl⟩
section
variable (P:Program) (w:World)
def b6(H:Hp)(h:Heap)(a:Addr):HO->Prop
 | .lst xs=>xs.length≤sizeLine∧∃(its:List Value)(n:Nat),Vals xs its∧h.get? a=some {cls:=.type "list",data:=.seq its.toArray n}
 | .tup xs=>xs.length≤sizeLine∧∃its:List Value,Vals xs its∧yz h a its.toArray
 | .dK kvs=>kvs.length≤sizeLine∧(a==sysModules)=false∧∃vs,KV kvs vs∧h.DictOf (bF P w) a vs
 | .dT kvs=>kvs.length≤sizeLine∧(a==sysModules)=false∧∃xs:List (List Key×Addr×Value),
   Paired (fun(p:List Key×V)(q:List Key×Addr×Value)=>p.1=q.1∧H q.2.1=some (.tup (p.1.map kV))∧RelV p.2 q.2.2) kvs xs∧
   ∃o es ep,h.get? a=some o∧o.ExactDict∧o.data=.dict es ep∧es.toList=xs.map (entryOfKey (tupleKind (bF P w)))∧(xs.map (·.1)).Nodup
 | .set S n=>h.SetOf (intKind P w) a S n
 | .ins C dx fs=>H dx=some (.own a)∧fs.length≤1000∧dx≠a∧h.get? a=some (PySem.W.instObj C dx)∧
   ∃mA,h.Ns1 dx mA∧(∀f,t7 (fs.lookup f) (mA f))∧PySem.Within mA (fs.map (·.1))
 | .own _=>∃o,h.get? a=some o
 | .xd fs=>∃mA,h.Ns1 a mA∧∀f,t7 (fs.lookup f) (mA f)
 | .RT lo hi=>∃t u v,h.get? a=some {cls:=.type "range",data:=.fields #[.int lo t,.int hi u,.int 1 v]}
 | .Dm o u=>h.get? a=some o∧b6 H h a u
 | .Ma ps=>h.get? a=some {cls:=.none,data:=.fields ps}
 | .met f x=>h.get? a=some (PySem.W.methodObj (.ref f) (.ref x))
 | .ext φ=>φ h∧(∃o,h.get? a=some o)∧∀h1 h2:Heap,φ h1->(∀o,h1.get? a=some o->h2.get? a=some o)->φ h2
 | .O0 φ=>φ w h∧(∃o,h.get? a=some o)∧∀h1 h2:Heap,φ w h1->(∀o,h1.get? a=some o->h2.get? a=some o)->φ w h2
def iM(H:Hp)(h:Heap):Prop:=∀a o,H a=some o->b6 P w H h a o
end
theorem b6.lt(x:b6 P w H h a o):a < h.objs.size:=by
 cases o with
 | lst xs=>obtain⟨_,_,_,_,e⟩:=x;exact UB e
 | tup xs=>obtain⟨_,_,_,p⟩:=x;exact p.tup.lt
 | dK kvs=>obtain⟨_,_,_,_,o,_,_,e,_⟩:=x;exact UB e
 | dT kvs=>obtain⟨_,_,_,_,o,_,_,e,_⟩:=x;exact UB e
 | set S n=>obtain⟨o,_,_,_,e,_⟩:=x;exact UB e
 | ins C dx fs=>obtain⟨_,_,_,e,_⟩:=x;exact UB e
 | own y=>obtain⟨_,e⟩:=x;exact UB e
 | xd fs=>obtain⟨_,⟨_,_,_,e,_⟩,_⟩:=x;exact UB e
 | RT lo hi=>obtain⟨_,_,_,e⟩:=x;exact UB e
 | Dm ob u=>obtain⟨e,_⟩:=x;exact UB e
 | Ma ps=>exact UB (show h.get? a=some _ from x)
 | met f y=>exact UB (show h.get? a=some _ from x)
 | ext φ=>obtain⟨_,⟨_,e⟩,_⟩:=x;exact UB e
 | O0 φ=>obtain⟨_,⟨_,e⟩,_⟩:=x;exact UB e
theorem Paired.Km:∀{l₁:List α} {l₂:List β},Paired F l₁ l₂->(∀a b,F a b->G a b)->Paired G l₁ l₂
 | _,_,.nil,_=>.nil
 | _,_,.cons r t,f=>.cons (f _ _ r) (Paired.Km t f)
theorem Paired.imp'(f:∀a b,F a b->G a b)(r:Paired F l₁ l₂):Paired G l₁ l₂:=Paired.Km r f
theorem b6.wI(x:b6 P w H h a o)(k:∀b u,(b=a∨H b=some (.own a))->h.get? b=some u->h'.get? b=some u)
  (ho:∀b,H b=some (.own a)->H' b=some (.own a)) (ht:∀b xs,H b=some (.tup xs)->H' b=some (.tup xs)):b6 P w H' h' a o:=by
 induction o with
 | lst xs=>obtain⟨z,its,n,r,e⟩:=x;exact⟨z,its,n,r,k _ _ (.inl rfl) e⟩
 | tup xs=>obtain⟨z,its,r,ob,e,c⟩:=x;exact⟨z,its,r,ob,k _ _ (.inl rfl) e,c⟩
 | dK kvs=>obtain⟨z,y,vs,r,ob,es,ep,e,c⟩:=x;exact⟨z,y,vs,r,ob,es,ep,k _ _ (.inl rfl) e,c⟩
 | dT kvs=>
  obtain⟨z,y,xs,r,ob,es,ep,e,c⟩:=x;exact⟨z,y,xs,Paired.Km r fun p q z=>⟨z.1,ht _ _ z.2.1,z.2.2⟩,ob,es,ep,k _ _ (.inl rfl) e,c⟩
 | set S n=>obtain⟨ob,es,ep,t,e,c⟩:=x;exact⟨ob,es,ep,t,k _ _ (.inl rfl) e,c⟩
 | ins C dx fs=>
  obtain⟨d,z,ne,e,mA,⟨od,es,ep,e2,c⟩,r⟩:=x;exact⟨ho _ d,z,ne,k _ _ (.inl rfl) e,mA,⟨od,es,ep,k _ _ (.inr d) e2,c⟩,r⟩
 | own y=>obtain⟨ob,e⟩:=x;exact⟨ob,k _ _ (.inl rfl) e⟩
 | xd fs=>obtain⟨mA,⟨od,es,ep,e,c⟩,r⟩:=x;exact⟨mA,⟨od,es,ep,k _ _ (.inl rfl) e,c⟩,r⟩
 | RT lo hi=>obtain⟨t,u,v,e⟩:=x;exact⟨t,u,v,k _ _ (.inl rfl) e⟩
 | Dm ob u ih=>obtain⟨e,q⟩:=x;exact⟨k _ _ (.inl rfl) e,ih q⟩
 | Ma ps=>
  have e:h.get? a=some {cls:=.none,data:=.fields ps}:=x;show h'.get? a=some {cls:=.none,data:=.fields ps};exact k a _ (.inl rfl) e
 | met f y=>
  have e:h.get? a=some (PySem.W.methodObj (.ref f) (.ref y)):=x;show h'.get? a=some (PySem.W.methodObj (.ref f) (.ref y));exact k a _ (.inl rfl) e
 | ext φ=>obtain⟨p,⟨o,e⟩,st⟩:=x;exact⟨st _ _ p fun o q=>k _ _ (.inl rfl) q,⟨o,k _ _ (.inl rfl) e⟩,st⟩
 | O0 φ=>obtain⟨p,⟨o,e⟩,st⟩:=x;exact⟨st _ _ p fun o q=>k _ _ (.inl rfl) q,⟨o,k _ _ (.inl rfl) e⟩,st⟩
theorem iM.lt(x:iM P w H h)(e:H a=some o):a < h.objs.size:=(x a o e).lt
theorem iM.fresh(x:iM P w H h)(e:h.objs.size≤a):H a=none:=by
 cases q:H a with
 | none=>rfl
 | some u=>exact absurd (UN (x.lt q) e) (V9 _)
theorem iM.kept(x:iM P w H h)(k:∀b u,h.get? b=some u->h'.get? b=some u):iM P w H h':=fun a o e=>
 (x a o e).wI (fun b u _ q=>k b u q) (fun _ q=>q) fun _ _ q=>q
theorem iM.laid(x:iM P w H h)(k:∀b u,h.get? b=some u->h'.get? b=some u)(hp:h.objs.size≤a)(new:b6 P w (upd H a o) h' a o):iM P w (upd H a o) h':=fun b u e=>by
 have hn:=x.fresh hp
 by_cases hb:b=a
 ·subst hb;rw[aR] at e;cases e;exact new
 ·rw[aF hb] at e;exact(x b u e).wI (fun c v _ q=>k c v q) (fun c q=>by rw[aF (aO q hn)];exact q) fun c xs q=>by rw[aF (aO q hn)];exact q
def Rd(H:Hp)(a:Addr)(u:HO):Prop:=H a=some u∨∃o,H a=some (.Dm o u)
theorem Rd.ok(r:Rd H a u)(x:iM P w H h):b6 P w H h a u:=by
 rcases r with r |⟨o,r⟩
 ·exact x a u r
 ·obtain⟨_,q⟩:=x a _ r;exact q
def Q8:Option HO->Prop
 | some (.lst _)=>True
 | some (.dK _)=>True
 | some (.dT _)=>True
 | some (.set _ _)=>True
 | some (.ins _ _ _)=>True
 | some (.ext _)=>True
 | some (.O0 _)=>True
 | _=>False
theorem iM.write(ok:iM P w H h)(mu:Q8 (H x))(he:e=x∨H e=some (.own x))(k:∀b u,b≠e->h.get? b=some u->h'.get? b=some u)(heo:∃u,h'.get? e=some u)
  (new:b6 P w (upd H x o') h' x o'):iM P w (upd H x o') h':=fun b u q=>by
 have nown:∀c y,H c=some (.own y)->c≠x:=fun c y r z=>by subst z;rw[r] at mu;exact mu
 have ntup:∀c xs,H c=some (.tup xs)->c≠x:=fun c xs r z=>by subst z;rw[r] at mu;exact mu
 by_cases hb:b=x
 ·subst hb;rw[aR] at q;cases q;exact new
 ·rw[aF hb] at q
  by_cases hbe:b=e
  ·have q':H b=some (.own x):=by
    rcases he with z | z
    ·exact absurd (hbe.trans z) hb
    ·rw[hbe];exact z
   rw[q] at q';cases q';obtain⟨v,hv⟩:=heo;exact⟨v,by rw[hbe];exact hv⟩
  ·refine(ok b u q).wI (fun c v hc r=>k c v ?_ r) (fun c r=>by rw[aF (nown c b r)];exact r) fun c xs r=>by rw[aF (ntup c xs r)];exact r
   rcases hc with rfl | hc
   ·exact hbe
   ·rintro rfl;rcases he with z | z
    ·exact nown c b hc z
    ·rw[hc] at z;cases z;exact hb rfl
structure Un(fs ex:List Addr)(H H':Hp)(h h':Heap):Prop where
 keep:∀b o,h.get? b=some o->H b=none->b∉fs->b∉ex->h'.get? b=some o
 slot:∀b o,h.get? b=some o->H b=none->b∈fs->b∉ex->∃sl,h'.get? b=some {o with slots:=sl}
 free:∀b o,h.get? b=some o->H b=none->b∉ex->H' b=none
 there:∀b o,h.get? b=some o->b∉ex->∃o',h'.get? b=some o'
 qA:∀b xs,H b=some (.tup xs)->H' b=some (.tup xs)
 uR:∀b o u,H b=some (.Dm o u)->H' b=some (.Dm o u)
 wD:∀b ps,H b=some (.Ma ps)->∃more,H' b=some (.Ma (ps++more))
theorem Un.any(u:Un fs ex H H1 h h1)(q:h.get? b=some ob)(n:H b=none)(hx:b∉ex):∃sl,h1.get? b=some {ob with slots:=sl}:=by
 by_cases hb:b∈fs
 ·exact u.slot b ob q n hb hx
 ·exact⟨ob.slots,u.keep b ob q n hb hx⟩
theorem Un.kept(k:∀b u,h.get? b=some u->h'.get? b=some u):Un fs ex H H h h':=
 ⟨fun b ob q _ _ _=>k b ob q,fun b ob q _ _ _=>⟨ob.slots,k b ob q⟩,fun _ _ _ n _=>n,fun b ob q _=>⟨ob,k b ob q⟩,fun _ _ q=>q,fun _ _ _ q=>q,fun _ ps q=>⟨#[],by rw[q];simp⟩⟩
theorem Un.refl:Un fs ex H H h h:=Un.kept fun _ _ q=>q
theorem Un.laid(k:∀b u,h.get? b=some u->h'.get? b=some u)(hp:h.objs.size≤a)(hn:H a=none):Un fs ex H (upd H a o) h h' where
 keep:=fun b u q _ _ _=>k b u q
 slot:=fun b u q _ _ _=>⟨u.slots,k b u q⟩
 free:=fun b u q n _=>by rw[aF (UQ (UN (UB q) hp))];exact n
 there:=fun b u q _=>⟨u,k b u q⟩
 qA:=fun b xs q=>by rw[aF (aO q hn)];exact q
 uR:=fun b u xs q=>by rw[aF (aO q hn)];exact q
 wD:=fun b ps q=>⟨#[],by rw[aF (aO q hn),q];simp⟩
theorem Un.write(mu:Q8 (H x))(he:e=x∨H e=some (.own x))(k:∀b u,b≠e->h.get? b=some u->h'.get? b=some u)(heo:∃u,h'.get? e=some u):Un fs ex H (upd H x o) h h':=by
 have hx:∀b,H b=none->b≠x:=fun b n z=>by subst z;rw[n] at mu;exact mu
 have hb:∀b,H b=none->b≠e:=fun b n z=>by
  subst z;rcases he with r | r
  ·exact hx b n r
  ·rw[n] at r;cases r
 have hm:∀b u,H b=some u->¬Q8 (some u)->b≠x:=fun b u q nm z=>by subst z;rw[q] at mu;exact nm mu
 refine⟨fun b u q n _ _=>k b u (hb b n) q,fun b u q n _ _=>⟨u.slots,k b u (hb b n) q⟩,fun b u q n _=>by rw[aF (hx b n)];exact n,fun b u q _=>?_,
  fun b xs q=>by rw[aF (hm b _ q fun z=>z)];exact q,fun b u xs q=>by rw[aF (hm b _ q fun z=>z)];exact q,fun b ps q=>⟨#[],by rw[aF (hm b _ q fun z=>z),q];simp⟩⟩
 by_cases hbe:b=e
 ·subst hbe;exact heo
 ·exact⟨u,k b u hbe q⟩
noncomputable def Rh(h:Heap)(H:Hp):List Addr:=(List.range h.objs.size).filter fun a=>(H a).isSome
noncomputable def xW(h:Heap)(H:Hp):Heap:=PySem.W.hideAll h (Rh h H)
theorem E1(h:Heap)(H:Hp):(xW h H).objs.size=h.objs.size:=PySem.W.hideAll_size _ _
theorem HA(e:h.get? b=some o)(n:H b=none):(xW h H).get? b=some o:=
 PySem.W.hideAll_get _ e fun hm=>by
  have q:(H b).isSome=true:=(List.mem_filter.mp hm).2;rw[n] at q;simp at q
theorem Kj(e:(xW h H).get? b=some o):h.get? b=some o∧H b=none:=by
 have e':h.get? b=some o:=PySem.W.of_hideAll (Rh h H) e;refine⟨e',?_⟩;cases q:H b with
 | none=>rfl
 | some x=>
  have hm:b∈Rh h H:=List.mem_filter.mpr ⟨Vg.mpr (UB e'),by simp[q]⟩;have z:(xW h H).get? b=none:=PySem.W.hideAll_none (Rh h H) hm;rw[z] at e;cases e
structure Mod(K:FR)(mg:Str->Option Value)(base:Heap):Prop where
 Sw:K.In base
 glob:base.Ns mainGlobals mg
 blt:∃mb,base.Ns builtinsNs mb∧∀x:Str,x≠"__name__"->mb x=bootBuiltins x
 nolimit:base.NoLimit
structure Cx where
 prog:Program
 w:World
 K:FR
 mg:Str->Option Value
 base:Heap
 A:Around
 N:List Str
 s₀:Shared
 H₀:Hp
 env:Env
 outer:List Env
 stack:List Env
 ex:List Addr
 fn:Str->Bool
 calm:Bool
 pn:List (Addr×Obj)
 xe:Value->Shared->Prop
noncomputable def FA(l:List Env):List Addr:=l.filterMap (·.frame)
abbrev Cx.fs(X:Cx):List Addr:=FA X.outer
def QQ(sc:Scope)(x:Str):Prop:=sc.names.lookup x=some .local∨sc.names.lookup x=some .cell∨sc.names.lookup x=some .free
def Loc(sc:Scope)(x:Str):Prop:=sc.names.lookup x=some .local∨sc.names.lookup x=some .cell
def Look(env:Env)(h:Heap)(m:Str->Option Value)(x:Str)(u:Value):Prop:=
 (env.kindOf x=some .local∧m x=some u)∨((env.kindOf x=some .cell∨env.kindOf x=some .free)∧∃c,env.cells.lookup x=some c∧h.IsCell c (some u))
structure Cx.Ok(X:Cx):Prop where
 mod:Mod X.K X.mg X.base
 kind:X.env.scope.kind=.function
 glob:X.env.globals=mainGlobals
 blt:X.env.builtins=builtinsNs
 above:X.s₀.heap.objs.size≤X.env.locals
 inj:∀x y c,X.env.cells.lookup x=some c->X.env.cells.lookup y=some c->x=y
 has:∀x,(X.env.kindOf x=some .cell∨X.env.kindOf x=some .free)->∃c,X.env.cells.lookup x=some c
 QB:∀x c,X.fn x=true->X.env.cells.lookup x=some c->X.s₀.heap.objs.size≤c
 hd:X.calm=true->X.A.handled=none
 frames:X.A.frames=some X.stack
 Ri:X.stack=X.outer∨(X.stack=X.env::X.outer∧X.env.frame=some X.env.locals)
 Tr:∀b∈X.ex,b≠X.env.locals∧∀x c,X.env.cells.lookup x=some c->c≠b
 bs:∀b o,X.base.get? b=some o->X.s₀.heap.get? b=some o∧X.H₀ b=none
 LN:X.base.objs.size≤X.s₀.heap.objs.size
 Hm:∀b o,X.base.get? b=some o->b∉X.ex
 KR:∀b∈X.ex,b∉X.fs
 tq:X.s₀.heap.FunFrames X.base X.outer
 OY:∀b∈X.fs,X.H₀ b=none
structure Inv(X:Cx)(pins:List (Addr×Obj))(σ:List (Option V))(H:Hp)(s:Shared):Prop where
 ok:X.Ok
 os:s.os=X.s₀.os
 bare:AllBare s.gens
 base:Un X.fs X.ex X.H₀ H X.s₀.heap s.heap
 loc:∃m,s.heap.Ns X.env.locals m∧∀(i:Nat)(x:Str)(v:V),X.N[i]?=some x->σ[i]?=some (some v)->QQ X.env.scope x->∃u,RelV v u∧Look X.env s.heap m x u
 cell:∀x c,X.env.cells.lookup x=some c->∃v,s.heap.IsCell c v
 free:H X.env.locals=none
 kq:∀x c,X.env.cells.lookup x=some c->H c=none
 pin:∀p∈X.pn++pins,s.heap.get? p.1=some p.2∧H p.1=none∧p.1≠X.env.locals∧p.1∉X.fs∧∀v,p.2.data≠.cell v
 bj:iM X.prog X.w H s.heap
 len:σ.length=X.N.length
section
variable {X:Cx} {pins:List (Addr×Obj)} {σ:List (Option V)} {H H':Hp} {s:Shared} {h':Heap}
theorem Cx.Ok.Sq(ok:X.Ok)(e:X.base.get? b=some o):b∉X.fs:=fun hb=>by
 have:=(ok.tq.mem hb).1;rw[e] at this;cases this
theorem Inv.bs(I:Inv X pins σ H s):∀b o,X.base.get? b=some o->s.heap.get? b=some o∧H b=none:=fun b o e=>
 ⟨I.base.keep b o (I.ok.bs b o e).1 (I.ok.bs b o e).2 (I.ok.Sq e) (I.ok.Hm b o e),I.base.free b o (I.ok.bs b o e).1 (I.ok.bs b o e).2 (I.ok.Hm b o e)⟩
theorem Inv.bk(I:Inv X pins σ H s):∀b o,X.base.get? b=some o->s.heap.get? b=some o:=fun b o e=>(I.bs b o e).1
theorem Inv.mod(I:Inv X pins σ H s):Mod X.K X.mg X.base:=I.ok.mod
theorem Inv.xR(I:Inv X pins σ H s):X.K.In s.heap:=I.ok.mod.Sw.keeps I.bk
theorem Inv.lt(I:Inv X pins σ H s):X.env.locals < s.heap.objs.size:=let⟨_,hn,_⟩:=I.loc;hn.lt
theorem Inv.sz(I:Inv X pins σ H s):X.s₀.heap.objs.size≤s.heap.objs.size:=UL I.ok.above (WA I.lt)
theorem Inv.So(I:Inv X pins σ H s)(h:s.heap.objs.size≤a):a∉X.fs:=fun hb=>by
 obtain⟨_,o,ho,_⟩:=I.ok.tq.mem hb;exact absurd (UN (UB ho) (UL I.sz h)) (V9 _)
theorem Inv.Og(I:Inv X pins σ H s):∀x c,X.env.cells.lookup x=some c->c≠X.env.locals:=fun x c e z=>by
 obtain⟨v,o,ho,hd⟩:=I.cell x c e;obtain⟨m,⟨o',es,ep,ho',hd',_⟩,_⟩:=I.loc;rw[z,ho'] at ho;cases ho;rw[hd'] at hd;cases hd
theorem Inv.tq(I:Inv X pins σ H s):s.heap.FunFrames X.base X.outer:=by
 have all:∀(l:List Env),(∀b∈FA l,b∈X.fs)->X.s₀.heap.FunFrames X.base l->s.heap.FunFrames X.base l:=by
  intro l
  induction l with
  | nil=>intro _ _;trivial
  | cons env r ih=>
   intro hs hl;obtain⟨hk,⟨L,o,hf,hn,ho,hd⟩,hr⟩:=hl;have hL:L∈X.fs:=hs L (by unfold FA;rw[VC,hf];exact Uo);obtain⟨sl,e⟩:=I.base.slot L o ho (I.ok.OY L hL) hL fun z=>I.ok.KR L z hL;exact⟨hk,⟨L,_,hf,hn,e,hd⟩,ih (fun b hb=>hs b (by unfold FA;rw[VC,hf];exact Ur _ hb)) hr⟩
 exact all X.outer (fun _ hb=>hb) I.ok.tq
theorem Inv.stack(I:Inv X pins σ H s):s.heap.FunFrames X.base X.stack:=by
 rcases I.ok.Ri with e |⟨e,hf⟩
 ·rw[e];exact I.tq
 ·rw[e];obtain⟨m,hn,_⟩:=I.loc;refine .cons (by rw[I.ok.kind];decide) hf hn ?_ I.tq;exact Heap.get?_none_of_le (UL I.ok.LN I.ok.above)
theorem Inv.oD(I:Inv X pins σ H s):∀b∈FA X.stack,b∈X.env.locals::X.fs:=fun b hb=>by
 rcases I.ok.Ri with e |⟨e,hf⟩
 ·rw[e] at hb;exact Ur _ hb
 ·rw[e] at hb;unfold FA at hb;rw[VC,hf] at hb;exact hb
theorem Inv.Cz(I:Inv X pins σ H s):∀b∈FA X.stack,H b=none:=fun b hb=>by
 rcases UE.mp (I.oD b hb) with e | hb
 ·rw[e];exact I.free
 ·obtain⟨_,o,ho,_⟩:=I.ok.tq.mem hb;exact I.base.free b o ho (I.ok.OY b hb) fun z=>I.ok.KR b z hb
theorem Inv.step{g':Array GenState}{t':Nat}{d':Drawn}{ch:List Addr}(I:Inv X pins σ H s)
  (hch:∀b∈ch,(b∈X.ex∨X.s₀.heap.objs.size≤b)∧b≠X.env.locals∧(∀x c,X.env.cells.lookup x=some c->c≠b)∧∀p∈X.pn++pins,p.1≠b)
  (keep:∀b o,b≠X.env.locals->b∉X.fs->b∉ch->s.heap.get? b=some o->H b=none->h'.get? b=some o)
  (slot:∀b o,b≠X.env.locals->b∈X.fs->b∉ch->s.heap.get? b=some o->H b=none->∃sl,h'.get? b=some {o with slots:=sl}) (free:∀b o,b∉ch->s.heap.get? b=some o->H b=none->H' b=none)
  (there:∀b o,b∉ch->s.heap.get? b=some o->∃o',h'.get? b=some o')
  (qA:∀b xs,H b=some (.tup xs)->H' b=some (.tup xs)) (uR:∀b o u,H b=some (.Dm o u)->H' b=some (.Dm o u)) (wD:∀b ps,H b=some (.Ma ps)->∃more,H' b=some (.Ma (ps++more)))
  (ns:∀m,s.heap.Ns X.env.locals m->h'.Ns X.env.locals m) (bj:iM X.prog X.w H' h') (hg:AllBare g'):
  Inv X pins σ H' {s with heap:=h',gens:=g',drawn:=d',toks:=t'}:=by
 have neL:∀b o,X.s₀.heap.get? b=some o->b≠X.env.locals:=fun b o e=>UQ (UN (UB e) I.ok.above);have neC:∀b o,X.s₀.heap.get? b=some o->b∉X.ex->b∉ch:=fun b o e hx hb=>by
  rcases(hch b hb).1 with z | z
  ·exact hx z
  ·exact absurd (UN (UB e) z) (V9 _)
 have cellK:∀x c,X.env.cells.lookup x=some c->∀v,s.heap.IsCell c v->h'.IsCell c v:=fun x c e v ⟨o,ho,hd⟩=>by
  have nch:c∉ch:=fun z=>(hch c z).2.2.1 x c e rfl
  by_cases hc:c∈X.fs
  ·obtain⟨sl,q⟩:=slot c o (I.Og x c e) hc nch ho (I.kq x c e);exact⟨_,q,hd⟩
  ·exact⟨o,keep c o (I.Og x c e) hc nch ho (I.kq x c e),hd⟩
 refine⟨I.ok,I.os,hg,⟨fun b o e n hb hx=>?_,fun b o e n hb hx=>?_,fun b o e n hx=>?_,fun b o e hx=>?_,fun b xs e=>qA b xs (I.base.qA b xs e),fun b o xs e=>uR b o xs (I.base.uR b o xs e),fun b ps e=>?_⟩,?_,fun x c e=>?_,?_,fun x c e=>?_,fun p hp=>?_,bj,I.len⟩
 ·exact keep b o (neL b o e) hb (neC b o e hx) (I.base.keep b o e n hb hx) (I.base.free b o e n hx)
 ·obtain⟨sl,e1⟩:=I.base.slot b o e n hb hx;obtain⟨sl',e2⟩:=slot b _ (neL b o e) hb (neC b o e hx) e1 (I.base.free b o e n hx);exact⟨sl',e2⟩
 ·obtain⟨o',e1⟩:=I.base.there b o e hx;exact free b o' (neC b o e hx) e1 (I.base.free b o e n hx)
 ·obtain⟨o',e1⟩:=I.base.there b o e hx;exact there b o' (neC b o e hx) e1
 ·obtain⟨m1,e1⟩:=I.base.wD b ps e;obtain⟨m2,e2⟩:=wD b _ e1;exact⟨m1++m2,by rw[e2,Array.append_assoc]⟩
 ·obtain⟨m,hn,hl⟩:=I.loc;refine⟨m,ns m hn,fun i x v e1 e2 e3=>?_⟩;obtain⟨u,r,l⟩:=hl i x v e1 e2 e3;refine⟨u,r,?_⟩;rcases l with l |⟨k,c,e,z⟩
  ·exact .inl l
  ·exact .inr ⟨k,c,e,cellK x c e _ z⟩
 ·obtain⟨v,z⟩:=I.cell x c e;exact⟨v,cellK x c e v z⟩
 ·obtain⟨m,⟨o,_,_,ho,_⟩,_⟩:=I.loc;exact free _ o (fun z=>(hch _ z).2.1 rfl) ho I.free
 ·obtain⟨v,o,ho,hd⟩:=I.cell x c e;exact free c o (fun z=>(hch c z).2.2.1 x c e rfl) ho (I.kq x c e)
 ·obtain⟨e,n,ne,nf,d⟩:=I.pin p hp;have nch:p.1∉ch:=fun z=>(hch p.1 z).2.2.2 p hp rfl;exact⟨keep p.1 p.2 ne nf nch e n,free p.1 p.2 nch e n,ne,nf,d⟩
theorem Inv.un{t':Nat}(I:Inv X pins σ H s)(u:Un X.fs [] H H' s.heap h')(bj:iM X.prog X.w H' h'):Inv X pins σ H' {s with heap:=h',toks:=t'}:=by
 obtain⟨m,⟨o,es,ep,ho,r⟩,_⟩:=id I.loc;obtain⟨sl,hL⟩:=u.any ho I.free (by simp);exact I.step (g':=s.gens) (d':=s.drawn) (ch:=[]) (fun _ z=>nomatch z) (fun b o _ hb _ e n=>u.keep b o e n hb (by simp)) (fun b o _ hb _ e n=>u.slot b o e n hb (by simp)) (fun b o _ e n=>u.free b o e n (by simp)) (fun b o _ e=>u.there b o e (by simp)) u.qA u.uR u.wD (fun m' hm=>by
  obtain⟨o',es',ep',ho',r'⟩:=hm;rw[ho] at ho';cases ho';exact⟨_,es',ep',hL,r'⟩) bj I.bare
theorem Inv.call{g':Array GenState}{t':Nat}{d':Drawn}{ch:List Addr}(I:Inv X pins σ H s)(u:Un (FA X.stack) ch H H' s.heap h')(bj:iM X.prog X.w H' h')(hg:AllBare g')
  (hch:∀b∈ch,(b∈X.ex∨X.s₀.heap.objs.size≤b)∧b≠X.env.locals∧(∀x c,X.env.cells.lookup x=some c->c≠b)∧∀p∈X.pn++pins,p.1≠b):
  Inv X pins σ H' {s with heap:=h',gens:=g',drawn:=d',toks:=t'}:=by
 obtain⟨m,⟨o,es,ep,ho,r⟩,_⟩:=id I.loc;obtain⟨sl,hL⟩:=u.any ho I.free fun z=>(hch _ z).2.1 rfl;exact I.step (ch:=ch) hch (fun b o hL hb hc e n=>u.keep b o e n (fun z=>(UE.mp (I.oD b z)).elim hL hb) hc) (fun b o _ _ hc e n=>u.any e n hc) (fun b o hc e n=>u.free b o e n hc) (fun b o hc e=>u.there b o e hc) u.qA u.uR u.wD (fun m' hm=>by
  obtain⟨o',es',ep',ho',r'⟩:=hm;rw[ho] at ho';cases ho';exact⟨_,es',ep',hL,r'⟩) bj hg
theorem Inv.turned{t':Nat}{it:Addr}(I:Inv X pins σ H s)(k:∀b o,b≠it->s.heap.get? b=some o->h'.get? b=some o)(hn:H it=none)(hL:it≠X.env.locals)
  (h1:it∈X.ex∨X.s₀.heap.objs.size≤it) (h2:∀x c,X.env.cells.lookup x=some c->c≠it) (h3:∀p∈X.pn++pins,p.1≠it):Inv X pins σ H {s with heap:=h',toks:=t'}:=by
 have nit:∀b u,H b=some u->b≠it:=fun b u e z=>by rw[z,hn] at e;cases e
 refine I.step (g':=s.gens) (d':=s.drawn) (ch:=[it]) (fun b hb=>?_) (fun b o _ _ hc e _=>k b o (fun z=>hc (by simp[z])) e) (fun b o _ _ hc e _=>⟨o.slots,k b o (fun z=>hc (by simp[z])) e⟩) (fun _ _ _ _ n=>n)
  (fun b o hc e=>⟨o,k b o (fun z=>hc (by simp[z])) e⟩) (fun _ _ e=>e) (fun _ _ _ e=>e) (fun b ps e=>⟨#[],by rw[e];simp⟩) (fun m hm=>?_) (fun b u e=>?_) I.bare
 ·have e:b=it:=by simpa using hb
  subst e;exact⟨h1,hL,h2,h3⟩
 ·obtain⟨o,es,ep,ho,r⟩:=hm;exact⟨o,es,ep,k _ o (VA hL) ho,r⟩
 ·refine(I.bj b u e).wI (fun c v hc q=>k c v ?_ q) (fun _ q=>q) fun _ _ q=>q;rcases hc with z | z
  ·rw[z];exact nit b u e
  ·exact nit c _ z
theorem Inv.tok(I:Inv X pins σ H s)(t:Nat):Inv X pins σ H {s with toks:=t}:=I.un (h':=s.heap) (t':=t) Un.refl I.bj
theorem Inv.kept(I:Inv X pins σ H s)(k:∀b u,s.heap.get? b=some u->h'.get? b=some u):Inv X pins σ H {s with heap:=h',toks:=t'}:=I.un (Un.kept k) (I.bj.kept k)
theorem Inv.laid(I:Inv X pins σ H s)(k:∀b u,s.heap.get? b=some u->h'.get? b=some u)(hp:s.heap.objs.size≤a)(new:b6 X.prog X.w (upd H a o) h' a o):
  Inv X pins σ (upd H a o) {s with heap:=h',toks:=t'}:=I.un (Un.laid k hp (I.bj.fresh hp)) (I.bj.laid k hp new)
theorem Inv.write(I:Inv X pins σ H s)(mu:Q8 (H x))(he:e=x∨H e=some (.own x))(k:∀b u,b≠e->s.heap.get? b=some u->h'.get? b=some u)(heo:∃u,h'.get? e=some u)(new:b6 X.prog X.w (upd H x o) h' x o):Inv X pins σ (upd H x o) {s with heap:=h',toks:=t'}:=I.un (Un.write mu he k heo) (I.bj.write mu he k heo new)
theorem Inv.CU(I:Inv X pins σ H s)(h:∀p∈pins',s.heap.get? p.1=some p.2∧H p.1=none∧p.1≠X.env.locals∧p.1∉X.fs∧∀v,p.2.data≠.cell v):Inv X pins' σ H s:=
 ⟨I.ok,I.os,I.bare,I.base,I.loc,I.cell,I.free,I.kq,fun p hp=>(U5.mp hp).elim (fun z=>I.pin p (XM _ z)) (h p),I.bj,I.len⟩
theorem zF{N:List Str}(hN:N.Nodup){i j:Nat}{x:Str}(a:N[i]?=some x)(b:N[j]?=some x):i=j:=by
 obtain⟨h1,e1⟩:=Ui.mp a;obtain⟨h2,e2⟩:=Ui.mp b;exact(List.getElem_inj hN).mp (e1.trans e2.symm)
theorem ve{M:Model}{A:Around}{E:Value->Shared->Prop}{i:Nat}{x:Str}{v:V}{u:Value}{Q:Unit->Shared->Prop}(I:Inv X pins σ H s)(hN:X.N.Nodup)(hi:X.N[i]?=some x)(hx:Loc X.env.scope x)(r:RelV v u)
  (h:∀s',Inv X pins (σ.set i (some v)) H s'->(∃a,Heap.SameBut a s.heap s'.heap∧(a=X.env.locals∨X.env.cells.lookup x=some a))->Q () s') (hf:X.fn x=true∨X.env.scope.names.lookup x=some .local:=by first | exact .inl rfl | exact .inr rfl | assumption):wpAny M A (storeName X.env x u) Q E s:=by
 obtain⟨m,hn,hl⟩:=id I.loc;have hcls:(X.env.scope.kind==.class||(X.env.scope.kind==.module&&X.env.locals !=X.env.globals))=false:=by rw[I.ok.kind];rfl
 have hiσ:i < σ.length:=by rw[I.len];exact(Ui.mp hi).1
 have Og:=I.Og;have tracked:∀{a:Addr} {h':Heap},(∃o,s.heap.get? a=some o∧H a=none)->Heap.SameBut a s.heap h'->iM X.prog X.w H h':=fun {a h'} ha hs b ob e=>by
  obtain⟨_,_,hfree⟩:=ha;refine(I.bj b ob e).wI (fun c w' hc q=>(hs.2 c ?_).trans q) (fun _ q=>q) fun _ _ q=>q;rintro rfl;rcases hc with rfl | hc
  ·rw[hfree] at e;cases e
  ·rw[hfree] at hc;cases hc
 rcases hx with hk | hk
 ·refine wpAny_storeName_local hk hn (fun h' hn' hs=>?_) hcls;obtain⟨oL,_,_,hoL,_⟩:=id hn;refine h _ ⟨I.ok,I.os,I.bare,⟨fun b o e n hb hx=>?_,fun b o e n hb hx=>?_,I.base.free,fun b o e hx=>?_,I.base.qA,I.base.uR,I.base.wD⟩,⟨_,hn',fun j y v' e1 e2 e3=>?_⟩,fun y c e=>?_,I.free,I.kq,fun p hp=>?_,tracked ⟨oL,hoL,I.free⟩ hs,by simpa using I.len⟩ ⟨_,hs,.inl rfl⟩
  ·exact(hs.2 b (UQ (UN (UB e) I.ok.above))).trans (I.base.keep b o e n hb hx)
  ·obtain⟨sl,e1⟩:=I.base.slot b o e n hb hx;exact⟨sl,(hs.2 b (UQ (UN (UB e) I.ok.above))).trans e1⟩
  ·obtain⟨o',e1⟩:=I.base.there b o e hx;exact⟨o',(hs.2 b (UQ (UN (UB e) I.ok.above))).trans e1⟩
  ·by_cases hj:j=i
   ·subst hj;rw[hi] at e1;cases e1;rw[Vs hiσ] at e2;cases e2;exact⟨u,r,.inl ⟨hk,by simp⟩⟩
   ·rw[Vf (VA hj)] at e2;obtain⟨u',r',q⟩:=hl j y v' e1 e2 e3;refine⟨u',r',?_⟩;rcases q with⟨k,e⟩ |⟨k,c,e,z⟩
    ·refine .inl ⟨k,?_⟩;have:y≠x:=fun e=>hj (zF hN e1 (e ▸ hi));simp[this,e]
    ·exact .inr ⟨k,c,e,z.sameBut hs (Og y c e)⟩
  ·obtain⟨w',z⟩:=I.cell y c e;exact⟨w',z.sameBut hs (Og y c e)⟩
  ·obtain⟨e,n,ne,nf,d⟩:=I.pin p hp;exact⟨(hs.2 p.1 ne).trans e,n,ne,nf,d⟩
 ·have hfn:X.fn x=true:=by
   rcases hf with z | z
   ·exact z
   ·rw[z] at hk;cases hk
  obtain⟨c,hc⟩:=I.ok.has x (.inl hk);obtain⟨w',z⟩:=I.cell x c hc;refine wpAny_storeName_cell I.ok.kind hk hc z (fun h' hc' hs=>?_);obtain⟨oc,hoc,hocd⟩:=id z;refine h {s with heap:=h'} ⟨I.ok,I.os,I.bare,⟨fun b o e n hb hx=>?_,fun b o e n hb hx=>?_,I.base.free,fun b o e hx=>?_,I.base.qA,I.base.uR,I.base.wD⟩,⟨m,hn.sameBut hs (VA (Og x c hc)),fun j y v' e1 e2 e3=>?_⟩,fun y c' e=>?_,I.free,I.kq,fun p hp=>?_,tracked ⟨oc,hoc,I.kq x c hc⟩ hs,by simpa using I.len⟩ ⟨c,hs,.inr hc⟩
  ·exact(hs.2 b (UQ (UN (UB e) (I.ok.QB x c hfn hc)))).trans (I.base.keep b o e n hb hx)
  ·obtain⟨sl,e1⟩:=I.base.slot b o e n hb hx;exact⟨sl,(hs.2 b (UQ (UN (UB e) (I.ok.QB x c hfn hc)))).trans e1⟩
  ·obtain⟨o',e1⟩:=I.base.there b o e hx;exact⟨o',(hs.2 b (UQ (UN (UB e) (I.ok.QB x c hfn hc)))).trans e1⟩
  ·by_cases hj:j=i
   ·subst hj;rw[hi] at e1;cases e1;rw[Vs hiσ] at e2;cases e2;exact⟨u,r,.inr ⟨.inl hk,c,hc,hc'⟩⟩
   ·rw[Vf (VA hj)] at e2;obtain⟨u',r',q⟩:=hl j y v' e1 e2 e3;refine⟨u',r',?_⟩;rcases q with q |⟨k,c',e,z'⟩
    ·exact .inl q
    ·refine .inr ⟨k,c',e,z'.sameBut hs ?_⟩;rintro rfl;exact hj (zF hN e1 (I.ok.inj _ _ _ e hc ▸ hi))
  ·by_cases hcc:c'=c
   ·subst hcc;exact⟨_,hc'⟩
   ·obtain⟨w2,z2⟩:=I.cell y c' e;exact⟨w2,z2.sameBut hs hcc⟩
  ·obtain⟨e,n,ne,nf,d⟩:=I.pin p hp;refine⟨(hs.2 p.1 ?_).trans e,n,ne,nf,d⟩;intro q;rw[q,hoc] at e;have q':oc=p.2:=Option.some.inj e;exact d w' (by rw[←q'];exact hocd)
theorem mQ(I:Inv X pins σ H s)(hN:X.N.Nodup)(hi:X.N[i]?=some x)(hx:Loc X.env.scope x)(r:RelV v u)(h:∀s',Inv X pins (σ.set i (some v)) H s'->Q () s')(hf:X.fn x=true∨X.env.scope.names.lookup x=some .local:=by first | exact .inl rfl | exact .inr rfl | assumption):wpAny M A (storeName X.env x u) Q E s:=
 ve I hN hi hx r (fun s' I' _=>h s' I') hf
theorem Inv.call'(I:Inv X pins σ H s)(ho:s'.os=s.os)(u:Un (FA X.stack) ch H H' s.heap s'.heap)(bj:iM X.prog X.w H' s'.heap)(hg:AllBare s'.gens)(hch:∀b∈ch,(b∈X.ex∨X.s₀.heap.objs.size≤b)∧b≠X.env.locals∧(∀x c,X.env.cells.lookup x=some c->c≠b)∧∀p∈X.pn++pins,p.1≠b):Inv X pins σ H' s':=by
 obtain⟨h',g',d',t',o'⟩:=s';have e:o'=s.os:=ho;subst e;exact I.call (g':=g') (t':=t') (d':=d') u bj hg hch
end
abbrev XK:=Value->Option Addr->Hp->Prop
abbrev St:=List (Option V)
abbrev VK:=V->Hp->Prop
abbrev TE:=St->Hp->VK->Prop
abbrev TT:=St->Hp->(Bool->Hp->Prop)->Prop
abbrev TA:=St->Hp->(List V->Hp->Prop)->Prop
structure Ends where
 nx:St->Hp->Prop
 rt:VK
 bk:St->Hp->Prop:=fun _ _=>False
 ct:St->Hp->Prop:=fun _ _=>False
abbrev TS:=Ends->St->Hp->Prop
inductive TC(X:Cx)(pins:List (Addr×Obj))(σ:St)(Q:VK)(u:Value)(s':Shared):Prop where
 | mk (v H'):Inv X pins σ H' s'->RelV v u->Q v H'->TC X pins σ Q u s'
def EP(X:Cx)(pins:List (Addr×Obj))(σ:St)(Q:VK)(u:Value)(s':Shared):Prop:=TC X pins σ Q u s'
def TP(X:Cx)(pins:List (Addr×Obj))(σ:St)(Q:Bool->Hp->Prop)(b:Bool)(s':Shared):Prop:=∃H',Inv X pins σ H' s'∧Q b H'
inductive TF(X:Cx)(pins:List (Addr×Obj))(σ:St)(Q:List V->Hp->Prop)(us:List Value)(s':Shared):Prop where
 | mk (vs H'):Inv X pins σ H' s'->Vals vs us->Q vs H'->TF X pins σ Q us s'
def AP(X:Cx)(pins:List (Addr×Obj))(σ:St)(Q:List V->Hp->Prop)(us:List Value)(s':Shared):Prop:=TF X pins σ Q us s'
def SP(X:Cx)(pins:List (Addr×Obj))(D:Ends)(f:Flow)(s':Shared):Prop:=
 match f with
 | .next=>∃σ' H',Inv X pins σ' H' s'∧D.nx σ' H'
 | .brk=>∃σ' H',Inv X pins σ' H' s'∧D.bk σ' H'
 | .cont=>∃σ' H',Inv X pins σ' H' s'∧D.ct σ' H'
 | .ret u=>∃v σ' H',Inv X pins σ' H' s'∧RelV v u∧D.rt v H'
def PE(X:Cx)(e:Expr)(t:TE):Prop:=
 ∀(pins:List (Addr×Obj)) (s:Shared) (σ:St) (H:Hp) (Q:VK),Inv X pins σ H s->t σ H Q->wpAny (model X.prog X.w) X.A (eval e X.env) (EP X pins σ Q) X.xe s
def PT(X:Cx)(e:Expr)(t:TT):Prop:=
 ∀(pins:List (Addr×Obj)) (s:Shared) (σ:St) (H:Hp) (Q:Bool->Hp->Prop),Inv X pins σ H s->t σ H Q->wpAny (model X.prog X.w) X.A (isTrue e X.env (eval e X.env)) (TP X pins σ Q) X.xe s
def PW(X:Cx)(e:Expr)(t:TT):Prop:=
 ∀(whole:Sem Value)(pins:List (Addr×Obj)) (s:Shared) (σ:St) (H:Hp) (Q:Bool->Hp->Prop),Inv X pins σ H s->t σ H Q->wpAny (model X.prog X.w) X.A (isTrue e X.env whole) (TP X pins σ Q) X.xe s
theorem PW.pt(h:PW X e t):PT X e t:=h _
def PA(X:Cx)(es:List Expr)(t:TA):Prop:=
 ∀(pos:Pos)(pins:List (Addr×Obj)) (s:Shared) (σ:St) (H:Hp) (Q:List V->Hp->Prop),Inv X pins σ H s->t σ H Q->wpAny (model X.prog X.w) X.A (spliced (backTo pos (starEach es X.env))) (AP X pins σ Q) X.xe s
def PS(X:Cx)(st:Stmt)(t:TS):Prop:=
 ∀(pins:List (Addr×Obj)) (s:Shared) (σ:St) (H:Hp) (D:Ends),Inv X pins σ H s->t D σ H->wpAny (model X.prog X.w) X.A (exec st X.env) (SP X pins D) X.xe s
def Ax(X:Cx)(st:List Stmt)(t:TS):Prop:=
 ∀(pins:List (Addr×Obj)) (s:Shared) (σ:St) (H:Hp) (D:Ends),Inv X pins σ H s->t D σ H->wpAny (model X.prog X.w) X.A (execs st X.env) (SP X pins D) X.xe s
theorem cq(h:wpAny M A t Q E s)(hQ:∀a s,Q a s->Q' a s):wpAny M A t Q' E s:=Vj h hQ fun _ _ x=>x
section
variable {X:Cx}
def Ry(i:Nat):TE:=fun σ H Q=>∃v,σ[i]?=some (some v)∧Q v H
def tC(v:V):TE:=fun _ H Q=>Q v H
theorem M6(hN:X.N[i]?=some x)(hv:QQ X.env.scope x)(hd:(x==("__debug__":Str))=false:=by decide)(hcd:(x==("__classdict__":Str))=false:=by decide):PE X (.Name x pos) (Ry i):=by
 intro pins s σ H Q I h;obtain⟨v,e,h⟩:=h;obtain⟨m,hn,hl⟩:=I.loc;obtain⟨u,r,l⟩:=hl i x v hN e hv;have fin:EP X pins σ Q u s:=⟨v,H,I,r,h⟩;rcases l with⟨hk,hm⟩ |⟨hk,c,hc,hcell⟩
 ·exact wpAny_Name (wpAny_loadName_local I.ok.kind hk hn hm fin) hd
 ·rcases hk with hk | hk
  ·exact wpAny_Name (wpAny_loadName_cell I.ok.kind hk hc hcell fin) hd
  ·exact wpAny_Name (wpAny_loadName_free I.ok.kind hk hc hcell fin hcd) hd
theorem Nf{i j pos}:PE X (.Constant (.int i) j pos) (tC (.int i)):=fun _ _ _ H _ I h=>wpAny_Constant_int ⟨.int i,H,I.tok _,⟨_,rfl⟩,h⟩
theorem Qb{b j pos}:PE X (.Constant (.bool b) j pos) (tC (.bl b)):=fun _ _ _ H _ I h=>Constant_bool ⟨.bl b,H,I,rfl,h⟩
theorem Nc{j pos}:PE X (.Constant .none j pos) (tC .bz):=fun _ _ _ H _ I h=>Constant_none ⟨.bz,H,I,rfl,h⟩
theorem M9{x j pos}:PE X (.Constant (.str x) j pos) (tC (.str x)):=fun _ _ _ H _ I h=>Calls.Constant_str ⟨.str x,H,I.tok _,⟨_,rfl⟩,h⟩
def Gl(X:Cx)(x:Str):Prop:=X.env.kindOf x=some .globalImplicit
theorem C1(I:Inv X pins σ H s)(hg:Gl X x)(hm:X.mg x=some u)(h:Q u s)(hd:(x==("__debug__":Str))=false:=by decide):wpAny (model X.prog X.w) X.A (eval (.Name x pos) X.env) Q E s:=
 Y3 I.ok.kind hg (Calls.loadGlobal_global (by rw[I.ok.glob];exact I.mod.glob.keeps I.bk) hm h) hd
theorem ip(I:Inv X pins σ H s)(hg:Gl X x)(hm:X.mg x=none)(hv:bootBuiltins x=some u)(h:Q u s)(hn:x≠"__name__":=by decide)(hd:(x==("__debug__":Str))=false:=by decide):wpAny (model X.prog X.w) X.A (eval (.Name x pos) X.env) Q E s:=by
 obtain⟨mb,h1,h2⟩:=I.mod.blt;exact Y3 I.ok.kind hg (Calls.loadGlobal_builtin (by rw[I.ok.glob];exact I.mod.glob.keeps I.bk) hm (by rw[I.ok.blt];exact h1.keeps I.bk) ((h2 x hn).trans hv) h) hd
theorem Kd(hg:Gl X x)(hm:X.mg x=none)(hv:bootBuiltins x=some u)(r:RelV v u)(hn:x≠"__name__":=by decide)(hd:(x==("__debug__":Str))=false:=by decide):PE X (.Name x pos) (tC v):=
 fun _ _ _ H _ I h=>ip I hg hm hv ⟨v,H,I,r,h⟩ hn hd
variable {a b:Expr} {ta tb:TE} {pos:Pos}
variable {tA tB':TT} {rest:List Expr}
def lj(t u:TT):TT:=fun σ H Q=>t σ H fun c H1=>if c=true then u σ H1 Q else Q false H1
def Cu(t u:TT):TT:=fun σ H Q=>t σ H fun c H1=>if c=true then Q true H1 else u σ H1 Q
def rO(t:TT):TT:=fun σ H Q=>t σ H fun c H1=>Q (!c) H1
theorem JD(ha:PT X a tA):PW X (.BoolOp .And [a] pos) tA:=by
 intro wh pins s σ H Q I h;refine isTrue_and (cq (ha pins s σ H Q I h) fun c s1 e=>?_);cases c with
 | true=>exact isTrue_and_nil e
 | false=>exact e
theorem MU(ha:PT X a tA):PW X (.BoolOp .Or [a] pos) tA:=by
 intro wh pins s σ H Q I h;refine isTrue_or (cq (ha pins s σ H Q I h) fun c s1 e=>?_);cases c with
 | false=>exact isTrue_or_nil e
 | true=>exact e
theorem MV(ha:PT X a tA)(hb:PW X (.BoolOp .And (b::rest) pos) tB'):PW X (.BoolOp .And (a::b::rest) pos) (lj tA tB'):=by
 intro wh pins s σ H Q I h;refine isTrue_and (cq (ha pins s σ H _ I h) fun c s1 ⟨H1,I1,q1⟩=>?_);cases c with
 | true=>exact hb wh pins s1 σ H1 Q I1 q1
 | false=>exact⟨H1,I1,q1⟩
theorem P5(ha:PT X a tA)(hb:PW X (.BoolOp .Or (b::rest) pos) tB'):PW X (.BoolOp .Or (a::b::rest) pos) (Cu tA tB'):=by
 intro wh pins s σ H Q I h;refine isTrue_or (cq (ha pins s σ H _ I h) fun c s1 ⟨H1,I1,q1⟩=>?_);cases c with
 | true=>exact⟨H1,I1,q1⟩
 | false=>exact hb wh pins s1 σ H1 Q I1 q1
theorem MW(ha:PT X a tA):PT X (.UnaryOp .Not a pos) (rO tA):=by
 intro pins s σ H Q I h;exact isTrue_not (ha pins s σ H (fun c H1=>Q (!c) H1) I h)
def Pu(ta tb:TE):TE:=fun σ H Q=>ta σ H fun x H1=>∃c,x=.bl c∧if c=true then tb σ H1 Q else Q (.bl false) H1
def RB(ta tb:TE):TE:=fun σ H Q=>ta σ H fun x H1=>∃c,x=.bl c∧if c=true then Q (.bl true) H1 else tb σ H1 Q
def Pm(ta:TE):TE:=fun σ H Q=>ta σ H fun x H1=>∃c,x=.bl c∧Q (.bl (!c)) H1
theorem Na{op}(h:PE X a t):PE X (.BoolOp op [a] pos) t:=fun pins s σ H Q I hw=>BoolOp_one (h pins s σ H Q I hw)
theorem Nh(ha:PE X a ta)(hb:PE X (.BoolOp .And (b::rest) pos) tb):PE X (.BoolOp .And (a::b::rest) pos) (Pu ta tb):=by
 intro pins s σ H Q I h;refine BoolOp_and (cq (ha pins s σ H _ I h) fun v s1 ⟨x,H1,I1,r1,q1⟩=>?_);obtain⟨c,rfl,q1⟩:=q1;cases r1;refine Wf ?_;cases c with
 | true=>exact hb pins s1 σ H1 Q I1 q1
 | false=>exact⟨.bl false,H1,I1,rfl,q1⟩
theorem P8(ha:PE X a ta)(hb:PE X (.BoolOp .Or (b::rest) pos) tb):PE X (.BoolOp .Or (a::b::rest) pos) (RB ta tb):=by
 intro pins s σ H Q I h;refine BoolOp_or (cq (ha pins s σ H _ I h) fun v s1 ⟨x,H1,I1,r1,q1⟩=>?_);obtain⟨c,rfl,q1⟩:=q1;cases r1;refine Wf ?_;cases c with
 | false=>exact hb pins s1 σ H1 Q I1 q1
 | true=>exact⟨.bl true,H1,I1,rfl,q1⟩
theorem Nb(ha:PE X a ta):PE X (.UnaryOp .Not a pos) (Pm ta):=by
 intro pins s σ H Q I h;refine UnaryOp_ (cq (ha pins s σ H _ I h) fun v s1 ⟨x,H1,I1,r1,q1⟩=>?_);obtain⟨c,rfl,q1⟩:=q1;cases r1;exact not_of (Wf ⟨.bl (!c),H1,I1,rfl,q1⟩)
def TR(t:TT)(ta tb:TE):TE:=fun σ H Q=>t σ H fun c H1=>if c=true then ta σ H1 Q else tb σ H1 Q
theorem G2(hc:PT X c tA)(ha:PE X a ta)(hb:PE X b tb):PE X (.IfExp c a b pos) (TR tA ta tb):=by
 intro pins s σ H Q I h;refine wpAny_IfExp (cq (hc pins s σ H _ I h) fun d s1 ⟨H1,I1,q1⟩=>?_);cases d with
 | true=>exact ha pins s1 σ H1 Q I1 q1
 | false=>exact hb pins s1 σ H1 Q I1 q1
end
def fR(K:FR)(H:Hp)(a:Addr)(xs:List V):Prop:=
 Rd H a (.lst xs)∨
  ∃(o:Obj)(its:Array Value)(n:Nat),K.lookup a=some o∧o.cls=.type "list"∧o.dict=none∧o.data=.seq its n∧its.size≤sizeLine∧Vals xs its.toList
def jD(K:FR)(H:Hp)(a:Addr)(xs:List V):Prop:=
 Rd H a (.tup xs)∨
  ∃(o:Obj)(its:Array Value)(n:Nat),K.lookup a=some o∧o.cls=.type "tuple"∧o.data=.seq its n∧its.size≤sizeLine∧Vals xs its.toList∧o.dict=none
noncomputable def S8:Value->Option V
 | .none=>some .bz
 | .bool b=>some (.bl b)
 | .int i _=>some (.int i)
 | .str x _=>some (.str x)
 | .bytes b _=>some (.byt b)
 | .float b _=>some (.OZ b)
 | .ref a=>some (.ref a)
 | .type n=>some (.ty n)
 | _=>none
theorem RelV.abs(r:RelV x u):S8 u=some x:=by
 cases x with
 | bz=>cases r;rfl
 | bl _=>cases r;rfl
 | int _=>obtain⟨t,rfl⟩:=r;rfl
 | str _=>obtain⟨t,rfl⟩:=r;rfl
 | byt _=>obtain⟨t,rfl⟩:=r;rfl
 | OZ _=>obtain⟨t,rfl⟩:=r;rfl
 | ref _=>cases r;rfl
 | ty _=>cases r;rfl
theorem RelV.inj(r:RelV x u)(q:RelV y u):x=y:=Option.some.inj (r.abs.symm.trans q.abs)
theorem Vals.inj:∀{xs ys:List V} {us:List Value},Vals xs us->Vals ys us->xs=ys
 | _,_,_,.nil,.nil=>rfl
 | _,_,_,.cons r t,.cons r' t'=>by rw[r.inj r',Vals.inj t t']
theorem fR.of{K:FR}(h:H a=some (.lst xs)):fR K H a xs:=.inl (.inl h)
theorem Inv.list(I:Inv X pins σ H s)(h:fR X.K H a xs):∃its:List Value,Vals xs its∧PlainL s.heap a its.toArray∧xs.length≤sizeLine:=by
 rcases h with h |⟨o,its,n,hk,hc,hd,hs,hz,r⟩
 ·obtain⟨z,its,n,r,e⟩:=h.ok I.bj;exact⟨its,r,⟨_,n,e,rfl,rfl,rfl⟩,z⟩
 ·refine⟨its.toList,r,⟨o,n,I.xR a o hk,hc,hd,by simpa using hs⟩,?_⟩;have e:=r.length;simp only[WC] at e
  lia
theorem Inv.tuple(I:Inv X pins σ H s)(h:jD X.K H a xs):∃its:List Value,Vals xs its∧IsTup s.heap a its.toArray∧xs.length≤sizeLine:=by
 rcases h with h |⟨o,its,n,hk,hc,hs,hz,r,_⟩
 ·obtain⟨z,its,r,p⟩:=h.ok I.bj;exact⟨its,r,p.tup,z⟩
 ·refine⟨its.toList,r,⟨o,I.xR a o hk,hc,n,by simpa using hs⟩,?_⟩;have e:=r.length;simp only[WC] at e
  lia
theorem Inv.zP(I:Inv X pins σ H s)(h:fR X.K H a xs)(h':fR X.K H a ys):xs=ys:=by
 obtain⟨its,r,⟨o,n,e,_,_,d⟩,_⟩:=I.list h;obtain⟨its',r',⟨o',n',e',_,_,d'⟩,_⟩:=I.list h';rw[e] at e';cases e';rw[d] at d';injection d' with d1 _
 have:its=its':=by simpa using congrArg Array.toList d1
 subst this;exact r.inj r'
theorem Inv.va(I:Inv X pins σ H s)(h:jD X.K H a xs)(h':jD X.K H a ys):xs=ys:=by
 obtain⟨its,r,⟨o,e,_,n,d⟩,_⟩:=I.tuple h;obtain⟨its',r',⟨o',e',_,n',d'⟩,_⟩:=I.tuple h';rw[e] at e';cases e';rw[d] at d';injection d' with d1 _
 have:its=its':=by simpa using congrArg Array.toList d1
 subst this;exact r.inj r'
abbrev Cx.ud(X:Cx)(E:Value->Shared->Prop):Cx:={X with xe:=E}
abbrev Cx.OX(X:Cx):Cx:=X.ud fun _ _=>False
theorem Cx.Ok.ud{X:Cx}(ok:X.Ok)(E:Value->Shared->Prop):(X.ud E).Ok:=
 ⟨ok.mod,ok.kind,ok.glob,ok.blt,ok.above,ok.inj,ok.has,ok.QB,ok.hd,ok.frames,ok.Ri,ok.Tr,ok.bs,ok.LN,ok.Hm,ok.KR,ok.tq,ok.OY⟩
theorem Cx.Ok.jJ{X:Cx}{E:Value->Shared->Prop}(ok:(X.ud E).Ok):X.Ok:=
 ⟨ok.mod,ok.kind,ok.glob,ok.blt,ok.above,ok.inj,ok.has,ok.QB,ok.hd,ok.frames,ok.Ri,ok.Tr,ok.bs,ok.LN,ok.Hm,ok.KR,ok.tq,ok.OY⟩
theorem Inv.ud(I:Inv X pins σ H s)(E:Value->Shared->Prop):Inv (X.ud E) pins σ H s:=⟨I.ok.ud E,I.os,I.bare,I.base,I.loc,I.cell,I.free,I.kq,I.pin,I.bj,I.len⟩
theorem Inv.jJ(I:Inv (X.ud E) pins σ H s):Inv X pins σ H s:=⟨I.ok.jJ,I.os,I.bare,I.base,I.loc,I.cell,I.free,I.kq,I.pin,I.bj,I.len⟩
theorem SP.jJ(h:SP (X.ud E) pins D f s'):SP X pins D f s':=by
 cases f with
 | next=>obtain⟨σ',H',I,q⟩:=h;exact⟨σ',H',I.jJ,q⟩
 | brk=>obtain⟨σ',H',I,q⟩:=h;exact⟨σ',H',I.jJ,q⟩
 | cont=>obtain⟨σ',H',I,q⟩:=h;exact⟨σ',H',I.jJ,q⟩
 | ret u=>obtain⟨v,σ',H',I,r,q⟩:=h;exact⟨v,σ',H',I.jJ,r,q⟩
theorem Ax.OX{st:List Stmt}{t:TS}(h:Ax X.OX st t):Ax X st t:=fun pins s σ H D I hw=>
 Vj (h pins s σ H D (I.ud _) hw) (fun _ _ q=>q.jJ) fun _ _ z=>False.elim z
section
variable {X:Cx} {st:Stmt} {rest:List Stmt} {t u:TS} {e:Expr} {te:TE} {pos:Pos}
def Pn:TS:=fun D σ H=>D.nx σ H
def Pf(t u:TS):TS:=fun D σ H=>t {D with nx:=u D} σ H
theorem JH:Ax X [] Pn:=fun _ _ σ H _ I h=>XS ⟨σ,H,I,h⟩
theorem GP(h1:PS X st t)(h2:Ax X rest u):Ax X (st::rest) (Pf t u):=by
 intro pins s σ H D I h;refine wpAny_execs_cons (cq (h1 pins s σ H {D with nx:=u D} I h) fun f s1 q=>?_);cases f with
 | next=>
  obtain⟨σ',H',I',q⟩:=q;exact h2 pins s1 σ' H' D I' q
 | ret v=>exact q
 | brk=>exact q
 | cont=>exact q
theorem JG(h1:PS X st t):Ax X [st] t:=by
 intro pins s σ H D I h;refine wpAny_execs_cons (cq (h1 pins s σ H D I h) fun f s1 q=>?_);cases f with
 | next=>exact XS q
 | ret v=>exact q
 | brk=>exact q
 | cont=>exact q
def Mg:TS:=fun D σ H=>D.bk σ H
theorem GV:PS X (.Break pos) Mg:=fun _ _ σ H _ I h=>wpAny_Break ⟨σ,H,I,h⟩
theorem Inv.quiet(I:Inv X pins σ H s):interactive X.env=false:=by simp[interactive,I.ok.kind]
def Pq(te:TE):TS:=fun D σ H=>te σ H fun _ H1=>D.nx σ H1
theorem JJ(he:PE X e te)(hs:swapsWith e none pos.line X.env=pure false:=by rfl):PS X (.Expr e pos) (Pq te):=by
 intro pins s σ H D I h;exact wpAny_Expr_any (cq (he pins s σ H _ I h) fun v s1 ⟨x,H1,I1,r1,q1⟩=>⟨σ,H1,I1,q1⟩) I.quiet hs
def RA(te:TE):TS:=fun D σ H=>te σ H D.rt
theorem MY(he:PE X e te):PS X (.Return (some e) pos) (RA te):=by
 intro pins s σ H D I h;exact wpAny_Return_some (cq (he pins s σ H _ I h) fun v s1 ⟨x,H1,I1,r1,q1⟩=>⟨x,σ,H1,I1,r1,q1⟩)
def RF(c:TT)(t u:TS):TS:=fun D σ H=>c σ H fun b H1=>if b=true then t D σ H1 else u D σ H1
theorem P6(hc:PT X c tc)(ha:Ax X a t)(hb:Ax X b u):PS X (.If c a b pos) (RF tc t u):=by
 intro pins s σ H D I h;refine wpAny_If (cq (hc pins s σ H _ I h) fun d s1 ⟨H1,I1,q1⟩=>?_);cases d with
 | true=>exact ha pins s1 σ H1 D I1 q1
 | false=>exact hb pins s1 σ H1 D I1 q1
def Mb:TS:=fun _ _ _=>False
theorem GS:PS X st Mb:=fun _ _ _ _ _ _ h=>h.elim
end
abbrev TG:=V->St->Hp->(St->Hp->Prop)->Prop
abbrev OK:=List V->St->Hp->(St->Hp->Prop)->Prop
def PG(X:Cx)(target:Expr)(t:TG):Prop:=
 ∀(pins:List (Addr×Obj)) (s:Shared) (σ:St) (H:Hp) (v:V) (u:Value) (Q:St->Hp->Prop),Inv X pins σ H s->RelV v u->t v σ H Q->
  wpAny (model X.prog X.w) X.A (assign target X.env u) (fun _ s'=>∃σ' H',Inv X pins σ' H' s'∧Q σ' H') X.xe s
def LV(X:Cx)(ts:List Expr)(t:OK):Prop:=
 ∀(pins:List (Addr×Obj)) (s:Shared) (σ:St) (H:Hp) (vs:List V) (us:List Value) (Q:St->Hp->Prop),Inv X pins σ H s->Vals vs us->t vs σ H Q->
  wpAny (model X.prog X.w) X.A (assignInOrder ((assignEach ts X.env).map (·.2)) us) (fun _ s'=>∃σ' H',Inv X pins σ' H' s'∧Q σ' H') X.xe s
abbrev QS:=V->V->V->Hp->(Hp->Prop)->Prop
def OQ(X:Cx)(t:QS):Prop:=
 ∀(pins:List (Addr×Obj)) (s:Shared) (σ:St) (H:Hp) (o i v:V) (ov iv u:Value) (Q:Hp->Prop),Inv X pins σ H s->RelV o ov->RelV i iv->RelV v u->t o i v H Q->
  wpAny (model X.prog X.w) X.A (setItem ov iv u) (fun _ s'=>∃H',Inv X pins σ H' s'∧Q H') X.xe s
def zW(i:Nat):TG:=fun v σ H Q=>Q (σ.set i (some v)) H
theorem JZ(hN:X.N.Nodup)(hi:X.N[i]?=some x)(hx:Loc X.env.scope x)(hf:X.fn x=true∨X.env.scope.names.lookup x=some .local:=by first | exact .inl rfl | exact .inr rfl | assumption):PG X (.Name x pos) (zW i):=by
 intro pins s σ H v u Q I r h;exact wpAny_assign_Name (mQ I hN hi hx r (fun s' I'=>⟨_,H,I',h⟩) hf)
noncomputable def SD:OK:=fun vs σ H Q=>vs=[]∧Q σ H
def Qs(t:TG)(u:OK):OK:=fun vs σ H Q=>∃v r,vs=v::r∧t v σ H fun σ' H'=>u r σ' H' Q
theorem JY:LV X [] SD:=by
 intro pins s σ H vs us Q I r h;obtain⟨e,h⟩:=h;subst e;cases r;exact assignInOrder_nil ⟨σ,H,I,h⟩
theorem GY(h1:PG X e t)(h2:LV X es u)(hs:(assignEach (e::es) X.env).map (·.2)=assign e X.env::(assignEach es X.env).map (·.2):=by rfl):LV X (e::es) (Qs t u):=by
 intro pins s σ H vs us Q I r h;obtain⟨v,vr,e1,h⟩:=h;subst e1;cases r with
 | cons r rr=>
  rw[hs];refine YZ (cq (h1 pins s σ H _ _ _ I r h) fun _ s1 ⟨σ1,H1,I1,q1⟩=>?_);exact h2 pins s1 σ1 H1 _ _ Q I1 rr q1
def Sz(K:FR)(n:Nat)(t:OK):TG:=fun v σ H Q=>∃a xs,v=.ref a∧jD K H a xs∧xs.length=n∧t xs σ H Q
theorem M4(hc:X.calm=true)(h:LV X es t)(hn:(assignEach es X.env).length=n:=by rfl)(hst:(assignEach es X.env).findIdx? (·.1)=none:=by rfl):PG X (.Tuple es k pos) (Sz X.K n t):=by
 intro pins s σ H v u Q I r hw;obtain⟨a,xs,e1,hq,hl,hw⟩:=hw;subst e1;cases r;obtain⟨its,rv,ht,hz⟩:=I.tuple hq;refine assign_Tuple_tuple (I.ok.hd hc) ht (by simp[hn,←hl,rv.length]) hst fun h' hx=>?_;have I1:Inv X pins σ H {s with heap:=h'}:=I.kept (t':=s.toks) fun b o e=>hx b o (UQ (UB e)) e;exact h pins _ σ H xs _ Q I1 (by simpa using rv) hw
def uQ(to ti:TE)(t:QS):TG:=fun v σ H Q=>to σ H fun o H1=>ti σ H1 fun i H2=>t o i v H2 fun H3=>Q σ H3
theorem M5 (ho:PE X o to) (hi:PE X i ti) (hs:OQ X t) (ha:∀v,assign (.Subscript o i pos) X.env v=(do
   let ov←holding [v] (eval o X.env);let iv←holding [v,ov] (eval i X.env)
   standAt pos
   holding [v,ov,iv] (setItem ov iv v)
   release [v,ov,iv] []):=by intro _;rfl):PG X (.Subscript o i pos) (uQ to ti t):=by
 intro pins s σ H v u Q I r h;rw[ha];refine Ug (U9 (cq (ho pins s σ H _ I h) fun ov s1 ⟨x,H1,I1,r1,q1⟩=>?_));refine Ug (U9 (cq (hi pins s1 σ H1 _ I1 q1) fun iv s2 ⟨y,H2,I2,r2,q2⟩=>?_));refine Ug (VL (Ug (U9 (cq (hs pins s2 σ H2 x y v ov iv u _ I2 r1 r2 r q2) fun _ s3 ⟨H3,I3,q3⟩=>?_))));exact wpAny_release ⟨σ,H3,I3,q3⟩
def Jh(te:TE)(g:TG):TS:=fun D σ H=>te σ H fun x H1=>g x σ H1 D.nx
theorem M0(he:PE X e te)(hg:PG X tg g)(hs:swapsWithSole [tg] e pos.line X.env=pure false:=by rfl)(hw:swappedStores [tg] e X.env=pure none:=by rfl)(h1:(assignEach [tg] X.env).map (·.2)=[assign tg X.env]:=by rfl):PS X (.Assign [tg] e pos) (Jh te g):=by
 intro pins s σ H D I h;refine wpAny_Assign_stores (cq (he pins s σ H _ I h) fun v s1 ⟨x,H1,I1,r1,q1⟩=>?_) hs hw;rw[h1];exact cq (hg pins s1 σ H1 x v _ I1 r1 q1) fun _ s2 q=>q
theorem MX(hN:X.N.Nodup)(hi:X.N[i]?=some x)(hx:Loc X.env.scope x)(he:PE X e te)(hs:swapsWith e (some (.Name x pos')) pos.line X.env=pure false:=by rfl)(hf:X.fn x=true∨X.env.scope.names.lookup x=some .local:=by first | exact .inl rfl | exact .inr rfl | assumption):
  PS X (.Assign [.Name x pos'] e pos) (Jh te (zW i)):=by
 intro pins s σ H D I h;refine wpAny_Assign_Name (cq (he pins s σ H _ I h) fun v s1 ⟨y,H1,I1,r1,q1⟩=>?_) hs;exact mQ I1 hN hi hx r1 (fun s2 I2=>⟨_,H1,I2,q1⟩) hf
def Pk(i j:Nat)(ta:TA):TS:=fun D σ H=>ta σ H fun vs H1=>∃v w,vs=[v,w]∧D.nx ((σ.set i (some v)).set j (some w)) H1
theorem o6{kt k2 pt2}(hc:X.calm=true)(hN:X.N.Nodup)(hi:X.N[i]?=some x)(hj:X.N[j]?=some y)(hij:i≠j)(hx:X.env.scope.names.lookup x=some .local)(hy:X.env.scope.names.lookup y=some .local)(ha:PA X [a,b] ta)(hw:swappedStores [.Tuple [.Name x px,.Name y py] kt pt] (.Tuple [a,b] k2 pt2) X.env=pure (some [x,y]))(hs:swapsWithSole [.Tuple [.Name x px,.Name y py] kt pt] (.Tuple [a,b] k2 pt2) pos.line X.env=pure false:=by rfl):
  PS X (.Assign [.Tuple [.Name x px,.Name y py] kt pt] (.Tuple [a,b] k2 pt2) pos) (Pk i j ta):=by
 intro pins s σ H D I h;rw[exec_Assign_arm];refine Ug (VL ?_);rw[hs];refine Ug (Uk ?_);rw[Uu (by decide)];refine Ug (Tuple_ (cq (ha _ pins s σ H _ I h) fun us s1 ⟨vs,H1,I1,r1,q1⟩=>?_));obtain⟨v,w,e1,q1⟩:=q1;subst e1;obtain⟨u1,u2,rfl,rv,rw'⟩:∃u1 u2,us=[u1,u2]∧RelV v u1∧RelV w u2:=by
  cases r1 with
  | cons p q=>
   cases q with
   | cons p' q'=>
    cases q';exact⟨_,_,rfl,p,p'⟩
 refine U2 ?_ (by show 2≤sizeLine;decide);have I2:Inv X pins σ H1 {s1 with heap:=s1.heap.push {cls:=.type "tuple",data:=.seq [u1,u2].toArray}}:=I1.kept (t':=s1.toks) fun b o e=>Uj _ e;rw[hw];refine Ug (Uk ?_);show wpAny (model X.prog X.w) X.A (do rule "assign.swapped-stores";let items←unpackItems (.ref s1.heap.objs.size) 2 none;assignInOrder [fun v=>bindName X.env y v,fun v=>bindName X.env x v] items.reverse;pure Flow.next) _ _ _;refine Ug (V1 (Ug (unpackItems_tuple (items:=#[u1,u2]) (I.ok.hd hc) (IsTup.new s1.heap _) fun h' hx'=>?_)));have I3:=I2.kept (h':=h') (t':=s1.toks) fun b o e=>hx' b o (UQ (UB e)) e;show wpAny _ _ (assignInOrder [fun v=>bindName X.env y v,fun v=>bindName X.env x v] [u2,u1] >>=fun _=>pure Flow.next) _ _ _;refine Ug (YZ (wpAny_bindName (mQ I3 hN hj (.inl hy) rw' (fun s2 I4=>?_) (.inr hy))));refine YZ (wpAny_bindName (mQ I4 hN hi (.inl hx) rv (fun s3 I5=>assignInOrder_nil (Uk ?_)) (.inr hx)));rw[List.set_comm _ _ (VA hij)] at I5;exact⟨_,H1,I5,q1⟩
def FO(c:TT)(tb:TS):TS:=fun D σ H=>∃W:Nat->St->Hp->Prop,(∃m,W m σ H)∧∀m σ H,W m σ H->
 c σ H fun b H1=>if b=true then ∃N:St->Hp->Prop,(∀σ' H',N σ' H'->∃m',m' < m∧W m' σ' H')∧tb {D with nx:=N,ct:=N,bk:=D.nx} σ H1 else D.nx σ H1
theorem GR(hp:PassesOwn (model X.prog X.w) X.A X.env X.xe)(hc:PT X c tc)(hb:Ax X body tb):PS X (.While c body [] pos) (FO tc tb):=by
 intro pins s σ H D I h;obtain⟨W,⟨m0,w0⟩,turn⟩:=h;refine wpAny_While (codeAny_whileLoop (fun n s'=>∃σ' H',Inv X pins σ' H' s'∧W n σ' H') ?_ m0 ⟨σ,H,I,w0⟩);rintro n s1 ⟨σ1,H1,I1,w1⟩;refine Wu hp (cq (hc pins s1 σ1 H1 _ I1 (turn n σ1 H1 w1)) fun b s2 ⟨H2,I2,q2⟩=>?_);cases b with
 | true=>
  obtain⟨N,hN,q2⟩:=q2;rw[Ut rfl];refine Wu hp (cq (hb pins s2 σ1 H2 _ I2 q2) fun f s3 q3=>?_);cases f with
  | next=>
   obtain⟨σ3,H3,I3,n3⟩:=q3;obtain⟨m',hm,w3⟩:=hN σ3 H3 n3;exact⟨m',hm,σ3,H3,I3,w3⟩
  | cont=>
   obtain⟨σ3,H3,I3,n3⟩:=q3;obtain⟨m',hm,w3⟩:=hN σ3 H3 n3;exact⟨m',hm,σ3,H3,I3,w3⟩
  | brk=>exact q3
  | ret v=>exact q3
 | false=>
  rw[Uu U0];exact XS ⟨σ1,H2,I2,q2⟩
structure It where
 go:Nat->Hp->Prop
 Lo:Nat->Hp->V->Hp->Prop
 stop:Nat->Hp->Prop
def fN(X:Cx)(pins:List (Addr×Obj))(H:Hp)(b:Addr):Prop:=
 H b=none∧b≠X.env.locals∧b∉X.fs∧(b∈X.ex∨X.s₀.heap.objs.size≤b)∧(∀x c,X.env.cells.lookup x=some c->c≠b)∧∀p∈X.pn++pins,p.1≠b
theorem Inv.zZ(I:Inv X pins σ H s)(hb:s.heap.objs.size≤b)(hn:H' b=none):fN X pins H' b:=by
 refine⟨hn,X3 (UN I.lt hb),I.So hb,.inr (UL I.sz hb),fun x c e z=>?_,fun p hp z=>?_⟩
 ·obtain⟨v,q⟩:=I.cell x c e;exact absurd (UN q.lt (by rw[z];exact hb)) (V9 _)
 ·exact absurd (UN (UB (I.pin p hp).1) (by rw[z];exact hb)) (V9 _)
structure Turn(P:Program)(w:World)(K:FR)(tg:Expr)(J:It)(fp:List Addr)(it:Addr)(tn:Nat->Heap->Prop):Prop where
 mem:it∈fp
 obj:∀i h,tn i h->∀b∈fp,∃o,h.get? b=some o∧∀v,o.data≠.cell v
 keep:∀i h h',tn i h->(∀b∈fp,∀o,h.get? b=some o->h'.get? b=some o)->tn i h'
 item:∀(X:Cx),X.prog=P->X.w=w->X.K=K->X.calm=true->∀(i:Nat)(pins:List (Addr×Obj)) (s:Shared) (σ:St) (H:Hp) (E:Value->Shared->Prop),Inv X pins σ H s->(∀b∈fp,fN X pins H b)->tn i s.heap->J.go i H->
  wpAny (model P w) X.A (pyNext (.ref it)) (fun r s1=>∃u,r=some u∧
   wpAny (model P w) X.A (letOwnedTupleGo tg (.ref it) u) (fun _ s2=>∃x H',Inv X pins σ H' s2∧RelV x u∧J.Lo i H x H'∧tn (i+1) s2.heap∧∀b∈fp,H' b=none) E s1) E s
 done:∀(X:Cx),X.prog=P->X.w=w->X.K=K->X.calm=true->∀(i:Nat)(pins:List (Addr×Obj)) (s:Shared) (σ:St) (H:Hp) (E:Value->Shared->Prop),Inv X pins σ H s->(∀b∈fp,fN X pins H b)->tn i s.heap->J.stop i H->
  wpAny (model P w) X.A (pyNext (.ref it)) (fun r s1=>r=none∧Inv X pins σ H s1) E s
 self:∀(A:Around)(i:Nat)(s:Shared)(Q:Value->Shared->Prop)(E:Value->Shared->Prop),tn i s.heap->Q (.ref it) s->wpAny (model P w) A (pyIter (.ref it)) Q E s
abbrev TI:=St->Hp->(It->Hp->Prop)->Prop
def Ta(X:Cx)(pins:List (Addr×Obj))(σ:St)(tg:Expr)(R:It->Hp->Prop)(itv:Value)(s2:Shared):Prop:=
 ∃(it:Addr)(fp:List Addr)(tn:Nat->Heap->Prop)(J:It)(H':Hp),itv=.ref it∧Inv X pins σ H' s2∧Turn X.prog X.w X.K tg J fp it tn∧tn 0 s2.heap∧(∀b∈fp,fN X pins H' b)∧R J H'
def PI(X:Cx)(tg iter:Expr)(wi:TI):Prop:=
 ∀(pins:List (Addr×Obj)) (s:Shared) (σ:St) (H:Hp) (R:It->Hp->Prop),Inv X pins σ H s->wi σ H R->
  wpAny (model X.prog X.w) X.A (eval iter X.env) (fun v s1=>wpAny (model X.prog X.w) X.A (pyIter v) (Ta X pins σ tg R) X.xe s1) X.xe s
theorem Dg(ho:s.heap.get? it=some o)(hc:o.cls=.type n)(hd:o.data=.fields vs)(hn:["enumerate","zip","dict_itemiterator","dict_reverseitemiterator","odict_iterator","itertools.zip_longest","itertools.pairwise"].contains n=false)(hQ:Q () s):wpAny M A (letOwnedTupleGo tg (.ref it) u) Q E s:=by
 unfold letOwnedTupleGo;cases tg <;> first
  | exact Uk hQ
  |(cases u <;> first
    | exact Uk hQ
    |(refine Ug (wpAny_load ho ?_);rw[hc,hd];show wpAny M A (if(["enumerate","zip","dict_itemiterator","dict_reverseitemiterator","odict_iterator","itertools.zip_longest","itertools.pairwise"].contains n&&vs[0]?==some (rawInt _))=true then _ else _) Q E s;rw[Uu (by intro h;rw[hn,Bool.false_and] at h;cases h)];exact Uk hQ))
noncomputable def Te(K:FR)(a:Addr):It:=
 ⟨fun i H=>∃xs x,fR K H a xs∧xs[i]?=some x,fun i H x H'=>H'=H∧∀xs,fR K H a xs->xs[i]?=some x,fun i H=>∃xs,fR K H a xs∧xs.length≤i⟩
noncomputable def Td(K:FR)(a:Addr):It:=
 ⟨fun i H=>∃xs x,jD K H a xs∧xs[i]?=some x,fun i H x H'=>H'=H∧∀xs,jD K H a xs->xs[i]?=some x,fun i H=>∃xs,jD K H a xs∧xs.length≤i⟩
noncomputable def Rp(lo:Int)(n:Nat):It:=⟨fun i _=>i < n,fun i H x H'=>H'=H∧x=.int (lo+i),fun i _=>n≤i⟩
theorem DU{P:Program}{w:World}{K:FR}{tg:Expr}(a it:Addr):Turn P w K tg (Te K a) [it] it (fun i h=>h.IsListIter it a i) where
 mem:=by simp
 obj:=fun i h st b hb=>by
  have e:b=it:=by simpa using hb
  subst e;obtain⟨o,e,c,d⟩:=st;exact⟨o,e,fun v z=>by rw[d] at z;cases z⟩
 keep:=fun i h h' st k=>st.at fun o e=>k it (by simp) o e
 item:=by
  intro X hP hw hK hc i pins s σ H E I hf st hg;subst hP hw hK;obtain⟨xs,x,hq,hx⟩:=hg;obtain⟨its,rv,p,hz⟩:=I.list hq;obtain⟨u,hu,ru⟩:=rv.get hx;obtain⟨f0,f1,f2,f3,f4,f5⟩:=hf it (by simp);refine wpAny_pyNext_list_item st p.isList (x:=u) (by simpa using hu) fun h' st' sb=>?_;have I1:Inv X pins σ H {s with heap:=h'}:=I.turned (t':=s.toks) (fun b o hb e=>(sb.2 b hb).trans e) f0 f1 f3 f4 f5;obtain⟨o,e,c,d⟩:=id st';exact⟨u,rfl,Dg (s:={s with heap:=h'}) e c d (by decide) ⟨x,H,I1,ru,⟨rfl,fun ys hy=>by rw[I.zP hy hq];exact hx⟩,st',fun b hb=>(hf b hb).1⟩⟩
 done:=by
  intro X hP hw hK hc i pins s σ H E I hf st hg;subst hP hw hK;obtain⟨xs,hq,hx⟩:=hg;obtain⟨its,rv,p,hz⟩:=I.list hq;obtain⟨f0,f1,f2,f3,f4,f5⟩:=hf it (by simp);have hl:=rv.length;exact wpAny_pyNext_list_end (I.ok.hd hc) st p.isList (by simp;lia) fun h' eb=>⟨rfl,I.turned (t':=s.toks) (fun b o hb e=>eb b o hb e) f0 f1 f3 f4 f5⟩
 self:=fun _ _ _ _ _ st h=>wpAny_pyIter_listiter st h
theorem AD{P:Program}{w:World}{K:FR}{tg:Expr}(a it:Addr):Turn P w K tg (Td K a) [it] it (fun i h=>h.IsTupleIter it a i) where
 mem:=by simp
 obj:=fun i h st b hb=>by
  have e:b=it:=by simpa using hb
  subst e;obtain⟨o,e,c,d⟩:=st;exact⟨o,e,fun v z=>by rw[d] at z;cases z⟩
 keep:=fun i h h' st k=>st.at fun o e=>k it (by simp) o e
 item:=by
  intro X hP hw hK hc i pins s σ H E I hf st hg;subst hP hw hK;obtain⟨xs,x,hq,hx⟩:=hg;obtain⟨its,rv,p,hz⟩:=I.tuple hq;obtain⟨u,hu,ru⟩:=rv.get hx;obtain⟨f0,f1,f2,f3,f4,f5⟩:=hf it (by simp);refine wpAny_pyNext_tuple_item st (show s.heap.IsTuple a its.toArray from p) (x:=u) (by simpa using hu) fun h' st' sb=>?_;have I1:Inv X pins σ H {s with heap:=h'}:=I.turned (t':=s.toks) (fun b o hb e=>(sb.2 b hb).trans e) f0 f1 f3 f4 f5;obtain⟨o,e,c,d⟩:=id st';exact⟨u,rfl,Dg (s:={s with heap:=h'}) e c d (by decide) ⟨x,H,I1,ru,⟨rfl,fun ys hy=>by rw[I.va hy hq];exact hx⟩,st',fun b hb=>(hf b hb).1⟩⟩
 done:=by
  intro X hP hw hK hc i pins s σ H E I hf st hg;subst hP hw hK;obtain⟨xs,hq,hx⟩:=hg;obtain⟨its,rv,p,hz⟩:=I.tuple hq;obtain⟨f0,f1,f2,f3,f4,f5⟩:=hf it (by simp);have hl:=rv.length;exact wpAny_pyNext_tuple_end (I.ok.hd hc) st (show s.heap.IsTuple a its.toArray from p) (by simp;lia) fun h' eb=>⟨rfl,I.turned (t':=s.toks) (fun b o hb e=>eb b o hb e) f0 f1 f3 f4 f5⟩
 self:=fun _ _ _ _ _ st h=>wpAny_pyIter_tupleiter st h
theorem AE{P:Program}{w:World}{K:FR}{tg:Expr}(it:Addr)(lo:Int)(n:Nat):Turn P w K tg (Rp lo n) [it] it (fun i h=>IsRangeIter h it (lo+(i:Nat)*1) ((n:Int)-(i:Nat)) 1) where
 mem:=by simp
 obj:=fun i h st b hb=>by
  have e:b=it:=by simpa using hb
  subst e;exact⟨_,st,fun v z=>by
   have z':Data.fields _=Data.cell v:=z;cases z'⟩
 keep:=fun i h h' st k=>k it (by simp) _ st
 item:=by
  intro X hP hw hK hc i pins s σ H E I hf st hg;subst hP hw hK;obtain⟨f0,f1,f2,f3,f4,f5⟩:=hf it (by simp);have W:=Walks.range (prog:=X.prog) (w:=X.w) (I.ok.hd hc) it lo 1 n;refine W.item i s _ _ hg st fun v h' tk hv st' kk=>?_;obtain⟨t,rfl⟩:=hv;have I1:Inv X pins σ H {s with heap:=h',toks:=tk}:=I.turned (fun b o hb e=>kk b o (by simpa using hb) e) f0 f1 f3 f4 f5;refine⟨_,rfl,Dg (s:={s with heap:=h',toks:=tk}) (n:="range_iterator") st' rfl rfl (by decide) ⟨.int (lo+i),H,I1,⟨t,?_⟩,⟨rfl,rfl⟩,st',fun b hb=>(hf b hb).1⟩⟩;rw[Int.mul_one]
 done:=by
  intro X hP hw hK hc i pins s σ H E I hf st hg;subst hP hw hK;obtain⟨f0,f1,f2,f3,f4,f5⟩:=hf it (by simp);exact wpAny_pyNext_range_end (I.ok.hd hc) st (by have:n≤i:=hg;lia) fun h' eb=>⟨rfl,I.turned (t':=s.toks) (fun b o hb e=>eb b o hb e) f0 f1 f3 f4 f5⟩
 self:=fun _ _ _ _ _ st h=>wpAny_pyIter_rangeiter st h
theorem GD{pins:List (Addr×Obj)}{σ:St}{H:Hp}{s:Shared}{R:It->Hp->Prop}{E:Value->Shared->Prop}{lo hi:Int}{t u v:Tok}{tk:Nat}(I:Inv X pins σ H s)(h1:-(2^62)≤lo)(h2:lo < 2^62)(h3:-(2^62)≤hi)(h4:hi < 2^62)
  (q:R (Rp lo (hi-lo).toNat) H):wpAny (model X.prog X.w) X.A (pyIter (.ref s.heap.objs.size)) (Ta X pins σ tg R) E {s with heap:=s.heap.push {cls:=.type "range",data:=.fields #[.int lo t,.int hi u,.int 1 v]},toks:=tk}:=by
 refine wpAny_pyIter_range (IsRange.new ..) (small_one h1 h2 h3 h4) ?_;have I1:Inv X pins σ H {s with heap:=s.heap.push {cls:=.type "range",data:=.fields #[.int lo t,.int hi u,.int 1 v]},toks:=tk}:=I.kept fun b o e=>Uj _ e;refine⟨(s.heap.push {cls:=.type "range",data:=.fields #[.int lo t,.int hi u,.int 1 v]}).objs.size,[(s.heap.push {cls:=.type "range",data:=.fields #[.int lo t,.int hi u,.int 1 v]}).objs.size],_,_,H,rfl,
  I1.kept (t':=tk) fun b o e=>Uj _ e,AE _ lo (hi-lo).toNat,?_,fun b hb=>?_,q⟩
 ·have e1:lo+((0:Nat):Int)*1=lo:=by simp
  have e2:(((hi-lo).toNat:Nat):Int)-((0:Nat):Int)=Builtin.Range.rangeSize lo hi 1:=by rw[rangeSize_one];split <;> lia
  show IsRangeIter _ _ (lo+((0:Nat):Int)*1) ((((hi-lo).toNat:Nat):Int)-((0:Nat):Int)) 1;rw[e1,e2];exact UD _ rfl
 ·have e:b=(s.heap.push {cls:=.type "range",data:=.fields #[.int lo t,.int hi u,.int 1 v]}).objs.size:=by simpa using hb
  subst e;exact I1.zZ (Us _) (I1.bj.fresh (Us _))
def Qo(ta:TA):TI:=fun σ H R=>ta σ H fun vs H1=>∃j:Int,vs=[.int j]∧-(2^62)≤j∧j < 2^62∧R (Rp 0 j.toNat) H1
theorem Es{a:Expr}{ta:TA}{p pos:Pos}(hg:Gl X "range")(hm:X.mg "range"=none)(ha:PA X [a] ta)(hs:starEach [a] X.env=[(false,eval a X.env)]:=by rfl):PI X tg (.Call (.Name "range" p) [a] [] pos) (Qo ta):=by
 intro pins s σ H R I h;refine Call_ (ip I hg hm boot_range (Vm (cq (ha pos pins s σ H _ I h) fun us s1 ⟨vs,H1,I1,r1,q1⟩=>?_) hs rfl));obtain⟨j,e,q1,q2,q⟩:=q1;subst e;cases r1 with
 | cons r rr=>
  cases rr;obtain⟨t,rfl⟩:=r;exact call_range_1 (GD I1 (by lia) (by lia) q1 q2 (by simpa using q))
def Pp(wi:TI)(g:TG)(tb:TS):TS:=fun D σ H=>wi σ H fun J H1=>∃W:Nat->Nat->St->Hp->Prop,(∃m,W 0 m σ H1)∧∀i m σ H,W i m σ H->
 (J.stop i H∧D.nx σ H)∨(J.go i H∧∃N:St->Hp->Prop,(∀σ' H',N σ' H'->∃m',m' < m∧W (i+1) m' σ' H')∧∀x H',J.Lo i H x H'->g x σ H' fun σ2 H2=>tb {D with nx:=N,ct:=N,bk:=D.nx} σ2 H2)
noncomputable def o8(fp:List Addr)(h:Heap):List (Addr×Obj):=fp.filterMap fun b=>(h.get? b).map fun o=>(b,o)
theorem fc(hb:b∈fp)(e:h.get? b=some o):(b,o)∈o8 fp h:=W4.mpr ⟨b,hb,by rw[e];rfl⟩
theorem EF(hp:p∈o8 fp h):p.1∈fp∧h.get? p.1=some p.2:=by
 obtain⟨b,hb,e⟩:=W4.mp hp;cases q:h.get? b with
 | none=>rw[q] at e;cases e
 | some o=>
  rw[q] at e;have e':(b,o)=p:=Option.some.inj e;subst e';exact⟨hb,q⟩
theorem Inv.pinned(I:Inv X pins σ H s)(hf:∀b∈fp,fN X pins H b)(ho:∀b∈fp,∃o,s.heap.get? b=some o∧∀v,o.data≠.cell v):Inv X (pins++o8 fp s.heap) σ H s:=
 I.CU fun p hp=>(U5.mp hp).elim (fun z=>I.pin p (UU _ z)) fun z=>by
  obtain⟨hb,e⟩:=EF z;obtain⟨f0,f1,f2,_⟩:=hf p.1 hb;obtain⟨o,e',d⟩:=ho p.1 hb;rw[e] at e';cases e';exact⟨e,f0,f1,f2,d⟩
theorem Inv.jK(I:Inv X (pins++pl) σ H s):Inv X pins σ H s:=I.CU fun p hp=>I.pin p (UU _ (XM _ hp))
theorem MZ(hp:PassesOwn (model X.prog X.w) X.A X.env X.xe)(hc:X.calm=true)(hi:PI X tg iter wi)(hg:PG X tg g)(hb:Ax X body tb)(hs:∀x,foldedSetIterable iter X.env x=pure x:=by intro _;rfl):PS X (.For tg iter body [] pos) (Pp wi g tb):=by
 intro pins s σ H D I h;refine wpAny_For (cq (hi pins s σ H _ I h) fun v s1 h1=>cq h1 fun itv s2 h2=>?_) hs;obtain⟨it,fp,tn,J,H2,e,I2,T,st2,f2,W,⟨m0,w0⟩,turn⟩:=h2;subst e;have stat:∀{H':Hp},(∀b∈fp,H' b=none)->∀b∈fp,fN X pins H' b:=fun hn b hb=>⟨hn b hb,(f2 b hb).2⟩;refine codeAny_forLoop_any (fun n s'=>∃i σ' H',Inv X pins σ' H' s'∧tn i s'.heap∧(∀b∈fp,H' b=none)∧W i n σ' H') ?_ m0 ⟨0,σ,H2,I2,st2,fun b hb=>(f2 b hb).1,w0⟩;rintro n s3 ⟨i,σ3,H3,I3,st3,fr3,w3⟩;rcases turn i n σ3 H3 w3 with⟨stop,qn⟩ |⟨go,N,hN,step⟩
 ·refine Wu hp (cq (T.done X rfl rfl rfl hc i pins s3 σ3 H3 X.xe I3 (stat fr3) st3 stop) fun r s4 ⟨hr,I4⟩=>?_);subst hr;exact XS ⟨σ3,H3,I4,qn⟩
 ·refine Wu hp (cq (T.item X rfl rfl rfl hc i pins s3 σ3 H3 X.xe I3 (stat fr3) st3 go) fun r s4 ⟨u,hr,h4⟩=>?_);subst hr;refine Wu hp (cq h4 fun _ s5 ⟨x,H5,I5,r5,y5,st5,fr5⟩=>?_);have I5':=I5.pinned (stat fr5) (T.obj _ _ st5);refine Wu hp (cq (hg _ s5 σ3 H5 x u _ I5' r5 (step x H5 y5)) fun _ s6 ⟨σ6,H6,I6,q6⟩=>?_);refine Wu hp (cq (hb _ s6 σ6 H6 _ I6 q6) fun f s7 q7=>?_);have again:∀{σ7:St} {H7:Hp},Inv X (pins++o8 fp s5.heap) σ7 H7 s7->N σ7 H7->∃m,m < n∧∃i σ' H',Inv X pins σ' H' s7∧tn i s7.heap∧(∀b∈fp,H' b=none)∧W i m σ' H':=fun {σ7 H7} I7 n7=>by
   obtain⟨m',hm,w7⟩:=hN σ7 H7 n7;refine⟨m',hm,i+1,σ7,H7,I7.jK,T.keep _ _ _ st5 fun b hb o e=>(I7.pin (b,o) (UU _ (UU _ (fc hb e)))).1,fun b hb=>?_,w7⟩;obtain⟨o,e,d⟩:=T.obj _ _ st5 b hb;exact(I7.pin (b,o) (UU _ (UU _ (fc hb e)))).2.1
  cases f with
  | next=>obtain⟨σ7,H7,I7,n7⟩:=q7;exact again I7 n7
  | cont=>obtain⟨σ7,H7,I7,n7⟩:=q7;exact again I7 n7
  | brk=>obtain⟨σ7,H7,I7,q7⟩:=q7;exact⟨σ7,H7,I7.jK,q7⟩
  | ret v=>obtain⟨x7,σ7,H7,I7,r7,q7⟩:=q7;exact⟨x7,σ7,H7,I7.jK,r7,q7⟩
abbrev R2:=V->V->Hp->VK->Prop
def oA(X:Cx)(f:Value->Value->Sem Value)(r:R2):Prop:=
 ∀(pins:List (Addr×Obj)) (s:Shared) (σ:St) (H:Hp) (x y:V) (v u:Value) (Q:VK),Inv X pins σ H s->RelV x v->RelV y u->r x y H Q->
  wpAny (model X.prog X.w) X.A (f v u) (EP X pins σ Q) X.xe s
def QR(X:Cx)(f:Value->Sem Value)(r:V->Hp->VK->Prop):Prop:=
 ∀(pins:List (Addr×Obj)) (s:Shared) (σ:St) (H:Hp) (x:V) (v:Value) (Q:VK),Inv X pins σ H s->RelV x v->r x H Q->
  wpAny (model X.prog X.w) X.A (f v) (EP X pins σ Q) X.xe s
def fT(X:Cx)(f:Value)(r:List V->Hp->VK->Prop):Prop:=
 ∀(pins:List (Addr×Obj)) (s:Shared) (σ:St) (H:Hp) (xs:List V) (us:List Value) (Q:VK),Inv X pins σ H s->Vals xs us->r xs H Q->
  wpAny (model X.prog X.w) X.A (call f us) (EP X pins σ Q) X.xe s
def S9(X:Cx)(r:V->Hp->(Bool->Hp->Prop)->Prop):Prop:=
 ∀(pins:List (Addr×Obj)) (s:Shared) (σ:St) (H:Hp) (x:V) (v:Value) (Q:Bool->Hp->Prop),Inv X pins σ H s->RelV x v->r x H Q->
  wpAny (model X.prog X.w) X.A (truthy v) (TP X pins σ Q) X.xe s
def Pl(r:R2)(ta tb:TE):TE:=fun σ H Q=>ta σ H fun x H1=>tb σ H1 fun y H2=>r x y H2 Q
def TJ(r:V->Hp->VK->Prop)(ta:TE):TE:=fun σ H Q=>ta σ H fun x H1=>r x H1 Q
def rI(C:Int->Int->Prop)(g:Int->Int->V):R2:=fun x y H Q=>∃i j,x=.int i∧y=.int j∧C i j∧Q (g i j) H
def JA(g:Int->Int->V):R2:=fun x y H Q=>∃i j,x=.int i∧y=.int j∧Q (g i j) H
def rU(g:Int->V):V->Hp->VK->Prop:=fun x H Q=>∃i,x=.int i∧Q (g i) H
theorem OC(ha:PE X a ta)(hb:PE X b tb){pins:List (Addr×Obj)}{s:Shared}{σ:St}{H:Hp}{R:V->V->Hp->Prop}(I:Inv X pins σ H s)
  (h:ta σ H fun x H1=>tb σ H1 fun y H2=>R x y H2) {Q:Value->Shared->Prop} {f:Value->Value->Sem Value}
  (hf:∀v u s2 x y H2,Inv X pins σ H2 s2->RelV x v->RelV y u->R x y H2->wpAny (model X.prog X.w) X.A (f v u) Q X.xe s2):
  wpAny (model X.prog X.w) X.A (eval a X.env) (fun v s₁=>wpAny (model X.prog X.w) X.A (eval b X.env) (fun u s₂=>wpAny (model X.prog X.w) X.A (f v u) Q X.xe s₂) X.xe s₁) X.xe s:=by
 refine cq (ha pins s σ H _ I h) fun v s1 ⟨x,H1,I1,r1,q1⟩=>?_;refine cq (hb pins s1 σ H1 _ I1 q1) fun u s2 ⟨y,H2,I2,r2,q2⟩=>?_;exact hf v u s2 x y H2 I2 r1 r2 q2
theorem LB{op:Operator}{r:R2}(ho:oA X (binaryOp op) r)(ha:PE X a ta)(hb:PE X b tb):PE X (.BinOp a op b pos) (Pl r ta tb):=by
 intro pins s σ H Q I h;exact wpAny_BinOp (OC ha hb I h fun v u s2 x y H2 I2 rx ry q=>ho pins s2 σ H2 x y v u Q I2 rx ry q)
theorem P7(ho:QR X (unaryOp op) r)(ha:PE X a ta):PE X (.UnaryOp op a pos) (TJ r ta):=by
 intro pins s σ H Q I h;exact UnaryOp_ (cq (ha pins s σ H _ I h) fun v s1 ⟨x,H1,I1,r1,q1⟩=>ho pins s1 σ H1 x v Q I1 r1 q1)
theorem Rj{f:Value->Value->Sem Value}{C:Int->Int->Prop}{g:Int->Int->Int}
  (rule:∀(i j:Int)(t u:Tok)(s:Shared)(Q:Value->Shared->Prop)(E:Value->Shared->Prop),C i j->Q (.int (g i j) s.toks) {s with toks:=s.toks+1}->wpAny (model X.prog X.w) X.A (f (.int i t) (.int j u)) Q E s):
  oA X f (rI C fun i j=>.int (g i j)):=by
 intro pins s σ H x y v u Q I rx ry h;obtain⟨i,j,rfl,rfl,hc,q⟩:=h;obtain⟨t,rfl⟩:=rx;obtain⟨t',rfl⟩:=ry;exact rule i j t t' s _ _ hc ⟨.int (g i j),H,I.tok _,⟨_,rfl⟩,q⟩
theorem Qi{f:Value->Value->Sem Value}{g:Int->Int->Int}
  (rule:∀(i j:Int)(t u:Tok)(s:Shared)(Q:Value->Shared->Prop)(E:Value->Shared->Prop),Q (.int (g i j) s.toks) {s with toks:=s.toks+1}->wpAny (model X.prog X.w) X.A (f (.int i t) (.int j u)) Q E s):
  oA X f (JA fun i j=>.int (g i j)):=by
 intro pins s σ H x y v u Q I rx ry h;obtain⟨i,j,rfl,rfl,q⟩:=h;obtain⟨t,rfl⟩:=rx;obtain⟨t',rfl⟩:=ry;exact rule i j t t' s _ _ ⟨.int (g i j),H,I.tok _,⟨_,rfl⟩,q⟩
theorem Ki{f:Value->Value->Sem Value}{g:Int->Int->Bool}
  (rule:∀(i j:Int)(t u:Tok)(s:Shared)(Q:Value->Shared->Prop)(E:Value->Shared->Prop),Q (.bool (g i j)) s->wpAny (model X.prog X.w) X.A (f (.int i t) (.int j u)) Q E s):
  oA X f (JA fun i j=>.bl (g i j)):=by
 intro pins s σ H x y v u Q I rx ry h;obtain⟨i,j,rfl,rfl,q⟩:=h;obtain⟨t,rfl⟩:=rx;obtain⟨t',rfl⟩:=ry;exact rule i j t t' s _ _ ⟨.bl (g i j),H,I,rfl,q⟩
def Th(i j:Int):Prop:=0≤j∧j≤1000000∧i.natAbs < 2^64
def OT(i j:Int):Prop:=(-(2^64) < i∧i < 2^64)∨(-(2^64) < j∧j < 2^64)
theorem OT.ok(h:OT i j):IntMulOk i j:=by
 rcases h with⟨h1,h2⟩ |⟨h1,h2⟩
 ·exact .of_left (intBits_le_64 h1 h2)
 ·exact .of_right (intBits_le_64 h1 h2)
theorem Ny:oA X (binaryOp .Add) (JA fun i j=>.int (i+j)):=Qi fun _ _ _ _ _ _ _ q=>add_int q
theorem Nr:oA X (binaryOp .Sub) (JA fun i j=>.int (i-j)):=Qi fun _ _ _ _ _ _ _ q=>sub_int q
theorem Nv:oA X (binaryOp .Mult) (rI OT fun i j=>.int (i*j)):=Rj fun _ _ _ _ _ _ _ hc q=>mul_int q hc.ok
theorem Nw:oA X (binaryOp .Mod) (rI (fun _ j=>0 < j) fun i j=>.int (i % j)):=Rj fun i j _ _ _ _ _ hc q=>by
 have h1:(0:Int) < j:=hc;exact mod_int' (by lia) (by rw[Int.fmod_eq_emod_of_nonneg i (by lia)];exact q)
theorem Nu:oA X (binaryOp .Pow) (rI Th fun i j=>.int (i^j.toNat)):=Rj fun _ _ _ _ _ _ _ hc q=>pow_int_small hc.1 hc.2.1 hc.2.2 q
theorem TH{f:Value->Sem Value}{g:Int->Int}
  (rule:∀(i:Int)(t:Tok)(s:Shared)(Q:Value->Shared->Prop)(E:Value->Shared->Prop),Q (.int (g i) s.toks) {s with toks:=s.toks+1}->wpAny (model X.prog X.w) X.A (f (.int i t)) Q E s):
  QR X f (rU fun i=>.int (g i)):=by
 intro pins s σ H x v Q I rx h;obtain⟨i,rfl,q⟩:=h;obtain⟨t,rfl⟩:=rx;exact rule i t s _ _ ⟨.int (g i),H,I.tok _,⟨_,rfl⟩,q⟩
theorem L6:QR X (unaryOp .USub) (rU fun i=>.int (-i)):=TH fun _ _ _ _ _ q=>neg_int q
theorem HG(I:Inv X pins σ H s)(q:Q (.bl k) H)(e:k=k'):EP X pins σ Q (.bool k') s:=by
 subst e;exact⟨.bl k,H,I,rfl,q⟩
theorem Qe:oA X (compareOp .Lt) (JA fun i j=>.bl (decide (i < j))):=Ki fun _ _ _ _ _ _ _ q=>lt_int q
theorem Qf:oA X (compareOp .LtE) (JA fun i j=>.bl (decide (i≤j))):=Ki fun _ _ _ _ _ _ _ q=>le_int q
theorem Qg:oA X (compareOp .Gt) (JA fun i j=>.bl (decide (j < i))):=Ki fun _ _ _ _ _ _ _ q=>gt_int q
theorem Qh:oA X (compareOp .GtE) (JA fun i j=>.bl (decide (j≤i))):=Ki fun _ _ _ _ _ _ _ q=>ge_int q
theorem Nx:oA X (compareOp .Is) (fun x y H Q=>y=.bz∧Q (.bl (decide (x=.bz))) H):=by
 intro pins s σ H x y v u Q I rx ry h;obtain⟨rfl,q⟩:=h;cases ry;refine is_none_gen (HG I q ?_);cases x <;> first
  |(cases rx;rfl)
  |(obtain⟨t,rfl⟩:=rx;rfl)
theorem Kg:oA X (compareOp .IsNot) (fun x y H Q=>y=.bz∧Q (.bl (!decide (x=.bz))) H):=by
 intro pins s σ H x y v u Q I rx ry h;obtain⟨rfl,q⟩:=h;cases ry;refine isnot_none_gen (HG I q ?_);cases x <;> first
  |(cases rx;rfl)
  |(obtain⟨t,rfl⟩:=rx;rfl)
theorem pG(b:Expr)(h:op≠.In:=by decide)(h2:op≠.NotIn:=by decide):behindInMarks op b=false:=by
 have e1:(op==CmpOp.In)=false:=by cases op <;> first | rfl | exact absurd rfl h
 have e2:(op==CmpOp.NotIn)=false:=by cases op <;> first | rfl | exact absurd rfl h2
 cases b <;> simp[behindInMarks,e1,e2]
theorem Kb{op:CmpOp}{r:R2}(ho:oA X (compareOp op) r)(ha:PE X a ta)(hb:PE X b tb)(hm:behindInMarks op b=false):PE X (.Compare a [op] [b] pos) (Pl r ta tb):=by
 intro pins s σ H Q I h;exact wpAny_Compare1 (OC ha hb I h fun v u s2 x y H2 I2 rx ry q=>ho pins s2 σ H2 x y v u Q I2 rx ry q) hm
def Pe(t:TE):TT:=fun σ H Q=>t σ H fun x H'=>∃k,x=.bl k∧Q k H'
theorem JE(ho:oA X (compareOp op) r)(ha:PE X a ta)(hb:PE X b tb)(hm:behindInMarks op b=false):PT X (.Compare a [op] [b] pos) (Pe (Pl r ta tb)):=by
 intro pins s σ H Q I h;refine wpAny_isTrue_Compare1 (cq (ha pins s σ H _ I h) fun v s1 ⟨x,H1,I1,r1,q1⟩=>cq (hb pins s1 σ H1 _ I1 q1) fun u s2 ⟨y,H2,I2,r2,q2⟩=>
  cq (ho pins s2 σ H2 x y v u _ I2 r1 r2 q2) fun c s3 ⟨z,H3,I3,r3,k,e,q3⟩=>?_) hm
 subst e;cases r3;exact Wf ⟨H3,I3,q3⟩
def FT(r r':R2)(ta tb tc:TE):TE:=fun σ H Q=>ta σ H fun x H1=>tb σ H1 fun y H2=>r x y H2 fun z H3=>∃k,z=.bl k∧
 (if k=true then tc σ H3 fun w' H4=>r' y w' H4 Q else Q (.bl false) H3)
theorem G4(ho:oA X (compareOp op) r)(ho':oA X (compareOp op') r')(ha:PE X a ta)(hb:PE X b tb)(hc:PE X c tc)(hm:lastMarks [op,op'] [b,c]=false:=by with_unfolding_all rfl):PE X (.Compare a [op,op'] [b,c] pos) (FT r r' ta tb tc):=by
 intro pins s σ H Q I h;refine Compare_chain (cq (ha pins s σ H _ I h) fun v s1 ⟨x,H1,I1,r1,q1⟩=>chain_link (cq (hb pins s1 σ H1 _ I1 q1) fun u s2 ⟨y,H2,I2,r2,q2⟩=>
  cq (ho pins s2 σ H2 x y v u _ I2 r1 r2 q2) fun d s3 ⟨z,H3,I3,r3,k,e,q3⟩=>?_)) hm
 subst e;cases r3;refine Wf ?_;cases k with
 | false=>exact ite_ff ⟨.bl false,H3,I3,rfl,q3⟩
 | true=>exact ite_tt (chain_last (cq (hc pins s3 σ H3 _ I3 q3) fun w' s4 ⟨z',H4,I4,r4,q4⟩=>ho' pins s4 σ H4 y z' u w' Q I4 r2 r4 q4))
def OJ(K:FR)(x:V)(H:Hp)(k:Bool):Prop:=
 match x with
 | .bz=>k=false
 | .bl b=>k=b
 | .int i=>k=(i !=0)
 | .str y=>y.length≤sizeLine∧k=((y.length:Int) !=0)
 | .byt y=>y.size≤sizeLine∧k=((y.size:Int) !=0)
 | .ref p=>(∃xs,fR K H p xs∧k=!xs.isEmpty)∨(∃xs,jD K H p xs∧k=!xs.isEmpty)∨∃kvs,H p=some (.dK kvs)∧k=!kvs.isEmpty
 | _=>False
theorem BN(r:KV kvs vs):(!vs.isEmpty)=!kvs.isEmpty:=by
 cases r <;> rfl
theorem td(r:Vals xs its):(!its.toArray.isEmpty)=!xs.isEmpty:=by
 cases r <;> simp
theorem mE:(sizeLine:Nat) < 2^63:=by rw[VH];decide
theorem L9:S9 X (fun x H Q=>∃k,OJ X.K x H k∧Q k H):=by
 intro pins s σ H x v Q I rx h;obtain⟨k,e,q⟩:=h;have hl:=mE;have hs:sizeLine=16777216:=VH;cases x with
 | bz=>
  cases rx;have e':k=false:=e;subst e';exact truthy_none ⟨H,I,q⟩
 | bl b=>
  cases rx;have e':k=b:=e;subst e';exact Wf ⟨H,I,q⟩
 | int i=>
  obtain⟨t,rfl⟩:=rx;have e':k=(i !=0):=e;subst e';exact PySem.P.truthy_int ⟨H,I,q⟩
 | str y=>
  obtain⟨t,rfl⟩:=rx;obtain⟨hy,e'⟩:y.length≤sizeLine∧k=((y.length:Int) !=0):=e;subst e';exact PySem.P.truthy_str (by lia) ⟨H,I.tok _,q⟩
 | byt y=>
  obtain⟨t,rfl⟩:=rx;obtain⟨hy,e'⟩:y.size≤sizeLine∧k=((y.size:Int) !=0):=e;subst e';exact PySem.W.truthy_bytes (by lia) ⟨H,I.tok _,q⟩
 | ref p=>
  cases rx;have e':(∃xs,fR X.K H p xs∧k=!xs.isEmpty)∨(∃xs,jD X.K H p xs∧k=!xs.isEmpty)∨∃kvs,H p=some (.dK kvs)∧k=!kvs.isEmpty:=e;rcases e' with⟨xs,hx,e'⟩ |⟨xs,hx,e'⟩ |⟨kvs,hx,e'⟩
  ·subst e';obtain⟨its,r,pl,hz⟩:=I.list hx;have hlen:=r.length;exact wpAny_truthy_list pl.isList (by simp only[UA];lia) ⟨H,I.tok _,by rw[td r];exact q⟩
  ·subst e';obtain⟨its,r,pl,hz⟩:=I.tuple hx;have hlen:=r.length;exact truthy_tuple pl (by simp only[UA];lia) ⟨H,I.tok _,by rw[td r];exact q⟩
  ·subst e';obtain⟨hz,hS,vs,r,m⟩:kvs.length≤sizeLine∧(p==sysModules)=false∧∃vs,KV kvs vs∧s.heap.DictOf (bF X.prog X.w) p vs:=I.bj p _ hx;have hlen:kvs.length=vs.length:=Paired.length r;exact wpAny_truthy_dict hS m (by lia) ⟨H,I.tok _,by rw[BN r];exact q⟩
 | _=>exact(show False from e).elim
theorem GO(ha:PE X a ta)(he:∀whole,isTrue a X.env whole=(do let v←whole;standAt a.pos;holding [v] (truthy v))):
  PT X a (fun σ H Q=>ta σ H fun x H'=>∃k,OJ X.K x H' k∧Q k H'):=by
 intro pins s σ H Q I h;exact isTrue_plain (cq (ha pins s σ H _ I h) fun v s1 ⟨x,H1,I1,r1,q1⟩=>L9 pins s1 σ H1 x v Q I1 r1 q1) (he _)
theorem Bv:oA X (binaryOp .Add) (fun x y H Q=>∃i j,x=.str i∧y=.str j∧i.length+j.length≤sizeLine∧Q (.str (i++j)) H):=by
 intro pins s σ H x y v u Q I rx ry h;obtain⟨i,j,rfl,rfl,hz,q⟩:=h;obtain⟨t,rfl⟩:=rx;obtain⟨t',rfl⟩:=ry;exact add_str (fun t' tk=>⟨.str (i++j),H,I.tok _,⟨_,rfl⟩,q⟩) hz
theorem vals1(r:Vals [x] us):∃u,us=[u]∧RelV x u:=by
 cases r with
 | cons r1 r2=>cases r2;exact⟨_,rfl,r1⟩
theorem vals2(r:Vals [x,y] us):∃u w',us=[u,w']∧RelV x u∧RelV y w':=by
 cases r with
 | cons r1 r2=>
  cases r2 with
  | cons r3 r4=>cases r4;exact⟨_,_,rfl,r1,r3⟩
theorem Ip:fT X (.builtin "abs") (fun xs H Q=>∃i,xs=[.int i]∧Q (.int (if i < 0 then -i else i)) H):=by
 intro pins s σ H xs us Q I r h;obtain⟨i,rfl,q⟩:=h;obtain⟨u,rfl,t,rfl⟩:=vals1 r;exact call_abs_int fun u tk=>⟨.int (if i < 0 then -i else i),H,I.tok _,⟨_,rfl⟩,q⟩
theorem Fm(hc:X.calm=true):fT X (.builtin "max") (fun xs H Q=>∃i j,xs=[.int i,.int j]∧Q (.int (if j > i then j else i)) H):=by
 intro pins s σ H xs us Q I r h;obtain⟨i,j,rfl,q⟩:=h;obtain⟨u,w',rfl,⟨t,rfl⟩,⟨t',rfl⟩⟩:=vals2 r;refine max_two_ints (I.ok.hd hc) fun h' tk k=>⟨_,H,I.kept k,?_,q⟩
 by_cases hj:j > i
 ·rw[Ut hj,Ut hj];exact⟨_,rfl⟩
 ·rw[Uu hj,Uu hj];exact⟨_,rfl⟩
theorem Fj(hc:X.calm=true):fT X (.builtin "min") (fun xs H Q=>∃i j,xs=[.int i,.int j]∧Q (.int (if j < i then j else i)) H):=by
 intro pins s σ H xs us Q I r h;obtain⟨i,j,rfl,q⟩:=h;obtain⟨u,w',rfl,⟨t,rfl⟩,⟨t',rfl⟩⟩:=vals2 r;refine min_two_ints (I.ok.hd hc) fun h' tk k=>⟨_,H,I.kept k,?_,q⟩
 by_cases hj:j < i
 ·rw[Ut hj,Ut hj];exact⟨_,rfl⟩
 ·rw[Uu hj,Uu hj];exact⟨_,rfl⟩
structure OR(h:Heap)(x dx C:Addr)(mA:Str->Option Value):Prop where
 obj:h.get? x=some (PySem.W.instObj C dx)
 ns:h.Ns1 dx mA
 ne:dx≠x
theorem EK{h:Heap}{dx:Addr}{mA:Str->Option Value}(n:h.Ns1 dx mA):∃od,h.get? dx=some od∧∀name,PySem.W.lookIn name od=some (mA name):=by
 obtain⟨o,es,ep,ho,hd,hk,_,hm⟩:=n;refine⟨o,ho,fun name=>?_⟩;have e:=hm name;unfold nsFind findBy at e;rw[←Array.find?_toList] at e;unfold PySem.W.lookIn;rw[hd];dsimp only
 split
 ·rename_i y q;rw[q] at e;exact congrArg some e
 ·rename_i q;rw[q] at e;have a:es.toList.any (·.refKey)=false:=by
   rw[Zs];intro y hy;obtain⟨z,t,hkey⟩:=hk y (VS.mp hy);simp[DictEntry.refKey,hkey]
  have a':¬es.toList.any (·.refKey)=true:=by rw[a];exact U0
  rw[Uu a'];exact congrArg some e
theorem OR.look(I:OR h x dx C mA):∃od,PySem.W.InstAt h x (PySem.W.instObj C dx) C (some od)∧∀name,PySem.W.lookIn name od=some (mA name):=
 let⟨od,ho,hl⟩:=EK I.ns
 ⟨od,⟨I.obj,rfl,rfl,ho⟩,hl⟩
section
variable {prog:Program} {w:World} {A:Around} {E:Value->Shared->Prop} {s:Shared} {K:FR} {x dx C f:Addr} {mA:Str->Option Value} {name:Str} {v:Value}
end
theorem t7.some_of(r:t7 (some v) o):∃u,o=some u∧RelV v u:=by
 cases o with
 | none=>exact(show False from r).elim
 | some u=>exact⟨u,rfl,r⟩
theorem KH(bj:iM P w H h)(e:H a=some (.ins C dx fs)):∃mA,OR h a dx C mA∧(∀f,t7 (fs.lookup f) (mA f))∧PySem.Within mA (fs.map (·.1))∧fs.length≤1000∧H dx=some (.own a):=by
 obtain⟨d,z,ne,ob,mA,n,r,q⟩:=(show b6 P w H h a (.ins C dx fs) from bj a _ e);exact⟨mA,⟨ob,n,ne⟩,r,q,z,d⟩
structure Tg(K:FR)(C:Addr):Prop where
 pg:PySem.W.plainGet K C Str.empty=true
 hd:PySem.W.hasDictIn K C=true
 po:PySem.W.plainOver K C=true
 sa:PySem.W.findIn K (.ref C) "__setattr__"=some (some (.builtin "object.__setattr__"))
theorem Tg.get{K:FR}{C:Addr}(c:Tg K C)(f:Str):PySem.W.plainGet K C f=true:=c.pg
inductive oa(K:FR)(H:Hp):V->Value->Prop where
 | bz:oa K H .bz (.type "NoneType")
 | bl (x:Bool):oa K H (.bl x) (.type "bool")
 | int (i:Int):oa K H (.int i) (.type "int")
 | str (x:Str):oa K H (.str x) (.type "str")
 | OZ (x:UInt64):oa K H (.OZ x) (.type "float")
 | lst {a:Addr} {xs:List V} (e:H a=some (.lst xs)):oa K H (.ref a) (.type "list")
 | Dm {a:Addr} {o:Obj} {xs:List V} (e:H a=some (.Dm o (.lst xs))):oa K H (.ref a) (.type "list")
 | tup {a:Addr} {xs:List V} (e:H a=some (.tup xs)):oa K H (.ref a) (.type "tuple")
 | dK {a:Addr} {kvs:List (Key×V)} (e:H a=some (.dK kvs)):oa K H (.ref a) (.type "dict")
 | dT {a:Addr} {kvs:List (List Key×V)} (e:H a=some (.dT kvs)):oa K H (.ref a) (.type "dict")
 | ins {a C dx:Addr} {fs:List (Str×V)} (e:H a=some (.ins C dx fs)) (cl:Tg K C) (ha:PySem.W.findIn K (.ref C) "__class__"=some (some (.builtin "object.__class__")))
   (hn:PySem.W.specialIn K (.builtin "object.__class__") "__get__"=some (some (.builtin "getset_descriptor.__get__"))) (htk:PySem.W.takesIn K (.builtin "object.__class__")=some true)
   (hm:PySem.W.mroIn K C (.type "object")=some true):oa K H (.ref a) (.ref C)
theorem EU(I:Inv X pins σ H s)(rx:RelV x u)(ty:oa X.K H x t)(e:PySem.W.kitOne X.K t c=some b)(h:∀tk,Q (.bool b) {s with toks:=tk}):
  wpAny (model X.prog X.w) A (call (.builtin "isinstance") [u,c]) Q E s:=by
 cases ty with
 | bz=>cases(show u=Value.none from rx);exact Vw PySem.W.kitx_none I.xR True.intro e (fun z=>nomatch z) h
 | bl y=>cases(show u=Value.bool y from rx);exact Vw PySem.W.kitx_bool I.xR True.intro e (fun z=>nomatch z) h
 | int i=>obtain⟨t,q⟩:=(show ∃t,u=Value.int i t from rx);cases q;exact Vw PySem.W.kitx_int I.xR True.intro e (fun z=>nomatch z) h
 | str y=>obtain⟨t,q⟩:=(show ∃t,u=Value.str y t from rx);cases q;exact Vw PySem.W.kitx_str I.xR True.intro e (fun z=>nomatch z) h
 | OZ y=>obtain⟨t,q⟩:=(show ∃t,u=Value.float y t from rx);cases q;exact Vw PySem.W.kitx_float I.xR True.intro e (fun z=>nomatch z) h
 | @lst a xs ea=>
  cases(show u=Value.ref a from rx);obtain⟨_,_,n,_,h1⟩:=(show b6 X.prog X.w H s.heap a (.lst xs) from I.bj a _ ea);exact Vw Zl I.xR ⟨_,h1,rfl⟩ e (fun z=>nomatch z) h
 | @Dm a ob xs ea=>
  cases(show u=Value.ref a from rx);obtain⟨_,_,_,n,_,h1⟩:=(show b6 X.prog X.w H s.heap a (.Dm ob (.lst xs)) from I.bj a _ ea);exact Vw Zl I.xR ⟨_,h1,rfl⟩ e (fun z=>nomatch z) h
 | @tup a xs ea=>
  cases(show u=Value.ref a from rx);obtain⟨_,_,_,p⟩:=(show b6 X.prog X.w H s.heap a (.tup xs) from I.bj a _ ea);obtain⟨o,h1,h2,_⟩:=p;exact Vw Zd I.xR ⟨o,h1,h2⟩ e (fun z=>nomatch z) h
 | @dK a kvs ea=>
  cases(show u=Value.ref a from rx);obtain⟨_,_,vs,_,p⟩:=(show b6 X.prog X.w H s.heap a (.dK kvs) from I.bj a _ ea);obtain⟨o,es,ep,h1,h2,_⟩:=p;exact Vw Zm I.xR ⟨o,h1,h2.1⟩ e (fun z=>nomatch z) h
 | @dT a kvs ea=>
  cases(show u=Value.ref a from rx);obtain⟨_,_,xs,_,o,es,ep,h1,h2,_⟩:=(show b6 X.prog X.w H s.heap a (.dT kvs) from I.bj a _ ea);exact Vw Zm I.xR ⟨o,h1,h2.1⟩ e (fun z=>nomatch z) h
 | @ins a C dx fs ea cl ha hn htk hm=>
  cases(show u=Value.ref a from rx);obtain⟨mA,O,_⟩:=KH I.bj ea;obtain⟨od,J,_⟩:=O.look;exact Vw (PySem.W.kitx_own (cl.get _) cl.hd ha hn htk hm) I.xR J e (fun z=>nomatch z) h
structure gL(k:Nat)(A:Around):Prop where
 hd:A.handled=none
 dp:A.depth+3*k+5 < recursionLimit
 un:A.units+16*k+200 < cLine
theorem gL.mono(r:gL k A)(h:j≤k):gL j A:=⟨r.hd,by have:=r.dp;lia,by have:=r.un;lia⟩
theorem gL.deeper(r:gL (k+1) A)(env:Env):gL k (A.deeper env):=
 ⟨r.hd,by have:=r.dp;show A.depth+1+3*k+5 < _;lia,by have:=r.un;show A.units+3+16*k+200 < _;lia⟩
theorem gL.depth(r:gL k A):A.depth < recursionLimit:=by have:=r.dp;lia
theorem gL.units(r:gL k A):A.units+64 < cLine:=by have:=r.un;lia
def RC:TA:=fun _ H Q=>Q [] H
def Pr(ta:TE)(tr:TA):TA:=fun σ H Q=>ta σ H fun x H1=>tr σ H1 fun xs H2=>Q (x::xs) H2
theorem G6:PA X [] RC:=fun _ _ _ _ H Q I h=>Yr ⟨[],H,I,.nil,h⟩
theorem CW(ha:PE X e te)(hr:PA X es t)(hs:starEach (e::es) X.env=(false,eval e X.env)::starEach es X.env:=by rfl):PA X (e::es) (Pr te t):=by
 intro pos pins s σ H Q I h;rw[hs];show wpAny _ _ (spliced ((false,eval e X.env)::backTo pos (starEach es X.env))) _ _ s;refine Yg (cq (ha pins s σ H _ I h) fun u s1 ⟨x,H1,I1,r1,q1⟩=>?_);exact cq (hr pos pins s1 σ H1 _ I1 q1) fun us s2 ⟨xs,H2,I2,r2,q2⟩=>⟨x::xs,H2,I2,.cons r1 r2,q2⟩
def Rz(t:TA):TE:=fun σ H Q=>t σ H fun xs H1=>xs.length≤sizeLine∧∀p,H1 p=none->Q (.ref p) (upd H1 p (.tup xs))
def RE(t:TA):TE:=fun σ H Q=>t σ H fun xs H1=>xs.length≤sizeLine∧∀p,H1 p=none->Q (.ref p) (upd H1 p (.lst xs))
theorem M7{x1}(h:PA X es t):PE X (.Tuple es x1 pos) (Rz t):=by
 intro pins s σ H Q I hq;refine wpAny_Tuple_spliced (cq (h pos pins s σ H _ I hq) fun us s1 ⟨xs,H1,I1,r,z,q⟩=>⟨by rw[←r.length];exact z,?_⟩);have hf:H1 s1.heap.objs.size=none:=I1.bj.fresh (Us _);refine⟨.ref s1.heap.objs.size,upd H1 s1.heap.objs.size (.tup xs),I1.laid (t':=s1.toks) (fun b u e=>Uj _ e) (Us _) ?_,rfl,q _ hf⟩;exact⟨z,us,r,⟨_,UD _ rfl,rfl,⟨_,rfl⟩,rfl⟩⟩
theorem Nd(h:PA X es t):PE X (.List es pos) (RE t):=by
 intro pins s σ H Q I hq;refine wpAny_List_spliced (cq (h pos pins s σ H _ I hq) fun us s1 ⟨xs,H1,I1,r,z,q⟩=>⟨by rw[←r.length];exact z,?_⟩);have hf:H1 s1.heap.objs.size=none:=I1.bj.fresh (Us _);refine⟨.ref s1.heap.objs.size,upd H1 s1.heap.objs.size (.lst xs),I1.laid (t':=s1.toks) (fun b u e=>Uj _ e) (Us _) ?_,rfl,q _ hf⟩;exact⟨z,us,0,r,UD _ rfl⟩
abbrev Sp:=List V->Hp->VK->XK->Prop
abbrev Ln:=List Env->Hp->Shared->XK->Value->Shared->Prop
structure Ll(P:Program)(w:World)(K:FR)(mg:Str->Option Value)(base:Heap)(A:Around)(outer:List Env)(s:Shared)(H:Hp):Prop where
 frames:A.frames=some outer
 mod:Mod K mg base
 bs:∀b o,base.get? b=some o->s.heap.get? b=some o∧H b=none
 LN:base.objs.size≤s.heap.objs.size
 tq:s.heap.FunFrames base outer
 OY:∀b∈FA outer,H b=none
 bj:iM P w H s.heap
 bare:AllBare s.gens
def CE(outer:List Env)(P:Program)(w:World)(H:Hp)(s:Shared)(Q:VK)(u:Value)(s':Shared):Prop:=
 ∃v H',s'.os=s.os∧AllBare s'.gens∧Un (FA outer) [] H H' s.heap s'.heap∧iM P w H' s'.heap∧RelV v u∧Q v H'
def CR(CX:Ln)(outer:List Env)(P:Program)(w:World)(H:Hp)(s:Shared)(Q:VK)(E:XK)(r:Result)(s':Shared):Prop:=
 match r with
 | .ok (.ret u)=>CE outer P w H s Q u s'
 | .ok _=>False
 | .error e=>CX outer H s E e s'
structure aX(P:Program)(w:World)(K:FR)(mg:Str->Option Value)(base:Heap)(CX:Ln)(k:Nat)(f:Addr)(fd:FuncData)(ps:List Str)(sp:Sp):Prop where
 len:∀vs H Q E,sp vs H Q E->vs.length=ps.length
 run:∀(A:Around)(outer:List Env)(s:Shared)(H:Hp)(args:Args)(us:List Value)(vs:List V)(Q:VK)(E:XK),gL k A->Ll P w K mg base A outer s H->BindsTo s fd args (ps.zip us)->Vals vs us->sp vs H Q E->
  codeAny (model P w) A (.call (.ref f) args) (CR CX outer P w H s Q E) s
theorem aX.imp{P:Program}{w:World}{K:FR}{mg:Str->Option Value}{base:Heap}{CX:Ln}{k:Nat}{f:Addr}{fd:FuncData}{ps:List Str}{sp sp':Sp}(F:aX P w K mg base CX k f fd ps sp)
  (h:∀vs H Q E,sp' vs H Q E->sp vs H Q E):aX P w K mg base CX k f fd ps sp':=
 ⟨fun vs H Q E q=>F.len vs H Q E (h _ _ _ _ q),fun A outer s H args us vs Q E hr he hb hv hs=>F.run A outer s H args us vs Q E hr he hb hv (h _ _ _ _ hs)⟩
theorem Inv.SH(I:Inv X pins σ H s):Ll X.prog X.w X.K X.mg X.base X.A X.stack s H:=
 ⟨I.ok.frames,I.ok.mod,I.bs,UL I.ok.LN I.sz,I.stack,I.Cz,I.bj,I.bare⟩
theorem Inv.after(I:Inv X pins σ H s)(h:CE X.stack X.prog X.w H s Q u s'):EP X pins σ Q u s':=by
 obtain⟨v,H',os,bare,un,bj,r,q⟩:=h;obtain⟨hh,g,d,t,os'⟩:=s';obtain rfl:os'=s.os:=os;exact⟨v,H',I.call (h':=hh) (g':=g) (d':=d) (t':=t) (ch:=[]) un bj bare (fun b z=>absurd z (by simp)),r,q⟩
def Pt(sp:Sp)(dvs:List V)(E:XK)(t:TA):TE:=fun σ H Q=>t σ H fun vs H1=>sp (vs++dvs) H1 Q E
def Binds(K:FR)(fd:FuncData)(ps:List Str)(ds:List Value):Prop:=
 ∀(s:Shared)(us:List Value),K.In s.heap->(us++ds).length=ps.length->BindsTo s fd ⟨us,[]⟩ (ps.zip (us++ds))
theorem Binds.all{K:FR}{fd:FuncData}{ps:List Str}(h:∀us:List Value,us.length=ps.length->bindArgs fd ⟨us,[]⟩=pure (ps.zip us)):Binds K fd ps []:=fun s us _ hl=>by
 rw[Vy] at hl ⊢;exact .of_eq (h us hl)
def Passes(CX:Ln)(X:Cx)(E:XK):Prop:=∀(pins:List (Addr×Obj)) (σ:St) (H:Hp) (s:Shared) (e:Value) (s':Shared),Inv X pins σ H s->CX X.stack H s E e s'->X.xe e s'
theorem Mu(F:aX X.prog X.w X.K X.mg X.base CX k f fd ps sp)(hr:gL k X.A)(hb:Binds X.K fd ps ds)(hd:Vals dvs ds)(hx:Passes CX X E)(I:Inv X pins σ H s)(r:Vals vs us)(h:sp (vs++dvs) H Q E):wpAny (model X.prog X.w) X.A (call (.ref f) us) (EP X pins σ Q) X.xe s:=by
 have r2:Vals (vs++dvs) (us++ds):=r.append hd;have hl:(us++ds).length=ps.length:=by rw[←r2.length];exact F.len _ _ _ _ h
 refine wpAny_call (XQ (F.run X.A X.stack s H ⟨us,[]⟩ (us++ds) (vs++dvs) Q E hr I.SH (hb s us I.xR hl) r2 h) fun r s' hq=>?_);cases r with
 | error e=>exact hx pins σ H s e s' I hq
 | ok fl=>
  cases fl with
  | ret u=>exact I.after hq
  | next=>exact False.elim hq
  | brk=>exact False.elim hq
  | cont=>exact False.elim hq
theorem Kc(F:aX X.prog X.w X.K X.mg X.base CX k f fd ps sp)(hr:gL k X.A)(hg:Gl X x)(hm:X.mg x=some (.ref f))(hk:PySem.W.keepIn X.K (.ref f)=true)(hb:Binds X.K fd ps ds)(hd:Vals dvs ds)(hx:Passes CX X E)
  (ha:PA X (e::es) t) (hdb:(x==("__debug__":Str))=false:=by decide) (he:starEach (e::es) X.env=(false,eval e X.env)::starEach es X.env:=by rfl) (hpl:(backTo pos (starEach es X.env)).any (·.1)=false:=by rfl):
  PE X (.Call (.Name x p) (e::es) [] pos) (Pt sp dvs E t):=by
 intro pins s σ H Q I h;refine V7 (C1 I hg hm ?_ hdb);refine PySem.W.callWith_K (h₀:=X.base) I.ok.mod.Sw hk (cq (ha pos pins s σ H _ I h) fun us s1 ⟨vs,H1,I1,r,q⟩=>⟨I1.xR,?_⟩) he hpl;exact Mu F hr hb hd hx I1 r q
structure aq(N P:List Str)(sc:Scope):Prop where
 kind:sc.kind=.function
 co:sc.isCoroutine=false
 gen:sc.isGenerator=false
 nd:N.Nodup
 pre:N.take P.length=P
 par:∀x∈P,sc.names.lookup x=some .local∨sc.names.lookup x=some .cell
 NA:∀y∈sc.names,y.2≠.free
theorem wc{kindOf:Str->Option NameKind}{x:Str}:∀{binds:List (Str×Value)} {m:Str->Option Value},(∀v,(x,v)∉binds)->bindL kindOf binds m x=m x
 | [],_,_=>rfl
 |(n,v)::r,m,h=>by
  unfold bindL;rw[wc fun w hw=>h w (Ur _ hw)]
  split
  ·have:x≠n:=by rintro rfl;exact h v Uo
   simp[this]
  ·rfl
theorem wg{kindOf:Str->Option NameKind}{x:Str}:∀{binds:List (Str×Value)} {m:Str->Option Value},(∀v,(x,v)∉binds)->bindC kindOf binds m x=m x
 | [],_,_=>rfl
 |(n,v)::r,m,h=>by
  unfold bindC;rw[wg fun w hw=>h w (Ur _ hw)]
  split
  ·rfl
  ·have:x≠n:=by rintro rfl;exact h v Uo
   simp[this]
theorem we{kindOf:Str->Option NameKind}{x:Str}{v:Value}:∀{P:List Str} {vs:List Value} {i:Nat} {m:Str->Option Value},P.Nodup->P[i]?=some x->vs[i]?=some v->kindOf x=some .local->
  bindL kindOf (P.zip vs) m x=some v
 | [],_,_,_,_,h,_,_=>by simp at h
 | _::_,[],_,_,_,_,h,_=>by simp at h
 | p::P,w::vs,0,m,nd,h1,h2,hk=>by
  simp at h1 h2;subst h1;subst h2;show bindL kindOf ((p,w)::P.zip vs) m p=_;unfold bindL;rw[wc fun v hv=>(V5.mp nd).1 (Yh hv).1,Ut hk];simp
 | p::P,w::vs,i+1,m,nd,h1,h2,hk=>by
  show bindL kindOf ((p,w)::P.zip vs) m x=_;unfold bindL;exact we (i:=i) (V5.mp nd).2 (by simpa using h1) (by simpa using h2) hk
theorem wj{kindOf:Str->Option NameKind}{x:Str}{v:Value}:∀{P:List Str} {vs:List Value} {i:Nat} {m:Str->Option Value},P.Nodup->P[i]?=some x->vs[i]?=some v->kindOf x≠some .local->
  bindC kindOf (P.zip vs) m x=some v
 | [],_,_,_,_,h,_,_=>by simp at h
 | _::_,[],_,_,_,_,h,_=>by simp at h
 | p::P,w::vs,0,m,nd,h1,h2,hk=>by
  simp at h1 h2;subst h1;subst h2;show bindC kindOf ((p,w)::P.zip vs) m p=_;unfold bindC;rw[wg fun v hv=>(V5.mp nd).1 (Yh hv).1,Uu hk];simp
 | p::P,w::vs,i+1,m,nd,h1,h2,hk=>by
  show bindC kindOf ((p,w)::P.zip vs) m x=_;unfold bindC;exact wj (i:=i) (V5.mp nd).2 (by simpa using h1) (by simpa using h2) hk
noncomputable def start(N:List Str)(vs:List V):St:=vs.map some++List.replicate (N.length-vs.length) none
abbrev Af(CX:Ln)(P:Program)(w:World)(K:FR)(mg:Str->Option Value)(base:Heap)(N:List Str)(qual:Str)(scope:Scope)(f:Addr)(cd:Value)(A:Around)(outer:List Env)(s:Shared)(H:Hp)(E:XK):Cx where
 prog:=P
 w:=w
 K:=K
 mg:=mg
 base:=base
 A:=A.deeper (envOfC qual scope s.heap.objs.size f cd)
 N:=N
 s₀:=s
 H₀:=H
 env:=envOfC qual scope s.heap.objs.size f cd
 outer:=outer
 stack:=envOfC qual scope s.heap.objs.size f cd::outer
 ex:=[]
 calm:=true
 fn:=fun _=>true
 pn:=[]
 xe:=fun e s'=>wpAny (model P w) (A.deeper (envOfC qual scope s.heap.objs.size f cd)) (leaving (envOfC qual scope s.heap.objs.size f cd) e) (fun _ s''=>CX outer H s E e s'') (fun e' s''=>CX outer H s E e' s'') s'
theorem An{sc:Scope}{n:Nat}{x:Str}(h:sc.names.lookup x=some .cell):∃c,(cellsFrom n sc.names []).lookup x=some c:=by
 have q:=YQ sc.names n [] (.inl h);exact YB.mp q
theorem EV{CX:Ln}{P:Program}{w:World}{K:FR}{mg:Str->Option Value}{base:Heap}{N ps:List Str}{qual:Str}{scope:Scope}{f:Addr}{cd:Value}{A:Around}{outer:List Env}{s s1:Shared}{H:Hp}{E:XK}{us:List Value}{vs:List V}
  (S:aq N ps scope) (hd:A.handled=none) (e0:Ll P w K mg base A outer s H) (hl:vs.length=ps.length) (r:Vals vs us)
  (x:InCallC s s.heap.objs.size (bindL (envOfC qual scope s.heap.objs.size f cd).kindOf (ps.zip us) fun _=>none) (cellsFrom (s.heap.objs.size+1) scope.names []) (bindC (envOfC qual scope s.heap.objs.size f cd).kindOf (ps.zip us) fun _=>none) s1):
  Inv (Af CX P w K mg base N qual scope f cd A outer s H E) [] (start N vs) H s1:=by
 have hpl:ps.length≤N.length:=by have:=congrArg List.length S.pre;rw[UM] at this;lia
 obtain⟨h1,tk,rfl,hk⟩:=x.done;have noA:∀b:Addr,b∉(Af CX P w K mg base N qual scope f cd A outer s H E).ex:=fun b z=>absurd (show b∈([]:List Addr) from z) (by simp);refine⟨⟨e0.mod,S.kind,rfl,rfl,Us _,fun y z c h1 h2=>?_,fun y hy=>?_,fun y c _ h=>?_,fun _=>hd,Around.frames_deeper e0.frames,.inr ⟨rfl,rfl⟩,fun b z=>absurd z (noA b),e0.bs,e0.LN,fun b _ _=>noA b,fun b z=>absurd z (noA b),e0.tq,e0.OY⟩,
  rfl,e0.bare,Un.kept hk,⟨_,x.toInCall.ns,fun i y v h1 h2 h3=>?_⟩,fun y c h=>⟨_,x.cell y c h⟩,e0.bj.fresh (Us _),fun y c h=>?_,fun p hp=>absurd (show p∈([]:List (Addr×Obj)) from hp) (by simp),e0.bj.kept hk,?_⟩
 ·exact name_of_addr x.apart (VJ h1) (VJ h2)
 ·have hy:scope.names.lookup y=some .cell∨scope.names.lookup y=some .free:=hy;rcases hy with hy | hy
  ·exact An hy
  ·exact absurd rfl (S.NA _ (VJ hy))
 ·exact WA (x.above y c (VJ h))
 ·have hi:i < vs.length:=by
   unfold start at h2
   by_cases hi:i < vs.length
   ·exact hi
   ·rw[US (by simpa using hi)] at h2;rw[YL] at h2
    split at h2 <;> cases h2
  have ha:vs[i]?=some v:=by
   unfold start at h2;rw[UG (by simpa using hi),Ux] at h2;cases e:vs[i]? with
   | none=>rw[e] at h2;cases h2
   | some a=>rw[e] at h2;cases h2;rfl
  obtain⟨u,hu,rv⟩:=r.get ha;have hp:ps[i]?=some y:=by
   rw[←S.pre,U7 (by lia)];exact h1
  have ndP:ps.Nodup:=by rw[←S.pre];exact S.nd.sublist (X7 _ _)
  refine⟨u,rv,?_⟩;rcases S.par y (Ul hp) with k | k
  ·exact .inl ⟨k,we ndP hp hu k⟩
  ·obtain⟨c,e⟩:=An (n:=s.heap.objs.size+1) k;refine .inr ⟨.inl k,c,e,?_⟩;have q:=x.cell y c e;rw[wj ndP hp hu (by show scope.names.lookup y≠_;rw[k];decide)] at q;exact q
 ·exact e0.bj.fresh (WA (x.above y c (VJ h)))
 ·unfold start;show _=N.length;rw[Uy,Uh,List.length_replicate]
  lia
theorem Qt{CX:Ln}{P:Program}{w:World}{K:FR}{mg:Str->Option Value}{base:Heap}{k:Nat}{f:Addr}{name qual:Str}{params:Arguments}{body:List Stmt}{scope:Scope}{dV kV doc pm cdv ct oc:Value}{an od:Option Addr}
  {osl:Array (Option Value)} {N ps:List Str} {sp:Sp} (lk:K.lookup f=some ⟨oc,od,.func (PySem.W.fnOf name qual params body scope dV kV doc pm an cdv ct),osl⟩) (hcd:PySem.W.codeIn K cdv qual=true) (S:aq N ps scope)
  (len:∀vs H Q E,sp vs H Q E->vs.length=ps.length)
  (hbody:∀(A:Around)(outer:List Env)(s:Shared)(H:Hp)(vs:List V)(Q:VK)(E:XK),gL k (A.deeper (envOfC qual scope s.heap.objs.size f cdv))->sp vs H Q E->
   ∃t,Ax (Af CX P w K mg base N qual scope f cdv A outer s H E) body t∧t {nx:=fun _ H'=>Q .bz H',rt:=Q} (start N vs) H):
  aX P w K mg base CX (k+1) f (PySem.W.fnOf name qual params body scope dV kV doc pm an cdv ct) ps sp:=by
 refine⟨len,fun A outer s H args us vs Q E hr e0 hb r hsp=>?_⟩;have hl:=len _ _ _ _ hsp;have KX:K.In s.heap:=e0.mod.Sw.keeps fun b o e=>(e0.bs b o e).1;have lim:s.heap.NoLimit:=e0.mod.nolimit.keeps fun b o e=>(e0.bs b o e).1;have hkind:∀y∈ps.zip us,scope.names.lookup y.1=some .local∨(scope.names.lookup y.1=some .cell∧((cellsFrom (s.heap.objs.size+1) scope.names []).lookup y.1).isSome=true):=fun⟨n,v⟩ hy=>by
  rcases S.par n (Yh hy).1 with q | q
  ·exact .inl q
  ·exact .inr ⟨q,YQ _ _ _ (.inl q)⟩
 refine codeAny_call_function hr.depth (KX _ _ lk) rfl S.co S.gen rfl (PySem.W.codeRec_of KX hcd) (hb _ _ _ _ ?_);refine wpAny_newFunctionEnv_cells S.kind hkind fun env he s1 x=>?_;subst he;refine⟨lim.keeps x.toInCall.keep,codeAny_func ?_⟩;obtain⟨t,ht,hq⟩:=hbody A outer s H vs Q E (hr.deeper _) hsp;have I:Inv (Af CX P w K mg base N qual scope f cdv A outer s H E) [] (start N vs) H s1:=EV S hr.hd e0 hl r x;refine Vj (ht [] s1 (start N vs) H _ I hq) (fun fl s' hs=>?_) fun e s' hs=>hs;have fin:∀{σ':St} {H':Hp} {v:V} {u:Value},Inv (Af CX P w K mg base N qual scope f cdv A outer s H E) [] σ' H' s'->RelV v u->Q v H'->CE outer P w H s Q u s':=
  fun {σ' H' v u} J rv q=>⟨v,H',J.os,J.bare,J.base,J.bj,rv,q⟩
 cases fl with
 | ret u=>
  obtain⟨v,σ',H',J,rv,q⟩:=hs;exact fin J rv q
 | next=>
  obtain⟨σ',H',J,q⟩:=hs;exact fin (v:=V.bz) (u:=Value.none) J rfl q
 | brk=>
  obtain⟨_,_,_,q⟩:=hs;exact False.elim q
 | cont=>
  obtain⟨_,_,_,q⟩:=hs;exact False.elim q
section
variable {X:Cx} {x:Str} {p pos:Pos} {e:Expr} {es:List Expr} {t:TA} {id T:String} {r:List V->Hp->VK->Prop}
def RG(r:List V->Hp->VK->Prop)(t:TA):TE:=fun σ H Q=>t σ H fun vs H1=>r vs H1 Q
theorem zp(hc:fT X (.builtin id) r)(hg:Gl X x)(hm:X.mg x=none)(hv:bootBuiltins x=some (.builtin id))(ha:PA X (e::es) t)(hn:x≠"__name__":=by decide)(hdb:(x==("__debug__":Str))=false:=by decide)
  (he:starEach (e::es) X.env=(false,eval e X.env)::starEach es X.env:=by rfl) (hpl:(backTo pos (starEach es X.env)).any (·.1)=false:=by rfl):PE X (.Call (.Name x p) (e::es) [] pos) (RG r t):=by
 intro pins s σ H Q I h;refine V7 (ip I hg hm hv ?_ hn hdb);exact PyProof.Rows.callWith_builtin1 (cq (ha pos pins s σ H _ I h) fun us s1 ⟨vs,H1,I1,r1,q1⟩=>hc pins s1 σ H1 vs us Q I1 r1 q1) he hpl
theorem vy(hc:fT X (.type T) r)(hg:Gl X x)(hm:X.mg x=none)(hv:bootBuiltins x=some (.type T))(ha:PA X (e::es) t)(hn:x≠"__name__":=by decide)(hdb:(x==("__debug__":Str))=false:=by decide)
  (he:starEach (e::es) X.env=(false,eval e X.env)::starEach es X.env:=by rfl) (hpl:(backTo pos (starEach es X.env)).any (·.1)=false:=by rfl):PE X (.Call (.Name x p) (e::es) [] pos) (RG r t):=by
 intro pins s σ H Q I h;refine V7 (ip I hg hm hv ?_ hn hdb);exact Vm (cq (ha pos pins s σ H _ I h) fun us s1 ⟨vs,H1,I1,r1,q1⟩=>hc pins s1 σ H1 vs us Q I1 r1 q1) he hpl
end
end L2
namespace HT
open PySem PyProof.Rows
section
open PySem.SeqAt
open PySem.AutoSeq1 (wpAny_loadPart')
open PySem.MeetsSeq PySem.MeetsSeq2 PySem.MeetsSeq3
end
theorem K4(ht:IsTup s.heap t vs.toArray)(hb:IsTup s.heap b ws.toArray)(hv:vs≠[])(h1:ws=[]->Q (.ref t) s)(h2:ws≠[]->Q (.ref s.heap.objs.size) {s with heap:=s.heap.push {cls:=.type "tuple",data:=.seq (vs++ws).toArray}})(hsz:vs.length+ws.length≤sizeLine):wpAny (model prog w) A (binaryOp .Add (.ref t) (.ref b)) Q E s:=by
 obtain⟨⟨cls,dd,data,sl⟩,ho,hc,n,hd⟩:=id ht;obtain⟨⟨cls2,dd2,data2,sl2⟩,ho2,hc2,n2,hd2⟩:=id hb;simp only at hc hd hc2 hd2;subst hc hd hc2 hd2;have e:vs.toArray++ws.toArray=(vs++ws).toArray:=by simp
 by_cases hw:ws=[]
 ·exact concat_meets ⟨_,ho,rfl⟩ ⟨_,ho2,rfl⟩ Yz Zb Xu Xm (Xd _ _)
   (tuple_addW1 t b vs.toArray ws.toArray n n2 dd dd2 sl sl2 (by simpa using hv) (by simp[hw])) ⟨ho,ho2,h1 hw⟩
 ·refine concat_meets ⟨_,ho,rfl⟩ ⟨_,ho2,rfl⟩ Yz Zb Xu Xm (Xd _ _)
   (tuple_addW2 t b vs.toArray ws.toArray n n2 dd dd2 sl sl2 (by simpa using hv) (by simpa using hw) (by rw[UA,UA];exact hsz)) ⟨ho,ho2,?_⟩
  rw[e];exact h2 hw
noncomputable def b8(n d:Nat):Option Int->Nat
 | none=>d
 | some v=>if v < 0 then(v+(n:Int)).toNat else min v.toNat n
theorem mT(n d:Nat):b8 n d none=d:=rfl
theorem w5(n d k:Nat):b8 n d (some (k:Int))=min k n:=by
 show(if(k:Int) < 0 then((k:Int)+(n:Int)).toNat else min (k:Int).toNat n)=min k n;rw[Uu (by lia),UO]
theorem Mt(n d:Nat)(hd:d≤n)(o:Option Int):b8 n d o≤n:=by
 cases o with
 | none=>exact hd
 | some v=>
  show(if v < 0 then(v+(n:Int)).toNat else min v.toNat n)≤n
  by_cases hv:v < 0
  ·rw[Ut hv];lia
  ·rw[Uu hv];exact Nat.min_le_right _ _
theorem DB(v:Int)(n d:Nat):(if v < 0 then max (v+(n:Int)) 0 else min v (n:Int))=((b8 n d (some v):Nat):Int):=by
 show(if v < 0 then max (v+(n:Int)) 0 else min v (n:Int))=(((if v < 0 then(v+(n:Int)).toNat else min v.toNat n):Nat):Int)
 by_cases hv:v < 0
 ·simp only[Ut hv];lia
 ·simp only[Uu hv];lia
theorem Ci(lo hi:Option Int)(n:Nat):Builtin.Slice.sliceAdjust lo hi 1 (n:Int)=(((b8 n 0 lo:Nat):Int),((b8 n n hi:Nat):Int)):=by
 have h1:¬((1:Int) < 0):=by lia
 unfold Builtin.Slice.sliceAdjust;simp only[h1,Vu];refine Prod.ext ?_ ?_
 ·cases lo with
  | none=>rfl
  | some v=>exact DB v n 0
 ·cases hi with
  | none=>rfl
  | some v=>exact DB v n n
theorem Bp(i j:Nat):Builtin.Slice.slicePlaces (i:Int) (j:Int) 1=j-i:=by
 unfold Builtin.Slice.slicePlaces;have h1:(1:Int) > 0:=by lia
 simp only[h1,Wy,YW]
 split <;> lia
theorem rR(p:IsPart v o)(h:Q o s):wpAny (model prog w) A (Builtin.Slice.slicePartIndex v) Q E s:=by
 cases p with
 | none=>exact Yw h
 | int i t=>exact slicePart_int h
theorem iC{sl:Addr}{vl vu:Value}{lo hi:Option Int}{n:Nat}{Q:Int×Int×Nat->Shared->Prop}(hs:s.heap.IsSliceOf sl vl vu .none)(pl:IsPart vl lo)(pu:IsPart vu hi)
  (h:Q (((b8 n 0 lo:Nat):Int),1,b8 n n hi-b8 n 0 lo) s):wpAny (model prog w) A (Builtin.Slice.sliceApplied (.ref sl) (pure (n:Int))) Q E s:=by
 obtain⟨os,hos,hcs,hds⟩:=id hs;unfold Builtin.Slice.sliceApplied Builtin.Slice.sliceFields;refine Ug (Ug (UZ hos hds (x:=vl) rfl (Ug (UZ hos hds (x:=vu) rfl (Ug (UZ hos hds (x:=.none) rfl (Uk ?_)))))));refine Ug (Yw ?_);show wpAny _ _ (if((1:Int)==0)=true then _ else _) _ _ s;rw[Uu (by decide)];refine Ug (rR pl (Ug (rR pu (Ug (Uk ?_)))));show wpAny _ _ (match Builtin.Slice.sliceAdjust lo hi 1 (n:Int) with |(lo,hi)=>pure (lo,(1:Int),Builtin.Slice.slicePlaces lo hi 1)) _ _ s;rw[Ci lo hi n];show wpAny _ _ (pure (((b8 n 0 lo:Nat):Int),(1:Int),Builtin.Slice.slicePlaces ((b8 n 0 lo:Nat):Int) ((b8 n n hi:Nat):Int) 1)) _ _ s;rw[Bp];exact Uk h
theorem GX(xs:Array Value)(i k:Nat):((List.range k).filterMap fun(m:Nat)=>xs[((i:Int)+(m:Int)*1).toNat]?).toArray=((xs.toList.drop i).take k).toArray:=by
 have e:(fun(m:Nat)=>xs[((i:Int)+(m:Int)*1).toNat]?)=fun m=>xs[i+m]?:=by
  funext m
  have:((i:Int)+(m:Int)*1).toNat=i+m:=by lia
  rw[this]
 rw[e];have:=pick_run xs i k;rw[Wm] at this;have e2:((fun x=>xs[x]?)∘fun x=>i+x)=fun m=>xs[i+m]?:=rfl;rw[e2] at this;rw[this]
theorem nG{t sl:Addr}{items:Array Value}{vl vu:Value}{lo hi:Option Int}{Q:Value->Shared->Prop}(ht:IsTup s.heap t items)(hs:s.heap.IsSliceOf sl vl vu .none)(pl:IsPart vl lo)(pu:IsPart vu hi)
  (hw:¬(b8 items.size 0 lo=0∧b8 items.size items.size hi=items.size))
  (h:Q (.ref s.heap.objs.size) {s with heap:=s.heap.push {cls:=.type "tuple",data:=.seq ((items.toList.drop (b8 items.size 0 lo)).take (b8 items.size items.size hi-b8 items.size 0 lo)).toArray}})
  (hsz:items.size≤sizeLine):wpAny (model prog w) A (getItem (.ref t) (.ref sl)) Q E s:=by
 have htake:sizeOk (.seq ((items.toList.drop (b8 items.size 0 lo)).take (b8 items.size items.size hi-b8 items.size 0 lo)).toArray):=by
  show((items.toList.drop (b8 items.size 0 lo)).take (b8 items.size items.size hi-b8 items.size 0 lo)).toArray.size≤sizeLine;rw[UA,UM,Wh,WC]
  lia
 have hj:b8 items.size items.size hi≤items.size:=Mt _ _ (Us _) hi;obtain⟨os,hos,hcs,hds⟩:=id hs;have hTs:s.TypeIs (.ref sl) "slice":=⟨os,hos,hcs⟩;unfold getItem
 try with_reducible refine U9 ?_
 first | refine Ug (Uk ?_) | skip
 refine Ug (Ym ht.typeIs (by decide) ?_);refine Ug (U6 (name:=Str.ofString "__getitem__") ht.typeIs U3
  (Vb U3 ht.typeIs YI ?_ (Y0 _ _)))
 show wpAny _ _ (Builtin.Tuple.tupleItemsOf (.ref t) >>=_) _ _ s;refine Ug (tupleItemsOf_ ht ?_);refine Ug (Wt hTs ?_);rw[Ut (by decide)];refine Ug (iC hs pl pu ?_);have hno:¬((((b8 items.size 0 lo:Nat):Int)==0&&(1:Int)==1&&(b8 items.size items.size hi-b8 items.size 0 lo)==items.size)=true):=by
  intro q;rw[UJ,UJ] at q;have q1:((b8 items.size 0 lo:Nat):Int)=0:=eq_of_beq q.1.1;have q2:b8 items.size items.size hi-b8 items.size 0 lo=items.size:=eq_of_beq q.2;exact hw ⟨by lia,by lia⟩
 show wpAny _ _ (if(((b8 items.size 0 lo:Nat):Int)==0&&(1:Int)==1&&(b8 items.size items.size hi-b8 items.size 0 lo)==items.size)=true then _ else _) _ _ s;rw[Uu hno,GX]
 first
  | exact Ug (m:=Builtin.Tuple.tupleExact _) (U2 (Uk ⟨_,rfl,Uk h⟩) htake)
  | exact Ug (m:=Builtin.Tuple.tupleExact _) (U2 (Ug (Uk (Uk ⟨_,rfl,Uk h⟩))) htake)
  | exact Ug (Ug (m:=Builtin.Tuple.tupleExact _) (U2 (Uk (Uk ⟨_,rfl,Uk h⟩)) htake))
  | exact Ug (Ug (m:=Builtin.Tuple.tupleExact _) (U2 (Uk ⟨_,rfl,Uk h⟩) htake))
end HT
namespace L2
open PySem PySem.Spec PyProof.Rows
abbrev TO:=St->Hp->(Option Int->Hp->Prop)->Prop
def PO(X:Cx)(e:Option Expr)(t:TO):Prop:=
 ∀(pins:List (Addr×Obj)) (s:Shared) (σ:St) (H:Hp) (Q:Option Int->Hp->Prop),Inv X pins σ H s->t σ H Q->
  wpAny (model X.prog X.w) X.A (evalPart e X.env) (fun u s'=>∃o H',Inv X pins σ H' s'∧IsPart u o∧Q o H') X.xe s
noncomputable def Jf:TO:=fun _ H Q=>Q none H
def Pj(t:TE):TO:=fun σ H Q=>t σ H fun x H1=>∃i,x=.int i∧Q (some i) H1
theorem intsAre_of:∀{us:List Value},Vals (ns.map V.int) us->IntsAre us ns:=by
 induction ns with
 | nil=>intro us r;rw[VQ] at r;cases r;exact .nil
 | cons n ns ih=>
  intro us r;rw[Uv] at r;cases r with
  | cons r1 r2=>
   obtain⟨t,e⟩:=r1;subst e;exact .cons n t (ih r2)
section
variable {X:Cx} {e:Expr} {te:TE} {lo hi:Option Expr} {tl th:TO} {pos p2:Pos}
theorem JP:PO X none Jf:=by
 intro pins s σ H Q I h;rw[Zc];exact Uk ⟨none,H,I,.none,h⟩
theorem JO(h:PE X e te):PO X (some e) (Pj te):=by
 intro pins s σ H Q I hw;rw[evalPart_some];refine cq (h pins s σ H _ I hw) fun u s1 ⟨x,H1,I1,r1,q1⟩=>?_;obtain⟨i,rfl,q⟩:=q1;obtain⟨t,rfl⟩:=r1;exact⟨some i,H1,I1,.int i t,q⟩
def OL(X:Cx)(r:V->Option Int->Option Int->Hp->VK->Prop):Prop:=
 ∀(pins:List (Addr×Obj)) (s:Shared) (σ:St) (H:Hp) (x:V) (v vl vu:Value) (lo hi:Option Int) (sl:Addr) (Q:VK),Inv X pins σ H s->RelV x v->s.heap.IsSliceOf sl vl vu .none->IsPart vl lo->IsPart vu hi->r x lo hi H Q->
  ∃T id,typeLookup (.type T) "__getitem__"=pure (some (.builtin id))∧s.TypeIs v T∧wpAny (model X.prog X.w) X.A (getItem v (.ref sl)) (EP X pins σ Q) X.xe s
def TL(r:V->Option Int->Option Int->Hp->VK->Prop)(te:TE)(tl th:TO):TE:=fun σ H Q=>te σ H fun x H1=>tl σ H1 fun l H2=>th σ H2 fun u H3=>r x l u H3 Q
theorem G0(hr:OL X r)(he:PE X e te)(hl:PO X lo tl)(hu:PO X hi th):PE X (.Subscript e (.Slice lo hi none p2) pos) (TL r te tl th):=by
 intro pins s σ H Q I h;refine Subscript_ (cq (he pins s σ H _ I h) fun v s1 ⟨x,H1,I1,r1,q1⟩=>?_);refine wpAny_Slice (cq (hl pins s1 σ H1 _ I1 q1) fun vl s2 ⟨l,H2,I2,pl,q2⟩=>cq (hu pins s2 σ H2 _ I2 q2) fun vu s3 ⟨u,H3,I3,pu,q3⟩=>?_);rw[Zc];refine Uk ?_;have I4:Inv X pins σ H3 {s3 with heap:=s3.heap.push {cls:=.type "slice",data:=.fields #[vl,vu,.none]}}:=I3.kept (t':=s3.toks) fun b ob q=>Uj _ q;obtain⟨T,id,hT,ht,hg⟩:=hr pins {s3 with heap:=s3.heap.push {cls:=.type "slice",data:=.fields #[vl,vu,.none]}} σ H3 x v vl vu l u s3.heap.objs.size Q I4 r1 (Heap.IsSliceOf.new ..) pl pu q3;show wpAny (model X.prog X.w) X.A (subscriptTail e (.Slice lo hi none p2) v (.ref s3.heap.objs.size)) (EP X pins σ Q) X.xe {s3 with heap:=s3.heap.push {cls:=.type "slice",data:=.fields #[vl,vu,.none]}};exact tail_any (ops:=[.ref s3.heap.objs.size,v]) ht hT hg (by with_unfolding_all rfl)
noncomputable def tJ(xs:List V)(lo hi:Option Int):List V:=(xs.drop (HT.b8 xs.length 0 lo)).take (HT.b8 xs.length xs.length hi-HT.b8 xs.length 0 lo)
theorem qq(xs:List V)(lo hi:Option Int):(tJ xs lo hi).length≤xs.length:=by
 unfold tJ;rw[UM,Wh]
 lia
def R8(K:FR):V->Option Int->Option Int->Hp->VK->Prop:=fun x lo hi H Q=>∃a xs,x=.ref a∧jD K H a xs∧
 ¬(HT.b8 xs.length 0 lo=0∧HT.b8 xs.length xs.length hi=xs.length)∧∀p,H p=none->Q (.ref p) (upd H p (.tup (tJ xs lo hi)))
theorem Mm:OL X (R8 X.K):=by
 intro pins s σ H x v vl vu lo hi sl Q I rx hs pl pu h;obtain⟨a,xs,rfl,hx,hw,q⟩:=h;cases rx;obtain⟨its,r,ht,hz⟩:=I.tuple hx;have hlen:its.toArray.size=xs.length:=by rw[UA];exact r.length.symm
 refine⟨"tuple",_,U3.lookup,ht.typeIs,?_⟩;refine HT.nG ht hs pl pu (by rw[hlen];exact hw) ?_ (by rw[hlen];exact hz);rw[hlen];refine⟨.ref s.heap.objs.size,_,I.laid (t':=s.toks) (o:=.tup (tJ xs lo hi)) (fun b ob q=>Uj _ q) (Us _) ?_,rfl,q _ (I.bj.fresh (Us _))⟩;exact⟨UL (qq xs lo hi) hz,_,(r.drop (HT.b8 xs.length 0 lo)).take (HT.b8 xs.length xs.length hi-HT.b8 xs.length 0 lo),yz.new _ _⟩
def P4(K:FR):R2:=fun x y H Q=>∃a b xs ys,x=.ref a∧y=.ref b∧jD K H a xs∧jD K H b ys∧xs≠[]∧xs.length+ys.length≤sizeLine∧
 (ys=[]->Q (.ref a) H)∧(ys≠[]->∀p,H p=none->Q (.ref p) (upd H p (.tup (xs++ys))))
theorem Vals.rp(r:Vals xs us):us=[]↔xs=[]:=by
 cases r with
 | nil=>simp
 | cons _ _=>simp
theorem Kh:oA X (binaryOp .Add) (P4 X.K):=by
 intro pins s σ H x y v u Q I rx ry h;obtain⟨a,b,xs,ys,rfl,rfl,ha,hb,hx,hz,q1,q2⟩:=h;cases rx;cases ry;obtain⟨its,r1,p1,_⟩:=I.tuple ha;obtain⟨its2,r2,p2,_⟩:=I.tuple hb;refine HT.K4 p1 p2 (fun z=>hx (r1.rp.mp z)) (fun z=>⟨.ref a,H,I,rfl,q1 (r2.rp.mp z)⟩) (fun z=>?_) (by rw[←r1.length,←r2.length];exact hz);refine⟨.ref s.heap.objs.size,_,I.laid (t':=s.toks) (o:=.tup (xs++ys)) (fun b ob q=>Uj _ q) (Us _) ?_,rfl,q2 (fun w=>z (r2.rp.mpr w)) _ (I.bj.fresh (Us _))⟩;exact⟨by rw[Uy];exact hz,_,r1.append r2,yz.new _ _⟩
end
noncomputable def uO(n:Nat)(i:Int):Option Nat:=if 0≤i then(if i < n then some i.toNat else none) else if -(n:Int)≤i then some (i+n).toNat else none
noncomputable def g8{α:Type}(xs:List α)(i:Int):Option α:=(uO xs.length i).bind fun j=>xs[j]?
theorem C8(h:uO n i=some j):seqIndex? i n=some j∧j < n∧-(n:Int)≤i∧i < n:=by
 unfold uO at h
 by_cases h0:0≤i
 ·rw[Ut h0] at h
  by_cases h1:i < n
  ·rw[Ut h1] at h;have e:i.toNat=j:=Option.some.inj h;exact⟨by rw[seqIndex_of h0 h1,e],by lia,by lia,h1⟩
  ·rw[Uu h1] at h;cases h
 ·rw[Uu h0] at h
  by_cases h1:-(n:Int)≤i
  ·rw[Ut h1] at h;have e:(i+n).toNat=j:=Option.some.inj h;exact⟨by rw[seqIndex_neg (by lia) h1,e],by lia,h1,by lia⟩
  ·rw[Uu h1] at h;cases h
theorem rG(h:g8 xs i=some v):∃j,seqIndex? i xs.length=some j∧xs[j]?=some v∧j < xs.length∧-(xs.length:Int)≤i∧i < xs.length:=by
 unfold g8 at h;cases e:uO xs.length i with
 | none=>rw[e] at h;cases h
 | some j=>
  rw[e] at h;obtain⟨h1,h2,h3,h4⟩:=C8 e;exact⟨j,h1,h,h2,h3,h4⟩
theorem rE{α:Type}{xs:List α}{j:Nat}{v:α}(h:xs[j]?=some v):g8 xs (j:Int)=some v:=by
 have hj:j < xs.length:=(Ui.mp h).1;have e:uO xs.length (j:Int)=some j:=by
  unfold uO;rw[Ut (by lia),Ut (by lia)];simp
 unfold g8;rw[e];exact h
theorem tT(xs:List α)(v:α):g8 (xs++[v]) (-1)=some v:=by
 have hl:(xs++[v]).length=xs.length+1:=by simp
 have e:uO (xs++[v]).length (-1)=some xs.length:=by
  unfold uO;rw[hl,Uu (by decide),Ut (by lia)];congr 1
  lia
 unfold g8;rw[e];show(xs++[v])[xs.length]?=some v;simp
def ou(b:Expr):Prop:=∀o i,subscripted b false o i=operate [o,i] (getItem o i)
def Q9(X:Cx)(r:R2):Prop:=
 ∀(value slice:Expr)(pins:List (Addr×Obj)) (s:Shared) (σ:St) (H:Hp) (x y:V) (v u:Value) (Q:VK),Inv X pins σ H s->RelV x v->RelV y u->r x y H Q->
  subscripted slice false v u=operate [v,u] (getItem v u)->wpAny (model X.prog X.w) X.A (subscriptTail value slice v u) (EP X pins σ Q) X.xe s
def LW(X:Cx)(id:String)(r:V->List V->Hp->VK->Prop):Prop:=
 ∀(pins:List (Addr×Obj)) (s:Shared) (σ:St) (H:Hp) (x:V) (xs:List V) (v:Value) (us:List Value) (Q:VK),Inv X pins σ H s->RelV x v->Vals xs us->r x xs H Q->
  wpAny (model X.prog X.w) X.A (call (.builtin id) (v::us)) (EP X pins σ Q) X.xe s
section
variable {X:Cx} {a b:Expr} {ta tb:TE} {pos:Pos}
theorem P9(hr:Q9 X r)(ha:PE X a ta)(hb:PE X b tb)(hs:ou b):PE X (.Subscript a b pos) (Pl r ta tb):=by
 intro pins s σ H Q I h;exact Subscript_ (OC ha hb I h fun v u s2 x y H2 I2 rx ry q=>hr a b pins s2 σ H2 x y v u Q I2 rx ry q (hs _ _))
def Sj(K:FR):R2:=fun x y H Q=>∃p xs i v,x=.ref p∧y=.int i∧fR K H p xs∧g8 xs i=some v∧Q v H
def Sh(K:FR):R2:=fun x y H Q=>∃p xs i v,x=.ref p∧y=.int i∧jD K H p xs∧g8 xs i=some v∧Q v H
def Si:R2:=fun x y H Q=>∃z i c,x=.str z∧y=.int i∧z.length≤sizeLine∧g8 z.cps.toList i=some c∧Q (.str ⟨#[c]⟩) H
theorem Kz:Q9 X (Sj X.K):=by
 intro value slice pins s σ H x y v u Q I rx ry h hs;obtain⟨p,xs,i,z,rfl,rfl,hq,he,q⟩:=h;cases rx;obtain⟨t,rfl⟩:=ry;obtain⟨its,r,pl,hz⟩:=I.list hq;obtain⟨j,h1,h2,h3,h4,h5⟩:=rG he;obtain⟨w,ew,rw'⟩:=r.get h2;have hl:=r.length;have hn:=mE;have fin:EP X pins σ Q w s:=⟨z,H,I,rw',q⟩
 by_cases h0:0≤i
 ·have hj:i.toNat=j:=by
   rw[seqIndex_of h0 h5] at h1;exact Option.some.inj h1
  exact item_listR pl.isList h0 (by lia) (by rw[hj];simpa using ew) fin hs
 ·have hj:(i+(its.toArray.size:Int)).toNat=j:=by
   rw[seqIndex_neg (by lia) h4] at h1;rw[UA,←hl];exact Option.some.inj h1
  exact subscriptTail_builtinR (x:=w) pl.isList.typeIs Yo.lookup
   (wpAny_getItem_list_neg (Q:=fun r s'=>r=w∧EP X pins σ Q r s') pl.isList (by lia) (by rw[UA] <;> lia) (by lia) (by rw[hj];simpa using ew) ⟨rfl,fin⟩) hs
theorem NM:Q9 X (Sh X.K):=by
 intro value slice pins s σ H x y v u Q I rx ry h hs;obtain⟨p,xs,i,z,rfl,rfl,hq,he,q⟩:=h;cases rx;obtain⟨t,rfl⟩:=ry;obtain⟨its,r,pl,hz⟩:=I.tuple hq;obtain⟨j,h1,h2,h3,h4,h5⟩:=rG he;obtain⟨w,ew,rw'⟩:=r.get h2;have hl:=r.length;have hn:=mE;have fin:EP X pins σ Q w s:=⟨z,H,I,rw',q⟩;exact subscriptTail_builtinR (x:=w) pl.typeIs U3.lookup
  (getItem_tuple (j:=j) (Q:=fun r s'=>r=w∧EP X pins σ Q r s') pl (by lia) (by lia) (by rw[UA,←hl];exact h1) (by simpa using ew) ⟨rfl,fin⟩) hs
theorem NO:Q9 X Si:=by
 intro value slice pins s σ H x y v u Q I rx ry h hs;obtain⟨z,i,c,rfl,rfl,hz,he,q⟩:=h;obtain⟨t,rfl⟩:=rx;obtain⟨t',rfl⟩:=ry;obtain⟨j,h1,h2,h3,h4,h5⟩:=rG he;have hl:z.cps.toList.length=z.length:=by simp[Str.length]
 rw[hl] at h1 h4 h5;have hn:=mE;exact tail_any (typeIs_str s z t) slot_str_getitem.lookup (getItem_str (c:=c) (by
  have e1:decide (i < -(2^63:Int))=false:=UX (by lia);have e2:decide (i≥2^63)=false:=UX (by lia);rw[e1,e2,YF]) (by rw[h1];simpa using h2) ⟨.str ⟨#[c]⟩,H,I.tok _,⟨_,rfl⟩,q⟩) hs
theorem BJ(its:List Value)(n j:Nat)(u:Value):Obj.mapSeq (·.setIfInBounds j u) {cls:=.type "list",data:=.seq its.toArray n}={cls:=.type "list",data:=.seq (its.set j u).toArray n}:=by
 simp[Obj.mapSeq]
theorem Inv.lst(I:Inv X pins σ H s)(h:H p=some (.lst xs)):
  ∃(its:List Value)(n:Nat),Vals xs its∧s.heap.get? p=some {cls:=.type "list",data:=.seq its.toArray n}∧xs.length≤sizeLine:=by
 obtain⟨z,its,n,r,e⟩:=I.bj p _ h;exact⟨its,n,r,e,z⟩
theorem Inv.ND{pins:List (Addr×Obj)}{σ:St}{H:Hp}{s:Shared}{p:Addr}{xs ys:List V}{its its':List Value}{n n':Nat}{f:Obj->Obj}(I:Inv X pins σ H s)(h:H p=some (.lst xs))
  (ho:s.heap.get? p=some {cls:=.type "list",data:=.seq its.toArray n}) (hf:f {cls:=.type "list",data:=.seq its.toArray n}={cls:=.type "list",data:=.seq its'.toArray n'}) (r:Vals ys its') (hz:ys.length≤sizeLine) (t:Nat):
  Inv X pins σ (upd H p (.lst ys)) {s with heap:=s.heap.update p f,toks:=t}:=by
 have e:(s.heap.update p f).get? p=some {cls:=.type "list",data:=.seq its'.toArray n'}:=by
  rw[VR f ho (by rw[hf] <;> rfl),hf]
 refine I.write (x:=p) (e:=p) (by rw[h];trivial) (.inl rfl) (fun b u hb q=>(V3 _ _ (VA hb)).trans q) ⟨_,e⟩ ?_;exact⟨hz,its',n',r,e⟩
def P2:V->V->V->Hp->(Hp->Prop)->Prop:=fun o i v H Q=>∃p xs k j,o=.ref p∧i=.int k∧H p=some (.lst xs)∧uO xs.length k=some j∧Q (upd H p (.lst (xs.set j v)))
theorem set_list:OQ X P2:=by
 intro pins s σ H o i v ov iv u Q I ro ri rv h;obtain⟨p,xs,k,j,rfl,rfl,hp,hj,q⟩:=h;cases ro;obtain⟨t,rfl⟩:=ri;obtain⟨its,n,r,ho,hz⟩:=I.lst hp;obtain⟨h1,h2,h3,h4⟩:=C8 hj;have hl:=r.length;have hn:=mE;have I':Inv X pins σ (upd H p (.lst (xs.set j v))) {s with heap:=s.heap.update p (Obj.mapSeq (·.setIfInBounds j u))}:=
  I.ND hp ho (BJ its n j u) (r.set rv j) (by rw[VY];exact hz) s.toks
 by_cases h0:0≤k
 ·have hk:k.toNat=j:=by
   rw[seqIndex_of h0 h4] at h1;exact Option.some.inj h1
  exact PySem.W.ki_setAt ho h0 (by lia) (by rw[UA,←hl];exact h4) (by rw[hk];exact⟨_,I',q⟩)
 ·have hk:(k+(its.toArray.size:Int)).toNat=j:=by
   rw[seqIndex_neg (by lia) h3] at h1;rw[UA,←hl];exact Option.some.inj h1
  exact PySem.W.ki_setBack ho (by lia) (by rw[UA,←hl];exact h3) (by lia) (by rw[hk];exact⟨_,I',q⟩)
theorem wL(lo hi:Option Int)(n:Nat):(sliceBounds lo hi none n).1=((HT.b8 n 0 lo:Nat):Int)∧(sliceBounds lo hi none n).2.1=((HT.b8 n n hi:Nat):Int)∧(sliceBounds lo hi none n).2.2=1:=by
 refine⟨?_,?_,rfl⟩
 ·cases lo with
  | none=>simp[sliceBounds,HT.b8]
  | some i=>
   simp only[sliceBounds,HT.b8,Option.getD_none,show(1:Int) > 0 by decide,Wy]
   by_cases h:i < 0
   ·simp only[h,Wy] <;> lia
   ·simp only[h,Vu] <;> lia
 ·cases hi with
  | none=>simp[sliceBounds,HT.b8]
  | some i=>
   simp only[sliceBounds,HT.b8,Option.getD_none,show(1:Int) > 0 by decide,Wy]
   by_cases h:i < 0
   ·simp only[h,Wy] <;> lia
   ·simp only[h,Vu] <;> lia
theorem uf(its:List Value)(lo hi:Option Int):slicePick its.toArray lo hi none=((its.drop (HT.b8 its.length 0 lo)).take (HT.b8 its.length its.length hi-HT.b8 its.length 0 lo)).toArray:=by
 obtain⟨h1,h2,h3⟩:=wL lo hi its.toArray.size;unfold slicePick;rw[h1,h2,h3];simp only[sliceRange_one,pick_run,UA] <;> rfl
def Sa(K:FR):V->Option Int->Option Int->Hp->VK->Prop:=fun x lo hi H Q=>∃a xs,x=.ref a∧fR K H a xs∧∀p,H p=none->Q (.ref p) (upd H p (.lst (tJ xs lo hi)))
theorem Jn:OL X (Sa X.K):=by
 intro pins s σ H x v vl vu lo hi sl Q I rx hs pl pu h;obtain⟨a,xs,rfl,hx,q⟩:=h;cases rx;obtain⟨its,r,ht,hz⟩:=I.list hx;have hlen:=r.length;refine⟨"list",_,Yo.lookup,ht.isList.typeIs,?_⟩;refine Za ht.isList hs pl pu .none (by simp) ?_ (by rw[UA] <;> lia);rw[uf,←hlen];refine⟨.ref s.heap.objs.size,_,I.laid (t':=s.toks) (o:=.lst (tJ xs lo hi)) (fun b ob q=>Uj _ q) (Us _) ?_,rfl,q _ (I.bj.fresh (Us _))⟩;exact⟨UL (qq xs lo hi) hz,_,0,(r.drop (HT.b8 xs.length 0 lo)).take (HT.b8 xs.length xs.length hi-HT.b8 xs.length 0 lo),UD _ rfl⟩
theorem yo:fT X (.builtin "len") (fun xs H Q=>∃p ys,xs=[.ref p]∧(fR X.K H p ys∨jD X.K H p ys)∧Q (.int ys.length) H):=by
 intro pins s σ H xs us Q I r h;obtain⟨p,ys,rfl,hq,q⟩:=h;obtain⟨u,rfl,rx⟩:=vals1 r;cases rx;have hn:=mE;rcases hq with hq | hq
 ·obtain⟨its,r',pl,hz⟩:=I.list hq;have hlen:=r'.length;exact Calls.call_len_list pl.isList (by simp only[UA] <;> lia) ⟨.int ys.length,H,I.tok _,⟨s.toks+1,by rw[UA,hlen]⟩,q⟩
 ·obtain⟨its,r',pl,hz⟩:=I.tuple hq;have hlen:=r'.length;exact len_tuple pl (by simp only[UA] <;> lia) ⟨.int ys.length,H,I.tok _,⟨s.toks+1,by rw[UA,hlen]⟩,q⟩
theorem yn:fT X (.builtin "len") (fun xs H Q=>∃z,xs=[.str z]∧z.length≤sizeLine∧Q (.int z.length) H):=by
 intro pins s σ H xs us Q I r h;obtain⟨z,rfl,hz,q⟩:=h;obtain⟨u,rfl,t,rfl⟩:=vals1 r;have hn:=mE;exact len_str (by lia) ⟨.int z.length,H,I.tok _,⟨_,rfl⟩,q⟩
theorem ym:fT X (.type "list") (fun xs H Q=>∃p ys,xs=[.ref p]∧(fR X.K H p ys∨jD X.K H p ys)∧∀l,H l=none->Q (.ref l) (upd H l (.lst ys))):=by
 intro pins s σ H xs us Q I r h;obtain⟨p,ys,rfl,hq,q⟩:=h;obtain⟨u,rfl,rx⟩:=vals1 r;cases rx;have fin:∀(its:List Value),Vals ys its->ys.length≤sizeLine->∀(h':Heap)(c':Nat),(∀b o',s.heap.get? b=some o'->h'.get? b=some o')->
   h'.get? s.heap.objs.size=some {cls:=.type "list",dict:=none,data:=.seq its.toArray c',slots:=#[]}->EP X pins σ Q (.ref s.heap.objs.size) {s with heap:=h'}:=fun its r' hz h' c' kp e=>
  ⟨.ref s.heap.objs.size,_,I.laid (t':=s.toks) kp (Us _) (show b6 X.prog X.w _ h' _ (.lst ys) from⟨hz,its,c',r',e⟩),rfl,q _ (I.bj.fresh (Us _))⟩
 rcases hq with hq | hq
 ·obtain⟨its,r',pl,hz⟩:=I.list hq;have hlen:=r'.length;obtain⟨o,ho,hc,n,hd⟩:=pl.isList;exact call_list_seq p (.inl rfl) ho hc hd (fun h' c' kp e=>fin its r' hz h' c' kp e) (by simp only[UA] <;> lia)
 ·obtain⟨its,r',pl,hz⟩:=I.tuple hq;have hlen:=r'.length;obtain⟨o,ho,hc,n,hd⟩:=pl;exact call_list_seq p (.inr rfl) ho hc hd (fun h' c' kp e=>fin its r' hz h' c' kp e) (by simp only[UA] <;> lia)
theorem uU:fT X (.type "tuple") (fun xs H Q=>∃p ys,xs=[.ref p]∧((fR X.K H p ys∧∀l,H l=none->Q (.ref l) (upd H l (.tup ys)))∨(jD X.K H p ys∧Q (.ref p) H))):=by
 intro pins s σ H xs us Q I r h;obtain⟨p,ys,rfl,h⟩:=h;obtain⟨u,rfl,rx⟩:=vals1 r;cases rx;rcases h with⟨hq,q⟩ |⟨hq,q⟩
 ·obtain⟨its,r',pl,hz⟩:=I.list hq;have hlen:=r'.length;refine call_tuple_list pl.isList (fun h' kp=>?_) (by simp only[UA] <;> lia);have I1:Inv X pins σ H {s with heap:=h'}:=I.kept (t':=s.toks) kp;have I2:Inv X pins σ (upd H h'.objs.size (.tup ys)) {s with heap:=h'.push {cls:=.type "tuple",data:=.seq its.toArray}}:=
   I1.laid (t':=s.toks) (fun b o e=>Uj _ e) (Us _) (show b6 X.prog X.w _ _ _ (.tup ys) from⟨hz,its,r',yz.new _ _⟩)
  exact⟨.ref h'.objs.size,_,I2,rfl,q _ (I1.bj.fresh (Us _))⟩
 ·obtain⟨its,r',pl,hz⟩:=I.tuple hq;exact call_tuple_same pl ⟨.ref p,H,I,rfl,q⟩
def OU(K:FR)(T:String)(x:V)(H:Hp):Prop:=match x with
 | .str _=>T="str"
 | .int _=>T="int"
 | .ref p=>(T="list"∧∃xs,fR K H p xs)∨(T="tuple"∧∃o,K.lookup p=some o∧o.cls=.type "tuple"∧o.dict=none)∨
   (T="dict"∧((∃kvs,H p=some (.dK kvs))∨(∃kvs,H p=some (.dT kvs))∨∃φ,H p=some (.O0 φ)∧∀w h,φ w h->∃o,h.get? p=some o∧o.ExactDict))∨(T="set"∧∃S n,H p=some (.set S n))
 | _=>False
theorem FK(I:Inv X pins σ H s)(r:RelV x v)(ty:OU X.K T x H):
  s.TypeIs v T∧∀a,v=.ref a->∃ob,s.heap.get? a=some ob∧ob.dict=none:=by
 cases x with
 | str z=>
  obtain⟨t,rfl⟩:=r;cases(show T="str" from ty);exact⟨typeIs_str s z t,fun _ e=>nomatch e⟩
 | int i=>
  obtain⟨t,rfl⟩:=r;cases(show T="int" from ty);exact⟨typeIs_int s i t,fun _ e=>nomatch e⟩
 | ref p=>
  cases r;rcases ty with⟨rfl,xs,hq⟩ |⟨rfl,o,hk,hc,hd⟩ |⟨rfl,hk⟩ |⟨rfl,S,n,hk⟩
  ·obtain⟨its,_,pl,_⟩:=I.list hq;refine⟨pl.isList.typeIs,fun a e=>?_⟩;cases e;obtain⟨o,n,e,c,hd,_⟩:=pl;exact⟨o,e,hd⟩
  ·refine⟨⟨o,I.xR p o hk,hc⟩,fun a e=>?_⟩;cases e;exact⟨o,I.xR _ o hk,hd⟩
  ·have z:∃o,s.heap.get? p=some o∧o.ExactDict:=by
    rcases hk with⟨kvs,hk⟩ |⟨kvs,hk⟩ |⟨φ,hk,hφ⟩
    ·obtain⟨_,_,_,_,o,_,_,e,ex,_⟩:=I.bj p _ hk;exact⟨o,e,ex⟩
    ·obtain⟨_,_,_,_,o,_,_,e,ex,_⟩:=I.bj p _ hk;exact⟨o,e,ex⟩
    ·obtain⟨q,_⟩:=I.bj p _ hk;exact hφ _ _ q
   obtain⟨o,e,ex⟩:=z;refine⟨⟨o,e,ex.1⟩,fun a e2=>?_⟩;cases e2;exact⟨o,e,ex.2.1⟩
  ·obtain⟨o,_,_,_,e,ex,_⟩:=I.bj p _ hk;refine⟨⟨o,e,ex.1⟩,fun a e2=>?_⟩;cases e2;exact⟨o,e,ex.2.1⟩
 | _=>exact False.elim ty
def RH(K:FR)(T:String)(r:V->List V->Hp->VK->Prop)(to:TE):TE:=fun σ H Q=>to σ H fun x H1=>OU K T x H1∧r x [] H1 Q
def TX(K:FR)(T:String)(r:V->List V->Hp->VK->Prop)(to:TE)(t:TA):TE:=fun σ H Q=>to σ H fun x H1=>OU K T x H1∧t σ H1 fun xs H2=>r x xs H2 Q
variable {o e:Expr} {es:List Expr} {to:TE} {t:TA} {name:Str} {apos cpos:Pos} {T id:String} {r:V->List V->Hp->VK->Prop}
theorem Ng(pa:PlainAttrs T)(slot:Slot T name id)(hty:typeOf (.builtin id)=pure (.type "method_descriptor"))(hm:LW X id r)(ho:PE X o to)
  (hbase:attributeBase o name X.env (eval o X.env)=eval o X.env:=by rfl) (hline:(apos.endLine==cpos.line)=true:=by rfl):PE X (.Call (.Attribute o name apos) [] [] cpos) (RH X.K T r to):=by
 intro pins s σ H Q I h;refine wpAny_Call_method0_late hbase hline (cq (ho pins s σ H _ I h) fun v s1 ⟨x,H1,I1,r1,ty,q1⟩=>?_);obtain⟨h1,h2⟩:=FK I1 r1 ty;exact⟨T,id,pa,slot,hty,h1,h2,Calls.callWith_builtin rfl (PySem.evalArgs_none (hm pins s1 σ H1 x [] v [] Q I1 r1 .nil q1))⟩
theorem Qa(pa:PlainAttrs T)(slot:Slot T name id)(hty:typeOf (.builtin id)=pure (.type "method_descriptor"))(hm:LW X id r)(ho:PE X o to)(ha:PA X (e::es) t)
  (hbase:attributeBase o name X.env (eval o X.env)=eval o X.env:=by rfl)
  (hfew:((backTo cpos (starEach (e::es) X.env)).all (fun x=>!x.1)&&(backToKw cpos (keywordEach [] X.env)).all (fun x=>x.1.isSome)
   &&decide ((e::es).length+([]:List Keyword).length+(if([]:List Keyword).isEmpty then 0 else 1) < 30))=true:=by rfl)
  (hline:(apos.endLine==cpos.line)=true:=by rfl) (hs:starEach (e::es) X.env=(false,eval e X.env)::starEach es X.env:=by rfl) (hplain:(backTo cpos (starEach es X.env)).any (·.1)=false:=by rfl):
  PE X (.Call (.Attribute o name apos) (e::es) [] cpos) (TX X.K T r to t):=by
 intro pins s σ H Q I h;refine wpAny_Call_method_late hbase hfew hline rfl (cq (ho pins s σ H _ I h) fun v s1 ⟨x,H1,I1,r1,ty,q1⟩=>?_);obtain⟨h1,h2⟩:=FK I1 r1 ty;refine⟨T,id,pa,slot,hty,h1,h2,?_⟩;have hA:=ha cpos pins s1 σ H1 _ I1 q1;rw[hs] at hA ⊢;refine Calls.callWith_builtin (by show(false||(backTo cpos (starEach es X.env)).any (·.1))=false;rw[hplain] <;> rfl) (Calls.evalArgs_plain ?_);exact cq hA fun us s2 ⟨vs,H2,I2,r2,q2⟩=>hm pins s2 σ H2 x vs v us Q I2 r1 r2 q2
end
def Tb(X:Cx)(id:String)(r:V->List V->Hp->VK->Prop):Prop:=
 ∀(pins:List (Addr×Obj)) (s:Shared) (σ:St) (H:Hp) (x:V) (xs:List V) (v:Value) (us:List Value) (Q:VK),Inv X pins σ H s->RelV x v->Vals xs us->r x xs H Q->
  wpAny (model X.prog X.w) X.A (call (.builtin id) (v::us)) (EP X pins σ Q) X.xe s
theorem Vals.one{x:V}{us:List Value}(h:Vals [x] us):∃u,us=[u]∧RelV x u:=by
 cases h with
 | cons r t=>cases t;exact⟨_,rfl,r⟩
theorem Vals.two{x y:V}{us:List Value}(h:Vals [x,y] us):∃u v,us=[u,v]∧RelV x u∧RelV y v:=by
 cases h with
 | cons r t=>cases t with
  | cons q z=>cases z;exact⟨_,_,rfl,r,q⟩
theorem Vals.zero:∀{us:List Value},Vals [] us->us=[]
 | _,.nil=>rfl
theorem Vals.dropLast(h:Vals xs us):Vals xs.dropLast us.dropLast:=by
 induction h with
 | nil=>exact .nil
 | cons r t ih=>
  cases t with
  | nil=>exact .nil
  | cons q t'=>exact .cons r ih
theorem Vals.rep(h:Vals xs us):∀k:Nat,Vals (List.replicate k xs).flatten (List.replicate k us).flatten
 | 0=>.nil
 | k+1=>by
  rw[V0,V0,Ws,Ws];exact Vals.append h (Vals.rep h k)
theorem BV(l:List α):l.eraseIdx (l.length-1)=l.dropLast:=by
 induction l with
 | nil=>rfl
 | cons a r ih=>
  cases r with
  | nil=>rfl
  | cons b r=>
   have e:(a::b::r).length-1=((b::r).length-1)+1:=by
    have h1:(a::b::r).length=r.length+2:=rfl;have h2:(b::r).length=r.length+1:=rfl
    lia
   rw[e,List.eraseIdx_cons_succ,ih]
   all_goals rfl
theorem foldl_rep(its:List Value):∀(k:Nat)(acc:List Value),
  List.foldl (fun x1 x2=>x1++x2) acc.toArray (List.replicate k its.toArray)=(acc++(List.replicate k its).flatten).toArray
 | 0,acc=>by simp
 | k+1,acc=>by
  have e:acc.toArray++its.toArray=(acc++its).toArray:=by simp
  have e2:(acc++its)++(List.replicate k its).flatten=acc++(List.replicate (k+1) its).flatten:=by
   rw[V0,Ws,VW]
  rw[←e2,←foldl_rep its k (acc++its),←e,V0,Yj]
theorem Inv.NF{its its':List Value}{n:Nat}{f:Array Value->Array Value}{t':Nat}(I:Inv X pins σ H s)(hH:H l=some (.lst xs))
  (e:s.heap.get? l=some {cls:=.type "list",data:=.seq its.toArray n}) (hf:f its.toArray=its'.toArray) (hv:Vals ys its') (hz:ys.length≤sizeLine):
  Inv X pins σ (upd H l (.lst ys)) {s with heap:=s.heap.update l (Obj.mapSeq f),toks:=t'}:=by
 have q:=PySem.IsL.update e f;rw[hf] at q;refine I.write (x:=l) (e:=l) (by rw[hH];exact trivial) (.inl rfl) (fun b' u hb hu=>(V3 s.heap (Obj.mapSeq f) (VA hb)).trans hu) ⟨_,q⟩ ?_;exact⟨hz,its',_,hv,q⟩
theorem Inv.Kq(I:Inv X pins σ H s)(hv:Vals ys its)(hz:ys.length≤sizeLine):
  Inv X pins σ (upd H s.heap.objs.size (.lst ys)) {s with heap:=s.heap.push {cls:=.type "list",data:=.seq its.toArray},toks:=t'}:=
 I.laid (fun _ _ q=>Uj _ q) (Us _) ⟨hz,its,0,hv,UD _ rfl⟩
theorem Inv.fresh(I:Inv X pins σ H s):H s.heap.objs.size=none:=I.bj.fresh (Us _)
theorem Inv.BK(I:Inv X pins σ H s)(hH:H l=some (.lst xs)):xs.length≤sizeLine∧∃(its:List Value)(n:Nat),Vals xs its∧xs.length=its.length∧s.heap.get? l=some {cls:=.type "list",data:=.seq its.toArray n}:=by
 obtain⟨z,its,n,r,e⟩:=I.bj l _ hH;exact⟨z,its,n,r,r.length,e⟩
theorem zE(h:n≤sizeLine):Builtin.List.listTooLong n=false:=by
 unfold Builtin.List.listTooLong;exact UX (by lia)
def JC:V->List V->Hp->VK->Prop:=fun x vs H Q=>∃l xs y,x=.ref l∧vs=[y]∧H l=some (.lst xs)∧xs.length < sizeLine∧Q .bz (upd H l (.lst (xs++[y])))
theorem pH:Tb X "list.append" JC:=by
 intro pins s σ H x vs v us Q I rx rv h;obtain⟨l,xs,y,rfl,rfl,hH,hz,q⟩:=h;cases rx;obtain⟨u,rfl,ru⟩:=rv.one;obtain⟨z,its,n,r,hl,e⟩:=I.BK hH;refine Xk WL ⟨_,e,rfl⟩ F.entry_list_append (F.args_list_append_2 _ _) (PySem.list_append l its.toArray n u (by rw[UA];lia)) ⟨e,?_⟩;refine⟨.bz,_,I.NF (its':=its++[u]) hH e (by simp) (r.append (.cons ru .nil)) ?_,rfl,q⟩;rw[Uy,Wr]
 lia
def JB:V->List V->Hp->VK->Prop:=fun x vs H Q=>∃l b xs zs,x=.ref l∧vs=[.ref b]∧H l=some (.lst xs)∧H b=some (.lst zs)∧xs.length+zs.length≤sizeLine∧Q .bz (upd H l (.lst (xs++zs)))
theorem EH:Tb X "list.extend" JB:=by
 intro pins s σ H x vs v us Q I rx rv h;obtain⟨l,b,xs,zs,rfl,rfl,hH,hB,hz,q⟩:=h;cases rx;obtain⟨u,rfl,ru⟩:=rv.one;cases ru;obtain⟨z,its,n,r,hl,e⟩:=I.BK hH;obtain⟨z2,its2,n2,r2,hl2,e2⟩:=I.BK hB;have hsz:its.toArray.size+its2.toArray.size≤sizeLine:=by rw[UA,UA];lia
 have hlong:¬(!its.toArray.isEmpty&&Builtin.List.listTooLong (its.toArray.size+its2.toArray.size))=true:=by
  rw[zE hsz,W6];exact U0
 refine Xk XC ⟨_,e,rfl⟩ F.entry_list_extend (F.args_list_extend_2 _ _)
  (AutoSeq1.list_extend_list_list_0 l its.toArray n b its2.toArray n2 hlong (by rw[UA];lia) (by lia)) ⟨e,e2,?_⟩
 refine⟨.bz,_,I.NF (its':=its++its2) hH e (by simp) (r.append r2) ?_,rfl,q⟩;rw[Uy]
 lia
def Sg:V->List V->Hp->VK->Prop:=fun x vs H Q=>∃l xs y,x=.ref l∧vs=[]∧H l=some (.lst xs)∧xs[xs.length-1]?=some y∧Q y (upd H l (.lst xs.dropLast))
theorem NB:Tb X "list.pop" Sg:=by
 intro pins s σ H x vs v us Q I rx rv h;obtain⟨l,xs,y,rfl,rfl,hH,hy,q⟩:=h;cases rx;have hus:=rv.zero;subst hus;obtain⟨z,its,n,r,hl,e⟩:=I.BK hH;obtain⟨u,hu,ru⟩:=r.get hy;have hy':its.toArray[its.toArray.size-1]?=some u:=by
  show its.toArray[its.length-1]?=some u;rw[←VN,←hl];exact hu
 refine Xk F.slot_list_pop ⟨_,e,rfl⟩ F.entry_list_pop (F.args_list_pop_1 _) (MeetsSeq.list_pop_last l its.toArray n u hy' (by rw[UA];lia)) ⟨e,?_⟩;refine⟨y,_,I.NF (its':=its.dropLast) hH e ?_ r.dropLast ?_,ru,q⟩
 ·show its.toArray.eraseIdxIfInBounds (its.toArray.size-1)=its.dropLast.toArray;rw[UA,List.eraseIdxIfInBounds_toArray,BV]
 ·rw[XN]
  lia
def Sk:R2:=fun x y H Q=>∃l b xs zs,x=.ref l∧y=.ref b∧H l=some (.lst xs)∧H b=some (.lst zs)∧xs.length+zs.length≤sizeLine∧∀p,H p=none->Q (.ref p) (upd H p (.lst (xs++zs)))
theorem Hg:oA X (binaryOp .Add) Sk:=by
 intro pins s σ H x y v u Q I rx ry h;obtain⟨l,b,xs,zs,rfl,rfl,hH,hB,hz,q⟩:=h;cases rx;cases ry;obtain⟨z,its,n,r,hl,e⟩:=I.BK hH;obtain⟨z2,its2,n2,r2,hl2,e2⟩:=I.BK hB;refine PySem.P.add_list e e2 ?_ (by rw[UA,UA];lia);have ea:its.toArray++its2.toArray=(its++its2).toArray:=by simp
 rw[ea];exact⟨.ref _,_,I.Kq (t':=s.toks) (r.append r2) (by rw[Uy];lia),rfl,q _ I.fresh⟩
def Sf:R2:=fun x y H Q=>∃l k xs,x=.ref l∧y=.int k∧H l=some (.lst xs)∧-(2^63)≤k∧k < 2^63∧xs.length*k.toNat≤sizeLine∧
 ∀p,H p=none->Q (.ref p) (upd H p (.lst (List.replicate k.toNat xs).flatten))
theorem len_rep(xs:List α)(k:Nat):(List.replicate k xs).flatten.length=k*xs.length:=by
 induction k with
 | zero=>simp
 | succ k ih=>rw[V0,Ws,Uy,ih,Nat.succ_mul,X6]
theorem Nt:oA X (binaryOp .Mult) Sf:=by
 intro pins s σ H x y v u Q I rx ry h;obtain⟨l,k,xs,rfl,rfl,hH,h1,h2,hz,q⟩:=h;cases rx;obtain⟨t,rfl⟩:=ry;obtain⟨z,its,n,r,hl,e⟩:=I.BK hH;have hlen:its.toArray.size*k.toNat≤sizeLine:=by rw[UA,←hl];exact hz
 have hcap:¬its.toArray.size*k.toNat > (2^63-1) / 8:=by
  have:(sizeLine:Nat)≤(2^63-1) / 8:=by decide
  lia
 have hfit:¬(!Builtin.List.listFitsIndex k)=true:=by
  rw[fitsIndex_both h1 h2];exact U0
 have hlong:¬Builtin.List.listTooLong (its.toArray.size*k.toNat)=true:=by
  rw[zE hlen];exact U0
 have hnew:List.foldl (fun x1 x2=>x1++x2) #[] (List.replicate (if its.toArray.isEmpty=true then 0 else k.toNat) its.toArray)=(List.replicate k.toNat its).flatten.toArray:=by
  have f0:∀m:Nat,List.foldl (fun x1 x2=>x1++x2) #[] (List.replicate m its.toArray)=(List.replicate m its).flatten.toArray:=fun m=>by
   have:=foldl_rep its m [];rw[Yi] at this;exact this
  rw[f0];cases its with
  | nil=>simp
  | cons a r'=>rw[Uu (by simp)]
 refine wpAny_binaryOp_repeat_ref (T:="list") (U:="int") (by decide) ⟨_,e,rfl⟩ (fun s'=>typeIs_int s' k t) noFill_list_mul F.fills_int_mul F.slot_int_rmul repeat_list F.slot_int_index.lookup
  (Xk F.slot_int_rmul (typeIs_int s k t) F.entry_int_rmul (F.args_int_rmul_2 _ _) (int___rmul___int_list k t l its.toArray n)
   ⟨e,rfl,⟨_,e,rfl⟩,Xk F.slot_list_mul ⟨_,e,rfl⟩ F.entry_list_mul (F.args_list_mul_2 _ _) (AutoListH.list___mul___list_int_3 l its.toArray n k t hfit hcap hlong) ⟨e,?_⟩⟩)
 rw[hnew];exact⟨.ref _,_,I.Kq (t':=s.toks) (r.rep k.toNat) (by rw[len_rep,Nat.mul_comm];exact hz),rfl,q _ I.fresh⟩
section
variable {κ:Type} [DecidableEq κ]
noncomputable def jE(kvs:List (κ×V))(k:κ):Option V:=(kvs.find? fun kv=>decide (kv.1=k)).map (·.2)
noncomputable def putK(kvs:List (κ×V))(k:κ)(v:V):List (κ×V):=
 if(kvs.any fun kv=>decide (kv.1=k))=true then kvs.map (fun kv=>if kv.1=k then(kv.1,v) else kv) else kvs++[(k,v)]
theorem rJ{p:κ×V}{r:List (κ×V)}{k:κ}(e:p.1=k):jE (p::r) k=some p.2:=by simp[jE,V6,e]
theorem mO{p:κ×V}{r:List (κ×V)}{k:κ}(e:¬p.1=k):jE (p::r) k=jE r k:=by simp[jE,V6,e]
theorem yE(k:κ):∀kvs:List (κ×V),(kvs.any fun kv=>decide (kv.1=k))=(jE kvs k).isSome
 | []=>rfl
 | p::r=>by
  rw[WG]
  by_cases e:p.1=k
  ·simp only[rJ e,Ve e,Bool.true_or,Option.isSome_some]
  ·rw[mO e,UX e,Bool.false_or];exact yE k r
theorem gX(kvs:List (κ×V))(k:κ)(v:V):(putK kvs k v).length≤kvs.length+1:=by
 unfold putK
 split
 ·rw[Uh];lia
 ·rw[Uy,Uw,Vx];lia
theorem t7.iI(r:t7 o u):o.isSome=u.isSome:=by
 cases o with
 | none=>cases u with
  | none=>rfl
  | some _=>exact(show False from r).elim
 | some _=>cases u with
  | none=>exact(show False from r).elim
  | some _=>rfl
theorem KV.val{kvs:List (κ×V)}{vs:List (κ×Value)}(r:KV kvs vs)(k:κ):t7 (jE kvs k) (valueAt vs k):=by
 unfold KV at r
 induction r with
 | nil=>exact True.intro
 | @cons p q ps qs h t ih=>
  obtain⟨h1,h2⟩:=h
  by_cases e:p.1=k
  ·have e':q.1=k:=h1.symm.trans e;have b:valueAt (q::qs) k=some q.2:=by simp[valueAt,V6,e']
   rw[rJ e,b];exact h2
  ·have e':¬q.1=k:=fun z=>e (h1.trans z);have b:valueAt (q::qs) k=valueAt qs k:=by simp[valueAt,V6,e']
   rw[mO e,b];exact ih
theorem KV.any(r:KV kvs vs)(k:κ):(kvs.any fun kv=>decide (kv.1=k))=vs.any fun kv=>decide (kv.1=k):=by
 unfold KV at r
 induction r with
 | nil=>rfl
 | cons h t ih=>rw[WG,WG,ih,h.1]
theorem KV.MB(r:KV kvs vs)(k:κ)(ry:RelV y u):
  KV (kvs.map fun kv=>if kv.1=k then(kv.1,y) else kv) (vs.map fun kv=>if kv.1=k then(kv.1,u) else kv):=by
 unfold KV at r ⊢
 induction r with
 | nil=>exact .nil
 | @cons p q ps qs h t ih=>
  rw[Uv,Uv];refine .cons ?_ ih;obtain⟨h1,h2⟩:=h
  by_cases e:p.1=k
  ·rw[Ut e,Ut (h1.symm.trans e)];exact⟨h1,ry⟩
  ·rw[Uu e,Uu (fun z=>e (h1.trans z))];exact⟨h1,h2⟩
theorem KV.put(r:KV kvs vs)(k:κ)(ry:RelV y u):KV (putK kvs k y) (stored vs k u):=by
 unfold putK stored;rw[r.any k]
 by_cases e:(vs.any fun kv=>decide (kv.1=k))=true
 ·rw[Ut e,Ut e];exact r.MB k ry
 ·rw[Uu e,Uu e];exact Paired.snoc r ⟨rfl,ry⟩
theorem KV.length(r:KV kvs vs):kvs.length=vs.length:=Paired.length r
end
theorem nD(r:RelV (kV k) u):(bF P w).is k u=true:=by
 cases k with
 | inl i=>obtain⟨t,e⟩:=(show ∃t,u=Value.int i t from r);subst e;exact qi P w i t
 | inr x=>obtain⟨t,e⟩:=(show ∃t,u=Value.str x t from r);subst e;exact qh P w x t
theorem vO:∀{ks:List Key} {us:List Value},Vals (ks.map kV) us->ItemsAre (bF P w) ks us
 | [],_,r=>by rw[VQ] at r;cases r;exact .nil
 | k::ks,_,r=>by
  rw[Uv] at r;cases r with
  | cons h t=>exact .cons (nD h) (vO t)
abbrev KT(H:Hp):List (List Key×V)->List (List Key×Addr×Value)->Prop:=Paired fun p q=>p.1=q.1∧H q.2.1=some (.tup (p.1.map kV))∧RelV p.2 q.2.2
theorem KT.val{H:Hp}{kvs:List (List Key×V)}{xs:List (List Key×Addr×Value)}(r:KT H kvs xs)(k:List Key):t7 (jE kvs k) ((atKey xs k).map (·.2)):=by
 induction r with
 | nil=>exact True.intro
 | @cons p q ps qs h t ih=>
  obtain⟨h1,_,h2⟩:=h
  by_cases e:p.1=k
  ·have e':q.1=k:=h1.symm.trans e;have b:atKey (q::qs) k=some q.2:=by simp[atKey,V6,e']
   rw[rJ e,b];exact h2
  ·have e':¬q.1=k:=fun z=>e (h1.trans z);have b:atKey (q::qs) k=atKey qs k:=by simp[atKey,V6,e']
   rw[mO e,b];exact ih
theorem KT.MB(r:KT H kvs xs)(k:List Key)(ry:RelV y u):
  KT H (kvs.map fun kv=>if kv.1=k then(kv.1,y) else kv) (xs.map (putAt k u)):=by
 induction r with
 | nil=>exact .nil
 | @cons p q ps qs h t ih=>
  rw[Uv,Uv];refine .cons ?_ ih;obtain⟨h1,h2,h3⟩:=h;unfold putAt
  by_cases e:p.1=k
  ·rw[Ut e,Ut (h1.symm.trans e)];exact⟨h1,h2,ry⟩
  ·rw[Uu e,Uu (fun z=>e (h1.trans z))];exact⟨h1,h2,h3⟩
theorem KT.put(r:KT H kvs xs)(k:List Key)(hb:H b=some (.tup (k.map kV)))(ry:RelV y u):
  KT H (putK kvs k y) (storedH xs k b u):=by
 have e:(kvs.any fun kv=>decide (kv.1=k))=(atKey xs k).isSome:=by
  rw[yE,(r.val k).iI,X1]
 unfold putK storedH;rw[e]
 by_cases q:(atKey xs k).isSome=true
 ·rw[Ut q,Ut q];exact r.MB k ry
 ·rw[Uu q,Uu q];exact Paired.snoc r ⟨rfl,hb,ry⟩
theorem KT.keeps(r:KT H kvs xs)(ht:∀b ys,H b=some (.tup ys)->H' b=some (.tup ys)):KT H' kvs xs:=
 Paired.Km r fun _ _ z=>⟨z.1,ht _ _ z.2.1,z.2.2⟩
theorem Ly(ok:iM P w H h)(e:Rd H a u):b6 P w H h a u:=e.ok ok
theorem vV(ok:iM P w H h)(e:Rd H a (.dK kvs)):kvs.length≤sizeLine∧(a==sysModules)=false∧∃vs,KV kvs vs∧h.DictOf (bF P w) a vs:=
 show b6 P w H h a (.dK kvs) from Ly ok e
theorem vW(ok:iM P w H h)(e:H a=some (.dK kvs)):kvs.length≤sizeLine∧(a==sysModules)=false∧∃vs,KV kvs vs∧h.DictOf (bF P w) a vs:=vV ok (.inl e)
theorem sZ(ok:iM P w H h)(e:H a=some (.tup (ks.map kV))):(tupleKind (bF P w)).is h ks a:=by
 obtain⟨_,its,r,o,h1,h2,⟨n,h3⟩,_⟩:=(show b6 P w H h a (.tup (ks.map kV)) from ok a _ e);exact⟨o,its.toArray,n,h1,h2,h3,by simpa using vO r⟩
theorem Ab(ok:iM P w H h)(e:Rd H a (.dT kvs)):kvs.length≤sizeLine∧(a==sysModules)=false∧
  ∃xs,KT H kvs xs∧h.DictOfH (tupleKind (bF P w)) a xs:=by
 obtain⟨z,y,xs,r,o,es,ep,h1,h2,h3,h4,h5⟩:=(show b6 P w H h a (.dT kvs) from Ly ok e);refine⟨z,y,xs,r,o,es,ep,h1,h2,h3,h4,fun x hx=>?_,h5⟩;have all:∀{l:List (List Key×V)} {m:List (List Key×Addr×Value)},KT H l m->∀x∈m,(tupleKind (bF P w)).is h x.1 x.2.1:=by
  intro l m q
  induction q with
  | nil=>intro x hx;exact nomatch hx
  | @cons p q ps qs hq t ih=>
   intro x hx;rcases UE.mp hx with e | hx
   ·subst e;exact sZ ok (by rw[←hq.1];exact hq.2.1)
   ·exact ih x hx
 exact all r x hx
theorem Qy(ok:iM P w H h)(e:H a=some (.dT kvs)):kvs.length≤sizeLine∧(a==sysModules)=false∧
  ∃xs,KT H kvs xs∧h.DictOfH (tupleKind (bF P w)) a xs:=Ab ok (.inl e)
def uW(H:Hp)(a:Addr)(y:V)(r:Option V):Prop:=
 (∃kvs k,Rd H a (.dK kvs)∧y=kV k∧r=jE kvs k)∨∃kvs k b,Rd H a (.dT kvs)∧y=.ref b∧H b=some (.tup (k.map kV))∧r=jE kvs k
def Lm(H:Hp)(a:Addr)(y v:V)(H':Hp):Prop:=
 (∃kvs k,H a=some (.dK kvs)∧y=kV k∧kvs.length < sizeLine∧H'=upd H a (.dK (putK kvs k v)))∨
 ∃kvs k b,H a=some (.dT kvs)∧y=.ref b∧H b=some (.tup (k.map kV))∧kvs.length < sizeLine∧H'=upd H a (.dT (putK kvs k v))
theorem uW.k{H:Hp}{a:Addr}{kvs:List (Key×V)}{k:Key}(e:H a=some (.dK kvs)):uW H a (kV k) (jE kvs k):=.inl ⟨kvs,k,.inl e,rfl,rfl⟩
theorem Lm.k{H:Hp}{a:Addr}{kvs:List (Key×V)}{k:Key}{v:V}(e:H a=some (.dK kvs))(hl:kvs.length < sizeLine):Lm H a (kV k) v (upd H a (.dK (putK kvs k v))):=.inl ⟨kvs,k,e,rfl,hl,rfl⟩
theorem Inv.big(I:Inv X pins σ H s):sysModules < s.heap.objs.size:=by
 have h:mainGlobals < s.heap.objs.size:=(I.mod.glob.keeps I.bk).lt;exact Xv (by decide) h
theorem Fh(hu:A.units+1 < cLine)(I:Inv X pins σ H s)(g:uW H a y (some v))(ry:RelV y u)(h:∀w' s',Inv X pins σ H s'->RelV v w'->Q w' s'):
  wpAny (model X.prog X.w) A (getItem (.ref a) u) Q E s:=by
 rcases g with⟨kvs,k,e,ey,l⟩ |⟨kvs,k,b,e,ey,eb,l⟩
 ·subst ey;obtain⟨z,hd,vs,rel,dd⟩:=vV I.bj e;obtain⟨w',hw,rw'⟩:=t7.some_of (v:=v) (o:=valueAt vs k) (by rw[l];exact rel.val k);exact wpAny_getItem_of (nD ry) dd.mapOf hw (h w' _ (I.tok _) rw')
 ·subst ey;cases(show u=Value.ref b from ry);obtain⟨z,hd,xs,rel,dd⟩:=Ab I.bj e;obtain⟨w',hw,rw'⟩:=t7.some_of (v:=v) (o:=(atKey xs k).map (·.2)) (by rw[l];exact rel.val k);obtain⟨p,hp,hp2⟩:=Vh.mp hw;refine wpAny_getItem_heap (Xj hu) (sZ I.bj eb) dd hp ?_;rw[hp2];exact h w' _ (I.tok _) rw'
theorem SK(hu:A.units+1 < cLine)(I:Inv X pins σ H s)(g:uW H a y o)(ry:RelV y u)(h:∀s',Inv X pins σ H s'->Q (.bool o.isSome) s'):
  wpAny (model X.prog X.w) A (compareOp .In u (.ref a)) Q E s:=by
 rcases g with⟨kvs,k,e,ey,l⟩ |⟨kvs,k,b,e,ey,eb,l⟩
 ·subst ey;obtain⟨z,hd,vs,rel,dd⟩:=vV I.bj e;refine wpAny_in_of (nD ry) hd dd.mapOf ?_;rw[←(rel.val k).iI,←l];exact h _ (I.tok _)
 ·subst ey;cases(show u=Value.ref b from ry);obtain⟨z,hd,xs,rel,dd⟩:=Ab I.bj e;refine wpAny_in_heap (Xj hu) (sZ I.bj eb) hd dd ?_;have q:=(rel.val k).iI;rw[X1] at q;rw[←q,←l];exact h _ (I.tok _)
theorem KW(hu:A.units+1 < cLine)(I:Inv X pins σ H s)(g:uW H a y o)(ry:RelV y u)(h:∀s',Inv X pins σ H s'->Q (.bool (!o.isSome)) s'):
  wpAny (model X.prog X.w) A (compareOp .NotIn u (.ref a)) Q E s:=by
 rcases g with⟨kvs,k,e,ey,l⟩ |⟨kvs,k,b,e,ey,eb,l⟩
 ·subst ey;obtain⟨z,hd,vs,rel,dd⟩:=vV I.bj e;refine wpAny_notIn_of (nD ry) hd dd.mapOf ?_;rw[←(rel.val k).iI,←l];exact h _ (I.tok _)
 ·subst ey;cases(show u=Value.ref b from ry);obtain⟨z,hd,xs,rel,dd⟩:=Ab I.bj e;refine wpAny_notIn_heap (Xj hu) (sZ I.bj eb) hd dd ?_;have q:=(rel.val k).iI;rw[X1] at q;rw[←q,←l];exact h _ (I.tok _)
theorem k8(I:Inv X pins σ H s)(mu:Q8 (H a))(hs:Heap.SameBut a s.heap h')(he:∃q,h'.get? a=some q)(new:b6 X.prog X.w (upd H a ob) h' a ob):
  Inv X pins σ (upd H a ob) {s with heap:=h',toks:=t'}:=
 I.write (x:=a) (e:=a) mu (.inl rfl) (fun b q hb z=>(hs.2 b hb).trans z) he new
theorem yc(z:kvs.length≤sizeLine)(hd:(a==sysModules)=false)(rel:KV kvs vs)(dd:h'.DictOf (bF P w) a vs):
  b6 P w H' h' a (.dK kvs):=⟨z,hd,vs,rel,dd⟩
theorem Fg(hu:A.units+1 < cLine)(I:Inv X pins σ H s)(g:Lm H a y v H')(ry:RelV y u)(rv:RelV v r)(h:∀s',Inv X pins σ H' s'->Q () s'):
  wpAny (model X.prog X.w) A (setItem (.ref a) u r) Q E s:=by
 rcases g with⟨kvs,k,e,ey,l,eH⟩ |⟨kvs,k,b,e,ey,eb,l,eH⟩
 ·subst ey eH;obtain⟨z,hd,vs,rel,dd⟩:=vW I.bj e;have hz:vs.length≤sizeLine:=by rw[←rel.length];exact z
  have hl:(putK kvs k v).length≤sizeLine:=by have:=gX kvs k v;lia
  refine wpAny_setItem_pairs (hsz:=hz) (nD ry) dd fun h' dd' hs=>h _ ?_;have he:∃q,h'.get? a=some q:=let⟨q,_,_,hq,_⟩:=dd';⟨q,hq⟩;exact k8 I (by rw[e];exact True.intro) hs he (yc hl hd (rel.put k rv) dd')
 ·subst ey eH;cases(show u=Value.ref b from ry);obtain⟨z,hd,xs,rel,dd⟩:=Qy I.bj e;have hz:xs.length≤sizeLine:=by rw[←Paired.length rel];exact z
  have hl:(putK kvs k v).length≤sizeLine:=by have:=gX kvs k v;lia
  refine wpAny_setItem_heap (hsz:=hz) (Xj hu) (sZ I.bj eb) dd fun h' dd' hs=>h _ ?_;obtain⟨q,es,ep,hq,h2,h3,h4,_,h5⟩:=dd';refine k8 I (by rw[e];exact True.intro) hs ⟨q,hq⟩ ⟨hl,hd,_,(rel.put k eb rv).keeps fun c ys ec=>?_,q,es,ep,hq,h2,h3,h4,h5⟩;rw[aF (Qj ec e (fun z=>nomatch z))];exact ec
theorem Qz(I:Inv X pins σ H s)(e:Rd H a (.dK kvs))(h:∀t s',Inv X pins σ H s'->Q (.int kvs.length t) s'):wpAny (model X.prog X.w) A (call (.builtin "len") [.ref a]) Q E s:=by
 obtain⟨z,hd,vs,rel,dd⟩:=vV I.bj e;refine call_len_dict hd dd (by rw[←rel.length];rw[VH] at z;lia) ?_;rw[←rel.length];exact h _ _ (I.tok _)
def Lj(i:Expr):Prop:=∀ov iv,subscripted i false ov iv=operate [ov,iv] (getItem ov iv)
theorem Ji{prog:Program}{w:World}{A:Around}{E:Value->Shared->Prop}{s:Shared}{env:Env}{value slice:Expr}{pos:Pos}{T id:String}{Q:Value->Shared->Prop}
  (hl:typeLookup (.type T) "__getitem__"=pure (some (.builtin id))) (hs:Lj slice)
  (h:wpAny (model prog w) A (eval value env) (fun o s₁=>wpAny (model prog w) A (eval slice env) (fun i s₂=>s₂.TypeIs o T∧wpAny (model prog w) A (getItem o i) Q E s₂) E s₁) E s):
  wpAny (model prog w) A (eval (.Subscript value slice pos) env) Q E s:=by
 refine Subscript_ (Vj h (fun o s₁ h₁=>Vj h₁ (fun i s₂ h₂=>?_) fun _ _ x=>x) fun _ _ x=>x);obtain⟨hT,h₂⟩:=h₂;unfold subscriptTail;refine Ug ?_;rw[getitemInPython_of_ne hT.not_modules];refine Ug (WN hT hl ?_);have fin:wpAny (model prog w) A (subscripted slice false o i) (fun r s₃=>wpAny (model prog w) A (letTemporaryGo value o r >>=fun _=>pure r) Q E s₃) E s₂:=by
  rw[hs o i];exact wpAny_operating (Vj h₂ (fun r s₃ h₃=>Ug (wpAny_letTemporaryGo (Uk h₃))) fun _ _ x=>x)
 first
  | exact Uk (Ug fin)
  | exact Ug (Uk (Ug fin))
  | exact Ug fin
theorem Ae(I:Inv X pins σ H s)(g:uW H a y o):s.TypeIs (.ref a) "dict":=by
 rcases g with⟨kvs,k,e,_,_⟩ |⟨kvs,k,b,e,_,_,_⟩
 ·obtain⟨_,_,vs,_,dd⟩:=vV I.bj e;exact dd.typeIs
 ·obtain⟨_,_,xs,_,dd⟩:=Ab I.bj e;exact dd.typeIs
theorem nU(h:Heap)(hb:sysModules < h.objs.size):b6 P w H (h.push {cls:=.type "dict",data:=.dict #[]}) h.objs.size (.dK []):=
 ⟨Va _,WX.mpr (VA (UQ hb)),[],.nil,Heap.DictOf.new h⟩
def Mf:TE:=fun _ H Q=>∀p,H p=none->Q (.ref p) (upd H p (.dK []))
theorem G3:PE X (.Dict [] [] pos) Mf:=fun pins s σ H Q I h=>
 wpAny_Dict_empty ⟨.ref s.heap.objs.size,_,I.laid (a:=s.heap.objs.size) (o:=.dK []) (t':=s.toks) (fun _ _ q=>Uj _ q) (Us _) (nU s.heap I.big),rfl,h _ (I.bj.fresh (Us _))⟩
def wF:List (TE×TE)->St->Hp->(List (V×V)->Hp->Prop)->Prop
 | [],_,H,Q=>Q [] H
 |(tk,tv)::r,σ,H,Q=>tk σ H fun x H1=>tv σ H1 fun y H2=>wF r σ H2 fun ps H3=>Q ((x,y)::ps) H3
abbrev VV:List (V×V)->List (Value×Value)->Prop:=Paired fun p q=>RelV p.1 q.1∧RelV p.2 q.2
def O2(X:Cx)(pos:Pos)(keys:List (Option Expr))(values:List Expr)(trs:List (TE×TE)):Prop:=
 ∀(pins:List (Addr×Obj)) (s:Shared) (σ:St) (H:Hp) (Q:List (V×V)->Hp->Prop),Inv X pins σ H s->wF trs σ H Q->
  wpAny (model X.prog X.w) X.A (evalPairs (pairTrees keys values X.env pos)) (fun vs s'=>∃ps H',Inv X pins σ H' s'∧VV ps vs∧Q ps H') X.xe s
theorem JN:O2 X pos [] [] []:=fun pins s σ H Q I h=>pairTrees_nil_walk ⟨[],H,I,.nil,h⟩
theorem GW(hk:PE X k tk)(hv:PE X v tv)(hr:O2 X pos ks vs trs):
  O2 X pos (some k::ks) (v::vs) ((tk,tv)::trs):=fun pins s σ H Q I h=>
 pairTrees_cons_walk (cq (hk pins s σ H _ I h) fun u s1 ⟨x,H1,I1,rx,q1⟩=>cq (hv pins s1 σ H1 _ I1 q1) fun w2 s2 ⟨y,H2,I2,ry,q2⟩=>
  cq (hr pins s2 σ H2 _ I2 q2) fun ws s3 ⟨ps,H3,I3,rel,q3⟩=>⟨(x,y)::ps,H3,I3,.cons ⟨rx,ry⟩ rel,q3⟩)
noncomputable def bI(kvs more:List (Key×V)):List (Key×V):=more.foldl (fun acc kv=>putK acc kv.1 kv.2) kvs
theorem KV.merge:∀{more:List (Key×V)} {rs:List (Key×Value)} {kvs:List (Key×V)} {vs:List (Key×Value)},KV more rs->KV kvs vs->KV (bI kvs more) (merged vs rs):=by
 intro more rs kvs vs r;unfold KV at r
 induction r generalizing kvs vs with
 | nil=>intro q;exact q
 | @cons p q ps qs h t ih=>
  intro r0;have e:KV (putK kvs p.1 p.2) (stored vs q.1 q.2):=by
   have:=r0.put p.1 h.2;rw[←h.1];exact this
  exact ih e
theorem il:∀(more kvs:List (Key×V)),(bI kvs more).length≤kvs.length+more.length
 | [],kvs=>by show kvs.length≤kvs.length+0;lia
 | p::r,kvs=>by
  have h1:=il r (putK kvs p.1 p.2);have h2:=gX kvs p.1 p.2;show(bI (putK kvs p.1 p.2) r).length≤_;rw[Uw];lia
theorem tP:∀{kvs:List (Key×V)} {ws:List (Value×Value)},VV (kvs.map fun kv=>(kV kv.1,kv.2)) ws->∃rs,Carries (bF P w) ws rs∧KV kvs rs
 | [],_,r=>by rw[VQ] at r;cases r;exact⟨[],True.intro,.nil⟩
 | p::kvs,_,r=>by
  rw[Uv] at r;cases r with
  | @cons a b as bs h t=>
   obtain⟨rs,c,q⟩:=tP (P:=P) (w:=w) t;obtain⟨b1,b2⟩:=b;exact⟨(p.1,b2)::rs,⟨nD h.1,rfl,c⟩,.cons ⟨rfl,h.2⟩ q⟩
def Lr(trs:List (TE×TE)):TE:=fun σ H Q=>∀p,H p=none->wF trs σ (upd H p (.dK [])) fun ps H2=>H2 p=some (.dK [])∧∃kvs:List (Key×V),ps=kvs.map (fun kv=>(kV kv.1,kv.2))∧kvs.length≤15∧Q (.ref p) (upd H2 p (.dK (bI [] kvs)))
theorem Ka(h:O2 X pos keys values trs)(hall:keys.all (·.isSome)=true)(hl:keys.length=values.length)(h0:keys≠[])(h15:keys.length≤15):PE X (.Dict keys values pos) (Lr trs):=by
 intro pins s σ H Q I q;have hn:=I.bj.fresh (Us s.heap.objs.size);have I1:=I.laid (a:=s.heap.objs.size) (o:=.dK []) (h':=s.heap.push {cls:=.type "dict",data:=.dict #[]}) (t':=s.toks) (fun _ _ q=>Uj _ q) (Us _) (nU s.heap I.big);refine wpAny_Dict_walk (knd:=bF X.prog X.w) hall hl h0 h15 (cq (h pins _ σ _ _ I1 (q _ hn)) fun ws s2 ⟨ps,H2,I2,rel,e,kvs,ep,lk,q2⟩=>?_);subst ep;obtain⟨rs,c,rk⟩:=tP (P:=X.prog) (w:=X.w) rel;obtain⟨z,hd,vs0,r0,dd⟩:=vW I2.bj e;cases r0;refine⟨rs,c,dd,fun h' dd' hs=>⟨.ref s.heap.objs.size,_,?_,rfl,q2⟩⟩;have hz:(bI [] kvs).length≤sizeLine:=by
  have h1:=il kvs [];rw[Vx] at h1;rw[VH];lia
 have he:∃q,h'.get? s.heap.objs.size=some q:=let⟨q,_,_,hq,_⟩:=dd';⟨q,hq⟩;exact k8 I2 (by rw[e];exact True.intro) hs he (yc hz hd (rk.merge .nil) dd')
end L2
namespace Att
open PySem PySem.W PySem.Calls PyProof.Rows
theorem qV:∀(ns:List Int)(vs:List Value),WellAll P h vs (ns.map WData.int)->IntsAre vs ns:=by
 intro ns
 induction ns with
 | nil=>
  intro vs w;rw[VQ] at w;cases w;exact .nil
 | cons n ns ih=>
  intro vs w;rw[Uv] at w;cases w with
  | cons a b=>
   cases a;exact .cons _ _ (ih _ b)
theorem D6{l:OpenLaw}{n:Nat}(hn:l.most=some n){P:Params}{h:Heap}{args:List WData}{vals:List Value}
  (hpre:l.row.toRowW.claim.pre args=true) (hwl:WellAll P h vals args):
  ∃a vs ns,vals=[Value.ref a]∧args=[WData.list (ns.map WData.int)]∧h.get? a=some {cls:=.type "list",data:=.seq vs.toArray}∧IntsAre vs ns∧ns.length≤n:=by
 have hsh:WShape.hasAll [] args [.list .int]=true:=(pre_splitW hpre).1;have hc:l.pre.holds [] {args:=args}=true:=(pre_splitW hpre).2;obtain⟨d,r,rfl,h1,h2⟩:=hasAllW_cons hsh;obtain rfl:=hasAllW_nil h2;obtain⟨xs,rfl,h3⟩:=hasW_list h1;obtain⟨ns,rfl⟩:=items_int h3;have hlen:ns.length≤n:=by
  unfold OpenLaw.pre at hc;have h4:(WTm.not (.lt (.lit (.int (n:Int))) (.len (.arg 0)))).holds [] {args:=[.list (ns.map .int)]}=true:=by
   have h4:=(holds_andW hc).1;rw[hn] at h4;exact h4
  have h5:=condW_of h4 (w_not (w_lt w_lit (w_len_list (w_arg rfl))));rw[Uh] at h5;refine Nat.le_of_not_lt fun q=>?_;have q':(n:Int) < ((ns.length:Nat):Int):=by lia
  first
   |(rw[Ve q'] at h5;exact absurd h5 (by decide))
   |(simp at h5;lia)
 cases hwl with
 | cons w1 w2=>
  cases w2;cases w1 with
  | list ho hall=>exact⟨_,_,ns,rfl,rfl,ho,qV ns _ hall,hlen⟩
theorem Eo(l:OpenLaw)(args:List WData):l.row.toRowW.claim.post args (.bool true) args=true:=
 postW_of (r:=l.row.toRowW) (X:=(true==true))
  (show WShape.has [] (.bool true) .bool=true by first | rfl | decide | simp[WShape.has,WShape.arms,WShape.armsAll])
  (show(WTm.eq .res (.lit (.bool true))).value [] {args:=args,res:=some (.bool true),after:=args}=some (.bool (true==true)) from w_eq_bool (w_res rfl) w_lit) rfl
theorem Ap{l:OpenLaw}{n:Nat}{q:Program}{loose:List Str}{XP:(Str->Option Value)->Heap->Prop}{YP:World->Heap->Prop}{d:DefRec}
  (hn:l.most=some n) (hdf:d.params.defaults=[])
  (call:∀(w:World)(s₀ s₁:Shared)(mg mb:Str->Option Value)(fa:Addr)(o:Obj)(pm cd doc:Value)(a:Addr)(vs:List Value)(ns:List Int),
   Ground q loose [] XP w s₀ mg mb s₁.heap->YP w s₁.heap->
   s₁.heap.get? fa=some o->o.data=.func (docDef d.name d.params d.body d.scope pm cd doc)->s₁.heap.CodeRec cd d.name->mg d.name=some (.ref fa)->
   s₁.heap.get? a=some {cls:=.type "list",data:=.seq vs.toArray}->IntsAre vs ns->ns.length≤n->s₁.gens=#[]->
   codeAny (model l.prog w) callerA (.call (.ref fa) ⟨[.ref a],[]⟩) (fun r s'=>r=.ok (.ret (.bool true))∧OldK s₁.heap s'.heap∧s'.os=s₁.os∧AllBare s'.gens) s₁):
  WalkO q loose XP YP l.row.toRowW d [] (fun f vs=>PySem.call f vs):=by
 intro w s₀ s₁ mg mb G Y fa o pm cd doc dV kV ho hd hcd hD hmg hg args vals as hpre hlay hrd hwl hlo;obtain rfl:dV=.none:=Dflts.none hD hdf;obtain rfl:kV=.none:=Dflts.noKw hD;obtain⟨a,vs,ns,rfl,rfl,hobj,hints,hlen⟩:=D6 hn hpre hwl;refine enter_call (XQ (call w s₀ s₁ mg mb fa o pm cd doc a vs ns G Y ho (fd_plain hd) hcd hmg hobj hints hlen hg) fun r s' hq=>?_);obtain⟨rfl,h2,h3,h4⟩:=hq;exact⟨.inl ⟨.bool true,.bool true,[],rfl,fun _=>rfl,.bool true,Eo l _,fun _=>⟨List.Pairwise.nil,fun _ hm=>(nomatch hm)⟩⟩,h2,h3,h4⟩
section
variable {prog:Program} {w:World} {A:Around} {E:Value->Shared->Prop} {s:Shared} {K:Frag}
end
end Att
namespace L2
open PySem PySem.Spec PyProof.Rows
theorem kK:∀{vs:List Value} {ns:List Int},IntsAre vs ns->Vals (ns.map V.int) vs
 | _,_,.nil=>.nil
 | _,_,.cons n t h=>.cons ⟨t,rfl⟩ (kK h)
def Q6(H:Hp):Prop:=∀b,H b=none∨∃o xs,H b=some (.Dm o (.lst xs))
theorem Hx{P:Program}{w:World}{K:FR}{mg mb:Str->Option Value}{CX:Ln}{k:Nat}{fa a:Addr}{fd:FuncData}{x:Str}{sp:Sp}{s₁:Shared}{vs:List Value}{ns:List Int}
  (KX:K.In s₁.heap) (hns:s₁.heap.Ns mainGlobals mg) (hb:s₁.heap.Ns builtinsNs mb) (hbb:∀x:Str,x≠"__name__"->mb x=bootBuiltins x) (hlim:s₁.heap.NoLimit) (hg:s₁.gens=#[])
  (ha:s₁.heap.get? a=some {cls:=.type "list",data:=.seq vs.toArray}) (hi:IntsAre vs ns) (hl:ns.length≤sizeLine) (hr:gL k callerA)
  (F:∀base:Heap,K.In base->base.Ns mainGlobals mg->aX P w K mg base CX k fa fd [x] sp) (hbind:∀(s:Shared)(u:Value),BindsTo s fd ⟨[u],[]⟩ [(x,u)])
  (hsp:∀H:Hp,Q6 H->fR K H a (ns.map V.int)->sp [.ref a] H (fun v _=>v=.bl true) fun _ _ _=>False)
  (hCX:∀H e s',CX [] H s₁ (fun _ _ _=>False) e s'->False):
  codeAny (model P w) callerA (.call (.ref fa) ⟨[.ref a],[]⟩) (fun r s'=>r=.ok (.ret (.bool true))∧OldK s₁.heap s'.heap∧s'.os=s₁.os∧AllBare s'.gens) s₁:=by
 have rv:=kK hi;have lenV:=hi.length;have core:∀H:Hp,Q6 H->fR K H a (ns.map V.int)->iM P w H s₁.heap->(∀b,H b≠none->b=a)->(H a≠none->K.lookup a=none)->
   codeAny (model P w) callerA (.call (.ref fa) ⟨[.ref a],[]⟩) (fun r s'=>r=.ok (.ret (.bool true))∧OldK s₁.heap s'.heap∧s'.os=s₁.os∧AllBare s'.gens) s₁:=by
  intro H hO hS bj hA hK;have base_of:∀{b:Addr} {o:Obj},s₁.heap.get? b=some o->H b=none->(xW s₁.heap H).get? b=some o:=fun e n=>HA e n;have noA:∀{b:Addr} {o:Obj} {es:Array DictEntry} {ep:Nat},s₁.heap.get? b=some o->o.data=.dict es ep->H b=none:=fun {b o es ep} e d=>by
   cases q:H b with
   | none=>rfl
   | some u=>
    have e':b=a:=hA b (by rw[q];simp);subst e';rw[ha] at e;cases e;have d':Data.seq vs.toArray _=Data.dict es ep:=d;cases d'
  have nsK:∀{b:Addr} {m:Str->Option Value},s₁.heap.Ns b m->(xW s₁.heap H).Ns b m:=fun {b m} ⟨o,es,ep,e,d,r⟩=>⟨o,es,ep,base_of e (noA e d),d,r⟩;have hKb:K.In (xW s₁.heap H):=fun b o e=>base_of (KX b o e) (by
   cases q:H b with
   | none=>rfl
   | some u=>
    have e':b=a:=hA b (by rw[q];simp);subst e';rw[hK (by rw[q];simp)] at e;cases e)
  have hM:Mod K mg (xW s₁.heap H):=⟨hKb,nsK hns,⟨mb,nsK hb,hbb⟩,let⟨mc,h1,h2⟩:=hlim;⟨mc,nsK h1,h2⟩⟩;have e0:Ll P w K mg (xW s₁.heap H) callerA [] s₁ H:=⟨rfl,hM,fun b o e=>Kj e,Nat.le_of_eq (E1 _ _),trivial,fun b hb=>absurd (show b∈([]:List Addr) from hb) (by simp),bj,.of_eq hg⟩;refine XQ ((F _ hKb (nsK hns)).run callerA [] s₁ H ⟨[.ref a],[]⟩ [.ref a] [.ref a] _ _ hr e0 (hbind s₁ (.ref a)) (.cons rfl .nil) (hsp H hO hS)) fun r s' h=>?_;cases r with
  | error e=>exact(hCX H e s' h).elim
  | ok fl=>
   cases fl with
   | next=>exact False.elim h
   | brk=>exact False.elim h
   | cont=>exact False.elim h
   | ret u=>
    obtain⟨v,H',os,bare,un,hok',r',q⟩:=h;have q':v=.bl true:=q;subst q';obtain rfl:u=Value.bool true:=r';refine⟨rfl,OldK.of_keep fun b o e=>?_,os,bare⟩;cases q:H b with
    | none=>exact un.keep b o e q (by intro z;exact absurd (show b∈([]:List Addr) from z) (by simp)) (by simp)
    | some u=>
     rcases hO b with z |⟨ob,xs,z⟩
     ·rw[q] at z;cases z
     ·have z2:=un.uR b ob _ z;obtain⟨e1,_⟩:=bj b _ z;obtain⟨e2,_⟩:=hok' b _ z2;rw[e] at e1;cases e1;exact e2
 cases hk:K.lookup a with
 | some o=>
  have e:=KX a o hk;rw[ha] at e;cases e;refine core (fun _=>none) (fun _=>.inl rfl) (.inr ⟨_,vs.toArray,_,hk,rfl,rfl,rfl,by rw[UA,lenV];exact hl,by simpa using rv⟩) (fun b u z=>by have z':(none:Option HO)=some u:=z;cases z') (fun b z=>absurd rfl z) fun z=>absurd rfl z
 | none=>
  refine core (fun b=>if b=a then some (.Dm {cls:=.type "list",data:=.seq vs.toArray} (.lst (ns.map V.int))) else none) (fun b=>?_) (.inl (.inr ⟨{cls:=.type "list",data:=.seq vs.toArray},Ut rfl⟩)) (fun b u z=>?_) (fun b z=>?_) fun _=>hk
  ·by_cases hb:b=a
   ·exact .inr ⟨_,_,Ut hb⟩
   ·exact .inl (Uu hb)
  ·by_cases hb:b=a
   ·have z':=(Ut hb).symm.trans z;cases z';subst hb;exact⟨ha,by rw[Uh];exact hl,vs,_,rv,ha⟩
   ·have z':=(Uu hb).symm.trans z;cases z'
  ·by_cases hb:b=a
   ·exact hb
   ·exact absurd (Uu hb) z
noncomputable def nV(s:Stmt):Arguments:=match s with
 | .FunctionDef _ a _ _ _ _ _ _ _ _=>a
 | _=>{posonlyargs:=[],args:=[],vararg:=none,kwonlyargs:=[],kw_defaults:=[],kwarg:=none,defaults:=[]}
noncomputable def g0(s:Stmt):List Stmt:=match s with
 | .FunctionDef _ _ b _ _ _ _ _ _ _=>b
 | _=>[]
noncomputable def ag(s:Stmt):Scope:=match s with
 | .FunctionDef _ _ _ _ _ _ sc _ _ _=>sc
 | _=>{kind:=.function,names:=[],isGenerator:=false,isCoroutine:=false}
abbrev de:Ln:=fun _ _ _ _ _ _=>False
abbrev E0:XK:=fun _ _ _=>False
theorem Qc:Passes de X E0:=fun _ _ _ _ _ _ _ h=>h.elim
structure dI(K:FR)(x qual:Str)(st:Stmt)(f:Addr)(fd:FuncData):Prop where
 ex:∃(oc:Value)(od:Option Addr)(kV doc pm:Value)(an:Option Addr)(cdv ct:Value)(osl:Array (Option Value)),
  fd=PySem.W.fnOf x qual (nV st) (g0 st) (ag st) .none kV doc pm an cdv ct∧K.lookup f=some ⟨oc,od,.func fd,osl⟩∧PySem.W.codeIn K cdv qual=true
 kp:PySem.W.keepIn K (.ref f)=true
section
variable {P:Program} {w:World} {K:FR} {mg:Str->Option Value} {base:Heap}
theorem dI.ok{x qual:Str}{st:Stmt}{f:Addr}{fd:FuncData}{N ps:List Str}{k:Nat}{sp:Sp}(F:dI K x qual st f fd)(S:aq N ps (ag st))(len:∀vs H Q E,sp vs H Q E->vs.length=ps.length)
  (hbody:∀(cdv:Value)(A:Around)(outer:List Env)(s:Shared)(H:Hp)(vs:List V)(Q:VK)(E:XK),gL k (A.deeper (envOfC qual (ag st) s.heap.objs.size f cdv))->sp vs H Q E->
   ∃t,Ax (Af de P w K mg base N qual (ag st) f cdv A outer s H E).OX (g0 st) t∧t {nx:=fun _ H'=>Q .bz H',rt:=Q} (start N vs) H):aX P w K mg base de (k+1) f fd ps sp:=by
 obtain⟨oc,od,kV,doc,pm,an,cdv,ct,osl,rfl,lk,hcd⟩:=F.ex;refine Qt lk hcd S len fun A outer s H vs Q E hr hsp=>?_;obtain⟨t,h,q⟩:=hbody cdv A outer s H vs Q E hr hsp;exact⟨t,h.OX,q⟩
theorem dI.binds{x qual:Str}{st:Stmt}{f:Addr}{fd:FuncData}{ps:List Str}(F:dI K x qual st f fd)
  (h:∀(kV doc pm:Value)(an:Option Addr)(cdv ct:Value)(us:List Value),us.length=ps.length->bindArgs (PySem.W.fnOf x qual (nV st) (g0 st) (ag st) .none kV doc pm an cdv ct) ⟨us,[]⟩=pure (ps.zip us)):Binds K fd ps []:=by
 obtain⟨oc,od,kV,doc,pm,an,cdv,ct,osl,rfl,lk,hcd⟩:=F.ex;exact .all (h kV doc pm an cdv ct)
end
theorem Fo:fT X (.builtin "len") (fun xs H Q=>∃a kvs,xs=[V.ref a]∧H a=some (.dK kvs)∧Q (.int kvs.length) H):=by
 intro pins s σ H xs us Q I r h;obtain⟨a,kvs,rfl,ha,q⟩:=h;obtain⟨u,rfl,ru⟩:=vals1 r;cases ru;exact Qz I (.inl ha) fun t s' I'=>⟨.int kvs.length,H,I',⟨t,rfl⟩,q⟩
theorem NT{A B:Prop}(h:B):if false=true then A else B:=by
 rw[Uu U0];exact h
theorem NS{A B:Prop}(h:A):if true=true then A else B:=by
 rw[Ut rfl];exact h
section
variable {κ:Type} [DecidableEq κ]
end
theorem iM.off(ok:iM P w H h)(hC:H C=none)(k:∀b u,b≠C->h.get? b=some u->h'.get? b=some u):iM P w H h':=by
 intro a o e;have ne:a≠C:=by rintro rfl;rw[hC] at e;cases e
 refine(ok a o e).wI (fun b u hb q=>k b u ?_ q) (fun _ x=>x) (fun _ _ x=>x);rcases hb with rfl | hb
 ·exact ne
 ·rintro rfl;rw[hC] at hb;cases hb
noncomputable def iw(env:Env):List (Str×NameKind)->List (Str×Addr)->List (Str×Addr)
 | [],acc=>acc
 |(n,k)::r,acc=>if(k==NameKind.free)=true then iw env r ((n,(env.cells.lookup n).getD 0)::acc) else iw env r acc
theorem mJ(h:∀y∈scope.names,y.2=.free->∃c,env.cells.lookup y.1=some c):closureFor scope env=pure (iw env scope.names []):=by
 have key:∀(names:List (Str×NameKind)) (acc:List (Str×Addr)),(∀y∈names,y.2=.free->∃c,env.cells.lookup y.1=some c)->
   (forIn names acc (fun(x:Str×NameKind)(r:List (Str×Addr))=>match x with
    |(name,kind)=>if(kind==NameKind.free)=true then do let a←cellOf env name;pure (ForInStep.yield ((name,a)::r)) else pure (ForInStep.yield r)):Sem (List (Str×Addr)))=pure (iw env names acc):=by
  intro names
  induction names with
  | nil=>intro acc _;rfl
  | cons y r ih=>
   intro acc hy;obtain⟨n,k⟩:=y;have hr:=fun a=>ih a fun z hz=>hy z (Ur _ hz);rw[WW];unfold iw
   by_cases hk:(k==NameKind.free)=true
   ·have hk':k=.free:=by simpa using hk
    obtain⟨c,hc⟩:=hy (n,k) Uo hk';have e:cellOf env n=pure c:=by unfold cellOf;rw[hc]
    simp only[hk,Wy,e,hc,Option.getD_some];exact hr _
   ·simp only[hk,Vu];exact hr _
 have k:=key scope.names [] h;unfold closureFor;dsimp only;rw[k];rfl
theorem pV:∀(names:List (Str×NameKind)) (acc:List (Str×Addr)),(∀y∈names,y.2=.free->∃c,env.cells.lookup y.1=some c)->
  (∀d,acc.lookup x=some d->env.cells.lookup x=some d)->(iw env names acc).lookup x=some c->env.cells.lookup x=some c
 | [],acc,_,ha,h=>ha c h
 |(n,k)::r,acc,hy,ha,h=>by
  unfold iw at h;have hr:=fun z hz=>hy z (Ur _ hz)
  by_cases hk:(k==NameKind.free)=true
  ·rw[Ut hk] at h;refine pV r _ hr (fun d hd=>?_) h;have hk':k=.free:=by simpa using hk
   obtain⟨c',hc⟩:=hy (n,k) Uo hk';rw[Vi] at hd;cases hx:x==n with
   | true=>
    rw[hx] at hd;have e:x=n:=by simpa using hx
    rw[e,hc];rw[hc] at hd;exact hd
   | false=>
    rw[hx] at hd;exact ha d hd
  ·rw[Uu hk] at h;exact pV r _ hr ha h
theorem tN:∀(names:List (Str×NameKind)) (acc:List (Str×Addr)),(∃c,acc.lookup x=some c)->∃c,(iw env names acc).lookup x=some c
 | [],_,h=>h
 |(n,k)::r,acc,h=>by
  unfold iw
  by_cases hk:(k==NameKind.free)=true
  ·rw[Ut hk];refine tN r _ ?_;rw[Vi];cases hx:x==n with
   | true=>exact⟨_,rfl⟩
   | false=>exact h
  ·rw[Uu hk];exact tN r _ h
theorem nZ:∀(names:List (Str×NameKind)) (acc:List (Str×Addr)),(x,NameKind.free)∈names->∃c,(iw env names acc).lookup x=some c
 | [],_,h=>by cases h
 |(n,k)::r,acc,h=>by
  unfold iw;rcases UE.mp h with e | h'
  ·injection e with e1 e2
   subst e1 e2;rw[Ut (by rfl)];refine tN r _ ⟨(env.cells.lookup x).getD 0,?_⟩;rw[Vi,We]
  ·by_cases hk:(k==NameKind.free)=true
   ·rw[Ut hk];exact nZ r _ h'
   ·rw[Uu hk];exact nZ r _ h'
theorem i5{env:Env}:∀{names:List (Str×NameKind)} {x:Str} {j:NameKind},
  (names.map fun(n,k)=>if(k==NameKind.free&&env.scope.kind==.function&&env.kindOf n==some .cell) then(n,NameKind.cell) else(n,k)).lookup x=some j->
  ∃k,names.lookup x=some k∧(j=k∨(k=.free∧j=.cell))
 | [],_,_,h=>by simp at h
 |(n,k)::r,x,j,h=>by
  have h':List.lookup x ((if(k==NameKind.free&&env.scope.kind==.function&&env.kindOf n==some .cell)=true then(n,NameKind.cell) else(n,k))::_)=some j:=h;rw[Vi];cases hx:x==n with
  | true=>
   refine⟨k,rfl,?_⟩
   by_cases hc:(k==NameKind.free&&env.scope.kind==.function&&env.kindOf n==some .cell)=true
   ·rw[Ut hc,Vi,hx] at h';simp only[UJ,VO] at hc;exact .inr ⟨hc.1.1,(Option.some.inj h').symm⟩
   ·rw[Uu hc,Vi,hx] at h';exact .inl (Option.some.inj h').symm
  | false=>
   by_cases hc:(k==NameKind.free&&env.scope.kind==.function&&env.kindOf n==some .cell)=true
   ·rw[Ut hc,Vi,hx] at h';exact i5 h'
   ·rw[Uu hc,Vi,hx] at h';exact i5 h'
theorem i6{env:Env}:∀{names:List (Str×NameKind)} {x:Str},names.lookup x=some .free->
  (names.map fun(n,k)=>if(k==NameKind.free&&env.scope.kind==.function&&env.kindOf n==some .cell) then(n,NameKind.cell) else(n,k)).lookup x=some .cell∨
  (names.map fun(n,k)=>if(k==NameKind.free&&env.scope.kind==.function&&env.kindOf n==some .cell) then(n,NameKind.cell) else(n,k)).lookup x=some .free
 | [],_,h=>by simp at h
 |(n,k)::r,x,h=>by
  rw[Uv];show List.lookup x ((if(k==NameKind.free&&env.scope.kind==.function&&env.kindOf n==some .cell)=true then(n,NameKind.cell) else(n,k))::_)=_∨List.lookup x ((if(k==NameKind.free&&env.scope.kind==.function&&env.kindOf n==some .cell)=true then(n,NameKind.cell) else(n,k))::_)=_;rw[Vi] at h;cases hx:x==n with
  | true=>
   rw[hx] at h;have hk:k=.free:=Option.some.inj h
   by_cases hc:(k==NameKind.free&&env.scope.kind==.function&&env.kindOf n==some .cell)=true
   ·rw[Ut hc,Vi,hx];exact .inl rfl
   ·rw[Uu hc,Vi,hx,hk];exact .inr rfl
  | false=>
   rw[hx] at h
   by_cases hc:(k==NameKind.free&&env.scope.kind==.function&&env.kindOf n==some .cell)=true
   ·rw[Ut hc,Vi,hx];exact i6 h
   ·rw[Uu hc,Vi,hx];exact i6 h
abbrev fz(X:Cx)(N':List Str)(scope:Scope)(C:Addr)(s₃:Shared)(H₃:Hp)(fp:List Addr)(pl:List (Addr×Obj)):Cx:=
 {X with N:=N',s₀:=s₃,H₀:=H₃,env:=compEnvC scope (iw X.env scope.names []) C X.env,outer:=X.stack,ex:=fp,fn:=fun _=>false,calm:=true,pn:=X.pn++pl,xe:=fun _ _=>False}
structure a9(X:Cx)(N':List Str)(caps:List (Option Nat))(scope:Scope):Prop where
 kind:scope.kind=.function
 BG:∀y∈scope.names,y.2≠.cell
 names:∀y∈scope.names,y.2=.local->scope.names.lookup y.1=some .local
 Ik:∀y∈scope.names,y.2=.free->X.env.kindOf y.1=some .cell∨X.env.kindOf y.1=some .free
 len:caps.length=N'.length
 Ua:∀(j i:Nat)(x:Str),caps[j]?=some (some i)->N'[j]?=some x->X.N[i]?=some x∧scope.names.lookup x=some .free
 nd:N'.Nodup
noncomputable def pW(caps:List (Option Nat))(σ:St):St:=caps.map fun o=>o.bind fun i=>(σ[i]?).join
theorem a9.has(S:a9 X N' caps scope)(ok:X.Ok):∀y∈scope.names,y.2=.free->∃c,X.env.cells.lookup y.1=some c:=fun y hy e=>ok.has y.1 (S.Ik y hy e)
theorem a9.look(S:a9 X N' caps scope)(ok:X.Ok)(h:(iw X.env scope.names []).lookup x=some c):X.env.cells.lookup x=some c:=
 pV scope.names [] (S.has ok) (fun _ z=>by simp at z) h
theorem Inv.block(S:a9 X N' caps scope)(I:Inv X pins σ H s₃)(hc:X.calm=true)(hf:∀b∈fp,fN X pins H b)(hlt:∀b∈fp,b < s₃.heap.objs.size){h₄:Heap}{t₄:Nat}{m₄:Str->Option Value}
  (hn:h₄.Ns s₃.heap.objs.size m₄) (hk:∀b o,s₃.heap.get? b=some o->h₄.get? b=some o):
  Inv (fz X N' scope s₃.heap.objs.size s₃ H fp pins) [] (pW caps σ) H {s₃ with heap:=h₄,toks:=t₄}:=by
 have ok:=I.ok;have fresh:∀b o,s₃.heap.get? b=some o->b≠s₃.heap.objs.size:=fun b o e=>UQ (UB e);have cellOk:∀x c,(iw X.env scope.names []).lookup x=some c->∃v,s₃.heap.IsCell c v:=fun x c e=>I.cell x c (S.look ok e);refine⟨⟨ok.mod,?_,ok.glob,ok.blt,Us _,?_,?_,?_,fun _=>ok.hd hc,ok.frames,.inl rfl,?_,I.bs,?_,?_,?_,I.stack,I.Cz⟩,rfl,I.bare,Un.kept hk,?_,?_,I.bj.fresh (Us _),?_,?_,I.bj.kept hk,?_⟩
 ·show(relabel scope X.env).kind=.function;exact S.kind
 ·intro x y c h1 h2;exact ok.inj x y c (S.look ok h1) (S.look ok h2)
 ·intro x hx;have hx':(relabel scope X.env).names.lookup x=some .cell∨(relabel scope X.env).names.lookup x=some .free:=hx;have key:∀j,(relabel scope X.env).names.lookup x=some j->j=.cell∨j=.free->∃c,(iw X.env scope.names []).lookup x=some c:=by
   intro j hj hjk;obtain⟨k,hk1,hk2⟩:=i5 hj;have hm:=VJ hk1;have hkf:k=.free:=by
    rcases hk2 with rfl |⟨e,_⟩
    ·rcases hjk with rfl | e
     ·exact absurd rfl (S.BG _ hm)
     ·exact e
    ·exact e
   subst hkf;exact nZ scope.names [] hm
  rcases hx' with h | h
  ·exact key _ h (.inl rfl)
  ·exact key _ h (.inr rfl)
 ·intro x c h _;exact absurd (show false=true from h) (by decide)
 ·intro b hb;refine⟨UQ (hlt b hb),fun x c h=>(hf b hb).2.2.2.2.1 x c (S.look ok h)⟩
 ·exact UL ok.LN I.sz
 ·intro b o e hb;rcases(hf b hb).2.2.2.1 with z | z
  ·exact ok.Hm b o e z
  ·exact absurd (UN (UB e) ok.LN) (Nat.not_lt.mpr z)
 ·intro b hb z;rcases UE.mp (I.oD b z) with e | e
  ·exact(hf b hb).2.1 e
  ·exact(hf b hb).2.2.1 e
 ·refine⟨m₄,hn,fun j x v e1 e2 e3=>?_⟩;have e2':(caps.map fun o=>o.bind fun i=>(σ[i]?).join)[j]?=some (some v):=e2;rw[Ux] at e2';cases hcj:caps[j]? with
  | none=>rw[hcj] at e2';cases e2'
  | some oi=>
   rw[hcj] at e2';have e2'':(oi.bind fun i=>(σ[i]?).join)=some v:=Option.some.inj e2';cases oi with
   | none=>cases e2''
   | some i=>
    have hσ:(σ[i]?).join=some v:=e2'';have hσ':σ[i]?=some (some v):=by
     cases hs:σ[i]? with
     | none=>rw[hs] at hσ;cases hσ
     | some w=>rw[hs] at hσ;rw[show w=some v from hσ]
    obtain⟨hX,hfr⟩:=S.Ua j i x hcj e1;obtain⟨m,_,hl⟩:=I.loc;have hcgt:=S.Ik _ (VJ hfr) rfl;have hvis:QQ X.env.scope x:=by
     rcases hcgt with z | z
     ·exact .inr (.inl z)
     ·exact .inr (.inr z)
    obtain⟨u,ru,lk⟩:=hl i x v hX hσ' hvis;refine⟨u,ru,.inr ⟨?_,?_⟩⟩
    ·exact i6 hfr
    ·obtain⟨c,hcc⟩:=nZ (env:=X.env) scope.names [] (VJ hfr);refine⟨c,hcc,?_⟩;rcases lk with⟨z,_⟩ |⟨_,c',hc',hcell⟩
     ·have z':X.env.kindOf x=some .local:=z;rcases hcgt with q | q
      ·rw[z'] at q;cases q
      ·rw[z'] at q;cases q
     ·have:=S.look I.ok hcc;rw[this] at hc';cases hc';obtain⟨o,ho,hd⟩:=hcell;exact⟨o,hk _ _ ho,hd⟩
 ·intro x c h;obtain⟨v,o,ho,hd⟩:=cellOk x c h;exact⟨v,o,hk _ _ ho,hd⟩
 ·intro x c h;exact I.kq x c (S.look ok h)
 ·intro p hp;have hp':p∈X.pn++pins:=by
   rcases U5.mp hp with z | z
   ·exact z
   ·cases z
  obtain⟨e,n,ne,nf,d⟩:=I.pin p hp';refine⟨hk _ _ e,n,fresh _ _ e,fun z=>?_,d⟩;rcases UE.mp (I.oD p.1 z) with q | q
  ·exact ne q
  ·exact nf q
 ·show(caps.map _).length=N'.length;rw[Uh];exact S.len
theorem Inv.q5(S:a9 X N' caps scope)(I:Inv X pins σ H s₃)(hf:∀b∈fp,fN X pins H b)(J:Inv (fz X N' scope s₃.heap.objs.size s₃ H fp pins) [] τ H' s')(hs:∀b u,b≠s₃.heap.objs.size->s'.heap.get? b=some u->h''.get? b=some u):Inv X pins σ H' {s' with heap:=h''}:=by
 have hC:H' s₃.heap.objs.size=none:=J.free;have u:Un (FA X.stack) fp H H' s₃.heap h'':=by
  have b:=J.base;have ne:∀x o,s₃.heap.get? x=some o->x≠s₃.heap.objs.size:=fun x o e=>UQ (UB e);refine⟨fun x o e n hx hb=>hs _ _ (ne x o e) (b.keep x o e n hx hb),fun x o e n hx hb=>?_,b.free,fun x o e hb=>?_,b.qA,b.uR,b.wD⟩
  ·obtain⟨sl,q⟩:=b.slot x o e n hx hb;exact⟨sl,hs _ _ (ne x o e) q⟩
  ·obtain⟨o',q⟩:=b.there x o e hb;exact⟨o',hs _ _ (ne x o e) q⟩
 exact I.call' (s':={s' with heap:=h''}) (ch:=fp) J.os u (J.bj.off hC hs) J.bare fun b hb=>⟨(hf b hb).2.2.2.1,(hf b hb).2.1,(hf b hb).2.2.2.2.1,(hf b hb).2.2.2.2.2⟩
def IK(X:Cx)(ifs:List Expr)(t:TT):Prop:=
 ∀(pins:List (Addr×Obj)) (s:Shared) (σ:St) (H:Hp) (Q:Bool->Hp->Prop),Inv X pins σ H s->t σ H Q->
  wpAny (model X.prog X.w) X.A (forIn ifs true fun c r=>if r=true then do let ok←isTrue c X.env (eval c X.env);pure (ForInStep.yield ok) else pure (ForInStep.yield r)) (TP X pins σ Q) X.xe s
def bU:TT:=fun _ H Q=>Q true H
theorem JW:IK X [] bU:=fun pins s σ H Q I h=>wpAny_tests_nil ⟨H,I,h⟩
theorem JV(h:PT X c t):IK X [c] t:=fun pins s σ H Q I q=>wpAny_tests_one (h pins s σ H Q I q)
def Ra(J:It)(g:TG)(tc:TT)(te:TE)(l:Addr)(Q:VK)(τ0:St)(H0:Hp):Prop:=
 ∃W:Nat->Nat->St->Hp->Prop,(∃m,W 0 m τ0 H0)∧∀i m τ H2,W i m τ H2->
  (J.stop i H2∧Q (.ref l) H2)∨(J.go i H2∧∃N:St->Hp->Prop,(∀τ' H',N τ' H'->∃m',m' < m∧W (i+1) m' τ' H')∧∀x H',J.Lo i H2 x H'->g x τ H' fun τ2 H3=>
   tc τ2 H3 fun b H4=>if b=true then te τ2 H4 fun y H5=>∃xs,H5 l=some (.lst xs)∧xs.length < sizeLine∧N τ2 (upd H5 l (.lst (xs++[y]))) else N τ2 H4)
def FQ(caps:List (Option Nat))(wi:TI)(g:TG)(tc:TT)(te:TE):TE:=fun σ H Q=>wi σ H fun J H1=>∀l,H1 l=none->Ra J g tc te l Q (pW caps σ) (upd H1 l (.lst []))
theorem Pd(h:wpAny M A t Q (fun _ _=>False) s):wpAny M A t Q E s:=Vj h (fun _ _ q=>q) fun _ _ f=>f.elim
theorem Fi(S:a9 X N' caps scope)(hc:X.calm=true)(hg:∀C s₃ H₃ fp pl,PG (fz X N' scope C s₃ H₃ fp pl) tg g)(hif:∀C s₃ H₃ fp pl,IK (fz X N' scope C s₃ H₃ fp pl) ifs tc)
  (he:∀C s₃ H₃ fp pl,PE (fz X N' scope C s₃ H₃ fp pl) elt te) {pins:List (Addr×Obj)} {σ:St} {H3:Hp} {s3:Shared} {h₁:Heap} {t₁:Nat} {m₁:Str->Option Value} {it l:Addr} {fp:List Addr} {tn:Nat->Heap->Prop} {J:It}
  (I3:Inv X pins σ H3 s3) (T:Turn X.prog X.w X.K tg J fp it tn) (st3:tn 0 h₁) (hf3:∀b∈fp,fN X pins H3 b) (hlt3:∀b∈fp,b < s3.heap.objs.size) (hns₁:h₁.Ns s3.heap.objs.size m₁) (keep3:∀b o,s3.heap.get? b=some o->h₁.get? b=some o)
  {Q:VK} {RR:Value->Addr->Result->Shared->Prop} {W:Nat->Nat->St->Hp->Prop} {m0:Nat} (w0:W 0 m0 (pW caps σ) H3) (turn:∀i m τ H2,W i m τ H2->
   (J.stop i H2∧Q (.ref l) H2)∨(J.go i H2∧∃N:St->Hp->Prop,(∀τ' H',N τ' H'->∃m',m' < m∧W (i+1) m' τ' H')∧∀x H',J.Lo i H2 x H'->g x τ H' fun τ2 H3=>
    tc τ2 H3 fun b H4=>if b=true then te τ2 H4 fun y H5=>∃xs,H5 l=some (.lst xs)∧xs.length < sizeLine∧N τ2 (upd H5 l (.lst (xs++[y]))) else N τ2 H4))
  (hRR:∀(l C:Addr)(H':Hp)(s':Shared),H' C=none->C≠X.env.locals->X.s₀.heap.objs.size≤C->(∀x c,X.env.cells.lookup x=some c->c≠C)->(∀p∈X.pn++pins,p.1≠C)->(∃m,s'.heap.Ns C m)->Inv X pins σ H' s'->
   (∀h'':Heap,(∀b u,b≠C->s'.heap.get? b=some u->h''.get? b=some u)->Inv X pins σ H' {s' with heap:=h''})->Q (.ref l) H'->RR (.ref l) C (.ok .next) s'):
  codeAny (model X.prog X.w) X.A (.compStart (.ListComp elt [⟨tg,iter,ifs,0⟩] scope pos) 0 (.ref it) (.ref l) (compEnvC scope (iw X.env scope.names []) s3.heap.objs.size X.env))
   (RR (.ref l) s3.heap.objs.size) {s3 with heap:=h₁,toks:=t₁}:=by
 have J0:Inv (fz X N' scope s3.heap.objs.size s3 H3 fp pins) [] (pW caps σ) H3 {s3 with heap:=h₁,toks:=t₁}:=Inv.block S I3 hc hf3 hlt3 hns₁ keep3;have fpB:∀{H':Hp},(∀b∈fp,H' b=none)->∀b∈fp,fN (fz X N' scope s3.heap.objs.size s3 H3 fp pins) [] H' b:=fun {H'} hn b hb=>by
  obtain⟨f0,f1,f2,f3,f4,f5⟩:=hf3 b hb;refine⟨hn b hb,UQ (hlt3 b hb),fun z=>?_,.inl hb,fun x c e=>f4 x c (S.look I3.ok e),fun p hp=>?_⟩
  ·rcases UE.mp (I3.oD b z) with q | q
   ·exact f1 q
   ·exact f2 q
  ·rcases U5.mp hp with q | q
   ·exact f5 p q
   ·cases q
 have fin:∀{τ:St} {H':Hp} {s':Shared},Inv (fz X N' scope s3.heap.objs.size s3 H3 fp pins) [] τ H' s'->Q (.ref l) H'->RR (.ref l) s3.heap.objs.size (.ok .next) s':=fun {τ H' s'} J q=>by
  refine hRR _ _ H' s' J.free ?_ ?_ ?_ ?_ ?_ ?_ ?_ q
  ·exact(UQ I3.lt).symm
  ·exact I3.sz
  ·intro x c e z;obtain⟨v,o,ho,_⟩:=I3.cell x c e;exact UQ (UB ho) z
  ·intro p hp z;obtain⟨e,_⟩:=I3.pin p hp;exact UQ (UB e) z
  ·obtain⟨m,hm,_⟩:=J.loc;exact⟨m,hm⟩
  ·have:=Inv.q5 S I3 hf3 J (h'':=s'.heap) fun b u _ e=>e;exact this
  ·exact fun h'' hs=>Inv.q5 S I3 hf3 J hs
 have loop:codeAny (model X.prog X.w) X.A (.compLoop (.ListComp elt [⟨tg,iter,ifs,0⟩] scope pos) 0 (.ref it) (.ref l) (compEnvC scope (iw X.env scope.names []) s3.heap.objs.size X.env))
   (RR (.ref l) s3.heap.objs.size) {s3 with heap:=h₁,toks:=t₁}:=by
  refine codeAny_loop rfl (fun n s'=>∃i τ H',Inv (fz X N' scope s3.heap.objs.size s3 H3 fp pins) [] τ H' s'∧tn i s'.heap∧(∀b∈fp,H' b=none)∧W i n τ H') ?_ m0 ⟨0,_,_,J0,st3,fun b hb=>(hf3 b hb).1,w0⟩;rintro n s4 ⟨i,τ,H4,J4,st4,fr4,w4⟩;show wpAny _ X.A ((compTurn (.ListComp elt [⟨tg,iter,ifs,0⟩] scope pos) 0 (.ref it) (.ref l) (compEnvC scope (iw X.env scope.names []) s3.heap.objs.size X.env)).onRaise (fun x=>do noteFrame x (compEnvC scope (iw X.env scope.names []) s3.heap.objs.size X.env);theTreesLotGoes x)) _ _ s4;refine wpAny_noted ?_;rw[compTurn_list];rcases turn i n τ H4 w4 with⟨stop,qn⟩ |⟨go,N,hN,step⟩
  ·refine Ug (VL (Ug (Vj (T.done (fz X N' scope s3.heap.objs.size s3 H3 fp pins) rfl rfl rfl rfl i [] s4 τ H4 _ J4 (fpB fr4) st4 stop) (fun r s5 h5=>?_) fun _ _ e=>e)));obtain⟨hr,J5⟩:=h5;subst hr;exact Uk (fin J5 qn)
  ·refine Ug (VL (Ug (Vj (T.item (fz X N' scope s3.heap.objs.size s3 H3 fp pins) rfl rfl rfl rfl i [] s4 τ H4 _ J4 (fpB fr4) st4 go) (fun r s5 h5=>?_) fun _ _ e=>e)));obtain⟨u,hr,h5⟩:=h5;subst hr;refine Ug (Vj h5 (fun _ s6 h6=>?_) fun _ _ e=>e);obtain⟨x,H6,J6,r6,y6,st6,fr6⟩:=h6;have J6':=J6.pinned (fpB fr6) (T.obj _ _ st6);refine Ug (Vj (Pd (hg _ _ _ _ _ _ s6 τ H6 x u _ J6' r6 (step x H6 y6))) (fun _ s7 h7=>?_) fun _ _ e=>e);obtain⟨τ7,H7,J7,q7⟩:=h7;have again:∀{τ8:St} {H8:Hp} {s8:Shared},Inv (fz X N' scope s3.heap.objs.size s3 H3 fp pins) ([]++o8 fp s6.heap) τ8 H8 s8->N τ8 H8->
     ∃m,m < n∧∃i τ' H',Inv (fz X N' scope s3.heap.objs.size s3 H3 fp pins) [] τ' H' s8∧tn i s8.heap∧(∀b∈fp,H' b=none)∧W i m τ' H':=fun {τ8 H8 s8} J8 n8=>by
    obtain⟨m',hm,w8⟩:=hN τ8 H8 n8;refine⟨m',hm,i+1,τ8,H8,J8.jK,T.keep _ _ _ st6 fun b hb o e=>(J8.pin (b,o) (UU _ (UU _ (fc hb e)))).1,fun b hb=>?_,w8⟩;obtain⟨o,e,d⟩:=T.obj _ _ st6 b hb;exact(J8.pin (b,o) (UU _ (UU _ (fc hb e)))).2.1
   refine Ug (Vj (Pd (hif _ _ _ _ _ _ s7 τ7 H7 _ J7 q7)) (fun ok s8 h8=>?_) fun _ _ e=>e);obtain⟨H8,J8,q8⟩:=h8;cases ok with
   | false=>exact Uk ⟨rfl,again J8 (by simpa using q8)⟩
   | true=>
    have q8':te τ7 H8 fun y H5=>∃xs,H5 l=some (.lst xs)∧xs.length < sizeLine∧N τ7 (upd H5 l (.lst (xs++[y]))):=by simpa using q8
    refine Ug (Ug (Vj (Pd (he _ _ _ _ _ _ s8 τ7 H8 _ J8 q8')) (fun y s9 h9=>?_) fun _ _ e=>e));obtain⟨yv,H9,J9,r9,xs,hx,hz,n9⟩:=h9;refine Ug (Vj (Pd (pH (X:=fz X N' scope s3.heap.objs.size s3 H3 fp pins) _ s9 τ7 H9 (.ref l) [yv] (.ref l) [y] (fun _ H'=>N τ7 H') J9 rfl (.cons r9 .nil) ⟨_,xs,yv,rfl,rfl,hx,hz,n9⟩)) (fun _ s10 h10=>?_) fun _ _ e=>e);obtain⟨_,H10,J10,_,n10⟩:=h10;exact Uk (Uk ⟨rfl,again J10 n10⟩)
 exact codeAny_compStart_list loop (T.self X.A 0 _ _ _ st3 loop)
theorem tK(S:a9 X N' caps scope)(hc:X.calm=true)(hg:∀C s₃ H₃ fp pl,PG (fz X N' scope C s₃ H₃ fp pl) tg g)(hif:∀C s₃ H₃ fp pl,IK (fz X N' scope C s₃ H₃ fp pl) ifs tc)
  (he:∀C s₃ H₃ fp pl,PE (fz X N' scope C s₃ H₃ fp pl) elt te) {pins:List (Addr×Obj)} {σ:St} {H:Hp} {s:Shared} {it:Addr} {fp:List Addr} {tn:Nat->Heap->Prop} {J:It}
  (I:Inv X pins σ H s) (T:Turn X.prog X.w X.K tg J fp it tn) (st:tn 0 s.heap) (hf:∀b∈fp,fN X pins H b) {Q:VK} {RR:Value->Addr->Result->Shared->Prop} {E:Value->Shared->Prop}
  (h:∀l,H l=none->∃W:Nat->Nat->St->Hp->Prop,(∃m,W 0 m (pW caps σ) (upd H l (.lst [])))∧∀i m τ H2,W i m τ H2->
   (J.stop i H2∧Q (.ref l) H2)∨(J.go i H2∧∃N:St->Hp->Prop,(∀τ' H',N τ' H'->∃m',m' < m∧W (i+1) m' τ' H')∧∀x H',J.Lo i H2 x H'->g x τ H' fun τ2 H3=>
    tc τ2 H3 fun b H4=>if b=true then te τ2 H4 fun y H5=>∃xs,H5 l=some (.lst xs)∧xs.length < sizeLine∧N τ2 (upd H5 l (.lst (xs++[y]))) else N τ2 H4))
  (hRR:∀(l C:Addr)(H':Hp)(s':Shared),H' C=none->C≠X.env.locals->X.s₀.heap.objs.size≤C->(∀x c,X.env.cells.lookup x=some c->c≠C)->(∀p∈X.pn++pins,p.1≠C)->(∃m,s'.heap.Ns C m)->Inv X pins σ H' s'->
   (∀h'':Heap,(∀b u,b≠C->s'.heap.get? b=some u->h''.get? b=some u)->Inv X pins σ H' {s' with heap:=h''})->Q (.ref l) H'->RR (.ref l) C (.ok .next) s'):
  wpAny (model X.prog X.w) X.A (newList []) (fun acc s₃=>wpAny (model X.prog X.w) X.A (newFunctionEnv scope X.env.globals (iw X.env scope.names []) [] X.env.qual none .none (some X.env)) (fun cenv s₄=>
   codeAny (model X.prog X.w) X.A (.compStart (.ListComp elt [⟨tg,iter,ifs,0⟩] scope pos) 0 (.ref it) acc {cenv with scope:=relabel scope X.env}) (RR acc cenv.locals) s₄) E s₃) E s:=by
 obtain⟨W,⟨m0,w0⟩,turn⟩:=h s.heap.objs.size I.fresh;refine U2 (wpAny_newFunctionEnv S.BG (by intro y hy;simp at hy) (fun h₁ hns₁ hsb₁=>?_) S.kind);have I3:Inv X pins σ (upd H s.heap.objs.size (.lst [])) {s with heap:=s.heap.push {cls:=.type "list",data:=.seq ([]:List Value).toArray}}:=I.Kq (t':=s.toks) (its:=[]) (ys:=[]) .nil (Va _);have hltf:∀b∈fp,b < s.heap.objs.size:=fun b hb=>by
  obtain⟨o,e,_⟩:=T.obj 0 _ st b hb;exact UB e
 have hf3:∀b∈fp,fN X pins (upd H s.heap.objs.size (.lst [])) b:=fun b hb=>⟨by rw[aF (UQ (hltf b hb))];exact(hf b hb).1,(hf b hb).2⟩;have keep3:∀b o,(s.heap.push {cls:=.type "list",data:=.seq ([]:List Value).toArray}).get? b=some o->h₁.get? b=some o:=fun b o e=>hsb₁.extBut b o (UQ (UB e)) (Uj _ e);have st3:tn 0 h₁:=T.keep 0 _ _ st fun b hb o e=>keep3 b o (Uj _ e);have hlt3:∀b∈fp,b < (s.heap.push {cls:=.type "list",data:=.seq ([]:List Value).toArray}).objs.size:=fun b hb=>by
  have:=hltf b hb;rw[Vq];exact Zo this
 exact Fi (s3:={s with heap:=s.heap.push {cls:=.type "list",data:=.seq ([]:List Value).toArray}}) S hc hg hif he I3 T st3 hf3 hlt3 hns₁ keep3 w0 turn hRR
theorem G1(S:a9 X N' caps scope)(hc:X.calm=true)(hi:PI X tg iter wi)(hg:∀C s₃ H₃ fp pl,PG (fz X N' scope C s₃ H₃ fp pl) tg g)(hif:∀C s₃ H₃ fp pl,IK (fz X N' scope C s₃ H₃ fp pl) ifs tc)
  (he:∀C s₃ H₃ fp pl,PE (fz X N' scope C s₃ H₃ fp pl) elt te) (hs:∀x,foldedSetIterable iter X.env x=pure x:=by intro _;rfl):PE X (.ListComp elt [⟨tg,iter,ifs,0⟩] scope pos) (FQ caps wi g tc te):=by
 intro pins s σ H Q I h;rw[eval_ListComp];refine XB (use:=none) rfl hs (mJ (S.has I.ok)) S.kind S.names (cq (hi pins s σ H _ I h) fun v s1 h1=>cq h1 fun itv s2 h2=>?_);obtain⟨it,fp,tn,J,H2,e,I2,T,st2,f2,hQ⟩:=h2;subst e;refine tK (RR:=fun acc C=>compPost (model X.prog X.w) X.A X.xe none (EP X pins σ Q) acc C) S hc hg hif he I2 T st2 f2 hQ ?_;intro l C H' s' _ _ _ _ _ hm _ hI q;obtain⟨m,hm⟩:=hm;exact⟨m,hm,fun h'' hs''=>⟨.ref l,H',hI h'' fun b u hb e=>hs''.extBut b u hb e,rfl,q⟩⟩
theorem GU(hN:X.N.Nodup)(hi':X.N[i]?=some y)(hy:X.env.scope.names.lookup y=some .local)(S:a9 X N' caps scope)(hc:X.calm=true)(hi:PI X tg iter wi)(hg:∀C s₃ H₃ fp pl,PG (fz X N' scope C s₃ H₃ fp pl) tg g)(hif:∀C s₃ H₃ fp pl,IK (fz X N' scope C s₃ H₃ fp pl) ifs tc)(he:∀C s₃ H₃ fp pl,PE (fz X N' scope C s₃ H₃ fp pl) elt te)(hsw:swapsWith (.ListComp elt [⟨tg,iter,ifs,0⟩] scope pos) (some (.Name y py)) spos.line X.env=pure true:=by rfl)(hs:∀x,foldedSetIterable iter X.env x=pure x:=by intro _;rfl):
  PS X (.Assign [.Name y py] (.ListComp elt [⟨tg,iter,ifs,0⟩] scope pos) spos) (Jh (FQ caps wi g tc te) (zW i)):=by
 intro pins s σ H D I h;rw[exec_Assign_Name_used _ _ _ _ hsw];refine Ug (VL (Ug ?_));show wpAny _ X.A (do let _←comprehension (.ListComp elt [⟨tg,iter,ifs,0⟩] scope pos) scope X.env _ (newList []) false (eval iter X.env) (some (assign (.Name y py) X.env))) _ _ s;refine Ug (Vj (XB (use:=some (assign (.Name y py) X.env)) (Q:=fun _ s'=>SP X pins D .next s') rfl hs (mJ (S.has I.ok)) S.kind S.names
  (cq (hi pins s σ H _ I h) fun v s1 h1=>cq h1 fun itv s2 h2=>?_)) (fun _ s' hq=>Uk (Uk hq)) fun _ _ e=>e)
 obtain⟨it,fp,tn,J,H2,e,I2,T,st2,f2,hQ⟩:=h2;subst e;refine tK (Q:=fun x H1=>zW i x σ H1 D.nx) (RR:=fun acc C=>compPost (model X.prog X.w) X.A X.xe (some (assign (.Name y py) X.env)) (fun _ s'=>SP X pins D .next s') acc C) S hc hg hif he I2 T st2 f2 hQ ?_;intro l C H' s' hC hCL hC0 hCc hCp hm hI0 hI q;obtain⟨m,hm⟩:=hm;show wpAny _ X.A (assign (.Name y py) X.env (.ref l)) _ _ s';refine wpAny_assign_Name (ve (v:=.ref l) hI0 hN hi' (.inl hy) rfl (fun s5 I5 hch=>?_) (.inr hy));obtain⟨a,hsa,ha⟩:=hch;have hCa:C≠a:=by
  rcases ha with z | z
  ·rw[z];exact hCL
  ·exact(hCc _ _ z).symm
 refine⟨m,hm.sameBut hsa hCa,fun h'' hs''=>?_⟩;have I6:=I5.turned (t':=s5.toks) (h':=h'') (it:=C) (fun b o hb e=>hs''.extBut b o hb e) hC hCL (.inr hC0) hCc hCp;exact⟨_,H',I6,q⟩
def Rb(_ j:Int):Prop:=0 < j∧j≤10^40
theorem log2_small(h:n≤10^40):n.log2 < 9000:=by
 by_cases h0:n=0
 ·rw[h0];decide
 ·refine(Nat.log2_lt h0).mpr (Nat.lt_of_le_of_lt h ?_);exact UN (show 10^40 < 2^200 by decide) (Y4 (by decide) (by decide))
theorem He:oA X (binaryOp .FloorDiv) (rI Rb fun i j=>.int (i / j)):=Rj fun i j _ _ _ _ _ hc q=>by
 have h1:(0:Int) < j:=hc.1;have h2:j≤10^40:=hc.2;exact floordiv_int (by lia) (by rw[Int.fdiv_eq_ediv_of_nonneg i (by lia)];exact q) (.inl (PyProof.noPylong_of_log2 (log2_small (by lia))))
mutual
inductive Fw(K:FR)(H:Hp):V->PyData->Prop where
 | bz:Fw K H .bz .none
 | bl (b:Bool):Fw K H (.bl b) (.bool b)
 | int (i:Int):Fw K H (.int i) (.int i)
 | str (x:Str):Fw K H (.str x) (.str x)
 | tup {a:Addr} {xs:List V} {ds:List PyData}:jD K H a xs->t8 K H xs ds->Fw K H (.ref a) (.tuple ds)
 | lst {a:Addr} {xs:List V} {ds:List PyData}:fR K H a xs->t8 K H xs ds->Fw K H (.ref a) (.list ds)
inductive t8(K:FR)(H:Hp):List V->List PyData->Prop where
 | nil:t8 K H [] []
 | cons {x:V} {xs:List V} {d:PyData} {ds:List PyData}:Fw K H x d->t8 K H xs ds->t8 K H (x::xs) (d::ds)
end
mutual
theorem Fw.reads(I:Inv X pins σ H s){x:V}{u:Value}{d:PyData}(z:Fw X.K H x d)(r:RelV x u):∃as,Reads s.heap u d as:=by
 cases z with
 | bz=>cases(show _=Value.none from r);exact⟨_,.none⟩
 | bl b=>cases(show _=Value.bool b from r);exact⟨_,.bool b⟩
 | int i=>obtain⟨t,e⟩:=(show ∃t,_=Value.int i t from r);cases e;exact⟨_,.int i t⟩
 | str x=>obtain⟨t,e⟩:=(show ∃t,_=Value.str x t from r);cases e;exact⟨_,.str x t⟩
 | tup hq hl=>
  cases(show _=Value.ref _ from r);obtain⟨its,rv,⟨o,h1,h2,n,h3⟩,_⟩:=I.tuple hq;obtain⟨as,q⟩:=t8.reads I hl rv;exact⟨_,.tuple h1 h2 h3 (by simpa using q)⟩
 | lst hq hl=>
  cases(show _=Value.ref _ from r);obtain⟨its,rv,pl,_⟩:=I.list hq;obtain⟨o,h1,h2,n,h3⟩:=pl.isList;obtain⟨as,q⟩:=t8.reads I hl rv;exact⟨_,.list h1 h2 h3 (by simpa using q)⟩
theorem t8.reads(I:Inv X pins σ H s){xs:List V}{us:List Value}{ds:List PyData}(z:t8 X.K H xs ds)(v:Vals xs us):∃as,ReadsAll s.heap us ds as:=by
 cases z with
 | nil=>cases v;exact⟨_,.nil⟩
 | cons h t=>
  cases v with
  | cons r q=>
   obtain⟨as,p⟩:=Fw.reads I h r;obtain⟨bs,p'⟩:=t8.reads I t q;exact⟨_,.cons p p'⟩
end
def R9:V->Option Int->Option Int->Hp->VK->Prop:=fun x lo hi H Q=>∃z,x=.str z∧z.length≤sizeLine∧Q (.str (Txt.slice z lo hi)) H
theorem Mn:OL X R9:=by
 intro pins s σ H x v vl vu lo hi sl Q I rx hs pl pu h;obtain⟨z,rfl,hz,q⟩:=h;obtain⟨t,rfl⟩:=(show ∃t,v=Value.str z t from rx);refine⟨"str",_,F.slot_str_getitem.lookup,typeIs_str _ _ _,?_⟩;obtain⟨o,h1,h2,h3⟩:=hs;have fin:(Txt.slice z lo hi).length≤sizeLine∧∀t' k,EP X pins σ Q (.str (Txt.slice z lo hi) t') {s with toks:=k}:=⟨UL (Txt.slice_le z _ _) hz,fun t' k=>⟨.str _,H,I.tok k,⟨t',rfl⟩,q⟩⟩;cases pl with
 | none=>
  cases pu with
  | none=>exact WQ (l:=none) (u:=none) (st:=none) ⟨o,h1,h2,h3⟩ rfl (XT fin)
  | int j uj=>exact WQ (l:=none) (u:=some (j,uj)) (st:=none) ⟨o,h1,h2,h3⟩ rfl (XT fin)
 | int i ui=>
  cases pu with
  | none=>exact WQ (l:=some (i,ui)) (u:=none) (st:=none) ⟨o,h1,h2,h3⟩ rfl (XT fin)
  | int j uj=>exact WQ (l:=some (i,ui)) (u:=some (j,uj)) (st:=none) ⟨o,h1,h2,h3⟩ rfl (XT fin)
theorem Im:fT X (.builtin "isinstance") (fun xs H Q=>∃x n t b,xs=[x,.ty n]∧oa X.K H x t∧PySem.W.kitOne X.K t (.type n)=some b∧Q (.bl b) H):=by
 intro pins s σ H xs us Q I r h;obtain⟨x,n,t,b,rfl,ty,e,q⟩:=h;obtain⟨u,w',rfl,ru,rw'⟩:=vals2 r;cases(show w'=Value.type n from rw');exact EU I ru ty e fun tk=>⟨.bl b,H,I.tok tk,rfl,q⟩
theorem jz:entryFor table "dict.update.loop"=some Builtin.«dict.update.loop»:=entryFor_of_tree (by ac_nf)
theorem dM:plainId "dict.update.loop"=true:=by decide+kernel
theorem zJ(kvs more:List (Key×V))(p:Key×V):bI kvs (more++[p])=putK (bI kvs more) p.1 p.2:=by
 unfold bI;rw[List.foldl_append];rfl
noncomputable def zN(out:List (Str×NameKind))(N N':List Str)(caps:List (Option Nat))(scope:Scope):Bool:=
 decide (scope.kind=.function)&&scope.names.all (fun y=>decide (y.2≠.cell))&&scope.names.all (fun y=>!decide (y.2=.local)||decide (scope.names.lookup y.1=some .local))&&
 scope.names.all (fun y=>!decide (y.2=.free)||decide (out.lookup y.1=some .cell)||decide (out.lookup y.1=some .free))&&decide (caps.length=N'.length)&&
 (List.range caps.length).all (fun j=>match caps[j]?,N'[j]? with
  | some (some i),some x=>decide (N[i]?=some x)&&decide (scope.names.lookup x=some .free)
  | _,_=>true)&&decide N'.Nodup
theorem aY(h:zN X.env.scope.names X.N N' caps scope=true):a9 X N' caps scope:=by
 unfold zN at h;simp only[UJ,Vc,V2,VZ,Zt,YG] at h;obtain⟨⟨⟨⟨⟨⟨h1,h2⟩,h3⟩,h4⟩,h5⟩,h6⟩,h7⟩:=h;refine⟨h1,h2,fun y hy e=>?_,fun y hy e=>?_,h5,fun j i x hj hx=>?_,h7⟩
 ·rcases h3 y hy with z | z
  ·exact absurd e z
  ·exact z
 ·rcases h4 y hy with(z | z) | z
  ·exact absurd e z
  ·exact .inl z
  ·exact .inr z
 ·have hlt:j < caps.length:=(Ui.mp hj).1;have:=h6 j (Vg.mpr hlt);rw[hj,hx] at this;simp only[UJ,Vc] at this;exact this
end L2
namespace L2
end L2
namespace L2
open PySem PySem.Spec PyProof.Rows
theorem oC:PyData.strOk x=true↔∀c∈x.cps,c < 0x110000:=by
 unfold PyData.strOk;rw[Array.all_eq_true_iff_forall_mem];simp
theorem DZ(ha:PyData.strOk a=true)(hb:PyData.strOk b=true):PyData.strOk (a++b)=true:=by
 rw[oC] at*;intro c hc;have hc':c∈a.cps++b.cps:=hc;rcases Array.mem_append.mp hc' with z | z
 ·exact ha c z
 ·exact hb c z
theorem yK(l u:Option Int)(h:PyData.strOk x=true):PyData.strOk (Txt.slice x l u)=true:=by
 unfold Txt.slice
 split
 ·exact h
 ·rw[oC] at*;intro c hc;have hc':c∈(List.filterMap (x.cps[·]?) (Builtin.Str.strSliceIndices l u 1 x.length)).toArray:=hc;rw[List.mem_toArray] at hc';obtain⟨i,_,e⟩:=W4.mp hc';exact h c (XF e)
theorem DY(h:PyData.strOk z=true)(hc:g8 z.cps.toList i=some c):PyData.strOk (⟨#[c]⟩:Str)=true:=by
 rw[oC] at*;intro d hd;have e:d=c:=by simpa using hd
 subst e;obtain⟨j,_,hj,_⟩:=rG hc;exact h d (by have:=Ul hj;simpa using this)
theorem entry_any_loop:entryFor table "any.loop"=some Builtin.«any.loop»:=entryFor_of_tree (by ac_nf)
theorem plain_any_loop:plainId "any.loop"=true:=by decide+kernel
theorem IE{A:Around}{pins:List (Addr×Obj)}{σ:St}{H:Hp}{p it:Addr}{bs:List Bool}{R:Result->Shared->Prop}(hA:A.handled=none)(hp:fR X.K H p (bs.map V.bl))
  (hit:it≠X.env.locals∧(it∈X.ex∨X.s₀.heap.objs.size≤it)∧(∀x c,X.env.cells.lookup x=some c->c≠it)∧∀q∈X.pn++pins,q.1≠it) (hin:H it=none)
  (h:∀s',Inv X pins σ H s'->R (.ok (.ret (.bool (bs.any id)))) s'):∀(n i:Nat)(s:Shared),bs.length-i=n->i≤bs.length->(bs.take i).any id=false->s.heap.IsListIter it p i->Inv X pins σ H s->
   codeAny (model X.prog X.w) A (.builtin "any.loop" ⟨[.ref it],[]⟩) R s:=by
 intro n
 induction n with
 | zero=>
  intro i s hn hi ht st I;have ei:i=bs.length:=by lia
  refine Wa entry_any_loop ?_;rw[VI plain_any_loop _];obtain⟨its,rv,pl,hz⟩:=I.list hp;have hl':=rv.length;rw[Uh] at hl';show wpAny _ _ (pyNext (.ref it) >>=_) _ _ s;refine Ug (wpAny_pyNext_list_end hA st pl.isList (by simp;lia) fun h' eb=>?_);have I':=I.turned (t':=s.toks) (h':=h') (it:=it) (fun b o hb e=>eb b o hb e) hin hit.1 hit.2.1 hit.2.2.1 hit.2.2.2;refine Ug (V1 (Uk ?_));rw[ei,VB] at ht;have:=h _ I';rw[ht] at this;exact this
 | succ n ih=>
  intro i s hn hi ht st I;have hi':i < bs.length:=by lia
  refine Wa entry_any_loop ?_;rw[VI plain_any_loop _];obtain⟨its,rv,pl,hz⟩:=I.list hp;have hyi:(bs.map V.bl)[i]?=some (.bl bs[i]):=by rw[Ux,Um hi'];rfl
  obtain⟨u,hu,ru⟩:=rv.get hyi;cases(show u=Value.bool bs[i] from ru);show wpAny _ _ (pyNext (.ref it) >>=_) _ _ s;refine Ug (wpAny_pyNext_list_item st pl.isList (x:=.bool bs[i]) (by simpa using hu) fun h' st' sb=>?_);have I':=I.turned (t':=s.toks) (h':=h') (it:=it) (fun b o hb e=>(sb.2 b hb).trans e) hin hit.1 hit.2.1 hit.2.2.1 hit.2.2.2;dsimp only;refine Ug (U9 (Wf ?_));refine Ug (X0 ?_)
  by_cases hb:bs[i]=true
  ·rw[Ut hb];refine Ug (V1 (Uk ?_));have:=h _ I';have e:bs.any id=true:=by
    rw[WB];exact⟨bs[i],Xq hi',hb⟩
   rw[e] at this;exact this
  ·rw[Uu hb];refine Uk ⟨WK plain_any_loop _,ih (i+1) _ (by lia) (by lia) ?_ st' I'⟩;rw[Wv,Um hi',List.any_append,ht];have hb':bs[i]=false:=by simpa using hb
   rw[hb'];rfl
theorem Io(hc:X.calm=true):fT X (.builtin "any") (fun xs H Q=>∃(p:Addr)(bs:List Bool),xs=[.ref p]∧fR X.K H p (bs.map V.bl)∧Q (.bl (bs.any id)) H):=by
 intro pins s σ H xs us Q I r h;obtain⟨p,bs,rfl,hp,q⟩:=h;obtain⟨u,rfl,ru⟩:=vals1 r;cases(show u=Value.ref p from ru);have hA:X.A.handled=none:=I.ok.hd hc;obtain⟨its,rv,pl,hz⟩:=I.list hp;refine call_function_tree F.kind_any F.plain_any F.entry_any (F.args_any1 _) ?_;unfold Builtin.«any»;show wpAny _ _ (pyIter (.ref p) >>=_) _ _ s;refine Ug (Yn pl.isList ?_);have I3:Inv X pins σ H {s with heap:=s.heap.push {cls:=.type "list_iterator",data:=.fields #[.ref p,.int 0 0]}}:=I.kept (t':=s.toks) fun b o e=>Uj _ e;obtain⟨f0,f1,f2,f3,f4,f5⟩:=I.zZ (b:=s.heap.objs.size) (H':=H) (Us _) (I.bj.fresh (Us _));refine Uk ⟨WK plain_any_loop _,?_⟩;exact IE (X:=X) (σ:=σ) (H:=H) (by exact hA) hp ⟨f1,f3,f4,f5⟩ f0 (fun s' I'=>⟨.bl _,H,I',rfl,q⟩) bs.length 0 _ (by lia) (Va _) rfl ⟨_,UD _ rfl,rfl,rfl⟩ I3
end L2
namespace L2
open PySem PySem.Spec PyProof.Rows PySem.SeqAt
noncomputable def eR:Nat->PyData->Bool
 | _,.int _=>true
 | _,.str x=>PyData.strOk x
 | n+1,.tuple xs=>xs.all (eR n)
 | _,_=>false
noncomputable def fZ(w:World):Nat->PyData->Int
 | _,.int i=>NL w (.inl i)
 | _,.str x=>NL w (.inr x)
 | n+1,.tuple xs=>reduceHash (Builtin.Tuple.tupleHashOf (xs.map (fZ w n)))
 | _,_=>0
def Tf(a:Addr)(us:List (Addr×V))(ps:List PyData):World->Heap->Prop:=fun w h=>us.length≤sizeLine∧(a==sysModules)=false∧ps.all (eR 8)=true∧ps.Nodup∧
 ∃ys:List (PyData×Addr×Value),Paired (fun(u:Addr×V)(y:PyData×Addr×Value)=>u.1=y.2.1∧RelV u.2 y.2.2) us ys∧ys.map (·.1)=ps∧
 ∃o es ep,h.get? a=some o∧o.ExactDict∧o.data=.dict es ep∧es.toList=ys.map fun y=>⟨fZ w 8 y.1,.ref y.2.1,y.2.2⟩
end L2
namespace Sm
open PySem L2
inductive D where
 | bz | bl (b:Bool) | int (i:Int) | str (x:Str) | ty (n:String)
 | tup (xs:List D) | lv (xs:List D) | ro (xs:List D) | dv (kvs:List (Key×D)) | ob (n:Nat)
inductive MO where
 | lst (xs:List D) | dct (kvs:List (Key×D)) | dcH (kvs:List (D×D))
abbrev MH:=List MO
mutual
noncomputable def qa:D->Option PyData
 | .bz=>some .none
 | .bl b=>some (.bool b)
 | .int i=>some (.int i)
 | .str x=>some (.str x)
 | .tup xs=>(iA xs).map .tuple
 | .lv xs=>(iA xs).map .list
 | .ro xs=>(iA xs).map .list
 | _=>none
noncomputable def iA:List D->Option (List PyData)
 | []=>some []
 | x::r=>(qa x).bind fun a=>(iA r).map fun b=>a::b
end
abbrev DS:=List (Option D)
abbrev Tn:Hp:=fun _=>none
structure Ad where
 ob:List Addr
 rs:List Addr
def Ad.has(ρ:Ad)(a:Addr):Prop:=a∈ρ.ob∨a∈ρ.rs
def TupAt(K:FR)(ρ:Ad)(H:Hp)(a:Addr)(vs:List V):Prop:=(Rd H a (.tup vs)∧¬ρ.has a)∨jD K Tn a vs
def OO(K:FR)(ρ:Ad)(H:Hp)(a:Addr)(vs:List V):Prop:=(Rd H a (.lst vs)∧¬ρ.has a)∨fR K Tn a vs
mutual
inductive Rep(K:FR)(ρ:Ad)(H:Hp):V->D->Prop where
 | bz:Rep K ρ H .bz .bz
 | bl (b:Bool):Rep K ρ H (.bl b) (.bl b)
 | int (i:Int):Rep K ρ H (.int i) (.int i)
 | str {x:Str} (h:PyData.strOk x=true):Rep K ρ H (.str x) (.str x)
 | ty (n:String):Rep K ρ H (.ty n) (.ty n)
 | tup {a:Addr} {vs:List V} {ds:List D}:TupAt K ρ H a vs->az K ρ H vs ds->Rep K ρ H (.ref a) (.tup ds)
 | lv {a:Addr} {vs:List V} {ds:List D}:H a=some (.lst vs)->¬ρ.has a->az K ρ H vs ds->Rep K ρ H (.ref a) (.lv ds)
 | ro {a:Addr} {vs:List V} {ds:List D}:OO K ρ H a vs->az K ρ H vs ds->Rep K ρ H (.ref a) (.ro ds)
 | dv {a:Addr} {us:List (Key×V)} {kvs:List (Key×D)}:H a=some (.dK us)->¬ρ.has a->bg K ρ H us kvs->Rep K ρ H (.ref a) (.dv kvs)
 | ob {a:Addr} {n:Nat}:ρ.ob[n]?=some a->Rep K ρ H (.ref a) (.ob n)
inductive az(K:FR)(ρ:Ad)(H:Hp):List V->List D->Prop where
 | nil:az K ρ H [] []
 | cons {v:V} {vs:List V} {d:D} {ds:List D}:Rep K ρ H v d->az K ρ H vs ds->az K ρ H (v::vs) (d::ds)
inductive bg(K:FR)(ρ:Ad)(H:Hp):List (Key×V)->List (Key×D)->Prop where
 | nil:bg K ρ H [] []
 | cons {k:Key} {v:V} {vs:List (Key×V)} {d:D} {ds:List (Key×D)}:Rep K ρ H v d->bg K ρ H vs ds->bg K ρ H ((k,v)::vs) ((k,d)::ds)
end
structure Ch(ρ:Ad)(H:Hp)(ρ':Ad)(H':Hp):Prop where
 pre:∀(n:Nat) a,ρ.ob[n]?=some a->ρ'.ob[n]?=some a
 old:∀b o,¬ρ.has b->H b=some o->¬ρ'.has b∧H' b=some o
theorem Ch.refl(ρ:Ad)(H:Hp):Ch ρ H ρ H:=⟨fun _ _ e=>e,fun _ _ n e=>⟨n,e⟩⟩
theorem Ch.trans(a:Ch ρ H ρ1 H1)(b:Ch ρ1 H1 ρ2 H2):Ch ρ H ρ2 H2:=
 ⟨fun n x e=>b.pre n x (a.pre n x e),fun x o n e=>let⟨n',e'⟩:=a.old x o n e;b.old x o n' e'⟩
structure dA(ρ:Ad)(H:Hp)(ρ':Ad)(H':Hp):Prop extends Ch ρ H ρ' H' where
 rs:ρ'.rs=ρ.rs
 res:∀b∈ρ.rs,H' b=H b
theorem dA.refl(ρ:Ad)(H:Hp):dA ρ H ρ H:=⟨.refl _ _,rfl,fun _ _=>rfl⟩
theorem dA.trans(a:dA ρ H ρ1 H1)(b:dA ρ1 H1 ρ2 H2):dA ρ H ρ2 H2:=
 ⟨a.toCh.trans b.toCh,b.rs.trans a.rs,fun x hx=>(b.res x (by rw[a.rs];exact hx)).trans (a.res x hx)⟩
instance {ρ ρ':Ad} {H H':Hp}:CoeOut (dA ρ H ρ' H') (Ch ρ H ρ' H'):=⟨dA.toCh⟩
theorem Ch.rd(S:Ch ρ H ρ' H')(h:Rd H a u)(n:¬ρ.has a):Rd H' a u∧¬ρ'.has a:=by
 rcases h with h |⟨o,h⟩
 ·obtain⟨q,e⟩:=S.old a _ n h;exact⟨.inl e,q⟩
 ·obtain⟨q,e⟩:=S.old a _ n h;exact⟨.inr ⟨o,e⟩,q⟩
mutual
theorem Rep.mono(S:Ch ρ H ρ' H'){v:V}{d:D}(r:Rep K ρ H v d):Rep K ρ' H' v d:=by
 cases r with
 | bz=>exact .bz
 | bl b=>exact .bl b
 | int i=>exact .int i
 | str x=>exact .str x
 | ty n=>exact .ty n
 | tup h l=>exact .tup (h.elim (fun⟨a,n⟩=>.inl (S.rd a n)) .inr) (az.mono S l)
 | lv h n l=>have ⟨n',h'⟩:=S.old _ _ n h;exact .lv h' n' (az.mono S l)
 | ro h l=>exact .ro (h.elim (fun⟨a,n⟩=>.inl (S.rd a n)) .inr) (az.mono S l)
 | dv h n l=>have ⟨n',h'⟩:=S.old _ _ n h;exact .dv h' n' (bg.mono S l)
 | ob e=>exact .ob (S.pre _ _ e)
theorem az.mono(S:Ch ρ H ρ' H'){vs:List V}{ds:List D}(r:az K ρ H vs ds):az K ρ' H' vs ds:=by
 cases r with
 | nil=>exact .nil
 | cons h t=>exact .cons (Rep.mono S h) (az.mono S t)
theorem bg.mono(S:Ch ρ H ρ' H'){vs:List (Key×V)}{ds:List (Key×D)}(r:bg K ρ H vs ds):bg K ρ' H' vs ds:=by
 cases r with
 | nil=>exact .nil
 | cons h t=>exact .cons (Rep.mono S h) (bg.mono S t)
end
theorem az.length:∀{vs:List V} {ds:List D},az K ρ H vs ds->vs.length=ds.length
 | _,_,.nil=>rfl
 | _,_,.cons _ t=>by rw[Uw,Uw,az.length t]
theorem az.got:∀{vs:List V} {ds:List D} {i:Nat} {d:D},az K ρ H vs ds->ds[i]?=some d->∃v,vs[i]?=some v∧Rep K ρ H v d
 | _,_,_,_,.nil,e=>by simp at e
 | _,_,0,_,.cons r _,e=>by simp at e;subst e;exact⟨_,rfl,r⟩
 | _,_,i+1,d,.cons _ t,e=>by
  obtain⟨u,h1,h2⟩:=az.got (i:=i) (d:=d) t (by simpa using e);exact⟨u,by simpa using h1,h2⟩
theorem az.append:∀{vs ws:List V} {ds es:List D},az K ρ H vs ds->az K ρ H ws es->az K ρ H (vs++ws) (ds++es)
 | _,_,_,_,.nil,s=>s
 | _,_,_,_,.cons r t,s=>.cons r (az.append t s)
theorem az.take:∀{vs:List V} {ds:List D} (n:Nat),az K ρ H vs ds->az K ρ H (vs.take n) (ds.take n)
 | _,_,0,_=>.nil
 | _,_,_+1,.nil=>.nil
 | _,_,n+1,.cons r t=>.cons r (az.take n t)
theorem az.drop:∀{vs:List V} {ds:List D} (n:Nat),az K ρ H vs ds->az K ρ H (vs.drop n) (ds.drop n)
 | _,_,0,r=>r
 | _,_,_+1,.nil=>.nil
 | _,_,n+1,.cons _ t=>az.drop n t
theorem az.set(r:Rep K ρ H v d):∀{vs:List V} {ds:List D} (i:Nat),az K ρ H vs ds->az K ρ H (vs.set i v) (ds.set i d)
 | _,_,_,.nil=>.nil
 | _,_,0,.cons _ t=>.cons r t
 | _,_,i+1,.cons q t=>.cons q (az.set r i t)
theorem az.snoc(t:az K ρ H vs ds)(r:Rep K ρ H v d):az K ρ H (vs++[v]) (ds++[d]):=t.append (.cons r .nil)
theorem az.dropLast:∀{vs:List V} {ds:List D},az K ρ H vs ds->az K ρ H vs.dropLast ds.dropLast
 | _,_,.nil=>.nil
 | _,_,.cons _ .nil=>.nil
 | _,_,.cons r (.cons q t)=>.cons r (az.dropLast (.cons q t))
theorem az.isEmpty(t:az K ρ H vs ds):vs.isEmpty=ds.isEmpty:=by cases t <;> rfl
theorem TupAt.sq(h:TupAt K ρ H a vs):jD K H a vs:=by
 rcases h with⟨h,_⟩ | h
 ·exact .inl h
 ·rcases h with(h |⟨o,h⟩) | h
  ·cases h
  ·cases h
  ·exact .inr h
theorem OO.sq(h:OO K ρ H a vs):fR K H a vs:=by
 rcases h with⟨h,_⟩ | h
 ·exact .inl h
 ·rcases h with(h |⟨o,h⟩) | h
  ·cases h
  ·cases h
  ·exact .inr h
def DP(K:FR)(ρ:Ad)(H:Hp)(a:Addr):MO->Prop
 | .lst ds=>∃vs,H a=some (.lst vs)∧az K ρ H vs ds
 | .dct kvs=>∃us,H a=some (.dK us)∧bg K ρ H us kvs
 | .dcH kvs=>∃us ps,H a=some (.O0 (Tf a us ps))∧az K ρ H (us.map fun u=>V.ref u.1) (kvs.map (·.1))∧az K ρ H (us.map (·.2)) (kvs.map (·.2))∧iA (kvs.map (·.1))=some ps
structure bK(K:FR)(ρ:Ad)(h:MH)(H:Hp):Prop where
 len:ρ.ob.length=h.length
 nd:ρ.ob.Nodup
 at_:∀(n:Nat) a o,ρ.ob[n]?=some a->h[n]?=some o->DP K ρ H a o
 vi:∀b∈ρ.rs,(∃o,H b=some o)∧b∉ρ.ob
theorem DP.has(x:DP K ρ H a o):∃u,H a=some u:=by
 cases o with
 | lst ds=>obtain⟨vs,e,_⟩:=x;exact⟨_,e⟩
 | dct ds=>obtain⟨vs,e,_⟩:=x;exact⟨_,e⟩
 | dcH ds=>obtain⟨vs,_,e,_⟩:=x;exact⟨_,e⟩
theorem DP.mono(x:DP K ρ H a o)(T:Ch ρ H ρ' H')(e:H' a=H a):DP K ρ' H' a o:=by
 cases o with
 | lst ds=>obtain⟨vs,x,r⟩:=x;exact⟨vs,e.trans x,r.mono T⟩
 | dct ds=>obtain⟨vs,x,r⟩:=x;exact⟨vs,e.trans x,r.mono T⟩
 | dcH ds=>obtain⟨us,ps,x,r,r2,p⟩:=x;exact⟨us,ps,e.trans x,r.mono T,r2.mono T,p⟩
theorem bK.mem(S:bK K ρ h H)(ha:a∈ρ.ob):∃(n:Nat)(o:MO),ρ.ob[n]?=some a∧h[n]?=some o∧DP K ρ H a o:=by
 obtain⟨n,hn,e⟩:=List.mem_iff_getElem.mp ha;have hn':n < h.length:=by rw[←S.len];exact hn
 have e1:ρ.ob[n]?=some a:=by rw[Um hn,e]
 exact⟨n,h[n],e1,Um hn',S.at_ n a _ e1 (Um hn')⟩
theorem bK.has(S:bK K ρ h H)(ha:ρ.has a):∃u,H a=some u:=by
 rcases ha with ha | ha
 ·obtain⟨_,_,_,_,x⟩:=S.mem ha;exact x.has
 ·exact(S.vi a ha).1
theorem bK.fresh(S:bK K ρ h H)(hp:H p=none):¬ρ.has p:=fun m=>by
 obtain⟨u,e⟩:=S.has m;rw[hp] at e;cases e
theorem dA.laid(S:bK K ρ h H)(hp:H p=none):dA ρ H ρ (upd H p o):=
 ⟨⟨fun _ _ e=>e,fun b u n e=>⟨n,by rw[aF (aO e hp)];exact e⟩⟩,rfl,fun b hb=>by
  obtain⟨u,e⟩:=(S.vi b hb).1;rw[aF (aO e hp)]⟩
theorem bK.same(S:bK K ρ h H)(T:dA ρ H ρ H')(k:∀a∈ρ.ob,H' a=H a):bK K ρ h H':=
 ⟨S.len,S.nd,fun n a o e1 e2=>(S.at_ n a o e1 e2).mono T.toCh (k a (Ul e1)),fun b hb=>⟨by rw[T.res b hb];exact(S.vi b hb).1,(S.vi b hb).2⟩⟩
theorem bK.laid(S:bK K ρ h H)(hp:H p=none):bK K ρ h (upd H p o):=
 S.same (dA.laid S hp) fun a ha=>by
  obtain⟨u,e⟩:=S.has (.inl ha);rw[aF (aO e hp)]
abbrev Ad.more(ρ:Ad)(p:Addr):Ad:=⟨ρ.ob++[p],ρ.rs⟩
theorem dA.made(S:bK K ρ h H)(hp:H p=none):dA ρ H (ρ.more p) (upd H p o):=by
 refine⟨⟨fun n a e=>?_,fun b u n e=>?_⟩,rfl,(dA.laid S hp).res⟩
 ·show(ρ.ob++[p])[n]?=_;rw[UG (Ui.mp e).1];exact e
 ·refine⟨fun m=>?_,by rw[aF (aO e hp)];exact e⟩;rcases m with m | m
  ·rcases U5.mp m with m | m
   ·exact n (.inl m)
   ·exact aO e hp (UC.mp m)
  ·exact n (.inr m)
theorem bK.made(S:bK K ρ h H)(hp:H p=none)(ho:DP K (ρ.more p) (upd H p u) p o):bK K (ρ.more p) (h++[o]) (upd H p u):=by
 refine⟨by simp[S.len],?_,fun n a x e1 e2=>?_,fun b hb=>?_⟩
 ·show(ρ.ob++[p]).Nodup;rw[Xb];refine⟨S.nd,by simp,fun a ha b hb z=>?_⟩;rw[UC.mp hb] at z;exact S.fresh hp (.inl (z ▸ ha))
 ·by_cases hn:n < ρ.ob.length
  ·have e1:(ρ.ob++[p])[n]?=some a:=e1;rw[UG hn] at e1;rw[UG (by rw[←S.len];exact hn)] at e2;have q:=S.at_ n a x e1 e2;obtain⟨w,ew⟩:=q.has;exact q.mono (dA.made S hp).toCh (aF (aO ew hp))
  ·have l1:=(Ui.mp e1).1;simp at l1;have hn':n=ρ.ob.length:=by lia
   subst hn';have e1:(ρ.ob++[p])[ρ.ob.length]?=some a:=e1;rw[US (Us _)] at e1;rw[US (by rw[S.len];exact Us _)] at e2;simp at e1;rw[S.len] at e2;simp at e2;subst e1;subst e2;exact ho
 ·obtain⟨⟨v,e⟩,n⟩:=S.vi b hb;have z:=aO e hp;refine⟨⟨v,by rw[aF z];exact e⟩,fun m=>?_⟩;rcases U5.mp m with m | m
  ·exact n m
  ·exact z (UC.mp m)
theorem dA.wrote(S:bK K ρ h H)(ha:a∈ρ.ob):dA ρ H ρ (upd H a o):=
 ⟨⟨fun _ _ e=>e,fun b u n e=>⟨n,by rw[aF (fun(z:b=a)=>n (.inl (by rw[z];exact ha)))];exact e⟩⟩,rfl,fun b hb=>aF fun(z:b=a)=>(S.vi b hb).2 (by rw[z];exact ha)⟩
theorem bK.wrote(S:bK K ρ h H)(e:ρ.ob[n]?=some a)(ho:DP K ρ (upd H a u) a o):bK K ρ (h.set n o) (upd H a u):=by
 have ha:=Ul e;have T:dA ρ H ρ (upd H a u):=dA.wrote S ha;refine⟨by rw[VY];exact S.len,S.nd,fun m b x e1 e2=>?_,fun b hb=>⟨by rw[T.res b hb];exact(S.vi b hb).1,(S.vi b hb).2⟩⟩
 by_cases hm:n=m
 ·subst hm;have l2:n < h.length:=by rw[←S.len];exact(Ui.mp e).1
  rw[e] at e1;cases e1;rw[Vs l2] at e2;cases e2;exact ho
 ·rw[Vf hm] at e2;have q:=S.at_ m b x e1 e2;have hb:b≠a:=by
   intro z;subst z;exact hm ((X8 (Ui.mp e).1 S.nd).mp (e.trans e1.symm))
  exact q.mono T.toCh (aF hb)
abbrev Ad.keep(ρ:Ad)(l:Addr):Ad:=⟨ρ.ob,l::ρ.rs⟩
theorem Ch.keep(hl:H l=none):Ch ρ H (ρ.keep l) (upd H l o):=by
 refine⟨fun n a e=>e,fun b u n e=>⟨fun m=>?_,by rw[aF (aO e hl)];exact e⟩⟩;rcases m with m | m
 ·exact n (.inl m)
 ·rcases UE.mp m with m | m
  ·exact aO e hl m
  ·exact n (.inr m)
theorem bK.keep(S:bK K ρ h H)(hl:H l=none):bK K (ρ.keep l) h (upd H l o):=by
 refine⟨S.len,S.nd,fun n a x e1 e2=>?_,fun b hb=>?_⟩
 ·have q:=S.at_ n a x e1 e2;obtain⟨w,ew⟩:=q.has;exact q.mono (Ch.keep hl) (aF (aO ew hl))
 ·rcases UE.mp hb with rfl | hb
  ·exact⟨⟨_,aR⟩,fun m=>S.fresh hl (.inl m)⟩
  ·obtain⟨⟨v,e⟩,n⟩:=S.vi b hb;exact⟨⟨v,by rw[aF (aO e hl)];exact e⟩,n⟩
theorem Ch.put(hl:l∈ρ.rs):Ch ρ H ρ (upd H l o):=⟨fun n a e=>e,fun b u n e=>⟨n,by rw[aF (fun(z:b=l)=>n (.inr (by rw[z];exact hl)))];exact e⟩⟩
theorem bK.put(S:bK K ρ h H)(hl:l∈ρ.rs):bK K ρ h (upd H l o):=by
 refine⟨S.len,S.nd,fun n a x e1 e2=>(S.at_ n a x e1 e2).mono (Ch.put hl) (aF fun(z:a=l)=>(S.vi l hl).2 (by rw[←z];exact Ul e1)),fun b hb=>⟨?_,(S.vi b hb).2⟩⟩
 by_cases z:b=l
 ·subst z;exact⟨_,aR⟩
 ·rw[aF z];exact(S.vi b hb).1
theorem Ch.free{os rs rs':List Addr}{H:Hp}(hs:∀b∈rs',b∈rs):Ch ⟨os,rs⟩ H ⟨os,rs'⟩ H:=⟨fun n a e=>e,fun b u n e=>⟨fun m=>n (m.elim .inl fun m=>.inr (hs b m)),e⟩⟩
theorem bK.free{os rs rs':List Addr}{H:Hp}(S:bK K ⟨os,rs⟩ h H)(hs:∀b∈rs',b∈rs):bK K ⟨os,rs'⟩ h H:=
 ⟨S.len,S.nd,fun n a x e1 e2=>(S.at_ n a x e1 e2).mono (Ch.free hs) rfl,fun b hb=>S.vi b (hs b hb)⟩
structure b7(K:FR)(ρ:Ad)(H:Hp)(σ:St)(δ:DS):Prop where
 len:σ.length=δ.length
 at_:∀(i:Nat) d,δ[i]?=some (some d)->∃v,σ[i]?=some (some v)∧Rep K ρ H v d
theorem b7.mono(R:b7 K ρ H σ δ)(S:Ch ρ H ρ' H'):b7 K ρ' H' σ δ:=⟨R.len,fun i d e=>let⟨v,a,b⟩:=R.at_ i d e;⟨v,a,b.mono S⟩⟩
theorem b7.set(R:b7 K ρ H σ δ)(r:Rep K ρ H v d)(i:Nat):b7 K ρ H (σ.set i (some v)) (δ.set i (some d)):=by
 refine⟨by rw[VY,VY];exact R.len,fun j e he=>?_⟩
 by_cases hij:i=j
 ·subst hij;have hl:i < δ.length:=by
   have:=(Ui.mp he).1;rw[VY] at this;exact this
  rw[Vs hl] at he;cases he;exact⟨v,by rw[Vs (by rw[R.len];exact hl)],r⟩
 ·rw[Vf hij] at he ⊢;exact R.at_ j e he
abbrev EM:=DS->MH->Option (D×MH)
abbrev TM:=DS->MH->Option (Bool×MH)
abbrev AM:=DS->MH->Option (List D×MH)
inductive Fl where
 | nx | bk | ct | rt (d:D)
abbrev SM:=DS->MH->Option (Fl×DS×MH)
abbrev GM:=D->DS->MH->Option (DS×MH)
abbrev Fn:=List D->MH->Option (D×MH)
inductive LU(K:FR)(ρ:Ad)(H:Hp)(h':MH)(d:D)(v:V)(H':Hp):Prop where
 | mk (ρ'):dA ρ H ρ' H'->bK K ρ' h' H'->Rep K ρ' H' v d->LU K ρ H h' d v H'
noncomputable def dG(K:FR)(ρ:Ad)(H:Hp)(h':MH)(d:D):VK:=fun v H'=>LU K ρ H h' d v H'
inductive Tt(K:FR)(m:EM)(σ:L2.St)(H:Hp)(Q:VK):Prop where
 | mk (ρ δ h d h'):b7 K ρ H σ δ->bK K ρ h H->(m δ h=some (d,h'))->(∀v H',dG K ρ H h' d v H'->Q v H')->Tt K m σ H Q
def tM(K:FR)(m:EM):TE:=fun σ H Q=>Tt K m σ H Q
inductive QU(K:FR)(m:TM)(σ:L2.St)(H:Hp)(Q:Bool->Hp->Prop):Prop where
 | mk (ρ δ h b h'):b7 K ρ H σ δ->bK K ρ h H->(m δ h=some (b,h'))->(∀ρ' H',dA ρ H ρ' H'->bK K ρ' h' H'->Q b H')->QU K m σ H Q
def yI(K:FR)(m:TM):TT:=fun σ H Q=>QU K m σ H Q
inductive Q0(K:FR)(m:AM)(σ:L2.St)(H:Hp)(Q:List V->Hp->Prop):Prop where
 | mk (ρ δ h ds h'):b7 K ρ H σ δ->bK K ρ h H->(m δ h=some (ds,h'))->(∀vs ρ' H',dA ρ H ρ' H'->bK K ρ' h' H'->az K ρ' H' vs ds->Q vs H')->Q0 K m σ H Q
def Tj(K:FR)(m:AM):TA:=fun σ H Q=>Q0 K m σ H Q
inductive QV(K:FR)(m:SM)(E:Ends)(σ:L2.St)(H:Hp):Prop where
 | mk (ρ δ h fl δ' h'):b7 K ρ H σ δ->bK K ρ h H->(m δ h=some (fl,δ',h'))->(∀ρ' H',dA ρ H ρ' H'->bK K ρ' h' H'->
 match fl with
 | .nx=>∀σ',b7 K ρ' H' σ' δ'->E.nx σ' H'
 | .bk=>∀σ',b7 K ρ' H' σ' δ'->E.bk σ' H'
 | .ct=>∀σ',b7 K ρ' H' σ' δ'->E.ct σ' H'
 | .rt d=>∀v,Rep K ρ' H' v d->E.rt v H')->QV K m E σ H
def IS(K:FR)(m:SM):TS:=fun E σ H=>QV K m E σ H
inductive QZ(K:FR)(m:GM)(v:V)(σ:L2.St)(H:Hp)(Q:L2.St->Hp->Prop):Prop where
 | mk (ρ δ h d δ' h'):b7 K ρ H σ δ->bK K ρ h H->Rep K ρ H v d->(m d δ h=some (δ',h'))->(∀ρ' H' σ',dA ρ H ρ' H'->bK K ρ' h' H'->b7 K ρ' H' σ' δ'->Q σ' H')->QZ K m v σ H Q
def AI(K:FR)(m:GM):TG:=fun v σ H Q=>QZ K m v σ H Q
def SE(X:Cx)(e:Expr)(m:EM):Prop:=PE X e (tM X.K m)
def ST(X:Cx)(e:Expr)(m:TM):Prop:=PT X e (yI X.K m)
def SW(X:Cx)(e:Expr)(m:TM):Prop:=PW X e (yI X.K m)
def SA(X:Cx)(es:List Expr)(m:AM):Prop:=PA X es (Tj X.K m)
def SS(X:Cx)(s:Stmt)(m:SM):Prop:=PS X s (IS X.K m)
def IY(X:Cx)(s:List Stmt)(m:SM):Prop:=Ax X s (IS X.K m)
def SG(X:Cx)(e:Expr)(m:GM):Prop:=PG X e (AI X.K m)
theorem _root_.L2.PE.imp(h:PE X e t)(i:∀σ H Q,t' σ H Q->t σ H Q):PE X e t':=fun pins s σ H Q I q=>h pins s σ H Q I (i σ H Q q)
theorem _root_.L2.PT.imp(h:PT X e t)(i:∀σ H Q,t' σ H Q->t σ H Q):PT X e t':=fun pins s σ H Q I q=>h pins s σ H Q I (i σ H Q q)
theorem _root_.L2.PW.imp(h:PW X e t)(i:∀σ H Q,t' σ H Q->t σ H Q):PW X e t':=fun wh pins s σ H Q I q=>h wh pins s σ H Q I (i σ H Q q)
theorem _root_.L2.PA.imp(h:PA X e t)(i:∀σ H Q,t' σ H Q->t σ H Q):PA X e t':=fun pos pins s σ H Q I q=>h pos pins s σ H Q I (i σ H Q q)
theorem _root_.L2.PS.imp(h:PS X e t)(i:∀E σ H,t' E σ H->t E σ H):PS X e t':=fun pins s σ H E I q=>h pins s σ H E I (i E σ H q)
theorem _root_.L2.Ax.imp(h:Ax X e t)(i:∀E σ H,t' E σ H->t E σ H):Ax X e t':=fun pins s σ H E I q=>h pins s σ H E I (i E σ H q)
theorem _root_.L2.PG.imp(h:PG X e t)(i:∀v σ H Q,t' v σ H Q->t v σ H Q):PG X e t':=fun pins s σ H v u Q I r q=>h pins s σ H v u Q I r (i v σ H Q q)
theorem bo(h:o.bind f=some b):∃a,o=some a∧f a=some b:=Xn.mp h
theorem fO(h:o.map f=some b):∃a,o=some a∧f a=b:=Vh.mp h
theorem DH{x:D}{α:Type}{g:Bool->Option α}{z:α}(e:(match x with | .bl c=>g c | _=>none)=some z):∃c,x=.bl c∧g c=some z:=by
 cases x <;> first | exact absurd e (by intro z;cases z) | exact⟨_,rfl,e⟩
theorem dG.here(S:bK K ρ h H)(r:Rep K ρ H v d):dG K ρ H h d v H:=⟨ρ,.refl _ _,S,r⟩
theorem dG.step(T:dA ρ H ρ1 H1)(p:dG K ρ1 H1 h' d v H'):dG K ρ H h' d v H':=let⟨ρ2,T2,S2,r2⟩:=p;⟨ρ2,T.trans T2,S2,r2⟩
theorem dG.tup(S:bK K ρ h H)(r:az K ρ H vs ds)(hp:H p=none):dG K ρ H h (.tup ds) (.ref p) (upd H p (.tup vs)):=
 ⟨ρ,dA.laid S hp,S.laid hp,.tup (.inl ⟨.inl aR,S.fresh hp⟩) (r.mono (dA.laid S hp).toCh)⟩
theorem dG.lv(S:bK K ρ h H)(r:az K ρ H vs ds)(hp:H p=none):dG K ρ H h (.lv ds) (.ref p) (upd H p (.lst vs)):=
 ⟨ρ,dA.laid S hp,S.laid hp,.lv aR (S.fresh hp) (r.mono (dA.laid S hp).toCh)⟩
theorem dG.dv(S:bK K ρ h H)(r:bg K ρ H us ds)(hp:H p=none):dG K ρ H h (.dv ds) (.ref p) (upd H p (.dK us)):=
 ⟨ρ,dA.laid S hp,S.laid hp,.dv aR (S.fresh hp) (r.mono (dA.laid S hp).toCh)⟩
noncomputable def ay(i:Nat):EM:=fun δ h=>(δ[i]?).join.map fun d=>(d,h)
noncomputable def eK(d:D):EM:=fun _ h=>some (d,h)
noncomputable def aj(f:D->D->MH->Option (D×MH))(a b:EM):EM:=fun δ h=>(a δ h).bind fun p=>(b δ p.2).bind fun q=>f p.1 q.1 q.2
noncomputable def jG(f:D->MH->Option (D×MH))(a:EM):EM:=fun δ h=>(a δ h).bind fun p=>f p.1 p.2
noncomputable def aP:AM:=fun _ h=>some ([],h)
noncomputable def ae(a:EM)(r:AM):AM:=fun δ h=>(a δ h).bind fun p=>(r δ p.2).bind fun q=>some (p.1::q.1,q.2)
noncomputable def ao(f:Fn)(a:AM):EM:=fun δ h=>(a δ h).bind fun p=>f p.1 p.2
noncomputable def BX(t:TM)(a b:EM):EM:=fun δ h=>(t δ h).bind fun p=>if p.1 then a δ p.2 else b δ p.2
noncomputable def aA(a:EM):TM:=fun δ h=>(a δ h).bind fun p=>match p.1 with
 | .bl b=>some (b,p.2)
 | _=>none
noncomputable def rO(t:TM):TM:=fun δ h=>(t δ h).map fun p=>(!p.1,p.2)
noncomputable def lj(a b:TM):TM:=fun δ h=>(a δ h).bind fun p=>if p.1 then b δ p.2 else some (false,p.2)
noncomputable def Cu(a b:TM):TM:=fun δ h=>(a δ h).bind fun p=>if p.1 then some (true,p.2) else b δ p.2
noncomputable def yb(a b:EM):EM:=fun δ h=>(a δ h).bind fun p=>match p.1 with
 | .bl c=>if c then b δ p.2 else some (.bl false,p.2)
 | _=>none
noncomputable def SJ(a b:EM):EM:=fun δ h=>(a δ h).bind fun p=>match p.1 with
 | .bl c=>if c then some (.bl true,p.2) else b δ p.2
 | _=>none
noncomputable def aD:Fn:=fun ds h=>some (.tup ds,h)
inductive Tv(K:FR)(f:D->D->MH->Option (D×MH))(x y:V)(H:Hp)(Q:VK):Prop where
 | mk (ρ h d e z h'):bK K ρ h H->Rep K ρ H x d->Rep K ρ H y e->(f d e h=some (z,h'))->(∀v H',dG K ρ H h' z v H'->Q v H')->Tv K f x y H Q
def rS(K:FR)(f:D->D->MH->Option (D×MH)):R2:=fun x y H Q=>Tv K f x y H Q
def ow(X:Cx)(g:Value->Value->Sem Value)(f:D->D->MH->Option (D×MH)):Prop:=oA X g (rS X.K f)
inductive Tu(K:FR)(f:D->MH->Option (D×MH))(x:V)(H:Hp)(Q:VK):Prop where
 | mk (ρ h d z h'):bK K ρ h H->Rep K ρ H x d->(f d h=some (z,h'))->(∀v H',dG K ρ H h' z v H'->Q v H')->Tu K f x H Q
def rU(K:FR)(f:D->MH->Option (D×MH)):V->Hp->VK->Prop:=fun x H Q=>Tu K f x H Q
inductive Tx(K:FR)(f:Fn)(vs:List V)(H:Hp)(Q:VK):Prop where
 | mk (ρ h ds z h'):bK K ρ h H->az K ρ H vs ds->(f ds h=some (z,h'))->(∀v H',dG K ρ H h' z v H'->Q v H')->Tx K f vs H Q
def rF(K:FR)(f:Fn):List V->Hp->VK->Prop:=fun vs H Q=>Tx K f vs H Q
def hY(X:Cx)(g:Value)(f:Fn):Prop:=fT X g (rF X.K f)
section
variable {X:Cx} {a b c e:Expr} {es:List Expr} {pos:Pos} {ma mb mc:EM} {mt mu:TM} {m:AM} {f:D->D->MH->Option (D×MH)}
theorem Mp(hN:X.N[i]?=some x)(hv:QQ X.env.scope x)(hd:(x==("__debug__":Str))=false:=by ac_nf)(hcd:(x==("__classdict__":Str))=false:=by ac_nf):SE X (.Name x pos) (ay i):=
 (M6 hN hv hd hcd).imp fun σ H Q ⟨ρ,δ,h,d,h',R,S,e,k⟩=>by
  obtain⟨d',e1,e2⟩:=fO e;cases e2;obtain⟨v,ev,r⟩:=R.at_ i _ (YJ.mp e1);exact⟨v,ev,k v H (.here S r)⟩
theorem Gj(hp:PE X e (tC v))(hr:∀ρ H,Rep X.K ρ H v d):SE X e (eK d):=hp.imp fun σ H Q ⟨ρ,δ,h,d',h',R,S,ee,k⟩=>by
 cases ee;exact k v H (.here S (hr _ _))
theorem bt{i j}:SE X (.Constant (.int i) j pos) (eK (.int i)):=Gj Nf fun _ _=>.int i
theorem Lw{b j}:SE X (.Constant (.bool b) j pos) (eK (.bl b)):=Gj Qb fun _ _=>.bl b
theorem Gb{j}:SE X (.Constant .none j pos) (eK .bz):=Gj Nc fun _ _=>.bz
theorem cN{x j}(h:PyData.strOk x=true:=by decide+kernel):SE X (.Constant (.str x) j pos) (eK (.str x)):=Gj M9 fun _ _=>.str h
theorem Py(hg:Gl X x)(hm:X.mg x=none)(hv:bootBuiltins x=some (.type n))(hn:x≠"__name__":=by decide)(hd:(x==("__debug__":Str))=false:=by ac_nf):SE X (.Name x pos) (eK (.ty n)):=
 Gj (Kd (v:=.ty n) hg hm hv rfl hn hd) fun _ _=>.ty n
theorem CK(h:tM X.K (aj f ma mb) σ H Q):Pl (rS X.K f) (tM X.K ma) (tM X.K mb) σ H Q:=by
 obtain⟨ρ,δ,h,d,h',R,S,e,k⟩:=h;obtain⟨⟨x,h1⟩,e1,e⟩:=bo e;obtain⟨⟨y,h2⟩,e2,e3⟩:=bo e;refine⟨ρ,δ,h,x,h1,R,S,e1,fun v H1 ⟨ρ1,T1,S1,r1⟩=>?_⟩;refine⟨ρ1,δ,h1,y,h2,R.mono T1,S1,e2,fun u H2 ⟨ρ2,T2,S2,r2⟩=>?_⟩;exact⟨ρ2,h2,x,y,d,h',S2,r1.mono T2,r2,e3,fun w H3 p=>k w H3 (p.step (T1.trans T2))⟩
theorem bZ(ho:ow X (binaryOp op) f)(ha:SE X a ma)(hb:SE X b mb):SE X (.BinOp a op b pos) (aj f ma mb):=(LB ho ha hb).imp fun _ _ _=>CK
theorem AR(ho:ow X (compareOp op) f)(ha:SE X a ma)(hb:SE X b mb)(hm:behindInMarks op b=false):SE X (.Compare a [op] [b] pos) (aj f ma mb):=(Kb ho ha hb hm).imp fun _ _ _=>CK
theorem rQ{op:CmpOp}(ho:ow X (compareOp op) f)(ha:SE X a ma)(hb:SE X b mb)(hm:behindInMarks op b=false):ST X (.Compare a [op] [b] pos) (aA (aj f ma mb)):=
 (JE ho ha hb hm).imp fun σ H Q ⟨ρ,δ,h,c,h',R,S,e,k⟩=>by
  obtain⟨⟨x,h1⟩,e1,e2⟩:=bo e;obtain⟨c',rfl,e2⟩:=DH e2;cases e2;refine CK ⟨ρ,δ,h,.bl c,h1,R,S,e1,fun v H' ⟨ρ',T,S',r⟩=>?_⟩;cases r;exact⟨c,rfl,k ρ' H' T S'⟩
theorem Lv{op:UnaryOp}{f:D->MH->Option (D×MH)}(ho:QR X (unaryOp op) (rU X.K f))(ha:SE X a ma):SE X (.UnaryOp op a pos) (jG f ma):=(P7 ho ha).imp fun σ H Q ⟨ρ,δ,h,d,h',R,S,e,k⟩=>by
 obtain⟨⟨x,h1⟩,e1,e⟩:=bo e;exact⟨ρ,δ,h,x,h1,R,S,e1,fun v H1 ⟨ρ1,T1,S1,r1⟩=>⟨ρ1,h1,x,d,h',S1,r1,e,fun w H3 p=>k w H3 (p.step T1)⟩⟩
theorem av:SA X [] aP:=G6.imp fun σ H Q ⟨ρ,δ,h,d,h',R,S,e,k⟩=>by
 cases e;exact k [] ρ H (.refl _ _) S .nil
theorem aa(ha:SE X e ma)(hr:SA X es m)(hs:starEach (e::es) X.env=(false,eval e X.env)::starEach es X.env:=by ac_nf):SA X (e::es) (ae ma m):=
 (CW ha hr hs).imp fun σ H Q ⟨ρ,δ,h,d,h',R,S,e,k⟩=>by
  obtain⟨⟨x,h1⟩,e1,e⟩:=bo e;obtain⟨⟨ys,h2⟩,e2,e3⟩:=bo e;cases e3;refine⟨ρ,δ,h,x,h1,R,S,e1,fun v H1 ⟨ρ1,T1,S1,r1⟩=>?_⟩;exact⟨ρ1,δ,h1,ys,h2,R.mono T1,S1,e2,fun vs ρ2 H2 T2 S2 rs=>k _ ρ2 H2 (T1.trans T2) S2 (.cons (r1.mono T2) rs)⟩
def mN(m:AM)(n:Nat):Prop:=∀δ h ds h',m δ h=some (ds,h')->ds.length=n
theorem aC:mN aP 0:=fun δ h ds h' e=>by cases e;rfl
theorem af(hr:mN m n):mN (ae ma m) (n+1):=fun δ h ds h' e=>by
 obtain⟨⟨x,h1⟩,e1,e⟩:=bo e;obtain⟨⟨ys,h2⟩,e2,e3⟩:=bo e;cases e3;rw[Uw,hr _ _ _ _ e2]
theorem cU{x1}(h:SA X es m)(hl:mN m n)(hn:n≤sizeLine:=by decide):SE X (.Tuple es x1 pos) (ao aD m):=(M7 h).imp fun σ H Q ⟨ρ,δ,h,d,h',R,S,e,k⟩=>by
 obtain⟨⟨x,h1⟩,e1,e⟩:=bo e;cases e;refine⟨ρ,δ,h,x,h1,R,S,e1,fun vs ρ1 H1 T1 S1 r1=>⟨by rw[r1.length,hl _ _ _ _ e1];exact hn,fun p hp=>k _ _ (dG.step T1 (.tup S1 r1 hp))⟩⟩
inductive Q1(K:FR)(m:AM)(σ:L2.St)(H:Hp)(Q:VK):Prop where
 | mk (ρ δ h ds h'):b7 K ρ H σ δ->bK K ρ h H->(m δ h=some (ds,h'))->(∀ρ1 H1 p vs,dA ρ H ρ1 H1->bK K ρ1 h' H1->H1 p=none->az K ρ1 H1 vs ds->Q (.ref p) (upd H1 p (.lst vs)))->Q1 K m σ H Q
def TV(K:FR)(m:AM):TE:=fun σ H Q=>Q1 K m σ H Q
def t6(X:Cx)(e:Expr)(m:AM):Prop:=PE X e (TV X.K m)
noncomputable def iB(m:AM):EM:=fun δ h=>(m δ h).map fun p=>(.lv p.1,p.2)
noncomputable def Dw(m:AM):EM:=fun δ h=>(m δ h).map fun p=>(.ob p.2.length,p.2++[.lst p.1])
theorem dG.ob(S:bK K ρ h H)(r:az K ρ H vs ds)(hp:H p=none):dG K ρ H (h++[.lst ds]) (.ob h.length) (.ref p) (upd H p (.lst vs)):=
 ⟨ρ.more p,dA.made S hp,S.made hp ⟨vs,aR,r.mono (dA.made S hp).toCh⟩,.ob (show(ρ.ob++[p])[h.length]?=_ by rw[←S.len,US (Us _)];simp)⟩
theorem t6.lv(h:t6 X e m):SE X e (iB m):=h.imp fun σ H Q ⟨ρ,δ,h,d,h',R,S,e,k⟩=>by
 obtain⟨⟨ds,h1⟩,e1,e2⟩:=fO e;cases e2;exact⟨ρ,δ,h,ds,h1,R,S,e1,fun ρ1 H1 p vs T S1 hp r=>k _ _ (dG.step T (.lv S1 r hp))⟩
theorem t6.ob(h:t6 X e m):SE X e (Dw m):=h.imp fun σ H Q ⟨ρ,δ,h,d,h',R,S,e,k⟩=>by
 obtain⟨⟨ds,h1⟩,e1,e2⟩:=fO e;cases e2;exact⟨ρ,δ,h,ds,h1,R,S,e1,fun ρ1 H1 p vs T S1 hp r=>k _ _ (dG.step T (.ob S1 r hp))⟩
theorem iS(h:SA X es m)(hl:mN m n)(hn:n≤sizeLine:=by decide):t6 X (.List es pos) m:=(Nd h).imp fun σ H Q ⟨ρ,δ,h,ds,h',R,S,e,k⟩=>
 ⟨ρ,δ,h,ds,h',R,S,e,fun vs ρ1 H1 T1 S1 r1=>⟨by rw[r1.length,hl _ _ _ _ e];exact hn,fun p hp=>k ρ1 H1 p vs T1 S1 hp r1⟩⟩
noncomputable def T9:EM:=fun _ h=>some (.dv [],h)
theorem PF:SE X (.Dict [] [] pos) T9:=G3.imp fun σ H Q ⟨ρ,δ,h,d,h',R,S,e,k⟩ p hp=>by
 cases e;exact k _ _ (.dv S .nil hp)
theorem Mh(h:ST X a mt):ST X (.UnaryOp .Not a pos) (rO mt):=(MW h).imp fun σ H Q ⟨ρ,δ,h,c,h',R,S,e,k⟩=>by
 obtain⟨⟨x,h1⟩,e1,e2⟩:=fO e;cases e2;exact⟨ρ,δ,h,x,h1,R,S,e1,fun ρ' H' T S'=>k ρ' H' T S'⟩
theorem Cv(h:ST X a mt):SW X (.BoolOp .And [a] pos) mt:=JD h
theorem FU(h:ST X a mt):SW X (.BoolOp .Or [a] pos) mt:=MU h
theorem FW{rest:List Expr}(ha:ST X a mt)(hb:SW X (.BoolOp .And (b::rest) pos) mu):SW X (.BoolOp .And (a::b::rest) pos) (lj mt mu):=(MV ha hb).imp fun σ H Q ⟨ρ,δ,h,c,h',R,S,e,k⟩=>by
 obtain⟨⟨x,h1⟩,e1,e2⟩:=bo e;refine⟨ρ,δ,h,x,h1,R,S,e1,fun ρ' H' T S'=>?_⟩;cases x with
 | true=>rw[Ut rfl] at e2 ⊢;exact⟨ρ',δ,h1,c,h',R.mono T,S',e2,fun ρ2 H2 T2 S2=>k ρ2 H2 (T.trans T2) S2⟩
 | false=>rw[Uu (by simp)] at e2 ⊢;cases e2;exact k ρ' H' T S'
theorem FV{rest:List Expr}(ha:ST X a mt)(hb:SW X (.BoolOp .Or (b::rest) pos) mu):SW X (.BoolOp .Or (a::b::rest) pos) (Cu mt mu):=(P5 ha hb).imp fun σ H Q ⟨ρ,δ,h,c,h',R,S,e,k⟩=>by
 obtain⟨⟨x,h1⟩,e1,e2⟩:=bo e;refine⟨ρ,δ,h,x,h1,R,S,e1,fun ρ' H' T S'=>?_⟩;cases x with
 | false=>rw[Uu (by simp)] at e2 ⊢;exact⟨ρ',δ,h1,c,h',R.mono T,S',e2,fun ρ2 H2 T2 S2=>k ρ2 H2 (T.trans T2) S2⟩
 | true=>rw[Ut rfl] at e2 ⊢;cases e2;exact k ρ' H' T S'
theorem SW.st(h:SW X a mt):ST X a mt:=PW.pt h
theorem jO{op}(h:SE X a ma):SE X (.BoolOp op [a] pos) ma:=Na h
theorem lP{rest:List Expr}(ha:SE X a ma)(hb:SE X (.BoolOp .And (b::rest) pos) mb):SE X (.BoolOp .And (a::b::rest) pos) (yb ma mb):=(Nh ha hb).imp fun σ H Q ⟨ρ,δ,h,d,h',R,S,e,k⟩=>by
 obtain⟨⟨x,h1⟩,e1,e2⟩:=bo e;obtain⟨c,rfl,e2⟩:=DH e2;refine⟨ρ,δ,h,.bl c,h1,R,S,e1,fun v H' ⟨ρ',T,S',r⟩=>?_⟩;cases r;refine⟨c,rfl,?_⟩;cases c with
 | true=>rw[Ut rfl] at e2 ⊢;exact⟨ρ',δ,h1,d,h',R.mono T,S',e2,fun v H2 p=>k v H2 (p.step T)⟩
 | false=>rw[Uu (by simp)] at e2 ⊢;cases e2;exact k _ _ ⟨ρ',T,S',.bl _⟩
theorem Pz{rest:List Expr}(ha:SE X a ma)(hb:SE X (.BoolOp .Or (b::rest) pos) mb):SE X (.BoolOp .Or (a::b::rest) pos) (SJ ma mb):=(P8 ha hb).imp fun σ H Q ⟨ρ,δ,h,d,h',R,S,e,k⟩=>by
 obtain⟨⟨x,h1⟩,e1,e2⟩:=bo e;obtain⟨c,rfl,e2⟩:=DH e2;refine⟨ρ,δ,h,.bl c,h1,R,S,e1,fun v H' ⟨ρ',T,S',r⟩=>?_⟩;cases r;refine⟨c,rfl,?_⟩;cases c with
 | false=>rw[Uu (by simp)] at e2 ⊢;exact⟨ρ',δ,h1,d,h',R.mono T,S',e2,fun v H2 p=>k v H2 (p.step T)⟩
 | true=>rw[Ut rfl] at e2 ⊢;cases e2;exact k _ _ ⟨ρ',T,S',.bl _⟩
noncomputable def Qw(a:EM):EM:=fun δ h=>(a δ h).bind fun p=>match p.1 with
 | .bl c=>some (.bl (!c),p.2)
 | _=>none
theorem Mr(ha:SE X a ma):SE X (.UnaryOp .Not a pos) (Qw ma):=(Nb ha).imp fun σ H Q ⟨ρ,δ,h,d,h',R,S,e,k⟩=>by
 obtain⟨⟨x,h1⟩,e1,e2⟩:=bo e;obtain⟨c,rfl,e2⟩:=DH e2;cases e2;refine⟨ρ,δ,h,.bl c,h1,R,S,e1,fun v H' ⟨ρ',T,S',r⟩=>?_⟩;cases r;exact⟨c,rfl,k _ _ ⟨ρ',T,S',.bl _⟩⟩
theorem PD(hc:ST X c mt)(ha:SE X a ma)(hb:SE X b mb):SE X (.IfExp c a b pos) (BX mt ma mb):=(G2 hc ha hb).imp fun σ H Q ⟨ρ,δ,h,d,h',R,S,e,k⟩=>by
 obtain⟨⟨x,h1⟩,e1,e2⟩:=bo e;refine⟨ρ,δ,h,x,h1,R,S,e1,fun ρ' H' T S'=>?_⟩;cases x with
 | true=>rw[Ut rfl] at e2 ⊢;exact⟨ρ',δ,h1,d,h',R.mono T,S',e2,fun v H2 p=>k v H2 (p.step T)⟩
 | false=>rw[Uu (by simp)] at e2 ⊢;exact⟨ρ',δ,h1,d,h',R.mono T,S',e2,fun v H2 p=>k v H2 (p.step T)⟩
noncomputable def yH(d:D)(h:MH):Option Bool:=match d with
 | .bz=>some false
 | .bl b=>some b
 | .int i=>some (i !=0)
 | .str x=>if x.length≤sizeLine then some ((x.length:Int) !=0) else none
 | .tup xs=>some (!xs.isEmpty)
 | .dv kvs=>some (!kvs.isEmpty)
 | .ob n=>match h[n]? with
  | some (.lst xs)=>some (!xs.isEmpty)
  | some (.dct kvs)=>some (!kvs.isEmpty)
  | _=>none
 | .lv xs=>some (!xs.isEmpty)
 | .ro xs=>some (!xs.isEmpty)
 | .ty _=>none
noncomputable def ia(a:EM):TM:=fun δ h=>(a δ h).bind fun p=>(yH p.1 p.2).map fun c=>(c,p.2)
theorem bg.isEmpty(t:bg K ρ H us ds):us.isEmpty=ds.isEmpty:=by cases t <;> rfl
theorem Je{K:FR}{ρ:Ad}{H:Hp}{h:MH}{v:V}{d:D}{c:Bool}(S:bK K ρ h H)(r:Rep K ρ H v d)(e:yH d h=some c):OJ K v H c:=by
 cases r with
 | bz=>cases e;exact rfl
 | bl b=>cases e;exact rfl
 | int i=>cases e;exact rfl
 | str hs=>
  unfold yH at e
  by_cases z:‹Str›.length≤sizeLine
  ·simp only[Ut z] at e;cases e;exact⟨z,rfl⟩
  ·simp only[Uu z] at e;cases e
 | ty n=>exact b5 e
 | tup ht l=>cases e;exact .inr (.inl ⟨_,ht.sq,by rw[l.isEmpty]⟩)
 | lv ht n l=>cases e;exact .inl ⟨_,fR.of ht,by rw[l.isEmpty]⟩
 | ro ht l=>cases e;exact .inl ⟨_,ht.sq,by rw[l.isEmpty]⟩
 | dv ht n l=>cases e;exact .inr (.inr ⟨_,ht,by rw[l.isEmpty]⟩)
 | ob hn=>
  unfold yH at e;rename_i a n;cases q:h[n]? with
  | none=>simp only[q] at e;cases e
  | some o=>
   have x:=S.at_ n a o hn q;cases o with
   | lst ds=>simp only[q] at e;cases e;obtain⟨vs,e1,l⟩:=x;exact .inl ⟨_,fR.of e1,by rw[l.isEmpty]⟩
   | dct ds=>simp only[q] at e;cases e;obtain⟨vs,e1,l⟩:=x;exact .inr (.inr ⟨_,e1,by rw[l.isEmpty]⟩)
   | dcH ds=>simp only[q] at e;cases e
theorem AK(ha:SE X a ma)(he:∀whole,isTrue a X.env whole=(do let v←whole;standAt a.pos;holding [v] (truthy v)):=by intro _;ac_nf):ST X a (ia ma):=(GO ha he).imp fun σ H Q ⟨ρ,δ,h,c,h',R,S,e,k⟩=>by
 obtain⟨⟨x,h1⟩,e1,e2⟩:=bo e;obtain⟨c',e3,e4⟩:=fO e2;cases e4;exact⟨ρ,δ,h,x,h1,R,S,e1,fun v H' ⟨ρ',T,S',r⟩=>⟨c,Je S' r e3,k ρ' H' T S'⟩⟩
end
mutual
noncomputable def Lb:D->D->Bool
 | .bz,.bz=>true
 | .bl a,.bl b=>a==b
 | .int a,.int b=>a==b
 | .str a,.str b=>decide (a=b)
 | .ty a,.ty b=>a==b
 | .tup a,.tup b=>yt a b
 | .lv a,.lv b=>yt a b
 | .ro a,.ro b=>yt a b
 | .dv a,.dv b=>Iy a b
 | .ob a,.ob b=>a==b
 | _,_=>false
noncomputable def yt:List D->List D->Bool
 | [],[]=>true
 | a::r,b::s=>Lb a b&&yt r s
 | _,_=>false
noncomputable def Iy:List (Key×D)->List (Key×D)->Bool
 | [],[]=>true
 |(k,a)::r,(j,b)::s=>decide (k=j)&&Lb a b&&Iy r s
 | _,_=>false
end
mutual
theorem DK:∀(a b:D),Lb a b=true->a=b
 | .bz,b,h=>by cases b <;> first | rfl |(cases h;done)
 | .bl x,b,h=>by cases b <;> first | exact congrArg _ (eq_of_beq h) |(cases h;done)
 | .int x,b,h=>by cases b <;> first | exact congrArg _ (eq_of_beq h) |(cases h;done)
 | .str x,b,h=>by cases b <;> first | exact congrArg _ (Vk h) |(cases h;done)
 | .ty x,b,h=>by cases b <;> first | exact congrArg _ (eq_of_beq h) |(cases h;done)
 | .ob x,b,h=>by cases b <;> first | exact congrArg _ (eq_of_beq h) |(cases h;done)
 | .tup x,b,h=>by cases b <;> first | exact congrArg _ (jm _ _ h) |(cases h;done)
 | .lv x,b,h=>by cases b <;> first | exact congrArg _ (jm _ _ h) |(cases h;done)
 | .ro x,b,h=>by cases b <;> first | exact congrArg _ (jm _ _ h) |(cases h;done)
 | .dv x,b,h=>by cases b <;> first | exact congrArg _ (yu _ _ h) |(cases h;done)
theorem jm:∀(a b:List D),yt a b=true->a=b
 | [],b,h=>by cases b <;> first | rfl |(cases h;done)
 | x::r,b,h=>by
  cases b with
  | nil=>cases h
  | cons y s=>have h:=UP.mp h;rw[DK _ _ h.1,jm _ _ h.2]
theorem yu:∀(a b:List (Key×D)),Iy a b=true->a=b
 | [],b,h=>by cases b <;> first | rfl |(cases h;done)
 |(k,x)::r,b,h=>by
  cases b with
  | nil=>cases h
  | cons y s=>
   obtain⟨j,y⟩:=y;have h:=UP.mp h;have g:=UP.mp h.1;rw[Vk g.1,DK _ _ g.2,yu _ _ h.2]
end
mutual
theorem wm:∀(a:D),Lb a a=true
 | .bz=>rfl
 | .bl x=>We x
 | .int x=>We x
 | .str x=>Ve rfl
 | .ty x=>We x
 | .ob x=>We x
 | .tup x=>fg x
 | .lv x=>fg x
 | .ro x=>fg x
 | .dv x=>pX x
theorem fg:∀(a:List D),yt a a=true
 | []=>rfl
 | x::r=>UP.mpr ⟨wm x,fg r⟩
theorem pX:∀(a:List (Key×D)),Iy a a=true
 | []=>rfl
 |(k,x)::r=>UP.mpr ⟨UP.mpr ⟨Ve rfl,wm x⟩,pX r⟩
end
noncomputable def Iw:MO->MO->Bool
 | .lst a,.lst b=>yt a b
 | .dct a,.dct b=>Iy a b
 | .dcH a,.dcH b=>yt (a.map (·.1)) (b.map (·.1))&&yt (a.map (·.2)) (b.map (·.2))
 | _,_=>false
theorem zq:∀{a b:List (D×D)},a.map (·.1)=b.map (·.1)->a.map (·.2)=b.map (·.2)->a=b
 | [],[],_,_=>rfl
 | [],_::_,h,_=>by cases h
 | _::_,[],h,_=>by cases h
 |(x,y)::a,(u,v)::b,h,g=>by
  obtain⟨h1,h2⟩:=List.cons.inj h;obtain⟨g1,g2⟩:=List.cons.inj g;dsimp only at h1 g1;rw[h1,g1,zq h2 g2]
theorem DI(h:Iw a b=true):a=b:=by
 cases a <;> cases b <;> first |(cases h;done) | skip
 ·rw[jm _ _ h]
 ·rw[yu _ _ h]
 ·have h:=UP.mp h;rw[zq (jm _ _ h.1) (jm _ _ h.2)]
theorem Ft(a:MO):Iw a a=true:=by
 cases a with
 | lst x=>exact fg x
 | dct x=>exact pX x
 | dcH x=>exact UP.mpr ⟨fg _,fg _⟩
noncomputable def yw:MH->MH->Bool
 | [],[]=>true
 | a::r,b::s=>Iw a b&&yw r s
 | _,_=>false
theorem DJ:∀{a b:MH},yw a b=true->a=b
 | [],b,h=>by cases b <;> first | rfl | simp[yw] at h
 | x::r,b,h=>by
  cases b with
  | nil=>simp[yw] at h
  | cons y s=>simp[yw] at h;rw[DI h.1,DJ h.2]
noncomputable def bG:SM:=fun δ h=>some (.nx,δ,h)
noncomputable def Jt:SM:=fun δ h=>some (.bk,δ,h)
noncomputable def Gq:SM:=fun _ _=>none
noncomputable def ah(a b:SM):SM:=fun δ h=>(a δ h).bind fun r=>match r.1 with
 | .nx=>b r.2.1 r.2.2
 | _=>some r
noncomputable def aJ(i:Nat)(e:EM):SM:=fun δ h=>(e δ h).bind fun p=>some (.nx,δ.set i (some p.1),p.2)
noncomputable def eU(e:EM)(g:GM):SM:=fun δ h=>(e δ h).bind fun p=>(g p.1 δ p.2).bind fun q=>some (.nx,q.1,q.2)
noncomputable def gw(e:EM):SM:=fun δ h=>(e δ h).bind fun p=>some (.nx,δ,p.2)
noncomputable def aG(e:EM):SM:=fun δ h=>(e δ h).bind fun p=>some (.rt p.1,δ,p.2)
noncomputable def fw(t:TM)(a b:SM):SM:=fun δ h=>(t δ h).bind fun p=>if p.1 then a δ p.2 else b δ p.2
noncomputable def gN(i:Nat):GM:=fun d δ h=>some (δ.set i (some d),h)
abbrev I0:=List D->DS->MH->Option (DS×MH)
noncomputable def bA:I0:=fun ds δ h=>match ds with
 | []=>some (δ,h)
 | _=>none
noncomputable def ai(g:GM)(u:I0):I0:=fun ds δ h=>match ds with
 | []=>none
 | d::r=>(g d δ h).bind fun p=>u r p.1 p.2
noncomputable def gT(n:Nat)(u:I0):GM:=fun d δ h=>match d with
 | .tup xs=>if xs.length=n then u xs δ h else none
 | _=>none
abbrev W:=List (Nat×MO)
abbrev IM:=DS->MH->Option (List D×W×MH)
noncomputable def lC:W->MH->Bool
 | [],_=>true
 |(n,o)::r,h=>(match h[n]? with | some u=>Iw u o | none=>false)&&lC r h
noncomputable def nN(ws:W)(g:GM)(b:SM):List D->SM
 | [],δ,h=>if lC ws h then some (.nx,δ,h) else none
 | x::r,δ,h=>if lC ws h then(g x δ h).bind fun q=>(b q.1 q.2).bind fun z=>match z.1 with
  | .nx=>nN ws g b r z.2.1 z.2.2
  | .ct=>nN ws g b r z.2.1 z.2.2
  | .bk=>some (.nx,z.2.1,z.2.2)
  | .rt d=>some (.rt d,z.2.1,z.2.2)
  else none
noncomputable def jY(i:IM)(g:GM)(b:SM):SM:=fun δ h=>(i δ h).bind fun p=>nN p.2.1 g b p.1 δ p.2.2
noncomputable def hZ(c:TM)(b:SM):Nat->SM
 | 0,_,_=>none
 | n+1,δ,h=>(c δ h).bind fun p=>if p.1 then(b δ p.2).bind fun z=>match z.1 with
   | .nx=>hZ c b n z.2.1 z.2.2
   | .ct=>hZ c b n z.2.1 z.2.2
   | .bk=>some (.nx,z.2.1,z.2.2)
   | .rt d=>some (.rt d,z.2.1,z.2.2)
  else some (.nx,δ,p.2)
section
variable {X:Cx} {a b c e tg iter:Expr} {es:List Expr} {st:Stmt} {sts rest:List Stmt} {pos:Pos} {ma mb:EM} {mt:TM} {ms mu:SM} {m:AM} {g:GM} {gs:I0}
theorem cz:IY X [] bG:=JH.imp fun E σ H ⟨ρ,δ,h,fl,δ',h',R,S,e,k⟩=>by
 cases e;exact k ρ H (.refl _ _) S σ R
theorem FZ:SS X (.Break pos) Jt:=GV.imp fun E σ H ⟨ρ,δ,h,fl,δ',h',R,S,e,k⟩=>by
 cases e;exact k ρ H (.refl _ _) S σ R
theorem FY:SS X st Gq:=GS.imp fun E σ H ⟨ρ,δ,h,fl,δ',h',R,S,e,k⟩=>by cases e
theorem MC(hh:IS X.K (ah ms mu) E σ H):Pf (IS X.K ms) (IS X.K mu) E σ H:=by
 obtain⟨ρ,δ,h,fl,δ',h',R,S,e,k⟩:=hh;obtain⟨⟨f1,δ1,h1⟩,e1,e2⟩:=bo e;cases f1 with
 | nx=>exact⟨ρ,δ,h,.nx,δ1,h1,R,S,e1,fun ρ1 H1 T1 S1 σ' R'=>⟨ρ1,δ1,h1,fl,δ',h',R',S1,e2,fun ρ2 H2 T2 S2=>k ρ2 H2 (T1.trans T2) S2⟩⟩
 | bk=>cases e2;exact⟨ρ,δ,h,.bk,_,_,R,S,e1,fun ρ1 H1 T1 S1=>k ρ1 H1 T1 S1⟩
 | ct=>cases e2;exact⟨ρ,δ,h,.ct,_,_,R,S,e1,fun ρ1 H1 T1 S1=>k ρ1 H1 T1 S1⟩
 | rt d=>cases e2;exact⟨ρ,δ,h,.rt d,_,_,R,S,e1,fun ρ1 H1 T1 S1=>k ρ1 H1 T1 S1⟩
theorem ab(h1:SS X st ms)(h2:IY X rest mu):IY X (st::rest) (ah ms mu):=(GP h1 h2).imp fun _ _ _=>MC
theorem aI(h1:SS X st ms):IY X [st] ms:=JG h1
theorem GA(hh:IS X.K (aJ i ma) E σ H):Jh (tM X.K ma) (zW i) E σ H:=by
 obtain⟨ρ,δ,h,fl,δ',h',R,S,e,k⟩:=hh;obtain⟨⟨x,h1⟩,e1,e2⟩:=bo e;cases e2;exact⟨ρ,δ,h,x,h1,R,S,e1,fun v H1 ⟨ρ1,T1,S1,r1⟩=>k ρ1 H1 T1 S1 _ ((R.mono T1).set r1 i)⟩
theorem Mk(hN:X.N.Nodup)(hi:X.N[i]?=some x)(hx:Loc X.env.scope x)(he:SE X e ma)(hs:swapsWith e (some (.Name x pos')) pos.line X.env=pure false:=by ac_nf)(hf:X.fn x=true∨X.env.scope.names.lookup x=some .local:=by first | exact .inl rfl | exact .inr rfl | assumption):SS X (.Assign [.Name x pos'] e pos) (aJ i ma):=(MX hN hi hx he hs hf).imp fun _ _ _=>GA
theorem Jo(hN:X.N.Nodup)(hi:X.N[i]?=some x)(hx:Loc X.env.scope x)(hf:X.fn x=true∨X.env.scope.names.lookup x=some .local:=by first | exact .inl rfl | exact .inr rfl | assumption):SG X (.Name x pos) (gN i):=
 (JZ hN hi hx hf).imp fun v σ H Q ⟨ρ,δ,h,d,δ',h',R,S,r,e,k⟩=>by
  cases e;exact k ρ H _ (.refl _ _) S (R.set r i)
inductive LP(K:FR)(m:I0)(vs:List V)(σ:L2.St)(H:Hp)(Q:L2.St->Hp->Prop):Prop where
 | mk (ρ δ h ds δ' h'):b7 K ρ H σ δ->bK K ρ h H->az K ρ H vs ds->(m ds δ h=some (δ',h'))->(∀ρ' H' σ',dA ρ H ρ' H'->bK K ρ' h' H'->b7 K ρ' H' σ' δ'->Q σ' H')->LP K m vs σ H Q
noncomputable def RD(K:FR)(m:I0):OK:=fun vs σ H Q=>LP K m vs σ H Q
def Ro(X:Cx)(es:List Expr)(m:I0):Prop:=LV X es (RD X.K m)
theorem _root_.L2.LV.imp{X:Cx}{e:List Expr}{t t':OK}(h:LV X e t)(i:∀v σ H Q,t' v σ H Q->t v σ H Q):LV X e t':=fun pins s σ H v u Q I r q=>h pins s σ H v u Q I r (i v σ H Q q)
theorem kQ:Ro X [] bA:=JY.imp fun v σ H Q ⟨ρ,δ,h,d,δ',h',R,S,r,e,k⟩=>by
 cases r with
 | nil=>cases e;exact⟨rfl,k ρ H σ (.refl _ _) S R⟩
 | cons _ _=>cases e
theorem cb(h1:SG X e g)(h2:Ro X es gs)(hs:(assignEach (e::es) X.env).map (·.2)=assign e X.env::(assignEach es X.env).map (·.2):=by ac_nf):Ro X (e::es) (ai g gs):=(GY h1 h2 hs).imp fun v σ H Q ⟨ρ,δ,h,d,δ',h',R,S,r,e,k⟩=>by
 cases r with
 | nil=>cases e
 | cons r rs=>
  obtain⟨⟨δ1,h1⟩,e1,e2⟩:=bo e;exact⟨_,_,rfl,ρ,δ,h,_,δ1,h1,R,S,r,e1,fun ρ1 H1 σ1 T1 S1 R1=>⟨ρ1,δ1,h1,_,δ',h',R1,S1,rs.mono T1,e2,fun ρ2 H2 σ2 T2 S2 R2=>k ρ2 H2 σ2 (T1.trans T2) S2 R2⟩⟩
theorem oE(hc:X.calm=true)(h:Ro X es gs)(hn:(assignEach es X.env).length=n:=by ac_nf)(hst:(assignEach es X.env).findIdx? (·.1)=none:=by ac_nf):SG X (.Tuple es k0 pos) (gT n gs):=
 (M4 hc h hn hst).imp fun v σ H Q ⟨ρ,δ,h,d,δ',h',R,S,r,e,k⟩=>by
  cases r <;> first |(exact absurd e (by intro z;cases z)) | skip
  rename_i a vs ds ht l _;unfold gT at e;dsimp only at e
  by_cases z:ds.length=n
  ·rw[Ut z] at e;exact⟨a,vs,rfl,ht.sq,by rw[l.length];exact z,ρ,δ,h,ds,δ',h',R,S,l,e,k⟩
  ·rw[Uu z] at e;cases e
theorem iP(he:SE X e ma)(hg:SG X tg g)(hs:swapsWithSole [tg] e pos.line X.env=pure false:=by ac_nf)(hw:swappedStores [tg] e X.env=pure none:=by ac_nf)
  (h1:(assignEach [tg] X.env).map (·.2)=[assign tg X.env]:=by ac_nf):SS X (.Assign [tg] e pos) (eU ma g):=(M0 he hg hs hw h1).imp fun E σ H ⟨ρ,δ,h,fl,δ',h',R,S,e,k⟩=>by
 obtain⟨⟨x,h1⟩,e1,e2⟩:=bo e;obtain⟨⟨δ2,h2⟩,e4,e3⟩:=bo e2;cases e3;exact⟨ρ,δ,h,x,h1,R,S,e1,fun v H1 ⟨ρ1,T1,S1,r1⟩=>⟨ρ1,δ,h1,x,_,_,R.mono T1,S1,r1,e4,fun ρ2 H2 σ2 T2 S2 R2=>k ρ2 H2 (T1.trans T2) S2 σ2 R2⟩⟩
theorem kN(he:SE X e ma)(hs:swapsWith e none pos.line X.env=pure false:=by ac_nf):SS X (.Expr e pos) (gw ma):=(JJ he hs).imp fun E σ H ⟨ρ,δ,h,fl,δ',h',R,S,e,k⟩=>by
 obtain⟨⟨x,h1⟩,e1,e2⟩:=bo e;cases e2;exact⟨ρ,δ,h,x,h1,R,S,e1,fun v H1 ⟨ρ1,T1,S1,r1⟩=>k ρ1 H1 T1 S1 σ (R.mono T1)⟩
theorem br(he:SE X e ma):SS X (.Return (some e) pos) (aG ma):=(MY he).imp fun E σ H ⟨ρ,δ,h,fl,δ',h',R,S,e,k⟩=>by
 obtain⟨⟨x,h1⟩,e1,e2⟩:=bo e;cases e2;exact⟨ρ,δ,h,x,h1,R,S,e1,fun v H1 ⟨ρ1,T1,S1,r1⟩=>k ρ1 H1 T1 S1 v r1⟩
theorem dR(hc:ST X c mt)(ha:IY X sa ms)(hb:IY X sb mu):SS X (.If c sa sb pos) (fw mt ms mu):=(P6 hc ha hb).imp fun E σ H ⟨ρ,δ,h,fl,δ',h',R,S,e,k⟩=>by
 obtain⟨⟨x,h1⟩,e1,e2⟩:=bo e;refine⟨ρ,δ,h,x,h1,R,S,e1,fun ρ1 H1 T1 S1=>?_⟩;cases x with
 | true=>rw[Ut rfl] at e2 ⊢;exact⟨ρ1,δ,h1,fl,δ',h',R.mono T1,S1,e2,fun ρ2 H2 T2 S2=>k ρ2 H2 (T1.trans T2) S2⟩
 | false=>rw[Uu (by simp)] at e2 ⊢;exact⟨ρ1,δ,h1,fl,δ',h',R.mono T1,S1,e2,fun ρ2 H2 T2 S2=>k ρ2 H2 (T1.trans T2) S2⟩
structure OS(K:FR)(J:It)(ρ:Ad)(H:Hp)(ws:W)(xs:List D):Prop where
 run:∀ρ1 H1 h1,Ch ρ H ρ1 H1->bK K ρ1 h1 H1->lC ws h1=true->∀i:Nat,(xs.length≤i->J.stop i H1)∧∀x,xs[i]?=some x->J.go i H1∧∀v H2,J.Lo i H1 v H2->dA ρ1 H1 ρ1 H2∧bK K ρ1 h1 H2∧Rep K ρ1 H2 v x
inductive QY(K:FR)(m:IM)(σ:L2.St)(H:Hp)(R:It->Hp->Prop):Prop where
 | mk (ρ δ h xs ws h'):b7 K ρ H σ δ->bK K ρ h H->(m δ h=some (xs,ws,h'))->(∀J ρ1 H1,dA ρ H ρ1 H1->bK K ρ1 h' H1->OS K J ρ1 H1 ws xs->R J H1)->QY K m σ H R
def Jg(K:FR)(m:IM):TI:=fun σ H R=>QY K m σ H R
def SI(X:Cx)(tg iter:Expr)(m:IM):Prop:=PI X tg iter (Jg X.K m)
theorem _root_.L2.PI.imp(h:PI X tg e t)(i:∀σ H Q,t' σ H Q->t σ H Q):PI X tg e t':=fun pins s σ H R I q=>h pins s σ H R I (i σ H R q)
theorem MD(hh:IS X.K (jY mi g ms) E σ H):Pp (Jg X.K mi) (AI X.K g) (IS X.K ms) E σ H:=by
 obtain⟨ρ,δ,h,fl,δ',h',R,S,e,k⟩:=hh;obtain⟨⟨xs,ws,h1⟩,e1,e2⟩:=bo e;refine⟨ρ,δ,h,xs,ws,h1,R,S,e1,fun J ρ1 H1 T1 S1 It=>?_⟩;refine⟨fun i m σ2 H2=>∃ρ2 δ2 h2,m=xs.length-i∧i≤xs.length∧dA ρ1 H1 ρ2 H2∧b7 X.K ρ2 H2 σ2 δ2∧bK X.K ρ2 h2 H2∧nN ws g ms (xs.drop i) δ2 h2=some (fl,δ',h'),⟨_,ρ1,δ,h1,rfl,Va _,.refl _ _,R.mono T1,S1,e2⟩,?_⟩;rintro i m σ2 H2 ⟨ρ2,δ2,h2,rfl,hi,T2,R2,S2,e3⟩;cases q:xs.drop i with
 | nil=>
  rw[q] at e3;unfold nN at e3
  by_cases hc:lC ws h2=true
  ·rw[Ut hc] at e3;cases e3;have hl:xs.length≤i:=by have:=congrArg List.length q;rw[Wh,Vx] at this;lia
   exact .inl ⟨(It.run ρ2 H2 _ T2 S2 hc i).1 hl,k ρ2 H2 (T1.trans T2) S2 σ2 R2⟩
  ·rw[Uu hc] at e3;cases e3
 | cons x r=>
  rw[q] at e3;unfold nN at e3
  by_cases hc:lC ws h2=true
  ·rw[Ut hc] at e3;have hx:xs[i]?=some x:=by
    have:=congrArg (fun l=>l[0]?) q
    simpa using this
   have hlt:i < xs.length:=(Ui.mp hx).1;have hr:xs.drop (i+1)=r:=by
    have:=congrArg List.tail q
    simpa using this
   obtain⟨⟨δ3,h3⟩,e4,e5⟩:=bo e3;obtain⟨⟨f4,δ4,h4⟩,e6,e7⟩:=bo e5;obtain⟨hgo,hy⟩:=(It.run ρ2 H2 h2 T2 S2 hc i).2 x hx;have NN:∀ρ5 H5 σ5,dA ρ2 H2 ρ5 H5->bK X.K ρ5 h4 H5->b7 X.K ρ5 H5 σ5 δ4->nN ws g ms r δ4 h4=some (fl,δ',h')->
     ∃m',m' < xs.length-i∧(∃ρ2 δ2 h2,m'=xs.length-(i+1)∧i+1≤xs.length∧dA ρ1 H1 ρ2 H5∧b7 X.K ρ2 H5 σ5 δ2∧bK X.K ρ2 h2 H5∧nN ws g ms (xs.drop (i+1)) δ2 h2=some (fl,δ',h')):=
    fun ρ5 H5 σ5 T5 S5 R5 e8=>⟨xs.length-(i+1),by lia,ρ5,δ4,h4,rfl,hlt,T2.trans T5,R5,S5,by rw[hr];exact e8⟩
   refine .inr ⟨hgo,fun σ5 H5=>∃ρ5,dA ρ2 H2 ρ5 H5∧bK X.K ρ5 h4 H5∧b7 X.K ρ5 H5 σ5 δ4∧nN ws g ms r δ4 h4=some (fl,δ',h'),fun σ5 H5 ⟨ρ5,T5,S5,R5,e8⟩=>NN ρ5 H5 σ5 T5 S5 R5 e8,fun v H3 y3=>?_⟩;obtain⟨T3,S3,r3⟩:=hy v H3 y3;refine⟨ρ2,δ2,h2,x,δ3,h3,R2.mono T3,S3,r3,e4,fun ρ4 H4 σ4 T4 S4 R4=>?_⟩;refine⟨ρ4,δ3,h3,f4,δ4,h4,R4,S4,e6,fun ρ5 H5 T5 S5=>?_⟩;have T25:dA ρ2 H2 ρ5 H5:=T3.trans (T4.trans T5);cases f4 with
   | nx=>exact fun σ' R'=>⟨ρ5,T25,S5,R',e7⟩
   | ct=>exact fun σ' R'=>⟨ρ5,T25,S5,R',e7⟩
   | bk=>cases e7;exact fun σ' R'=>k ρ5 H5 (T1.trans (T2.trans T25)) S5 σ' R'
   | rt d=>cases e7;exact fun v r=>k ρ5 H5 (T1.trans (T2.trans T25)) S5 v r
  ·rw[Uu hc] at e3;cases e3
theorem en(hp:PassesOwn (model X.prog X.w) X.A X.env X.xe)(hc:X.calm=true)(hi:SI X tg iter mi)(hg:SG X tg g)(hb:IY X body ms)(hs:∀x,foldedSetIterable iter X.env x=pure x:=by intro _;ac_nf):SS X (.For tg iter body [] pos) (jY mi g ms):=
 (MZ hp hc hi hg hb hs).imp fun _ _ _=>MD
theorem Gy(hh:IS X.K (hZ mt ms n) E σ H):FO (yI X.K mt) (IS X.K ms) E σ H:=by
 obtain⟨ρ,δ,h,fl,δ',h',R,S,e,k⟩:=hh;refine⟨fun m σ2 H2=>∃ρ2 δ2 h2,dA ρ H ρ2 H2∧b7 X.K ρ2 H2 σ2 δ2∧bK X.K ρ2 h2 H2∧hZ mt ms m δ2 h2=some (fl,δ',h'),⟨n,ρ,δ,h,.refl _ _,R,S,e⟩,?_⟩;rintro m σ2 H2 ⟨ρ2,δ2,h2,T2,R2,S2,e2⟩;cases m with
 | zero=>cases e2
 | succ m=>
  obtain⟨⟨x,h3⟩,e3,e4⟩:=bo e2;refine⟨ρ2,δ2,h2,x,h3,R2,S2,e3,fun ρ3 H3 T3 S3=>?_⟩;cases x with
  | false=>rw[Uu (by simp)] at e4 ⊢;cases e4;exact k ρ3 H3 (T2.trans T3) S3 σ2 (R2.mono T3)
  | true=>
   rw[Ut rfl] at e4 ⊢;obtain⟨⟨f4,δ4,h4⟩,e5,e6⟩:=bo e4;refine⟨fun σ5 H5=>∃ρ5,dA ρ3 H3 ρ5 H5∧bK X.K ρ5 h4 H5∧b7 X.K ρ5 H5 σ5 δ4∧hZ mt ms m δ4 h4=some (fl,δ',h'),fun σ5 H5 ⟨ρ5,T5,S5,R5,e8⟩=>⟨m,WS m,ρ5,δ4,h4,T2.trans (T3.trans T5),R5,S5,e8⟩,?_⟩;refine⟨ρ3,δ2,h3,f4,δ4,h4,R2.mono T3,S3,e5,fun ρ5 H5 T5 S5=>?_⟩;cases f4 with
   | nx=>exact fun σ' R'=>⟨ρ5,T5,S5,R',e6⟩
   | ct=>exact fun σ' R'=>⟨ρ5,T5,S5,R',e6⟩
   | bk=>cases e6;exact fun σ' R'=>k ρ5 H5 (T2.trans (T3.trans T5)) S5 σ' R'
   | rt d=>cases e6;exact fun v r=>k ρ5 H5 (T2.trans (T3.trans T5)) S5 v r
theorem yM(hp:PassesOwn (model X.prog X.w) X.A X.env X.xe)(hc:ST X c mt)(hb:IY X body ms):SS X (.While c body [] pos) (hZ mt ms n):=(GR hp hc hb).imp fun _ _ _=>Gy
end
end Sm
namespace L2
open PySem PySem.Spec PyProof.Rows
theorem M3(hl:PE X l tl):PI X tg l (fun σ H R=>tl σ H fun x H1=>∃a,x=.ref a∧(((∃xs,fR X.K H1 a xs)∧R (Te X.K a) H1)∨((∃xs,jD X.K H1 a xs)∧R (Td X.K a) H1))):=by
 intro pins s σ H R I h;refine cq (hl pins s σ H _ I h) fun v s1 ⟨x,H1,I1,r1,q1⟩=>?_;obtain⟨a,e,q1⟩:=q1;subst e;cases r1;rcases q1 with⟨⟨xs,hq⟩,q⟩ |⟨⟨xs,hq⟩,q⟩
 ·obtain⟨its,rv,p,hz⟩:=I1.list hq;refine Yn p.isList ?_;refine⟨s1.heap.objs.size,[s1.heap.objs.size],_,_,H1,rfl,I1.kept (t':=s1.toks) fun b o e=>Uj _ e,DU a _,⟨_,UD _ rfl,rfl,rfl⟩,fun b hb=>?_,q⟩;have e:b=s1.heap.objs.size:=by simpa using hb
  subst e;exact I1.zZ (Us _) (I1.bj.fresh (Us _))
 ·obtain⟨its,rv,p,hz⟩:=I1.tuple hq;refine WO (show s1.heap.IsTuple a its.toArray from p) ?_;refine⟨s1.heap.objs.size,[s1.heap.objs.size],_,_,H1,rfl,I1.kept (t':=s1.toks) fun b o e=>Uj _ e,AD a _,⟨_,UD _ rfl,rfl,rfl⟩,fun b hb=>?_,q⟩;have e:b=s1.heap.objs.size:=by simpa using hb
  subst e;exact I1.zZ (Us _) (I1.bj.fresh (Us _))
end L2
namespace Sm
open PySem L2
noncomputable def cT(d:D)(h:MH):Option (List D×W):=match d with
 | .lv xs=>some (xs,[])
 | .ro xs=>some (xs,[])
 | .tup xs=>some (xs,[])
 | .ob n=>match h[n]? with
  | some (.lst xs)=>some (xs,[(n,.lst xs)])
  | _=>none
 | _=>none
noncomputable def iq(e:EM):IM:=fun δ h=>(e δ h).bind fun p=>(cT p.1 p.2).map fun q=>(q.1,q.2,p.2)
noncomputable def mG(m:AM):IM:=fun δ h=>(m δ h).bind fun p=>match p.1 with
 | [.int j]=>if -(2^62)≤j∧j < 2^62 then some ((List.range j.toNat).map fun(k:Nat)=>D.int (k:Int),[],p.2) else none
 | [.int i,.int j]=>if -(2^62)≤i∧i < 2^62∧-(2^62)≤j∧j < 2^62 then some ((List.range (j-i).toNat).map fun(k:Nat)=>D.int (i+(k:Int)),[],p.2) else none
 | _=>none
theorem xS(hl:∀ρ1 H1 h1,Ch ρ H ρ1 H1->bK K ρ1 h1 H1->lC ws h1=true->∃vs,az K ρ1 H1 vs xs∧(∀i:Nat,vs.length≤i->J.stop i H1)∧∀(i:Nat) v,vs[i]?=some v->J.go i H1∧∀u H2,J.Lo i H1 u H2->H2=H1∧u=v):OS K J ρ H ws xs:=by
 refine⟨fun ρ1 H1 h1 T S hc i=>?_⟩;obtain⟨vs,l,s1,s2⟩:=hl ρ1 H1 h1 T S hc;refine⟨fun hi=>s1 i (by rw[l.length];exact hi),fun x hx=>?_⟩;obtain⟨v,hv,r⟩:=l.got hx;obtain⟨g,y⟩:=s2 i v hv;refine⟨g,fun u H2 yy=>?_⟩;obtain⟨rfl,rfl⟩:=y u H2 yy;exact⟨.refl _ _,S,r⟩
theorem NR(hl:∀ρ1 H1 h1,Ch ρ H ρ1 H1->bK K ρ1 h1 H1->lC ws h1=true->∃vs,az K ρ1 H1 vs xs∧fR K H1 a vs):OS K (Te K a) ρ H ws xs:=
 xS fun ρ1 H1 h1 T S hc=>by
  obtain⟨vs,l,q⟩:=hl ρ1 H1 h1 T S hc;refine⟨vs,l,fun i hi=>⟨vs,q,hi⟩,fun i v hv=>⟨⟨vs,v,q,hv⟩,fun u H2 ⟨e,y⟩=>⟨e,?_⟩⟩⟩;have:=y vs q;rw[hv] at this;exact(Option.some.inj this).symm
theorem NP(hl:∀ρ1 H1 h1,Ch ρ H ρ1 H1->bK K ρ1 h1 H1->lC ws h1=true->∃vs,az K ρ1 H1 vs xs∧jD K H1 a vs):OS K (Td K a) ρ H ws xs:=
 xS fun ρ1 H1 h1 T S hc=>by
  obtain⟨vs,l,q⟩:=hl ρ1 H1 h1 T S hc;refine⟨vs,l,fun i hi=>⟨vs,q,hi⟩,fun i v hv=>⟨⟨vs,v,q,hv⟩,fun u H2 ⟨e,y⟩=>⟨e,?_⟩⟩⟩;have:=y vs q;rw[hv] at this;exact(Option.some.inj this).symm
theorem K3(hc:lC [(n,o)] h=true):h[n]?=some o:=by
 unfold lC at hc;cases q:h[n]? with
 | none=>rw[q] at hc;cases hc
 | some u=>
  rw[q] at hc;simp[lC] at hc;rw[DI hc]
inductive SeqAt(K:FR)(H:Hp)(a:Addr)(vs:List V):Bool->Prop where
 | l:fR K H a vs->SeqAt K H a vs true
 | t:jD K H a vs->SeqAt K H a vs false
noncomputable def qT:D->Bool
 | .tup _=>false
 | _=>true
theorem jN(S:bK K ρ h H)(r:Rep K ρ H v d)(e:cT d h=some (xs,ws)):∃a,v=.ref a∧(∃vs,SeqAt K H a vs (qT d)∧az K ρ H vs xs)∧
  ∀ρ1 H1 h1,Ch ρ H ρ1 H1->bK K ρ1 h1 H1->lC ws h1=true->∃vs,az K ρ1 H1 vs xs∧SeqAt K H1 a vs (qT d):=by
 cases r with
 | tup ht l=>
  cases e;refine⟨_,rfl,⟨_,.t ht.sq,l⟩,fun ρ1 H1 h1 T S1 _=>?_⟩;cases(Rep.tup ht l).mono T with
  | tup h1 l1=>exact⟨_,l1,.t h1.sq⟩
 | lv ht n l=>
  cases e;refine⟨_,rfl,⟨_,.l (fR.of ht),l⟩,fun ρ1 H1 h1 T S1 _=>?_⟩;cases(Rep.lv ht n l).mono T with
  | lv h1 _ l1=>exact⟨_,l1,.l (fR.of h1)⟩
 | ro ht l=>
  cases e;refine⟨_,rfl,⟨_,.l ht.sq,l⟩,fun ρ1 H1 h1 T S1 _=>?_⟩;cases(Rep.ro ht l).mono T with
  | ro h1 l1=>exact⟨_,l1,.l h1.sq⟩
 | @ob a n hn=>
  unfold cT at e;dsimp only at e;cases q:h[n]? with
  | none=>rw[q] at e;cases e
  | some o=>
   rw[q] at e;cases o with
   | dct _=>exact b5 e
   | dcH _=>exact b5 e
   | lst ys=>
    cases e;obtain⟨vs,e1,l⟩:=S.at_ n a _ hn q;refine⟨a,rfl,⟨vs,.l (fR.of e1),l⟩,fun ρ1 H1 h1 T S1 hc=>?_⟩;obtain⟨us,e2,l2⟩:=S1.at_ n a _ (T.pre n a hn) (K3 hc);exact⟨us,l2,.l (fR.of e2)⟩
 | bz=>exact b5 e
 | bl b=>exact b5 e
 | int i=>exact b5 e
 | str x=>exact b5 e
 | ty x=>exact b5 e
 | dv _ _ _=>exact b5 e
section
variable {X:Cx} {a b c e tg iter:Expr} {es:List Expr} {pos:Pos} {ma mb:EM} {mt:TM} {ms mu:SM} {m:AM} {g:GM} {gs:I0}
theorem ib(h:SE X e ma):SI X tg e (iq ma):=(M3 h).imp fun σ H Q ⟨ρ,δ,h,xs,ws,h',R,S,e,k⟩=>by
 obtain⟨⟨x,h1⟩,e1,e2⟩:=bo e;obtain⟨⟨ys,w⟩,e3,e4⟩:=fO e2;cases e4;refine⟨ρ,δ,h,x,h1,R,S,e1,fun v H1 ⟨ρ1,T1,S1,r1⟩=>?_⟩;obtain⟨a,rfl,⟨vs,q,l⟩,st⟩:=jN S1 r1 e3;refine⟨a,rfl,?_⟩;generalize qT x=b at q st;cases q with
 | l q=>exact .inl ⟨⟨vs,q⟩,k _ ρ1 H1 T1 S1 (NR fun ρ2 H2 h2 T2 S2 hc=>by obtain⟨us,l2,q2⟩:=st ρ2 H2 h2 T2 S2 hc;cases q2 with | l q2=>exact⟨us,l2,q2⟩)⟩
 | t q=>exact .inr ⟨⟨vs,q⟩,k _ ρ1 H1 T1 S1 (NP fun ρ2 H2 h2 T2 S2 hc=>by obtain⟨us,l2,q2⟩:=st ρ2 H2 h2 T2 S2 hc;cases q2 with | t q2=>exact⟨us,l2,q2⟩)⟩
theorem kR:∀(ns:List Int),az K ρ H (ns.map V.int) (ns.map D.int)
 | []=>.nil
 | _::r=>.cons (.int _) (kR r)
theorem NQ(lo:Int)(n:Nat):OS K (Rp lo n) ρ H [] ((List.range n).map fun(k:Nat)=>D.int (lo+(k:Int))):=by
 refine xS fun ρ1 H1 h1 T S hc=>⟨(List.range n).map fun(k:Nat)=>V.int (lo+(k:Int)),?_,fun i hi=>?_,fun i v hv=>?_⟩
 ·have:=kR (K:=K) (ρ:=ρ1) (H:=H1) ((List.range n).map fun(k:Nat)=>lo+(k:Int));rw[V8,V8] at this;exact this
 ·rw[Uh,UI] at hi;exact hi
 ·rw[Ux] at hv;obtain⟨j,e1,e2⟩:=fO hv;obtain⟨hlt,e3⟩:=Ui.mp e1;rw[UI] at hlt;rw[XY] at e3;subst e3;subst e2;exact⟨hlt,fun u H2 ⟨p,q⟩=>⟨p,q⟩⟩
theorem Ed(l:az K ρ H vs [.int j]):vs=[.int j]:=by
 cases l with
 | cons r l=>cases l;cases r;rfl
theorem b9(hg:Gl X "range")(hm:X.mg "range"=none)(ha:SA X [a] m)(hs:starEach [a] X.env=[(false,eval a X.env)]:=by ac_nf)(hl:mN m 1):SI X tg (.Call (.Name "range" p) [a] [] pos) (mG m):=
 (Es hg hm ha hs).imp fun σ H Q ⟨ρ,δ,h,xs,ws,h',R,S,e,k⟩=>by
  obtain⟨⟨x,h1⟩,e1,e2⟩:=bo e;refine⟨ρ,δ,h,x,h1,R,S,e1,fun vs ρ1 H1 T1 S1 r1=>?_⟩
  match x,hl _ _ _ _ e1,e2,r1 with
  | [d],hl1,e2,r1=>
   cases d <;> first | exact absurd e2 (by intro z;cases z) | skip
   rename_i j;dsimp only at e2
   by_cases z:-(2^62)≤j∧j < 2^62
   ·rw[Ut z] at e2;cases e2;refine⟨j,Ed r1,z.1,z.2,k _ ρ1 H1 T1 S1 ?_⟩;have:=NQ (K:=X.K) (ρ:=ρ1) (H:=H1) 0 j.toNat
    simpa using this
   ·rw[Uu z] at e2;cases e2
noncomputable def lK(caps:List (Option Nat))(δ:DS):DS:=caps.map fun o=>o.bind fun i=>(δ[i]?).join
noncomputable def bU:TM:=fun _ h=>some (true,h)
noncomputable def bB(ws:W)(g:GM)(c:TM)(e:EM):List D->DS->MH->Option (List D×MH)
 | [],_,h=>if lC ws h then some ([],h) else none
 | x::r,δ,h=>if lC ws h then(g x δ h).bind fun q=>(c q.1 q.2).bind fun t=>if t.1 then(e q.1 t.2).bind fun y=>(bB ws g c e r q.1 y.2).map fun z=>(y.1::z.1,z.2) else bB ws g c e r q.1 t.2 else none
noncomputable def dE(caps:List (Option Nat))(i:IM)(g:GM)(c:TM)(e:EM):AM:=fun δ h=>(i δ h).bind fun p=>(bB p.2.1 g c e p.1 (lK caps δ) p.2.2).bind fun q=>if q.1.length≤sizeLine then some q else none
theorem b7.pW(R:b7 K ρ H σ δ)(caps:List (Option Nat)):b7 K ρ H (pW caps σ) (lK caps δ):=by
 refine⟨by simp[L2.pW,lK],fun i d hd=>?_⟩;unfold lK at hd;rw[Ux] at hd;obtain⟨o,e1,e2⟩:=fO hd;cases o with
 | none=>exact b5 e2
 | some j=>
  have e3:δ[j]?=some (some d):=YJ.mp e2;obtain⟨v,ev,r⟩:=R.at_ j d e3;refine⟨v,?_,r⟩;unfold L2.pW;rw[Ux,e1];simp[ev]
def Li(X:Cx)(ifs:List Expr)(m:TM):Prop:=IK X ifs (yI X.K m)
theorem bV:Li X [] bU:=fun pins s σ H Q I hh=>by
 obtain⟨ρ,δ,h,b,h',R,S,e,k⟩:=hh;cases e;exact JW pins s σ H Q I (k ρ H (.refl _ _) S)
theorem q9(h:ST X c mt):Li X [c] mt:=JV h
theorem CL(hh:tM X.K (iB (dE caps mi g mt ma)) σ H Q):FQ caps (Jg X.K mi) (AI X.K g) (yI X.K mt) (tM X.K ma) σ H Q:=by
 obtain⟨ρ,δ,h,d,h',R,S,ee,k⟩:=hh;obtain⟨⟨out,h0⟩,ea,e0⟩:=fO ee;cases e0;obtain⟨⟨xs,ws,h1⟩,e1,eb⟩:=bo ea;obtain⟨⟨ys,h2⟩,e2,e3⟩:=bo eb;dsimp only at e2 e3
 by_cases hz:ys.length≤sizeLine
 ·rw[Ut hz] at e3;cases e3;refine⟨ρ,δ,h,xs,ws,h1,R,S,e1,fun J ρ1 H1 T1 S1 It l hl=>?_⟩;have nl:¬ρ1.has l:=S1.fresh hl;have Tl:Ch ρ1 H1 (ρ1.keep l) (upd H1 l (.lst [])):=Ch.keep hl;refine⟨fun i m τ2 H2=>∃(ob2:List Addr)(δ2:DS)(h2:MH)(vs:List V)(as bs:List D),m=xs.length-i∧i≤xs.length∧Ch ρ1 H1 ⟨ob2,l::ρ1.rs⟩ H2∧(∀b∈ρ1.rs,H2 b=H1 b)∧b7 X.K ⟨ob2,l::ρ1.rs⟩ H2 τ2 δ2∧bK X.K ⟨ob2,l::ρ1.rs⟩ h2 H2∧
    H2 l=some (.lst vs)∧az X.K ⟨ob2,l::ρ1.rs⟩ H2 vs as∧out=as++bs∧bB ws g mt ma (xs.drop i) δ2 h2=some (bs,h0),
   ⟨_,ρ1.ob,lK caps δ,h1,[],[],out,rfl,Va _,Tl,fun b hb=>aF fun z=>nl (.inr (z ▸ hb)),((R.mono T1).pW caps).mono Tl,S1.keep hl,aR,.nil,rfl,e2⟩,?_⟩
  rintro i m τ2 H2 ⟨ob2,δ2,h2,vs,as,bs,rfl,hi,T2,rs2,R2,S2,hl2,l2,eo,e3⟩;have hsub:∀b∈ρ1.rs,b∈l::ρ1.rs:=fun b hb=>Ur _ hb;have C2:Ch ⟨ob2,l::ρ1.rs⟩ H2 ⟨ob2,ρ1.rs⟩ H2:=Ch.free hsub;have T2':dA ρ1 H1 ⟨ob2,ρ1.rs⟩ H2:=⟨T2.trans C2,rfl,rs2⟩;have S2':bK X.K ⟨ob2,ρ1.rs⟩ h2 H2:=S2.free hsub;cases q:xs.drop i with
  | nil=>
   rw[q] at e3;unfold bB at e3
   by_cases hc:lC ws h2=true
   ·rw[Ut hc] at e3;cases e3;rw[Vy] at eo;subst eo;have hle:xs.length≤i:=by have:=congrArg List.length q;rw[Wh,Vx] at this;lia
    refine .inl ⟨(It.run _ H2 _ T2 S2 hc i).1 hle,k _ _ ⟨_,T1.trans T2',S2',.lv hl2 (fun z=>?_) (l2.mono C2)⟩⟩;rcases z with z | z
    ·exact(S2.vi l Uo).2 z
    ·exact nl (.inr z)
   ·rw[Uu hc] at e3;cases e3
  | cons x r=>
   rw[q] at e3;unfold bB at e3
   by_cases hc:lC ws h2=true
   ·rw[Ut hc] at e3;have hx:xs[i]?=some x:=by
     have:=congrArg (fun l=>l[0]?) q
     simpa using this
    have hlt:i < xs.length:=(Ui.mp hx).1;have hr:xs.drop (i+1)=r:=by
     have:=congrArg List.tail q
     simpa using this
    obtain⟨⟨δ3,h3⟩,e4,e5⟩:=bo e3;obtain⟨⟨t,h4⟩,e6,e7⟩:=bo e5;dsimp only at e4 e5 e6 e7;obtain⟨hgo,hy⟩:=(It.run _ H2 h2 T2 S2 hc i).2 x hx;refine .inr ⟨hgo,fun τ5 H5=>∃(ob5:List Addr)(h5:MH)(vs:List V)(as bs:List D),Ch ρ1 H1 ⟨ob5,l::ρ1.rs⟩ H5∧(∀b∈ρ1.rs,H5 b=H1 b)∧b7 X.K ⟨ob5,l::ρ1.rs⟩ H5 τ5 δ3∧bK X.K ⟨ob5,l::ρ1.rs⟩ h5 H5∧
     H5 l=some (.lst vs)∧az X.K ⟨ob5,l::ρ1.rs⟩ H5 vs as∧out=as++bs∧bB ws g mt ma r δ3 h5=some (bs,h0),?_,?_⟩
    ·rintro τ5 H5 ⟨ob5,h5,vs5,as5,bs5,T5,rs5,R5,S5,hl5,l5,eo5,e5⟩;exact⟨xs.length-(i+1),by lia,ob5,δ3,h5,vs5,as5,bs5,rfl,hlt,T5,rs5,R5,S5,hl5,l5,eo5,by rw[hr];exact e5⟩
    ·intro v H3 y3;obtain⟨T3,S3,r3⟩:=hy v H3 y3;refine⟨⟨ob2,l::ρ1.rs⟩,δ2,h2,x,δ3,h3,R2.mono T3,S3,r3,e4,fun ρ4 H4 τ4 T4 S4 R4=>?_⟩;refine⟨ρ4,δ3,h3,t,h4,R4,S4,e6,fun ρ5 H5 T5 S5=>?_⟩;have T25:dA ⟨ob2,l::ρ1.rs⟩ H2 ρ5 H5:=T3.trans (T4.trans T5);obtain⟨ob5,rs5⟩:=ρ5;have ers:rs5=l::ρ1.rs:=T25.rs;subst ers;cases t with
     | false=>
      rw[Uu (by simp)] at e7;refine NT ?_;exact⟨ob5,h4,vs,as,bs,T2.trans T25.toCh,fun b hb=>(T25.res b (hsub b hb)).trans (rs2 b hb),R4.mono T5,S5,(T25.res l Uo).trans hl2,l2.mono T25.toCh,eo,e7⟩
     | true=>
      rw[Ut rfl] at e7;refine NS ?_;obtain⟨⟨y,h6⟩,e8,e9⟩:=bo e7;obtain⟨⟨zs,h7⟩,e10,e11⟩:=fO e9;cases e11;refine⟨⟨ob5,l::ρ1.rs⟩,δ3,h4,y,h6,R4.mono T5,S5,e8,fun u H6 ⟨ρ6,T6,S6,r6⟩=>?_⟩;have T26:dA ⟨ob2,l::ρ1.rs⟩ H2 ρ6 H6:=T25.trans T6;obtain⟨ob6,rs6⟩:=ρ6;have ers:rs6=l::ρ1.rs:=T26.rs;subst ers;have hl6:H6 l=some (.lst vs):=(T26.res l Uo).trans hl2;have hml:l∈(⟨ob6,l::ρ1.rs⟩:Ad).rs:=Uo;have hlen:vs.length < sizeLine:=by
       have h1:=l2.length;have h2:=congrArg List.length eo;rw[Uy,Uw] at h2
       lia
      have Cp:Ch ⟨ob6,l::ρ1.rs⟩ H6 ⟨ob6,l::ρ1.rs⟩ (upd H6 l (.lst (vs++[u]))):=Ch.put hml;refine⟨vs,hl6,hlen,ob6,h6,vs++[u],as++[y],zs,(T2.trans T26.toCh).trans Cp,fun b hb=>?_,((R4.mono T5.toCh).mono T6.toCh).mono Cp,S6.put hml,aR,((l2.mono T26.toCh).snoc r6).mono Cp,by rw[eo];simp,e10⟩;rw[aF (fun(z:b=l)=>nl (.inr (z ▸ hb)))];exact(T26.res b (hsub b hb)).trans (rs2 b hb)
   ·rw[Uu hc] at e3;cases e3
 ·rw[Uu hz] at e3;cases e3
end
end Sm
namespace Sm
open PySem L2 PySem.Spec PyProof.Rows
section
variable {X:Cx} {a b c e tg iter elt:Expr} {es:List Expr} {pos:Pos} {ma mb:EM} {mt:TM} {ms mu:SM} {m:AM} {g:GM} {gs:I0}
theorem fq(C:a9 X N' caps scope)(hc:X.calm=true)(hi:SI X tg iter mi)(hg:∀C s₃ H₃ fp pl,SG (fz X N' scope C s₃ H₃ fp pl) tg g)(hif:∀C s₃ H₃ fp pl,Li (fz X N' scope C s₃ H₃ fp pl) ifs mt)(he:∀C s₃ H₃ fp pl,SE (fz X N' scope C s₃ H₃ fp pl) elt ma)(hs:∀x,foldedSetIterable iter X.env x=pure x:=by intro _;ac_nf):
  SE X (.ListComp elt [⟨tg,iter,ifs,0⟩] scope pos) (iB (dE caps mi g mt ma)):=(G1 (g:=AI X.K g) (tc:=yI X.K mt) (te:=tM X.K ma) C hc hi hg hif he hs).imp fun _ _ _=>CL
theorem iO(hN:X.N.Nodup)(hi':X.N[i]?=some y)(hy:X.env.scope.names.lookup y=some .local)(C:a9 X N' caps scope)(hc:X.calm=true)(hi:SI X tg iter mi)(hg:∀C s₃ H₃ fp pl,SG (fz X N' scope C s₃ H₃ fp pl) tg g)(hif:∀C s₃ H₃ fp pl,Li (fz X N' scope C s₃ H₃ fp pl) ifs mt)(he:∀C s₃ H₃ fp pl,SE (fz X N' scope C s₃ H₃ fp pl) elt ma)(hsw:swapsWith (.ListComp elt [⟨tg,iter,ifs,0⟩] scope pos) (some (.Name y py)) spos.line X.env=pure true:=by ac_nf)(hs:∀x,foldedSetIterable iter X.env x=pure x:=by intro _;ac_nf):
  SS X (.Assign [.Name y py] (.ListComp elt [⟨tg,iter,ifs,0⟩] scope pos) spos) (aJ i (iB (dE caps mi g mt ma))):=
 (GU (g:=AI X.K g) (tc:=yI X.K mt) (te:=tM X.K ma) hN hi' hy C hc hi hg hif he hsw hs).imp fun E σ H hh=>by
  have q:=GA hh;exact CL q
end
inductive Q2(K:FR)(n:Nat)(F:Fn)(vs:List V)(H:Hp)(Q:VK):Prop where
 | mk (ρ h ds d h'):bK K ρ h H->az K ρ H vs ds->(ds.length=n)->(F ds h=some (d,h'))->(∀v H',dG K ρ H h' d v H'->Q v H')->Q2 K n F vs H Q
def dJ(K:FR)(n:Nat)(F:Fn):Sp:=fun vs H Q _=>Q2 K n F vs H Q
theorem Jr(G:aX X.prog X.w X.K X.mg X.base de k f fd ps (dJ X.K n F))(hr:gL k X.A)(hg:Gl X x)(hm:X.mg x=some (.ref f))(hk:PySem.W.keepIn X.K (.ref f)=true)(hb:Binds X.K fd ps [])
  (ha:SA X (e::es) m) (hl:mN m n) (hdb:(x==("__debug__":Str))=false:=by ac_nf) (he:starEach (e::es) X.env=(false,eval e X.env)::starEach es X.env:=by ac_nf) (hpl:(backTo pos (starEach es X.env)).any (·.1)=false:=by ac_nf):
  SE X (.Call (.Name x p) (e::es) [] pos) (ao F m):=(Kc (E:=E0) G hr hg hm hk hb .nil Qc ha hdb he hpl).imp fun σ H Q ⟨ρ,δ,h,d,h',R,S,e,q⟩=>by
 obtain⟨⟨ds,h1⟩,e1,e2⟩:=bo e;refine⟨ρ,δ,h,ds,h1,R,S,e1,fun vs ρ1 H1 T1 S1 r1=>?_⟩;show dJ X.K n F (vs++[]) H1 Q E0;rw[Vy];exact⟨ρ1,h1,ds,d,h',S1,r1,hl _ _ _ _ e1,e2,fun v H' P=>q v H' (P.step T1)⟩
noncomputable def Jv(r:Fl×DS×MH):Option (D×MH):=match r.1 with
 | .rt d=>some (d,r.2.2)
 | .nx=>some (.bz,r.2.2)
 | _=>none
noncomputable def entry(len:Nat)(ds:List D):DS:=ds.map some++List.replicate (len-ds.length) none
noncomputable def fW(len:Nat)(body:SM):Fn:=fun ds h=>(body (entry len ds) h).bind Jv
theorem b7.entry{K:FR}{ρ:Ad}{H:Hp}{vs:List V}{ds:List D}(N:List Str)(l:az K ρ H vs ds):b7 K ρ H (L2.start N vs) (Sm.entry N.length ds):=by
 refine⟨by simp[L2.start,Sm.entry,l.length],fun i d hd=>?_⟩;unfold Sm.entry at hd;unfold L2.start
 by_cases hi:i < ds.length
 ·rw[UG (by simpa using hi),Ux] at hd;obtain⟨d',e1,e2⟩:=fO hd;cases e2;obtain⟨v,ev,r⟩:=l.got e1;refine⟨v,?_,r⟩;rw[UG (by rw[Uh,l.length];exact hi),Ux,ev];rfl
 ·rw[US (by simpa using hi),YL] at hd
  split at hd <;> cases hd
section
variable {P:Program} {w:World} {K:FR} {mg:Str->Option Value} {base:Heap} {x qual:Str} {st:Stmt} {f:Addr} {fd:FuncData} {N ps:List Str} {k:Nat}
theorem NX(F:dI K x qual st f fd)(Sc:aq N ps (ag st))(hb:∀(cdv:Value)(A:Around)(outer:List Env)(s:Shared)(H:Hp)(E:XK),gL k (A.deeper (envOfC qual (ag st) s.heap.objs.size f cdv))->IY (Af de P w K mg base N qual (ag st) f cdv A outer s H E).OX (g0 st) body):
  aX P w K mg base de (k+1) f fd ps (dJ K ps.length (fW N.length body)):=by
 refine F.ok Sc (fun vs H Q E h=>?_) (fun cdv A outer s H vs Q E hr h=>?_)
 ·obtain⟨ρ,h,ds,d,h',S,r,hl,_⟩:=h;rw[r.length];exact hl
 ·obtain⟨ρ,h,ds,d,h',S,r,hl,e,q⟩:=h;refine⟨_,hb cdv A outer s H E hr,?_⟩;obtain⟨⟨fl,δ1,h1⟩,e1,e2⟩:=bo e;refine⟨ρ,entry N.length ds,h,fl,δ1,h1,b7.entry N r,S,e1,fun ρ1 H1 T1 S1=>?_⟩;cases fl with
  | nx=>cases e2;exact fun σ' R'=>q _ _ ⟨ρ1,T1,S1,.bz⟩
  | rt d=>cases e2;exact fun v r=>q _ _ ⟨ρ1,T1,S1,r⟩
  | bk=>cases e2
  | ct=>cases e2
end
mutual
noncomputable def g6(n:Nat):D->Bool
 | .tup xs=>dH n xs
 | .lv xs=>dH n xs
 | .ro xs=>dH n xs
 | .dv kvs=>K2 n kvs
 | .ob m=>decide (m < n)
 | _=>true
noncomputable def dH(n:Nat):List D->Bool
 | []=>true
 | x::r=>g6 n x&&dH n r
noncomputable def K2(n:Nat):List (Key×D)->Bool
 | []=>true
 |(_,x)::r=>g6 n x&&K2 n r
end
noncomputable def Az(n:Nat):MO->Bool
 | .lst xs=>dH n xs
 | .dct kvs=>K2 n kvs
 | .dcH kvs=>dH n (kvs.map (·.1))&&dH n (kvs.map (·.2))
abbrev Ad.cut(ρ:Ad)(n:Nat):Ad:=⟨ρ.ob.take n,ρ.rs⟩
theorem Ad.nY{ρ:Ad}{n:Nat}{a:Addr}(h:(ρ.cut n).has a):ρ.has a:=h.elim (fun m=>.inl (XJ m)) .inr
mutual
theorem Rep.cut{K:FR}{ρ:Ad}{H:Hp}{n:Nat}{v:V}{d:D}(r:Rep K ρ H v d)(c:g6 n d=true):Rep K (ρ.cut n) H v d:=by
 cases r with
 | bz=>exact .bz
 | bl b=>exact .bl b
 | int i=>exact .int i
 | str x=>exact .str x
 | ty n=>exact .ty n
 | tup h l=>exact .tup (h.elim (fun⟨a,n⟩=>.inl ⟨a,fun m=>n (Ad.nY m)⟩) .inr) (az.cut l c)
 | lv h n l=>exact .lv h (fun m=>n (Ad.nY m)) (az.cut l c)
 | ro h l=>exact .ro (h.elim (fun⟨a,n⟩=>.inl ⟨a,fun m=>n (Ad.nY m)⟩) .inr) (az.cut l c)
 | dv h n l=>exact .dv h (fun m=>n (Ad.nY m)) (bg.cut l c)
 | ob e=>exact .ob ((U7 (Vk c)).trans e)
theorem az.cut{K:FR}{ρ:Ad}{H:Hp}{n:Nat}{v:List V}{d:List D}(r:az K ρ H v d)(c:dH n d=true):az K (ρ.cut n) H v d:=by
 cases r with
 | nil=>exact .nil
 | cons r l=>have c:=UP.mp c;exact .cons (Rep.cut r c.1) (az.cut l c.2)
theorem bg.cut{K:FR}{ρ:Ad}{H:Hp}{n:Nat}{v:List (Key×V)}{d:List (Key×D)}(r:bg K ρ H v d)(c:K2 n d=true):bg K (ρ.cut n) H v d:=by
 cases r with
 | nil=>exact .nil
 | cons r l=>have c:=UP.mp c;exact .cons (Rep.cut r c.1) (bg.cut l c.2)
end
mutual
theorem Rep.clean{K:FR}{ρ:Ad}{H:Hp}{v:V}{d:D}(r:Rep K ρ H v d):g6 ρ.ob.length d=true:=by
 cases r with
 | tup h l=>exact az.clean l
 | lv h n l=>exact az.clean l
 | ro h l=>exact az.clean l
 | dv h n l=>exact bg.clean l
 | ob e=>exact Ve (Ui.mp e).1
 | _=>rfl
theorem az.clean{K:FR}{ρ:Ad}{H:Hp}{v:List V}{d:List D}(r:az K ρ H v d):dH ρ.ob.length d=true:=by
 cases r with
 | nil=>rfl
 | cons r l=>exact UP.mpr ⟨Rep.clean r,az.clean l⟩
theorem bg.clean{K:FR}{ρ:Ad}{H:Hp}{v:List (Key×V)}{d:List (Key×D)}(r:bg K ρ H v d):K2 ρ.ob.length d=true:=by
 cases r with
 | nil=>rfl
 | cons r l=>exact UP.mpr ⟨Rep.clean r,bg.clean l⟩
end
theorem DP.cut{K:FR}{ρ:Ad}{H:Hp}{n:Nat}{a:Addr}{o:MO}(x:DP K ρ H a o)(c:Az n o=true):DP K (ρ.cut n) H a o:=by
 cases o with
 | lst ds=>obtain⟨vs,e,l⟩:=x;exact⟨vs,e,l.cut c⟩
 | dct ds=>obtain⟨vs,e,l⟩:=x;exact⟨vs,e,l.cut c⟩
 | dcH ds=>obtain⟨us,ps,e,l,l2,p⟩:=x;have c:=UP.mp c;exact⟨us,ps,e,l.cut c.1,l2.cut c.2,p⟩
theorem DP.clean{K:FR}{ρ:Ad}{H:Hp}{a:Addr}{o:MO}(x:DP K ρ H a o):Az ρ.ob.length o=true:=by
 cases o with
 | lst ds=>obtain⟨vs,e,l⟩:=x;exact l.clean
 | dct ds=>obtain⟨vs,e,l⟩:=x;exact l.clean
 | dcH ds=>obtain⟨us,ps,e,l,l2,p⟩:=x;exact UP.mpr ⟨l.clean,l2.clean⟩
noncomputable def AG(n:Nat)(h:MH)(d:D):D:=match d with
 | .ob m=>if m < n then .ob m else match h[m]? with
  | some (.lst xs)=>.lv xs
  | some (.dct kvs)=>.dv kvs
  | _=>.ob m
 | d=>d
noncomputable def leave(h:MH)(d:D)(h':MH):Option (D×MH):=
 if g6 h.length (AG h.length h' d)&&(yw (h'.take h.length) h||(h'.take h.length).all (Az h.length)) then some (AG h.length h' d,h'.take h.length) else none
noncomputable def Hq(len:Nat)(body:SM):Fn:=fun ds h=>((body (entry len ds) h).bind Jv).bind fun p=>leave h p.1 p.2
theorem dG.leave{K:FR}{ρ:Ad}{H H':Hp}{h h1 h':MH}{d d':D}{v:V}(S:bK K ρ h H)(p:dG K ρ H h1 d v H')(e:Sm.leave h d h1=some (d',h')):dG K ρ H h' d' v H':=by
 obtain⟨ρ1,T,S1,r⟩:=p;unfold Sm.leave at e
 by_cases hc:(g6 h.length (AG h.length h1 d)&&(yw (h1.take h.length) h||(h1.take h.length).all (Az h.length)))=true
 ·rw[Ut hc] at e;cases e;rw[UJ] at hc;obtain⟨c1,c2⟩:=hc;have hle:h.length≤h1.length:=by
   rw[←S.len,←S1.len];refine Nat.le_of_not_lt fun hlt=>?_;have e1:ρ.ob[ρ1.ob.length]?=some ρ.ob[ρ1.ob.length]:=Um hlt;have:=(Ui.mp (T.pre _ _ e1)).1
   lia
  have hall:∀(m:Nat) o,m < h.length->h1[m]?=some o->Az h.length o=true:=by
   intro m o hm ho;rw[VZ] at c2;rcases c2 with c2 | c2
   ·have e1:=DJ c2;have e2:h[m]?=some o:=by rw[←e1,U7 hm];exact ho
    have hm':m < ρ.ob.length:=by rw[S.len];exact hm
    have:=(S.at_ m _ o (Um hm') e2).clean;rw[S.len] at this;exact this
   ·rw[V2] at c2;exact c2 o (Ul (show(h1.take h.length)[m]?=some o by rw[U7 hm];exact ho))
  have Sc:bK K (ρ1.cut h.length) (h1.take h.length) H':=by
   refine⟨by simp[S1.len],S1.nd.sublist (X7 _ _),fun n a o e1 e2=>?_,fun b hb=>⟨(S1.vi b hb).1,fun m=>(S1.vi b hb).2 (XJ m)⟩⟩;have hn:n < h.length:=by
    have:=(Ui.mp e2).1;rw[UM] at this
    lia
   have e1:(ρ1.ob.take h.length)[n]?=some a:=e1;rw[U7 hn] at e1 e2;exact(S1.at_ n a o e1 e2).cut (hall n o hn e2)
  refine⟨ρ1.cut h.length,⟨⟨fun n a e=>?_,fun b o n e=>?_⟩,T.rs,T.res⟩,Sc,?_⟩
  ·have hn:n < h.length:=by rw[←S.len];exact(Ui.mp e).1
   show(ρ1.ob.take h.length)[n]?=some a;rw[U7 hn];exact T.pre n a e
  ·obtain⟨n1,e1⟩:=T.old b o n e;exact⟨fun m=>n1 (Ad.nY m),e1⟩
  ·cases d with
   | ob m=>
    unfold AG at c1 ⊢;dsimp only at c1 ⊢
    by_cases hm:m < h.length
    ·rw[Ut hm] at c1 ⊢;exact r.cut c1
    ·rw[Uu hm] at c1 ⊢;cases r with
     | ob hn=>
      rename_i a;have na:¬(ρ1.cut h.length).has a:=by
       intro z;rcases z with z | z
       ·obtain⟨j,hj⟩:=List.getElem?_of_mem z;have hj1:j < h.length:=by
         have:=(Ui.mp hj).1;rw[UM] at this
         lia
        rw[U7 hj1] at hj;have:=(X8 (Ui.mp hj).1 S1.nd).mp (hj.trans hn.symm)
        lia
       ·exact(S1.vi a z).2 (Ul hn)
      cases q:h1[m]? with
      | none=>rw[q] at c1;exact absurd c1 (by simp[g6];lia)
      | some o=>
       have x:=S1.at_ m a o hn q;cases o with
       | lst xs=>
        rw[q] at c1;obtain⟨vs,e1,l⟩:=x;exact .lv e1 na (l.cut (by simpa [g6] using c1))
       | dct xs=>
        rw[q] at c1;obtain⟨vs,e1,l⟩:=x;exact .dv e1 na (l.cut (by simpa [g6] using c1))
       | dcH xs=>rw[q] at c1;exact absurd c1 (by simp[g6];lia)
   | _=>exact r.cut c1
 ·rw[Uu hc] at e;cases e
section
variable {P:Program} {w:World} {K:FR} {mg:Str->Option Value} {base:Heap} {x qual:Str} {st:Stmt} {f:Addr} {fd:FuncData} {N ps:List Str} {k:Nat}
theorem eD(G:aX P w K mg base de k f fd ps (dJ K ps.length (fW N.length body))):aX P w K mg base de k f fd ps (dJ K ps.length (Hq N.length body)):=by
 refine G.imp fun vs H Q E hh=>?_;obtain⟨ρ,h,ds,d,h',S,r,hl,e,q⟩:=hh;obtain⟨⟨d1,h1⟩,e1,e2⟩:=bo e;exact⟨ρ,h,ds,d1,h1,S,r,hl,e1,fun v H' p=>q v H' (p.leave S e2)⟩
end
def spT(K:FR):Sp:=fun vs H Q _=>∃(a:Addr)(ns:List Int),vs=[.ref a]∧fR K H a (ns.map V.int)∧ns.length≤63∧∀H',Q (.bl true) H'
theorem Kw{P:Program}{w:World}{K:FR}{mg:Str->Option Value}{base:Heap}{k:Nat}{f:Addr}{fd:FuncData}{ps:List Str}{F:Fn}(G:aX P w K mg base de k f fd ps (dJ K 1 F))
  (hF:∀ns:List Int,ns.length≤63->∃h',F [.ro (ns.map D.int)] []=some (.bl true,h')):aX P w K mg base de k f fd ps (spT K):=by
 refine G.imp fun vs H Q E hh=>?_;obtain⟨a,ns,rfl,ha,hl,q⟩:=hh;obtain⟨h',e⟩:=hF ns hl;refine⟨⟨[],[]⟩,[],[.ro (ns.map D.int)],.bl true,h',⟨rfl,List.nodup_nil,fun n a o e=>by simp at e,fun b hb=>absurd hb (by simp)⟩,.cons (.ro ?_ (kR ns)) .nil,rfl,e,fun v H' ⟨ρ',T,S,r⟩=>?_⟩
 ·rcases ha with ha | ha
  ·exact .inl ⟨ha,fun z=>z.elim (fun z=>absurd z (by simp)) fun z=>absurd z (by simp)⟩
  ·exact .inr (.inr ha)
 ·cases r;exact q H'
noncomputable def Ej(h:MH)(d:D):Option PyData:=match d with
 | .ob n=>match h[n]? with
  | some (.lst xs)=>(iA xs).map .list
  | _=>none
 | d=>qa d
mutual
theorem Rep.uD{K:FR}{ρ:Ad}{H:Hp}{v:V}{d:D}{p:PyData}(r:Rep K ρ H v d)(e:qa d=some p):Fw K H v p∧p.canLay0=true:=by
 cases r with
 | bz=>cases e;exact⟨.bz,rfl⟩
 | bl b=>cases e;exact⟨.bl b,rfl⟩
 | int i=>cases e;exact⟨.int i,rfl⟩
 | str hs=>cases e;exact⟨.str _,by simpa [PyData.canLay0] using hs⟩
 | tup h l=>obtain⟨q,e1,rfl⟩:=fO e;obtain⟨a,b⟩:=az.uD l e1;exact⟨.tup h.sq a,by simpa [PyData.canLay0] using b⟩
 | lv h n l=>obtain⟨q,e1,rfl⟩:=fO e;obtain⟨a,b⟩:=az.uD l e1;exact⟨.lst (fR.of h) a,by simpa [PyData.canLay0] using b⟩
 | ro h l=>obtain⟨q,e1,rfl⟩:=fO e;obtain⟨a,b⟩:=az.uD l e1;exact⟨.lst h.sq a,by simpa [PyData.canLay0] using b⟩
 | _=>exact b5 e
theorem az.uD{K:FR}{ρ:Ad}{H:Hp}{v:List V}{d:List D}{p:List PyData}(r:az K ρ H v d)(e:iA d=some p):t8 K H v p∧PyData.canLayAll0 p=true:=by
 cases r with
 | nil=>cases e;exact⟨.nil,rfl⟩
 | cons r l=>
  obtain⟨a,e1,e2⟩:=bo e;obtain⟨b,e3,rfl⟩:=fO e2;obtain⟨a1,a2⟩:=Rep.uD r e1;obtain⟨b1,b2⟩:=az.uD l e3;exact⟨.cons a1 b1,by simp[PyData.canLayAll0,a2,b2]⟩
end
section
variable {K:FR} {ρ:Ad} {H:Hp} {h:MH} {v:V} {d:D}
theorem rh(S:bK K ρ h H)(r:Rep K ρ H v d)(e:Ej h d=some p):Fw K H v p∧p.canLay0=true:=by
 cases r with
 | @ob a n hn=>
  unfold Ej at e;dsimp only at e;cases q:h[n]? with
  | none=>rw[q] at e;cases e
  | some o=>
   rw[q] at e;cases o with
   | dct _=>exact b5 e
   | dcH _=>exact b5 e
   | lst xs=>
    obtain⟨vs,e1,l⟩:=S.at_ n a _ hn q;obtain⟨b,e3,e4⟩:=fO e;subst e4;obtain⟨b1,b2⟩:=l.uD e3;exact⟨.lst (fR.of e1) b1,by simpa [PyData.canLay0] using b2⟩
 | bz=>exact Rep.uD (Rep.bz (ρ:=ρ)) e
 | bl b=>exact Rep.uD (Rep.bl (ρ:=ρ) b) e
 | int i=>exact Rep.uD (Rep.int (ρ:=ρ) i) e
 | str x=>exact Rep.uD (Rep.str (ρ:=ρ) x) e
 | ty n=>exact Rep.uD (Rep.ty (ρ:=ρ) n) e
 | tup h l=>exact Rep.uD (.tup h l) e
 | lv h n l=>exact Rep.uD (.lv h n l) e
 | ro h l=>exact Rep.uD (.ro h l) e
 | dv h n l=>exact Rep.uD (.dv h n l) e
noncomputable def fY(d:D)(h:MH):Option (List D):=match d with
 | .lv xs=>some xs
 | .ob n=>match h[n]? with
  | some (.lst xs)=>some xs
  | _=>none
 | _=>none
theorem eC(S:bK K ρ h H)(r:Rep K ρ H v d)(e:fY d h=some xs):∃a vs,v=.ref a∧H a=some (.lst vs)∧az K ρ H vs xs:=by
 cases r with
 | @ob a n hn=>
  unfold fY at e;dsimp only at e;cases q:h[n]? with
  | none=>rw[q] at e;cases e
  | some o=>
   rw[q] at e;cases o with
   | dct _=>exact b5 e
   | dcH _=>exact b5 e
   | lst ys=>
    cases e;obtain⟨vs,e1,l⟩:=S.at_ n a _ hn q;exact⟨a,vs,rfl,e1,l⟩
 | lv h n l=>cases e;exact⟨_,_,rfl,h,l⟩
 | _=>exact b5 e
noncomputable def dY(d:D)(h:MH):Option (List (Key×D)):=match d with
 | .dv kvs=>some kvs
 | .ob n=>match h[n]? with
  | some (.dct kvs)=>some kvs
  | _=>none
 | _=>none
theorem nX(S:bK K ρ h H)(r:Rep K ρ H v d)(e:dY d h=some xs):∃a vs,v=.ref a∧H a=some (.dK vs)∧bg K ρ H vs xs:=by
 cases r with
 | @ob a n hn=>
  unfold dY at e;dsimp only at e;cases q:h[n]? with
  | none=>rw[q] at e;cases e
  | some o=>
   rw[q] at e;cases o with
   | lst _=>exact b5 e
   | dcH _=>exact b5 e
   | dct ys=>
    cases e;obtain⟨vs,e1,l⟩:=S.at_ n a _ hn q;exact⟨a,vs,rfl,e1,l⟩
 | dv h n l=>cases e;exact⟨_,_,rfl,h,l⟩
 | _=>exact b5 e
theorem rf(S:bK K ρ h H)(r:Rep K ρ H v d)(e:cT d h=some (xs,ws)):∃a vs,v=.ref a∧(fR K H a vs∨jD K H a vs)∧az K ρ H vs xs:=by
 obtain⟨a,e1,⟨vs,q,l⟩,_⟩:=jN S r e;refine⟨a,vs,e1,?_,l⟩;generalize qT d=b at q;cases q with
 | l q=>exact .inl q
 | t q=>exact .inr q
noncomputable def qS:D->Option Key
 | .int i=>some (.inl i)
 | .str x=>some (.inr x)
 | _=>none
noncomputable def dN(kvs:List (Key×D))(k:Key):Option D:=(kvs.find? fun kv=>decide (kv.1=k)).map (·.2)
noncomputable def putD(kvs:List (Key×D))(k:Key)(v:D):List (Key×D):=
 if(kvs.any fun kv=>decide (kv.1=k))=true then kvs.map (fun kv=>if kv.1=k then(kv.1,v) else kv) else kvs++[(k,v)]
theorem kW(r:Rep K ρ H v d)(e:qS d=some k):v=kV k:=by
 cases r with
 | int i=>cases e;rfl
 | str x=>cases e;rfl
 | _=>exact b5 e
theorem bg.val:∀{us:List (Key×V)} {kvs:List (Key×D)} (k:Key),bg K ρ H us kvs->(dN kvs k=none∧jE us k=none)∨∃d v,dN kvs k=some d∧jE us k=some v∧Rep K ρ H v d
 | _,_,k,.nil=>.inl ⟨rfl,rfl⟩
 | _,_,k,.cons (k:=j) (v:=v) (vs:=vs) (d:=d) (ds:=ds) r l=>by
  by_cases z:j=k
  ·exact .inr ⟨d,v,by simp[dN,z],by simp[jE,z],r⟩
  ·have h1:dN ((j,d)::ds) k=dN ds k:=by simp only[dN,V6,z,decide_false]
   have h2:jE ((j,v)::vs) k=jE vs k:=mO z;rw[h1,h2];exact bg.val k l
theorem bg.length:∀{us:List (Key×V)} {kvs:List (Key×D)},bg K ρ H us kvs->us.length=kvs.length
 | _,_,.nil=>rfl
 | _,_,.cons _ l=>by rw[Uw,Uw,bg.length l]
theorem bg.any(k:Key):∀{us:List (Key×V)} {kvs:List (Key×D)},bg K ρ H us kvs->(us.any fun kv=>decide (kv.1=k))=(kvs.any fun kv=>decide (kv.1=k))
 | _,_,.nil=>rfl
 | _,_,.cons _ l=>by rw[WG,WG,bg.any k l]
theorem bg.map(r:Rep K ρ H v d):∀{us:List (Key×V)} {kvs:List (Key×D)},bg K ρ H us kvs->bg K ρ H (us.map fun kv=>if kv.1=k then(kv.1,v) else kv) (kvs.map fun kv=>if kv.1=k then(kv.1,d) else kv)
 | _,_,.nil=>.nil
 | _,_,.cons (k:=j) q l=>by
  rw[Uv,Uv]
  by_cases z:j=k
  ·rw[Ut z,Ut z];exact .cons r (bg.map r l)
  ·rw[Uu z,Uu z];exact .cons q (bg.map r l)
theorem bg.append:∀{us vs:List (Key×V)} {ks ls:List (Key×D)},bg K ρ H us ks->bg K ρ H vs ls->bg K ρ H (us++vs) (ks++ls)
 | _,_,_,_,.nil,t=>t
 | _,_,_,_,.cons r l,t=>.cons r (bg.append l t)
theorem bg.put(l:bg K ρ H us kvs)(r:Rep K ρ H v d):bg K ρ H (putK us k v) (putD kvs k d):=by
 unfold putK putD;rw[l.any k]
 by_cases z:(kvs.any fun kv=>decide (kv.1=k))=true
 ·rw[Ut z,Ut z];exact l.map r
 ·rw[Uu z,Uu z];exact l.append (.cons r .nil)
end
noncomputable def BS(d e:D)(h:MH):Option (D×MH):=match d,e with
 | .int i,.int j=>some (.int (i+j),h)
 | .str a,.str b=>if a.length+b.length≤sizeLine then some (.str (a++b),h) else none
 | .tup [],.tup _=>none
 | .tup (x::xs),.tup ys=>if xs.length+1+ys.length≤sizeLine then some (.tup (x::xs++ys),h) else none
 | d,e=>(fY d h).bind fun xs=>(fY e h).bind fun ys=>if xs.length+ys.length≤sizeLine then some (.lv (xs++ys),h) else none
noncomputable def xY(d e:D)(h:MH):Option (D×MH):=match d,e with
 | .int i,.int j=>some (.int (i-j),h)
 | _,_=>none
noncomputable def nv(i j:Int):Bool:=(decide (-(2^64) < i)&&decide (i < 2^64))||(decide (-(2^64) < j)&&decide (j < 2^64))
noncomputable def NZ(d e:D)(h:MH):Option (D×MH):=match d,e with
 | .int i,.int j=>if nv i j then some (.int (i*j),h) else none
 | _,_=>none
noncomputable def tx(d e:D)(h:MH):Option (D×MH):=match d,e with
 | .int i,.int j=>if 0 < j then some (.int (i % j),h) else none
 | _,_=>none
noncomputable def HP(d e:D)(h:MH):Option (D×MH):=match d,e with
 | .int i,.int j=>if 0 < j∧j≤10^40 then some (.int (i / j),h) else none
 | _,_=>none
noncomputable def KP(d e:D)(h:MH):Option (D×MH):=match d,e with
 | .int i,.int j=>if 0≤j∧j≤1000000∧i.natAbs < 2^64 then some (.int (i^j.toNat),h) else none
 | _,_=>none
noncomputable def Ih(f:Int->Int->Bool)(d e:D)(h:MH):Option (D×MH):=match d,e with
 | .int i,.int j=>some (.bl (f i j),h)
 | _,_=>none
noncomputable def IX:=Ih fun i j=>decide (i < j)
noncomputable def To:=Ih fun i j=>decide (i≤j)
noncomputable def HN:=Ih fun i j=>decide (j < i)
noncomputable def Qv:=Ih fun i j=>decide (j≤i)
noncomputable def LJ(d e:D)(h:MH):Option Bool:=(Ej h d).bind fun a=>(Ej h e).bind fun b=>if a.depth≤64∧b.depth≤64 then some (PyData.eqv a b) else none
noncomputable def Sx:D->Bool
 | .bz=>true
 | _=>false
noncomputable def nP(d e:D)(h:MH):Option (D×MH):=match e with
 | .bz=>some (.bl (Sx d),h)
 | _=>none
noncomputable def lI(d e:D)(h:MH):Option (D×MH):=match e with
 | .bz=>some (.bl (!Sx d),h)
 | _=>none
noncomputable def cS(d:D)(h:MH):Option (D×MH):=match d with
 | .int i=>some (.int (-i),h)
 | _=>none
noncomputable def inD(d e:D)(h:MH):Option Bool:=match dY e h with
 | some kvs=>(qS d).map fun k=>(dN kvs k).isSome
 | none=>match d,e with
  | .str x,.str y=>some (!(Builtin.Str.occurrences y x 0 y.length 1).isEmpty)
  | d,e=>(cT e h).bind fun p=>(Ej h d).bind fun a=>(iA p.1).bind fun bs=>if a.depth≤60∧PyData.depthAll bs≤60 then some (bs.any fun b=>PyData.eqv b a) else none
noncomputable def x5(d e:D)(h:MH):Option (D×MH):=(inD d e h).map fun c=>(.bl c,h)
noncomputable def jl(d e:D)(h:MH):Option (D×MH):=(inD d e h).map fun c=>(.bl (!c),h)
noncomputable def aE(d e:D)(h:MH):Option (D×MH):=match dY d h with
 | some kvs=>(qS e).bind fun k=>(dN kvs k).map fun z=>(z,h)
 | none=>match d,e with
  | .str z,.int i=>if z.length≤sizeLine then(g8 z.cps.toList i).map fun c=>(.str ⟨#[c]⟩,h) else none
  | d,.int i=>(cT d h).bind fun p=>(g8 p.1 i).map fun z=>(z,h)
  | _,_=>none
theorem j6{K:FR}{ρ:Ad}{H:Hp}{x:V}{i:Int}(r:Rep K ρ H x (.int i)):x=.int i:=by cases r;rfl
theorem Bd{K:FR}{ρ:Ad}{H:Hp}{x:V}{i:Str}(r:Rep K ρ H x (.str i)):x=.str i∧PyData.strOk i=true:=by cases r with | str h=>exact⟨rfl,h⟩
theorem Gx{K:FR}{ρ:Ad}{H:Hp}{x:V}{ds:List D}(r:Rep K ρ H x (.tup ds)):∃a vs,x=.ref a∧TupAt K ρ H a vs∧az K ρ H vs ds:=by cases r with | tup h l=>exact⟨_,_,rfl,h,l⟩
theorem xC(ho:oA X g (rI C q))(hf:∀d e h z h',f d e h=some (z,h')->∃i j,d=.int i∧e=.int j∧C i j∧h'=h∧∀ρ H,Rep X.K ρ H (q i j) z):ow X g f:=by
 intro pins s σ H x y v u Q I rx ry hh;obtain⟨ρ,h,d,e,z,h',S,rd,re,ee,k⟩:=hh;obtain⟨i,j,rfl,rfl,c,rfl,rz⟩:=hf _ _ _ _ _ ee;obtain rfl:=j6 rd;obtain rfl:=j6 re;exact ho pins s σ H _ _ v u Q I rx ry ⟨i,j,rfl,rfl,c,k _ _ (.here S (rz _ _))⟩
theorem ni(ho:oA X g (JA q))(hf:∀d e h z h',f d e h=some (z,h')->∃i j,d=.int i∧e=.int j∧h'=h∧∀ρ H,Rep X.K ρ H (q i j) z):ow X g f:=by
 intro pins s σ H x y v u Q I rx ry hh;obtain⟨ρ,h,d,e,z,h',S,rd,re,ee,k⟩:=hh;obtain⟨i,j,rfl,rfl,rfl,rz⟩:=hf _ _ _ _ _ ee;obtain rfl:=j6 rd;obtain rfl:=j6 re;exact ho pins s σ H _ _ v u Q I rx ry ⟨i,j,rfl,rfl,k _ _ (.here S (rz _ _))⟩
theorem G7:ow X (binaryOp .Sub) xY:=ni Nr fun d e h z h' ee=>by
 cases d <;> first |(exact b5 ee) | skip
 cases e <;> first |(exact b5 ee) | skip
 cases ee;exact⟨_,_,rfl,rfl,rfl,fun _ _=>.int _⟩
theorem Nj:ow X (binaryOp .Mult) NZ:=xC Nv fun d e h z h' ee=>by
 cases d <;> first |(exact b5 ee) | skip
 cases e <;> first |(exact b5 ee) | skip
 rename_i i j;unfold NZ at ee;dsimp only at ee
 by_cases c:nv i j=true
 ·rw[Ut c] at ee;cases ee;refine⟨i,j,rfl,rfl,?_,rfl,fun _ _=>.int _⟩;unfold nv at c;simp only[VZ,UJ,Vc] at c;exact c
 ·rw[Uu c] at ee;cases ee
theorem sQ:ow X (binaryOp .Mod) tx:=xC Nw fun d e h z h' ee=>by
 cases d <;> first |(exact b5 ee) | skip
 cases e <;> first |(exact b5 ee) | skip
 rename_i i j;unfold tx at ee;dsimp only at ee
 by_cases c:0 < j
 ·rw[Ut c] at ee;cases ee;exact⟨i,j,rfl,rfl,c,rfl,fun _ _=>.int _⟩
 ·rw[Uu c] at ee;cases ee
theorem Nn:ow X (binaryOp .FloorDiv) HP:=xC He fun d e h z h' ee=>by
 cases d <;> first |(exact b5 ee) | skip
 cases e <;> first |(exact b5 ee) | skip
 rename_i i j;unfold HP at ee;dsimp only at ee
 by_cases c:0 < j∧j≤10^40
 ·rw[Ut c] at ee;cases ee;exact⟨i,j,rfl,rfl,c,rfl,fun _ _=>.int _⟩
 ·rw[Uu c] at ee;cases ee
theorem G9:ow X (binaryOp .Pow) KP:=xC Nu fun d e h z h' ee=>by
 cases d <;> first |(exact b5 ee) | skip
 cases e <;> first |(exact b5 ee) | skip
 rename_i i j;unfold KP at ee;dsimp only at ee
 by_cases c:0≤j∧j≤1000000∧i.natAbs < 2^64
 ·rw[Ut c] at ee;cases ee;exact⟨i,j,rfl,rfl,c,rfl,fun _ _=>.int _⟩
 ·rw[Uu c] at ee;cases ee
theorem Dz(ee:Ih f d e h=some (z,h')):∃i j,d=.int i∧e=.int j∧h'=h∧z=.bl (f i j):=by
 cases d <;> first |(exact b5 ee) | skip
 cases e <;> first |(exact b5 ee) | skip
 cases ee;exact⟨_,_,rfl,rfl,rfl,rfl⟩
theorem LD:ow X (compareOp .Lt) IX:=ni Qe fun d e h z h' ee=>by
 obtain⟨i,j,rfl,rfl,rfl,rfl⟩:=Dz ee;exact⟨i,j,rfl,rfl,rfl,fun _ _=>.bl _⟩
theorem LF:ow X (compareOp .LtE) To:=ni Qf fun d e h z h' ee=>by
 obtain⟨i,j,rfl,rfl,rfl,rfl⟩:=Dz ee;exact⟨i,j,rfl,rfl,rfl,fun _ _=>.bl _⟩
theorem Qd:ow X (compareOp .Gt) HN:=ni Qg fun d e h z h' ee=>by
 obtain⟨i,j,rfl,rfl,rfl,rfl⟩:=Dz ee;exact⟨i,j,rfl,rfl,rfl,fun _ _=>.bl _⟩
theorem LG:ow X (compareOp .GtE) Qv:=ni Qh fun d e h z h' ee=>by
 obtain⟨i,j,rfl,rfl,rfl,rfl⟩:=Dz ee;exact⟨i,j,rfl,rfl,rfl,fun _ _=>.bl _⟩
theorem FJ:QR X (unaryOp .USub) (rU X.K cS):=by
 intro pins s σ H x v Q I rx hh;obtain⟨ρ,h,d,z,h',S,rd,ee,k⟩:=hh;cases rd <;> first |(exact b5 ee) | skip
 cases ee;exact L6 pins s σ H _ v Q I rx ⟨_,rfl,k _ _ (.here S (.int _))⟩
noncomputable def Oo(d e:D)(h:MH):Option (D×MH):=(fY d h).bind fun xs=>(fY e h).bind fun ys=>if xs.length+ys.length≤sizeLine then some (D.lv (xs++ys),h) else none
def Rf(d e:D)(h:MH)(p:D×MH):Prop:=(∃i j,d=.int i∧e=.int j)∨(∃a b,d=.str a∧e=.str b)∨(∃x xs ys,d=.tup (x::xs)∧e=.tup ys)∨Oo d e h=some p
theorem yx{d e:D}{h:MH}{p:D×MH}(z:Oo d e h=some p):Rf d e h p:=.inr (.inr (.inr z))
theorem HQ{d e:D}{h:MH}{p:D×MH}(ee:BS d e h=some p):Rf d e h p:=by
 cases d with
 | int i=>cases e with
  | int j=>exact .inl ⟨i,j,rfl,rfl⟩
  | _=>exact yx ee
 | str a=>cases e with
  | str b=>exact .inr (.inl ⟨a,b,rfl,rfl⟩)
  | _=>exact yx ee
 | tup xs=>cases e with
  | tup ys=>cases xs with
   | nil=>exact b5 ee
   | cons x xs=>exact .inr (.inr (.inl ⟨x,xs,ys,rfl,rfl⟩))
  | _=>cases xs <;> exact yx ee
 | _=>exact yx ee
theorem Np:ow X (binaryOp .Add) BS:=by
 intro pins s σ H x y v u Q I rx ry hh;obtain⟨ρ,h,d,e,z,h',S,rd,re,ee,k⟩:=hh;have lists:((fY d h).bind fun xs=>(fY e h).bind fun ys=>if xs.length+ys.length≤sizeLine then some (D.lv (xs++ys),h) else none)=some (z,h')->wpAny (model X.prog X.w) X.A (binaryOp .Add v u) (EP X pins σ Q) X.xe s:=by
  intro ee;obtain⟨xs,e1,e4⟩:=bo ee;obtain⟨ys,e2,e3⟩:=bo e4
  by_cases c:xs.length+ys.length≤sizeLine
  ·rw[Ut c] at e3;cases e3;obtain⟨a,vs,rfl,ha,la⟩:=eC S rd e1;obtain⟨b,us,rfl,hb,lb⟩:=eC S re e2;exact Hg pins s σ H _ _ v u Q I rx ry ⟨a,b,vs,us,rfl,rfl,ha,hb,by rw[la.length,lb.length];exact c,fun p hp=>k _ _ (.lv S (la.append lb) hp)⟩
  ·rw[Uu c] at e3;cases e3
 rcases(HQ ee:(∃i j,d=.int i∧e=.int j)∨(∃a b,d=.str a∧e=.str b)∨(∃x xs ys,d=.tup (x::xs)∧e=.tup ys)∨Oo d e h=some (z,h')) with⟨i,j,rfl,rfl⟩ |⟨a,b,rfl,rfl⟩ |⟨x0,xs,ys,rfl,rfl⟩ | z
 ·cases ee;obtain rfl:=j6 rd;obtain rfl:=j6 re;exact Ny pins s σ H _ _ v u Q I rx ry ⟨_,_,rfl,rfl,k _ _ (.here S (.int _))⟩
 ·unfold BS at ee;dsimp only at ee
  by_cases c:a.length+b.length≤sizeLine
  ·rw[Ut c] at ee;cases ee;obtain⟨rfl,h1⟩:=Bd rd;obtain⟨rfl,h2⟩:=Bd re;exact Bv pins s σ H _ _ v u Q I rx ry ⟨a,b,rfl,rfl,c,k _ _ (.here S (.str (DZ h1 h2)))⟩
  ·rw[Uu c] at ee;cases ee
 ·unfold BS at ee;dsimp only at ee
  by_cases c:xs.length+1+ys.length≤sizeLine
  ·rw[Ut c] at ee;cases ee;obtain⟨a,vs,rfl,h1,l1⟩:=Gx rd;obtain⟨b,us,rfl,h2,l2⟩:=Gx re;refine Kh pins s σ H _ _ v u Q I rx ry ⟨a,b,vs,us,rfl,rfl,h1.sq,h2.sq,?_,?_,fun z=>?_,fun _ p hp=>k _ _ (.tup S (l1.append l2) hp)⟩
   ·intro z;rw[z] at l1;cases l1
   ·rw[l1.length,l2.length];exact c
   ·rw[z] at l2;cases l2;rw[Vy] at k;exact k _ _ (.here S (.tup h1 l1))
  ·rw[Uu c] at ee;cases ee
 ·exact lists z
theorem k7(h1:p.canLay0=true)(h2:p.depth≤64):SeqAt.shaped p=true:=by
 unfold PySem.SeqAt.shaped;rw[h1,Ve h2];rfl
theorem CI{K:FR}{ρ:Ad}{H:Hp}{v:V}{d:D}(r:Rep K ρ H v d):decide (v=V.bz)=Sx d:=by
 cases r <;> rfl
theorem Nk:ow X (compareOp .Is) nP:=by
 intro pins s σ H x y v u Q I rx ry hh;obtain⟨ρ,h,d,e,z,h',S,rd,re,ee,k⟩:=hh;cases e <;> first |(exact b5 ee) | skip
 cases ee;cases re;refine Nx pins s σ H _ _ v u Q I rx ry ⟨rfl,?_⟩;rw[CI rd];exact k _ _ (.here S (.bl _))
theorem Kf:ow X (compareOp .IsNot) lI:=by
 intro pins s σ H x y v u Q I rx ry hh;obtain⟨ρ,h,d,e,z,h',S,rd,re,ee,k⟩:=hh;cases e <;> first |(exact b5 ee) | skip
 cases ee;cases re;refine Kg pins s σ H _ _ v u Q I rx ry ⟨rfl,?_⟩;rw[CI rd];exact k _ _ (.here S (.bl _))
theorem wq{us:List Value}{ds:List PyData}{as:List Addr}(H:ReadsAll h us ds as)(hf:∀u d as,u∈us->Reads h u d as->d∈ds->f u=PyData.eqv d p):us.any f=ds.any fun b=>PyData.eqv b p:=by
 cases H with
 | nil=>rfl
 | cons r l=>rw[WG,WG,hf _ _ _ Uo r Uo,wq l fun u d as hu hr hd=>hf u d as (Ur _ hu) hr (Ur _ hd)]
open Classical in
noncomputable def HX(h:Heap)(p:PyData)(u:Value):Bool:=if q:∃d as,Reads h u d as∧d.canLay0=true then PyData.eqv q.choose p else false
theorem x8(r:Reads h u d as)(c:d.canLay0=true):HX h p u=PyData.eqv d p:=by
 have q:∃d as,Reads h u d as∧d.canLay0=true:=⟨d,as,r,c⟩;unfold HX;rw[dif_pos q];obtain⟨as',r',c'⟩:=q.choose_spec;rw[PySem.SeqAt.Reads.unique _ _ _ _ _ c' r' r]
theorem dP:∀{ds:List PyData} {d:PyData},PyData.canLayAll0 ds=true->d∈ds->d.canLay0=true
 | x::r,d,c,m=>by
  simp only[PyData.canLayAll0,UJ] at c;rcases UE.mp m with rfl | m
  ·exact c.1
  ·exact dP c.2 m
theorem pU:∀{ds:List PyData} {d:PyData},d∈ds->d.depth≤PyData.depthAll ds
 | x::r,d,m=>by
  simp only[PyData.depthAll];rcases UE.mp m with rfl | m
  ·lia
  ·have:=pU m;lia
theorem o4{us:List Value}{ds:List PyData}{as:List Addr}(H:ReadsAll h us ds as)(y:Value)(hy:y∈us):∃d as,Reads h y d as∧d∈ds:=by
 cases H with
 | nil=>cases hy
 | cons r l=>
  rcases UE.mp hy with rfl | hy
  ·exact⟨_,_,r,Uo⟩
  ·obtain⟨d,as,a1,a2⟩:=o4 l y hy;exact⟨d,as,a1,Ur _ a2⟩
theorem in_of(hu:X.A.units+64 < cLine)(I:L2.Inv X pins σ H s)(rx:L2.RelV x v)(ry:L2.RelV y u)(S:bK X.K ρ h H)(rd:Rep X.K ρ H x d)(re:Rep X.K ρ H y e){c:Bool}(ee:inD d e h=some c){Q:Bool->Shared->Prop}(hq:∀s',L2.Inv X pins σ H s'->Q c s'):
  wpAny (model X.prog X.w) X.A (compareOp .In v u) (fun r s'=>∃c,r=.bool c∧Q c s') X.xe s∧wpAny (model X.prog X.w) X.A (compareOp .NotIn v u) (fun r s'=>∃c,r=.bool (!c)∧Q c s') X.xe s:=by
 unfold inD at ee;cases qd:dY e h with
 | some kvs=>
  rw[qd] at ee;obtain⟨k,e1,e2⟩:=fO ee;obtain⟨a,us,rfl,ha,l⟩:=nX S re qd;obtain rfl:u=Value.ref a:=ry;have ek:=kW rd e1;subst ek;have g:uW H a (kV k) (jE us k):=uW.k ha;have ec:(jE us k).isSome=c:=by
   rw[←e2];rcases l.val k with⟨h1,h2⟩ |⟨d,v,h1,h2,_⟩
   ·rw[h1,h2];rfl
   ·rw[h1,h2];rfl
  refine⟨SK (by lia) I g rx fun s' I'=>⟨c,by rw[ec],hq s' I'⟩,KW (by lia) I g rx fun s' I'=>⟨c,by rw[ec],hq s' I'⟩⟩
 | none=>
  rw[qd] at ee;dsimp only at ee;have seqs:((cT e h).bind fun p=>(Ej h d).bind fun a=>(iA p.1).bind fun bs=>if a.depth≤60∧PyData.depthAll bs≤60 then some (bs.any fun b=>PyData.eqv b a) else none)=some c->
    wpAny (model X.prog X.w) X.A (compareOp .In v u) (fun r s'=>∃c,r=.bool c∧Q c s') X.xe s∧wpAny (model X.prog X.w) X.A (compareOp .NotIn v u) (fun r s'=>∃c,r=.bool (!c)∧Q c s') X.xe s:=by
   intro ee;obtain⟨⟨xs,ws⟩,e1,e2⟩:=bo ee;obtain⟨p,e3,e4⟩:=bo e2;obtain⟨bs,e5,e6⟩:=bo e4
   by_cases w:p.depth≤60∧PyData.depthAll bs≤60
   ·rw[Ut w] at e6;cases e6;obtain⟨a,vs,rfl,hq',l⟩:=rf S re e1;obtain rfl:u=Value.ref a:=ry;obtain⟨r1,c1⟩:=rh S rd e3;obtain⟨r2,c2⟩:=l.uD e5;obtain⟨as,ra⟩:=r1.reads I rx;have key:∀its:List Value,Vals vs its->(∀y,y∈its->PySem.SeqAt.EqAt X.A.in1 s y v (HX s.heap p y))∧its.any (HX s.heap p)=bs.any fun b=>PyData.eqv b p:=by
     intro its rv;obtain⟨bs',rb⟩:=r2.reads I rv;refine⟨fun y hy=>?_,wq rb fun u d as _ hr hd=>x8 hr (dP c2 hd)⟩;obtain⟨d,as',hr,hd⟩:=o4 rb y hy;rw[x8 hr (dP c2 hd)];refine Xs d p _ s y v as' as hr ra (dP c2 hd) c1 ?_;have h1:=pU hd;have h2:min d.depth p.depth≤d.depth:=XA _ _;show X.A.units+1+min d.depth p.depth < cLine;have h3:=w.2
     lia
    rcases hq' with hq' | hq'
    ·obtain⟨its,rv,pl,_⟩:=I.list hq';obtain⟨k1,k2⟩:=key its rv;have k1':∀y,y∈its.toArray->PySem.SeqAt.EqAt X.A.in1 s y v (HX s.heap p y):=fun y hy=>k1 y (by simpa using hy);have k2':its.toArray.any (HX s.heap p)=bs.any fun b=>PyData.eqv b p:=by rw[←k2];simp
     exact⟨PySem.SeqAt.in_listAt _ pl.isList k1' ⟨_,rfl,by rw[k2'];exact hq s I⟩,PySem.SeqAt.notIn_listAt _ pl.isList k1' ⟨_,rfl,by rw[k2'];exact hq s I⟩⟩
    ·obtain⟨its,rv,pl,_⟩:=I.tuple hq';obtain⟨k1,k2⟩:=key its rv;have k1':∀y,y∈its.toArray->PySem.SeqAt.EqAt X.A.in1 s y v (HX s.heap p y):=fun y hy=>k1 y (by simpa using hy);have k2':its.toArray.any (HX s.heap p)=bs.any fun b=>PyData.eqv b p:=by rw[←k2];simp
     exact⟨PySem.SeqAt.in_tupleAt _ pl k1' ⟨_,rfl,by rw[k2'];exact hq s I⟩,PySem.SeqAt.notIn_tupleAt _ pl k1' ⟨_,rfl,by rw[k2'];exact hq s I⟩⟩
   ·rw[Uu w] at e6;cases e6
  split at ee
  ·cases ee;cases rd;cases re;obtain⟨t,rfl⟩:=rx;obtain⟨t',rfl⟩:=ry;exact⟨in_str ⟨_,rfl,hq s I⟩,notIn_str ⟨_,rfl,hq s I⟩⟩
  ·exact seqs ee
theorem Hb(hu:X.A.units+64 < cLine):ow X (compareOp .In) x5:=by
 intro pins s σ H x y v u Q I rx ry hh;obtain⟨ρ,h,d,e,z,h',S,rd,re,ee,k⟩:=hh;obtain⟨c,e1,e2⟩:=fO ee;cases e2;refine cq (in_of hu I rx ry S rd re e1 (Q:=fun c' s'=>c'=c∧L2.Inv X pins σ H s') fun s' I'=>⟨rfl,I'⟩).1 fun r s' ⟨c',hr,hc,I'⟩=>?_;subst hr;subst hc;exact⟨.bl _,H,I',rfl,k _ _ (.here S (.bl _))⟩
theorem Ha(hu:X.A.units+64 < cLine):ow X (compareOp .NotIn) jl:=by
 intro pins s σ H x y v u Q I rx ry hh;obtain⟨ρ,h,d,e,z,h',S,rd,re,ee,k⟩:=hh;obtain⟨c,e1,e2⟩:=fO ee;cases e2;refine cq (in_of hu I rx ry S rd re e1 (Q:=fun c' s'=>c'=c∧L2.Inv X pins σ H s') fun s' I'=>⟨rfl,I'⟩).2 fun r s' ⟨c',hr,hc,I'⟩=>?_;subst hr;subst hc;exact⟨.bl _,H,I',rfl,k _ _ (.here S (.bl _))⟩
theorem Ld{K:FR}{ρ:Ad}{H:Hp}{vs:List V}{ds:List D}{i:Int}{d:D}(l:az K ρ H vs ds)(e:g8 ds i=some d):∃v,g8 vs i=some v∧Rep K ρ H v d:=by
 unfold g8 at e;obtain⟨j,e1,e2⟩:=bo e;obtain⟨v,e3,r⟩:=l.got e2;exact⟨v,by unfold g8;rw[l.length,e1];exact e3,r⟩
theorem Fb{d e z:D}{h h':MH}(ee:aE d e h=some (z,h')):h'=h∧((∃kvs k,dY d h=some kvs∧qS e=some k∧dN kvs k=some z)∨(∃x i c,d=.str x∧e=.int i∧x.length≤sizeLine∧g8 x.cps.toList i=some c∧z=.str ⟨#[c]⟩)∨∃i xs ws,e=.int i∧cT d h=some (xs,ws)∧g8 xs i=some z):=by
 unfold aE at ee
 split at ee
 ·obtain⟨ky,e1,e2⟩:=bo ee;obtain⟨z',e3,e4⟩:=fO e2;cases e4;exact⟨rfl,.inl ⟨_,ky,‹_›,e1,e3⟩⟩
 ·split at ee
  ·split at ee
   ·obtain⟨c,e3,e4⟩:=fO ee;cases e4;exact⟨rfl,.inr (.inl ⟨_,_,c,rfl,rfl,‹_›,e3,rfl⟩)⟩
   ·cases ee
  ·obtain⟨⟨xs,ws⟩,e1,e2⟩:=bo ee;obtain⟨z',e3,e4⟩:=fO e2;cases e4;exact⟨rfl,.inr (.inr ⟨_,xs,ws,rfl,e1,e3⟩)⟩
  ·cases ee
theorem Qm(hu:X.A.units+64 < cLine):Q9 X (rS X.K aE):=by
 intro value slice pins s σ H x y v u Q I rx ry hh hs;obtain⟨ρ,h,d,e,z,h',S,rd,re,ee,k⟩:=hh;obtain⟨rfl,hc⟩:=Fb ee;rcases hc with⟨kvs,ky,qd,e1,e3⟩ |⟨x0,i,ch,rfl,rfl,c,e3,rfl⟩ |⟨i,xs,ws,rfl,e1,e3⟩
 ·obtain⟨a,us,rfl,ha,l⟩:=nX S rd qd;obtain rfl:v=Value.ref a:=rx;have ek:=kW re e1;subst ek;rcases l.val ky with⟨h1,h2⟩ |⟨d',w,h1,h2,r⟩
  ·rw[h1] at e3;cases e3
  ·rw[h1] at e3;cases e3;have g:uW H a (kV ky) (some w):=by rw[←h2];exact uW.k ha
   exact tail_any (Ae I g) Yv.lookup (Fh (by lia) I g ry fun w' s3 I3 rw'=>⟨w,H,I3,rw',k _ _ (.here S r)⟩) hs
 ·obtain⟨rfl,hs0⟩:=Bd rd;obtain rfl:=j6 re;exact NO value slice pins s σ H _ _ v u Q I rx ry ⟨x0,i,ch,rfl,rfl,c,e3,k _ _ (.here S (.str (DY hs0 e3)))⟩ hs
 ·obtain⟨a,vs,rfl,hq',l⟩:=rf S rd e1;obtain⟨w,e5,r⟩:=Ld l e3;obtain rfl:=j6 re;rcases hq' with hq' | hq'
  ·exact Kz value slice pins s σ H _ _ v u Q I rx ry ⟨a,vs,i,w,rfl,rfl,hq',e5,k _ _ (.here S r)⟩ hs
  ·exact NM value slice pins s σ H _ _ v u Q I rx ry ⟨a,vs,i,w,rfl,rfl,hq',e5,k _ _ (.here S r)⟩ hs
theorem PC(hu:X.A.units+64 < cLine)(ha:SE X a ma)(hb:SE X b mb)(hs:ou b:=by unfold ou;intro _ _;ac_nf):SE X (.Subscript a b pos) (aj aE ma mb):=(P9 (Qm hu) ha hb hs).imp fun _ _ _=>CK
abbrev PM:=DS->MH->Option (Option Int×MH)
noncomputable def zr:PM:=fun _ h=>some (none,h)
noncomputable def zt(e:EM):PM:=fun δ h=>(e δ h).bind fun p=>match p.1 with
 | .int i=>some (some i,p.2)
 | _=>none
inductive QW(K:FR)(m:PM)(σ:L2.St)(H:Hp)(Q:Option Int->Hp->Prop):Prop where
 | mk (ρ δ h b h'):b7 K ρ H σ δ->bK K ρ h H->(m δ h=some (b,h'))->(∀ρ' H',dA ρ H ρ' H'->bK K ρ' h' H'->Q b H')->QW K m σ H Q
noncomputable def TQ(K:FR)(m:PM):TO:=fun σ H Q=>QW K m σ H Q
def SP'(X:Cx)(e:Option Expr)(m:PM):Prop:=PO X e (TQ X.K m)
theorem CC:SP' X none zr:=fun pins s σ H Q I hh=>by
 obtain⟨ρ,δ,h,b,h',R,S,e,k⟩:=hh;cases e;exact JP pins s σ H Q I (k ρ H (.refl _ _) S)
theorem CB(he:SE X e ma):SP' X (some e) (zt ma):=fun pins s σ H Q I hh=>by
 obtain⟨ρ,δ,h,b,h',R,S,e,k⟩:=hh;obtain⟨⟨x,h1⟩,e1,e2⟩:=bo e;cases x <;> first |(cases e2;done) | skip
 cases e2;refine JO he pins s σ H Q I ⟨ρ,δ,h,_,_,R,S,e1,fun v H' ⟨ρ',T,S',r⟩=>?_⟩;cases r;exact⟨_,rfl,k ρ' H' T S'⟩
noncomputable def cutD(xs:List D)(lo hi:Option Int):List D:=(xs.drop (HT.b8 xs.length 0 lo)).take (HT.b8 xs.length xs.length hi-HT.b8 xs.length 0 lo)
noncomputable def Qu(d:D)(lo hi:Option Int)(h:MH):Option (D×MH):=match d with
 | .str z=>if z.length≤sizeLine then some (.str (Txt.slice z lo hi),h) else none
 | .tup xs=>if HT.b8 xs.length 0 lo=0∧HT.b8 xs.length xs.length hi=xs.length then none else some (.tup (cutD xs lo hi),h)
 | d=>(cT d h).map fun p=>(.lv (cutD p.1 lo hi),h)
inductive Q5(K:FR)(x:V)(lo hi:Option Int)(H:Hp)(Q:VK):Prop where
 | mk (ρ h d z h'):bK K ρ h H->Rep K ρ H x d->(Qu d lo hi h=some (z,h'))->(∀v H',dG K ρ H h' z v H'->Q v H')->Q5 K x lo hi H Q
def TZ(K:FR):V->Option Int->Option Int->Hp->VK->Prop:=fun x lo hi H Q=>Q5 K x lo hi H Q
theorem az.tJ{K:FR}{ρ:Ad}{H:Hp}{vs:List V}{ds:List D}(l:az K ρ H vs ds)(lo hi:Option Int):az K ρ H (L2.tJ vs lo hi) (cutD ds lo hi):=by
 unfold L2.tJ cutD;rw[l.length];exact(l.drop _).take _
theorem Lu:OL X (TZ X.K):=by
 intro pins s σ H x v vl vu lo hi sl Q I rx hs pl pu hh;obtain⟨ρ,h,d,z,h',S,rd,ee,k⟩:=hh;have lists:qT d=true->((cT d h).map fun p=>(D.lv (cutD p.1 lo hi),h))=some (z,h')->∃T id,typeLookup (.type T) "__getitem__"=pure (some (.builtin id))∧s.TypeIs v T∧wpAny (model X.prog X.w) X.A (getItem v (.ref sl)) (EP X pins σ Q) X.xe s:=by
  intro nt e2;obtain⟨⟨xs,ws⟩,e1,e2⟩:=fO e2;cases e2;obtain⟨a,rfl,⟨vs,q,l⟩,_⟩:=jN S rd e1;rw[nt] at q;cases q with
  | l q=>exact Jn pins s σ H _ v vl vu lo hi sl Q I rx hs pl pu ⟨a,vs,rfl,q,fun p hp=>k _ _ (.lv S (l.tJ lo hi) hp)⟩
 cases d with
 | str x0=>
  unfold Qu at ee;dsimp only at ee
  by_cases c:x0.length≤sizeLine
  ·rw[Ut c] at ee;cases ee;cases rd with | str hs0=>
   exact Mn pins s σ H _ v vl vu lo hi sl Q I rx hs pl pu ⟨x0,rfl,c,k _ _ (.here S (.str (yK _ _ hs0)))⟩
  ·rw[Uu c] at ee;cases ee
 | tup xs=>
  unfold Qu at ee;dsimp only at ee
  by_cases c:HT.b8 xs.length 0 lo=0∧HT.b8 xs.length xs.length hi=xs.length
  ·rw[Ut c] at ee;cases ee
  ·rw[Uu c] at ee;cases ee;cases rd with | tup h0 l0=>
   exact Mm pins s σ H _ v vl vu lo hi sl Q I rx hs pl pu ⟨_,_,rfl,h0.sq,by rw[l0.length];exact c,fun p hp=>k _ _ (.tup S (l0.tJ lo hi) hp)⟩
 | _=>exact lists rfl ee
theorem Gi{x:Str}{id:String}{p pos:Pos}{e:Expr}{es:List Expr}{f:Fn}{m:AM}(hc:hY X (.builtin id) f)(hg:Gl X x)(hm:X.mg x=none)(hv:bootBuiltins x=some (.builtin id))(ha:SA X (e::es) m)(hn:x≠"__name__":=by decide)(hdb:(x==("__debug__":Str))=false:=by ac_nf)
  (he:starEach (e::es) X.env=(false,eval e X.env)::starEach es X.env:=by ac_nf) (hpl:(backTo pos (starEach es X.env)).any (·.1)=false:=by ac_nf):SE X (.Call (.Name x p) (e::es) [] pos) (ao f m):=
 (zp hc hg hm hv ha hn hdb he hpl).imp fun σ H Q ⟨ρ,δ,h,d,h',R,S,e,k⟩=>by
  obtain⟨⟨ds,h1⟩,e1,e2⟩:=bo e;exact⟨ρ,δ,h,ds,h1,R,S,e1,fun vs ρ1 H1 T1 S1 r1=>⟨ρ1,h1,ds,d,h',S1,r1,e2,fun v H' P=>k v H' (P.step T1)⟩⟩
theorem Gh{x:Str}{id:String}{p pos:Pos}{e:Expr}{es:List Expr}{f:Fn}{m:AM}(hc:hY X (.type id) f)(hg:Gl X x)(hm:X.mg x=none)(hv:bootBuiltins x=some (.type id))(ha:SA X (e::es) m)(hn:x≠"__name__":=by decide)(hdb:(x==("__debug__":Str))=false:=by ac_nf)
  (he:starEach (e::es) X.env=(false,eval e X.env)::starEach es X.env:=by ac_nf) (hpl:(backTo pos (starEach es X.env)).any (·.1)=false:=by ac_nf):SE X (.Call (.Name x p) (e::es) [] pos) (ao f m):=
 (vy hc hg hm hv ha hn hdb he hpl).imp fun σ H Q ⟨ρ,δ,h,d,h',R,S,e,k⟩=>by
  obtain⟨⟨ds,h1⟩,e1,e2⟩:=bo e;exact⟨ρ,δ,h,ds,h1,R,S,e1,fun vs ρ1 H1 T1 S1 r1=>⟨ρ1,h1,ds,d,h',S1,r1,e2,fun v H' P=>k v H' (P.step T1)⟩⟩
noncomputable def cX:Fn:=fun ds h=>match ds with
 | [.str z]=>if z.length≤sizeLine then some (.int z.length,h) else none
 | [d]=>match dY d h with
  | some kvs=>some (.int kvs.length,h)
  | none=>(cT d h).map fun p=>(.int p.1.length,h)
 | _=>none
noncomputable def N5:Fn:=fun ds h=>match ds with
 | [.int i]=>some (.int (if i < 0 then -i else i),h)
 | _=>none
noncomputable def Rg(d:D)(h:MH):Option String:=match d with
 | .bz=>some "NoneType"
 | .bl _=>some "bool"
 | .int _=>some "int"
 | .str _=>some "str"
 | .tup _=>some "tuple"
 | .lv _=>some "list"
 | .dv _=>some "dict"
 | .ob n=>match h[n]? with
  | some (.lst _)=>some "list"
  | some (.dct _)=>some "dict"
  | _=>none
 | _=>none
noncomputable def Cy(t n:String):Bool:=t==n||(t=="bool"&&n=="int")
noncomputable def Fc:Fn:=fun ds h=>match ds with
 | [d,.ty n]=>if n∈["int","str","bool","tuple","list","dict"] then(Rg d h).map fun t=>(.bl (Cy t n),h) else none
 | _=>none
noncomputable def bL:Fn:=fun ds h=>match ds with
 | [d]=>(cT d h).map fun p=>(.tup p.1,h)
 | _=>none
noncomputable def Fs:List D->Option (List Bool)
 | []=>some []
 | .bl b::r=>(Fs r).map fun bs=>b::bs
 | _=>none
noncomputable def N4:Fn:=fun ds h=>match ds with
 | [d]=>(fY d h).bind fun xs=>(Fs xs).map fun bs=>(.bl (bs.any id),h)
 | _=>none
theorem rep1{K:FR}{ρ:Ad}{H:Hp}{vs:List V}{d:D}(l:az K ρ H vs [d]):∃v,vs=[v]∧Rep K ρ H v d:=by
 cases l with
 | cons r l=>cases l;exact⟨_,rfl,r⟩
theorem rep2{K:FR}{ρ:Ad}{H:Hp}{vs:List V}{d e:D}(l:az K ρ H vs [d,e]):∃v u,vs=[v,u]∧Rep K ρ H v d∧Rep K ρ H u e:=by
 cases l with
 | cons r l=>cases l with
  | cons r' l=>cases l;exact⟨_,_,rfl,r,r'⟩
theorem Ob:hY X (.builtin "len") cX:=by
 intro pins s σ H xs us Q I r hh;obtain⟨ρ,h,ds,z,h',S,l,ee,k⟩:=hh
 match ds,l,ee with
 | [],_,ee=>cases ee
 | _::_::_,_,ee=>exact absurd ee (by unfold cX;split <;> simp_all)
 | [d],l,ee=>
  obtain⟨v,rfl,rd⟩:=rep1 l;have oth:(match dY d h with | some kvs=>some (D.int kvs.length,h) | none=>(cT d h).map fun p=>(D.int p.1.length,h))=some (z,h')->wpAny (model X.prog X.w) X.A (call (.builtin "len") us) (EP X pins σ Q) X.xe s:=by
   intro ee;cases q:dY d h with
   | some kvs=>
    rw[q] at ee;cases ee;obtain⟨a,ws,rfl,ha,lk⟩:=nX S rd q;refine Fo pins s σ H _ us Q I r ⟨a,ws,rfl,ha,k _ _ ?_⟩;rw[lk.length];exact .here S (.int _)
   | none=>
    rw[q] at ee;obtain⟨⟨ys,w⟩,e1,e2⟩:=fO ee;cases e2;obtain⟨a,vs,rfl,hq,l2⟩:=rf S rd e1;refine yo pins s σ H _ us Q I r ⟨a,vs,rfl,hq,k _ _ ?_⟩;rw[l2.length];exact .here S (.int _)
  cases d with
  | str x0=>
   unfold cX at ee;dsimp only at ee
   by_cases c:x0.length≤sizeLine
   ·rw[Ut c] at ee;cases ee;cases rd;exact yn pins s σ H _ us Q I r ⟨x0,rfl,c,k _ _ (.here S (.int _))⟩
   ·rw[Uu c] at ee;cases ee
  | _=>exact oth ee
theorem Oe:hY X (.builtin "abs") N5:=by
 intro pins s σ H xs us Q I r hh;obtain⟨ρ,h,ds,z,h',S,l,ee,k⟩:=hh
 match ds,l,ee with
 | [],_,ee=>cases ee
 | d::_::_,_,ee=>cases d <;> exact b5 ee
 | [d],l,ee=>
  obtain⟨v,rfl,rd⟩:=rep1 l;cases rd <;> first |(exact b5 ee) | skip
  cases ee;exact Ip pins s σ H _ us Q I r ⟨_,rfl,k _ _ (.here S (.int _))⟩
theorem fy:hY X (.type "tuple") bL:=by
 intro pins s σ H xs us Q I r hh;obtain⟨ρ,h,ds,z,h',S,l,ee,k⟩:=hh
 match ds,l,ee with
 | [],_,ee=>cases ee
 | _::_::_,_,ee=>cases ee
 | [d],l,ee=>
  obtain⟨v,rfl,rd⟩:=rep1 l;obtain⟨⟨ys,w⟩,e1,e2⟩:=fO ee;cases e2;obtain⟨a,rfl,⟨vs,q,l2⟩,_⟩:=jN S rd e1;refine uU pins s σ H _ us Q I r ⟨a,vs,rfl,?_⟩;generalize hb:qT d=b at q;cases q with
  | l q=>exact .inl ⟨q,fun p hp=>k _ _ (.tup S l2 hp)⟩
  | t q=>
   refine .inr ⟨q,k _ _ ?_⟩;cases rd <;> first |(cases hb;done) | skip
   cases e1;exact .here S (.tup ‹_› ‹_›)
theorem Iv{K:FR}{ρ:Ad}{H:Hp}:∀{vs:List V} {xs:List D} {bs:List Bool},az K ρ H vs xs->Fs xs=some bs->vs=bs.map V.bl
 | _,_,_,.nil,e=>by cases e;rfl
 | _,_,_,.cons r l,e=>by
  cases r <;> first |(cases e;done) | skip
  obtain⟨bs',e1,e2⟩:=fO e;cases e2;rw[Iv l e1];rfl
theorem Od(hc:X.calm=true):hY X (.builtin "any") N4:=by
 intro pins s σ H xs us Q I r hh;obtain⟨ρ,h,ds,z,h',S,l,ee,k⟩:=hh
 match ds,l,ee with
 | [],_,ee=>cases ee
 | _::_::_,_,ee=>cases ee
 | [d],l,ee=>
  obtain⟨v,rfl,rd⟩:=rep1 l;obtain⟨ys,e1,e2⟩:=bo ee;obtain⟨bs,e3,e4⟩:=fO e2;cases e4;obtain⟨a,vs,rfl,ha,l2⟩:=eC S rd e1;rw[Iv l2 e3] at ha;exact Io hc pins s σ H _ us Q I r ⟨a,bs,rfl,fR.of ha,k _ _ (.here S (.bl _))⟩
theorem C7{K:FR}{t n:String}(ht:t∈["NoneType","bool","int","str","tuple","list","dict"])(hn:n∈["int","str","bool","tuple","list","dict"]):PySem.W.kitOne K (.type t) (.type n)=some (Cy t n):=by
 simp only[UE,List.mem_nil_iff,or_false] at ht hn;rcases ht with rfl | rfl | rfl | rfl | rfl | rfl | rfl <;> rcases hn with rfl | rfl | rfl | rfl | rfl | rfl <;> rfl
theorem BR{ds:List D}{z:D}{h h':MH}(ee:Fc ds h=some (z,h')):∃d n t,ds=[d,.ty n]∧n∈["int","str","bool","tuple","list","dict"]∧Rg d h=some t∧z=.bl (Cy t n)∧h'=h:=by
 unfold Fc at ee
 split at ee
 ·split at ee
  ·obtain⟨t,e1,e2⟩:=fO ee;cases e2;exact⟨_,_,t,rfl,‹_›,e1,rfl,rfl⟩
  ·cases ee
 ·cases ee
theorem L7{K:FR}{ρ:Ad}{H:Hp}{h:MH}{v:V}{d:D}{t:String}(S:bK K ρ h H)(rd:Rep K ρ H v d)(e1:Rg d h=some t):t∈["NoneType","bool","int","str","tuple","list","dict"]∧(oa K H v (.type t)∨t="tuple"∧∃a vs,v=.ref a∧jD K H a vs):=by
 cases rd with
 | bz=>cases e1;exact⟨by decide,.inl .bz⟩
 | bl b=>cases e1;exact⟨by decide,.inl (.bl b)⟩
 | int i=>cases e1;exact⟨by decide,.inl (.int i)⟩
 | str h0=>cases e1;exact⟨by decide,.inl (.str _)⟩
 | ty _=>exact b5 e1
 | ro _ _=>exact b5 e1
 | lv h0 _ _=>cases e1;exact⟨by decide,.inl (.lst h0)⟩
 | dv h0 _ _=>cases e1;exact⟨by decide,.inl (.dK h0)⟩
 | tup h0 l0=>cases e1;exact⟨by decide,.inr ⟨rfl,_,_,rfl,h0.sq⟩⟩
 | @ob a m hm=>
  unfold Rg at e1;dsimp only at e1;cases q:h[m]? with
  | none=>rw[q] at e1;cases e1
  | some o=>
   rw[q] at e1;have x:=S.at_ m a o hm q;cases o with
   | lst _=>cases e1;obtain⟨vs,e3,_⟩:=x;exact⟨by decide,.inl (.lst e3)⟩
   | dct _=>cases e1;obtain⟨vs,e3,_⟩:=x;exact⟨by decide,.inl (.dK e3)⟩
   | dcH _=>exact b5 e1
theorem B3:hY X (.builtin "isinstance") Fc:=by
 intro pins s σ H xs us Q I r hh;obtain⟨ρ,h,ds,z,h',S,l,ee,k⟩:=hh;obtain⟨d,n,t,rfl,hn,e1,rfl,rfl⟩:=BR ee;obtain⟨v,u,rfl,rd,ru⟩:=rep2 l;cases ru;have fin:=k (.bl (Cy t n)) H (.here S (.bl _));obtain⟨hm,hty |⟨rfl,a,vs,rfl,hq⟩⟩:=L7 S rd e1
 ·exact Im pins s σ H _ us Q I r ⟨v,n,_,_,rfl,hty,C7 hm hn,fin⟩
 ·obtain⟨u1,u2,rfl,r1,r2⟩:=Vals.two r;obtain rfl:u1=Value.ref a:=r1;obtain rfl:u2=Value.type n:=r2;obtain⟨its,_,⟨o,h1,h2,_⟩,_⟩:=I.tuple hq;exact Vw Zd I.xR ⟨o,h1,h2⟩ (C7 (t:="tuple") (by decide) hn) (fun z=>nomatch z) fun tk=>⟨.bl _,H,I.tok tk,rfl,fin⟩
noncomputable def DL(m:AM):AM:=fun δ h=>(m δ h).bind fun p=>match p.1 with
 | [d]=>(cT d p.2).map fun q=>(q.1,p.2)
 | _=>none
theorem CH(hg:Gl X x)(hm:X.mg x=none)(hv:bootBuiltins x=some (.type "list"))(ha:SA X [e] m)(hl:mN m 1)(hn:x≠"__name__":=by decide)(hdb:(x==("__debug__":Str))=false:=by ac_nf)(he:starEach [e] X.env=(false,eval e X.env)::starEach [] X.env:=by ac_nf)(hpl:(backTo pos (starEach [] X.env)).any (·.1)=false:=by ac_nf):t6 X (.Call (.Name x p) [e] [] pos) (DL m):=
 (vy ym hg hm hv ha hn hdb he hpl).imp fun σ H Q ⟨ρ,δ,h,d,h',R,S,e,k⟩=>by
  obtain⟨⟨ds,h1⟩,e1,e2⟩:=bo e;refine⟨ρ,δ,h,ds,h1,R,S,e1,fun vs ρ1 H1 T1 S1 r1=>?_⟩
  match ds,hl _ _ _ _ e1,e2,r1 with
  | [d],_,e2,r1=>
   obtain⟨⟨ys,w⟩,e3,e4⟩:=fO e2;cases e4;obtain⟨v,rfl,rd⟩:=rep1 r1;obtain⟨a,ws,rfl,hq,l2⟩:=rf S1 rd e3;exact⟨a,ws,rfl,hq,fun l hl=>k ρ1 H1 l ws T1 S1 hl l2⟩
noncomputable def uS(o i v:D)(h:MH):Option MH:=match o with
 | .ob n=>match h[n]? with
  | some (.lst xs)=>match i with
   | .int j=>(uO xs.length j).map fun p=>h.set n (.lst (xs.set p v))
   | _=>none
  | some (.dct kvs)=>(qS i).bind fun k=>if kvs.length < sizeLine then some (h.set n (.dct (putD kvs k v))) else none
  | _=>none
 | _=>none
noncomputable def uQ(o i:EM):GM:=fun v δ h=>(o δ h).bind fun p=>(i δ p.2).bind fun q=>(uS p.1 q.1 v q.2).map fun h'=>(δ,h')
inductive LS(K:FR)(o i v:V)(H:Hp)(Q:Hp->Prop):Prop where
 | mk (ρ h a b c h'):bK K ρ h H->Rep K ρ H o a->Rep K ρ H i b->Rep K ρ H v c->(uS a b c h=some h')->(∀ρ' H',dA ρ H ρ' H'->bK K ρ' h' H'->Q H')->LS K o i v H Q
def Se(K:FR):V->V->V->Hp->(Hp->Prop)->Prop:=fun o i v H Q=>LS K o i v H Q
theorem JI(hu:X.A.units+64 < cLine):OQ X (Se X.K):=by
 intro pins s σ H o i v ov iv u Q I ro ri rv hh;obtain⟨ρ,h,a,b,c,h',S,ra,rb,rc,ee,k⟩:=hh;cases ra <;> first |(exact b5 ee) | skip
 rename_i a n hn;unfold uS at ee;dsimp only at ee;cases q:h[n]? with
 | none=>rw[q] at ee;cases ee
 | some w=>
  rw[q] at ee;have x:=S.at_ n a w hn q;have ma:=Ul hn;cases w with
  | lst xs=>
   dsimp only at ee;cases rb <;> first |(exact b5 ee) | skip
   rename_i j;obtain⟨p,e1,e2⟩:=fO ee;cases e2;obtain⟨vs,e3,l⟩:=x;have T:dA ρ H ρ (upd H a (.lst (vs.set p v))):=dA.wrote S ma;exact set_list pins s σ H _ _ v ov iv u Q I ro ri rv ⟨a,vs,j,p,rfl,rfl,e3,by rw[l.length];exact e1,k ρ _ T (S.wrote hn ⟨_,aR,(l.set rc p).mono T.toCh⟩)⟩
  | dct kvs=>
   dsimp only at ee;obtain⟨ky,e1,e2⟩:=bo ee
   by_cases z:kvs.length < sizeLine
   ·rw[Ut z] at e2;cases e2;obtain⟨us,e3,l⟩:=x;have ek:=kW rb e1;subst ek;obtain rfl:ov=Value.ref a:=ro;have T:dA ρ H ρ (upd H a (.dK (putK us ky v))):=dA.wrote S ma;exact Fg (by lia) I (Lm.k e3 (by rw[l.length];exact z)) ri rv fun s' I'=>⟨_,I',k ρ _ T (S.wrote hn ⟨_,aR,(l.put rc).mono T.toCh⟩)⟩
   ·rw[Uu z] at e2;cases e2
  | dcH _=>exact b5 ee
theorem oF (hu:X.A.units+64 < cLine) (ho:SE X o mo) (hi:SE X i mi) (ha:∀v,assign (.Subscript o i pos) X.env v=(do
   let ov←holding [v] (eval o X.env);let iv←holding [v,ov] (eval i X.env)
   standAt pos
   holding [v,ov,iv] (setItem ov iv v)
   release [v,ov,iv] []):=by intro _;ac_nf):SG X (.Subscript o i pos) (uQ mo mi):=
 (M5 ho hi (JI hu) ha).imp fun v σ H Q ⟨ρ,δ,h,d,δ',h',R,S,r,e,k⟩=>by
  obtain⟨⟨x,h1⟩,e1,e2⟩:=bo e;obtain⟨⟨y,h2⟩,e3,e4⟩:=bo e2;obtain⟨h3,e5,e6⟩:=fO e4;cases e6;exact⟨ρ,δ,h,x,h1,R,S,e1,fun ov H1 ⟨ρ1,T1,S1,r1⟩=>⟨ρ1,δ,h1,y,h2,R.mono T1,S1,e3,fun iv H2 ⟨ρ2,T2,S2,r2⟩=>
   ⟨ρ2,h2,x,y,d,_,S2,r1.mono T2,r2,r.mono (T1.trans T2).toCh,e5,fun ρ3 H3 T3 S3=>k ρ3 H3 σ (T1.trans (T2.trans T3)) S3 (R.mono (T1.trans (T2.trans T3)).toCh)⟩⟩⟩
abbrev IZ:=D->List D->MH->Option (D×MH)
inductive Tw(K:FR)(f:IZ)(x:V)(vs:List V)(H:Hp)(Q:VK):Prop where
 | mk (ρ h d ds z h'):bK K ρ h H->Rep K ρ H x d->az K ρ H vs ds->(f d ds h=some (z,h'))->(∀v H',dG K ρ H h' z v H'->Q v H')->Tw K f x vs H Q
def rM(K:FR)(f:IZ):V->List V->Hp->VK->Prop:=fun x vs H Q=>Tw K f x vs H Q
noncomputable def eM(isT:D->MH->Bool)(f:IZ)(o:EM)(m:AM):EM:=fun δ h=>(o δ h).bind fun p=>if isT p.1 p.2 then(m δ p.2).bind fun q=>f p.1 q.1 q.2 else none
noncomputable def cR(d:D)(h:MH):Bool:=(fY d h).isSome
noncomputable def du:IZ:=fun d ds h=>match d,ds with
 | .ob n,[y]=>match h[n]? with
  | some (.lst xs)=>if xs.length < sizeLine then some (.bz,h.set n (.lst (xs++[y]))) else none
  | _=>none
 | _,_=>none
noncomputable def kU:IZ:=fun d ds h=>match d,ds with
 | .ob n,[y]=>match h[n]? with
  | some (.lst xs)=>(fY y h).bind fun zs=>if xs.length+zs.length≤sizeLine then some (.bz,h.set n (.lst (xs++zs))) else none
  | _=>none
 | _,_=>none
noncomputable def EJ:IZ:=fun d ds h=>match d,ds with
 | .ob n,[]=>match h[n]? with
  | some (.lst xs)=>(xs[xs.length-1]?).map fun y=>(y,h.set n (.lst xs.dropLast))
  | _=>none
 | _,_=>none
theorem jL{K:FR}{ρ:Ad}{H:Hp}{h:MH}{v:V}{d:D}(S:bK K ρ h H)(r:Rep K ρ H v d)(e:cR d h=true):OU K "list" v H:=by
 obtain⟨xs,e1⟩:=YB.mp e;obtain⟨a,vs,rfl,ha,_⟩:=eC S r e1;exact .inl ⟨rfl,vs,fR.of ha⟩
theorem AQ{T id:String}{name:Str}{o e:Expr}{es:List Expr}{apos cpos:Pos}{f:IZ}{mo:EM}{m:AM}{isT:D->MH->Bool}(hT:∀{K:FR} {ρ:Ad} {H:Hp} {h:MH} {v:V} {d:D},bK K ρ h H->Rep K ρ H v d->isT d h=true->OU K T v H)
  (pa:PlainAttrs T) (slot:Slot T name id) (hty:typeOf (.builtin id)=pure (.type "method_descriptor")) (hm:LW X id (rM X.K f)) (ho:SE X o mo) (ha:SA X (e::es) m)
  (hbase:attributeBase o name X.env (eval o X.env)=eval o X.env:=by ac_nf)
  (hfew:((backTo cpos (starEach (e::es) X.env)).all (fun x=>!x.1)&&(backToKw cpos (keywordEach [] X.env)).all (fun x=>x.1.isSome)
   &&decide ((e::es).length+([]:List Keyword).length+(if([]:List Keyword).isEmpty then 0 else 1) < 30))=true:=by ac_nf)
  (hline:(apos.endLine==cpos.line)=true:=by ac_nf) (hs:starEach (e::es) X.env=(false,eval e X.env)::starEach es X.env:=by ac_nf) (hplain:(backTo cpos (starEach es X.env)).any (·.1)=false:=by ac_nf):
  SE X (.Call (.Attribute o name apos) (e::es) [] cpos) (eM isT f mo m):=(Qa pa slot hty hm ho ha hbase hfew hline hs hplain).imp fun σ H Q ⟨ρ,δ,h,d,h',R,S,e,k⟩=>by
 obtain⟨⟨x,h1⟩,e1,e2⟩:=bo e;dsimp only at e2
 by_cases c:isT x h1=true
 ·rw[Ut c] at e2;obtain⟨⟨ds,h2⟩,e3,e4⟩:=bo e2;exact⟨ρ,δ,h,x,h1,R,S,e1,fun v H1 ⟨ρ1,T1,S1,r1⟩=>⟨hT S1 r1 c,ρ1,δ,h1,ds,h2,R.mono T1,S1,e3,fun vs ρ2 H2 T2 S2 r2=>⟨ρ2,h2,x,ds,d,h',S2,r1.mono T2,r2,e4,fun w H3 p=>k w H3 (p.step (T1.trans T2))⟩⟩⟩
 ·rw[Uu c] at e2;cases e2
theorem PB{T id:String}{name:Str}{o:Expr}{apos cpos:Pos}{f:IZ}{mo:EM}{isT:D->MH->Bool}(hT:∀{K:FR} {ρ:Ad} {H:Hp} {h:MH} {v:V} {d:D},bK K ρ h H->Rep K ρ H v d->isT d h=true->OU K T v H)
  (pa:PlainAttrs T) (slot:Slot T name id) (hty:typeOf (.builtin id)=pure (.type "method_descriptor")) (hm:LW X id (rM X.K f)) (ho:SE X o mo)
  (hbase:attributeBase o name X.env (eval o X.env)=eval o X.env:=by ac_nf) (hline:(apos.endLine==cpos.line)=true:=by ac_nf):
  SE X (.Call (.Attribute o name apos) [] [] cpos) (eM isT f mo aP):=(Ng pa slot hty hm ho hbase hline).imp fun σ H Q ⟨ρ,δ,h,d,h',R,S,e,k⟩=>by
 obtain⟨⟨x,h1⟩,e1,e2⟩:=bo e;dsimp only at e2
 by_cases c:isT x h1=true
 ·rw[Ut c] at e2;exact⟨ρ,δ,h,x,h1,R,S,e1,fun v H1 ⟨ρ1,T1,S1,r1⟩=>⟨hT S1 r1 c,ρ1,h1,x,[],d,h',S1,r1,.nil,e2,fun w H3 p=>k w H3 (p.step T1)⟩⟩
 ·rw[Uu c] at e2;cases e2
theorem BF{K:FR}{ρ:Ad}{H:Hp}{h:MH}{n:Nat}{xs:List D}{v:V}(S:bK K ρ h H)(r:Rep K ρ H v (.ob n))(q:h[n]?=some (.lst xs)):∃a vs,v=.ref a∧ρ.ob[n]?=some a∧H a=some (.lst vs)∧az K ρ H vs xs:=by
 cases r with
 | ob hn=>obtain⟨vs,e,l⟩:=S.at_ n _ _ hn q;exact⟨_,vs,rfl,hn,e,l⟩
theorem kT:LW X "list.append" (rM X.K du):=by
 intro pins s σ H x xs v us Q I rx rs hh;obtain⟨ρ,h,d,ds,z,h',S,rd,l,ee,k⟩:=hh;cases d <;> first |(exact b5 ee) | skip
 rename_i n
 match ds,l,ee with
 | [],_,ee=>exact b5 ee
 | _::_::_,_,ee=>exact b5 ee
 | [y],l,ee=>
  unfold du at ee;dsimp only at ee;cases q:h[n]? with
  | none=>rw[q] at ee;cases ee
  | some w=>
   rw[q] at ee;cases w with
   | dct _=>exact b5 ee
   | dcH _=>exact b5 ee
   | lst ys=>
    dsimp only at ee
    by_cases c:ys.length < sizeLine
    ·rw[Ut c] at ee;cases ee;obtain⟨a,vs,rfl,hn,e1,l1⟩:=BF S rd q;obtain⟨u,rfl,ru⟩:=rep1 l;have T:dA ρ H ρ (upd H a (.lst (vs++[u]))):=dA.wrote S (Ul hn);exact pH pins s σ H _ _ v us Q I rx rs ⟨a,vs,u,rfl,rfl,e1,by rw[l1.length];exact c,k _ _ ⟨ρ,T,S.wrote hn ⟨_,aR,(l1.snoc ru).mono T.toCh⟩,.bz⟩⟩
    ·rw[Uu c] at ee;cases ee
theorem vF:LW X "list.extend" (rM X.K kU):=by
 intro pins s σ H x xs v us Q I rx rs hh;obtain⟨ρ,h,d,ds,z,h',S,rd,l,ee,k⟩:=hh;cases d <;> first |(exact b5 ee) | skip
 rename_i n
 match ds,l,ee with
 | [],_,ee=>exact b5 ee
 | _::_::_,_,ee=>exact b5 ee
 | [y],l,ee=>
  unfold kU at ee;dsimp only at ee;cases q:h[n]? with
  | none=>rw[q] at ee;cases ee
  | some w=>
   rw[q] at ee;cases w with
   | dct _=>exact b5 ee
   | dcH _=>exact b5 ee
   | lst ys=>
    dsimp only at ee;obtain⟨zs,e2,e3⟩:=bo ee
    by_cases c:ys.length+zs.length≤sizeLine
    ·rw[Ut c] at e3;cases e3;obtain⟨a,vs,rfl,hn,e1,l1⟩:=BF S rd q;obtain⟨u,rfl,ru⟩:=rep1 l;obtain⟨b,ws,rfl,eb,l2⟩:=eC S ru e2;have T:dA ρ H ρ (upd H a (.lst (vs++ws))):=dA.wrote S (Ul hn);exact EH pins s σ H _ _ v us Q I rx rs ⟨a,b,vs,ws,rfl,rfl,e1,eb,by rw[l1.length,l2.length];exact c,k _ _ ⟨ρ,T,S.wrote hn ⟨_,aR,(l1.append l2).mono T.toCh⟩,.bz⟩⟩
    ·rw[Uu c] at e3;cases e3
theorem NC:LW X "list.pop" (rM X.K EJ):=by
 intro pins s σ H x xs v us Q I rx rs hh;obtain⟨ρ,h,d,ds,z,h',S,rd,l,ee,k⟩:=hh;cases d <;> first |(exact b5 ee) | skip
 rename_i n
 match ds,l,ee with
 | _::_,_,ee=>exact b5 ee
 | [],l,ee=>
  unfold EJ at ee;dsimp only at ee;cases q:h[n]? with
  | none=>rw[q] at ee;cases ee
  | some w=>
   rw[q] at ee;cases w with
   | dct _=>exact b5 ee
   | dcH _=>exact b5 ee
   | lst ys=>
    dsimp only at ee;obtain⟨y,e2,e3⟩:=fO ee;cases e3;obtain⟨a,vs,rfl,hn,e1,l1⟩:=BF S rd q;cases l;obtain⟨u,e4,r4⟩:=l1.got e2;have T:dA ρ H ρ (upd H a (.lst vs.dropLast)):=dA.wrote S (Ul hn);exact NB pins s σ H _ _ v us Q I rx rs ⟨a,vs,u,rfl,rfl,e1,by rw[l1.length];exact e4,k _ _ ⟨ρ,T,S.wrote hn ⟨_,aR,l1.dropLast.mono T.toCh⟩,r4.mono T.toCh⟩⟩
end Sm
namespace Sb
open PySem L2 PySem.Spec PyProof.Rows
open Builtin.SmallTypes (nextOf ownedTupleIsFree ownedTupleHandOut)
noncomputable def kn:Bool->String
 | true=>"list_iterator"
 | false=>"tuple_iterator"
def At(b:Bool)(h:Heap)(j l:Addr)(i:Nat):Prop:=∃o,h.get? j=some o∧o.cls=.type (kn b)∧o.data=.fields #[.ref l,.int i 0]
def Of(b:Bool)(h:Heap)(l:Addr)(items:Array Value):Prop:=match b with
 | true=>h.IsList l items
 | false=>h.IsTuple l items
theorem At.up(x:At b h j l i)(k:∀o,h.get? j=some o->h'.get? j=some o):At b h' j l i:=let⟨o,e,r⟩:=x;⟨o,k o e,r⟩
theorem At.lt(x:At b h j l i):j < h.objs.size:=let⟨_,e,_⟩:=x;UB e
theorem Of.data(x:Of b h l items):∃o n,h.get? l=some o∧o.data=.seq items n:=by
 cases b with
 | true=>obtain⟨o,e,_,n,d⟩:=(show h.IsList l items from x);exact⟨o,n,e,d⟩
 | false=>obtain⟨o,e,_,n,d⟩:=(show h.IsTuple l items from x);exact⟨o,n,e,d⟩
theorem Of.up(x:Of b h l items)(k:∀o,h.get? l=some o->h'.get? l=some o):Of b h' l items:=by
 cases b with
 | true=>obtain⟨o,e,r⟩:=(show h.IsList l items from x);exact⟨o,k o e,r⟩
 | false=>obtain⟨o,e,r⟩:=(show h.IsTuple l items from x);exact⟨o,k o e,r⟩
theorem sU(hj:At b s.heap j l i)(hl:Of b s.heap l items)(hx:items[i]?=some x)(k:∀h',At b h' j l (i+1)->Heap.SameBut j s.heap h'->Q x {s with heap:=h'}):wpAny (model P w) A (nextOf (.ref j)) Q E s:=by
 cases b with
 | true=>exact wpAny_nextOf_list_item (show s.heap.IsListIter j l i from hj) (show s.heap.IsList l items from hl) hx k
 | false=>
  have hj':s.heap.IsTupleIter j l i:=hj;obtain⟨o,eo,ec,ed⟩:=hj';obtain⟨ol,el,_,nl,edl⟩:=(show s.heap.IsTuple l items from hl);unfold nextOf;refine Ug (U6 (name:=Str.ofString "__next__") (show s.TypeIs (.ref j) "tuple_iterator" from⟨o,eo,ec⟩) WE
   (Vb WE (show s.TypeIs (.ref j) "tuple_iterator" from⟨o,eo,ec⟩) YY ?_ (YR _)))
  show wpAny _ _ (field (.ref j) 0 >>=_) _ _ s;refine Ug (UZ eo ed (x:=.ref l) rfl ?_);show wpAny _ _ (if(Value.ref l==Value.none)=true then _ else _) _ _ s;rw[Uu (show ¬((Value.ref l==Value.none)=true) by exact U0)];show wpAny _ _ (field (.ref j) 1 >>=_) _ _ s;refine Ug (UZ eo ed (x:=.int i 0) rfl ?_);show wpAny _ _ (seqItems? (.ref l) >>=_) _ _ s;refine Ug (Vn el edl ?_);simp only[UO,hx];refine Ug (Y2 eo ed (by simp) (Uk ⟨x,rfl,Uk (k _ ?_ (Yb ..))⟩));exact⟨_,VR _ eo (Obj.isFreed_of_fields (Xl ed _)),(Obj.cls_mapFields ..).trans ec,by rw[Xl ed];simp[rawInt]⟩
theorem zH(hh:A.handled=none)(hj:At b s.heap j l i)(hl:Of b s.heap l items)(hx:items[i]?=none)(k:∀h' e,Heap.ExtBut j s.heap h'->(∃o,h'.get? e=some o∧o.cls=.type "StopIteration")->E (.ref e) {s with heap:=h'}):wpAny (model P w) A (nextOf (.ref j)) Q E s:=by
 cases b with
 | true=>exact wpAny_nextOf_list_end hh (show s.heap.IsListIter j l i from hj) (show s.heap.IsList l items from hl) hx k
 | false=>
  have hj':s.heap.IsTupleIter j l i:=hj;obtain⟨o,eo,ec,ed⟩:=hj';obtain⟨ol,el,_,nl,edl⟩:=(show s.heap.IsTuple l items from hl);unfold nextOf;refine Ug (U6 (name:=Str.ofString "__next__") (show s.TypeIs (.ref j) "tuple_iterator" from⟨o,eo,ec⟩) WE
   (Vb WE (show s.TypeIs (.ref j) "tuple_iterator" from⟨o,eo,ec⟩) YY ?_ (YR _)))
  show wpAny _ _ (field (.ref j) 0 >>=_) _ _ s;refine Ug (UZ eo ed (x:=.ref l) rfl ?_);show wpAny _ _ (if(Value.ref l==Value.none)=true then _ else _) _ _ s;rw[Uu (show ¬((Value.ref l==Value.none)=true) by exact U0)];show wpAny _ _ (field (.ref j) 1 >>=_) _ _ s;refine Ug (UZ eo ed (x:=.int i 0) rfl ?_);show wpAny _ _ (seqItems? (.ref l) >>=_) _ _ s;refine Ug (Vn el edl ?_);simp only[UO,hx];refine Ug (V1 (Ug (Y2 eo ed (by simp) ?_)));show wpAny _ _ (newExc (.type "StopIteration") [] >>=_) _ _ _;refine Ug ?_;simp only[newExc,newTuple];refine Ug (U2 ?_ (by size_fits));refine Ug (m:=firstArgMember _ _) (wpAny_of_eq (a:=Value.none) (by first |(simp only[firstArgMember];rfl) | rfl) ?_);refine U2 ?_ (by size_fits);simp only[raiseNew];refine Ug (wpAny_handled ?_)
  first | rw[hh] | rw[show A.in1.handled=none from hh]
  refine Ug (Uk (wpAny_throw (k _ _ (((Yb ..).extBut.push _).push _) ⟨_,UD _ rfl,rfl⟩)))
open Builtin.SmallTypes (nextOf ownedTupleIsFree ownedTupleHandOut)
variable {P:Program} {w:World} {A:Around} {E:Value->Shared->Prop} {s:Shared} {b c:Bool}
theorem Hy(x:Of b s.heap l items)(k:Q (.ref s.heap.objs.size) {s with heap:=s.heap.push {cls:=.type (kn b),data:=.fields #[.ref l,.int 0 0]}}):wpAny (model P w) A (pyIter (.ref l)) Q E s:=by
 cases b with
 | true=>exact Yn (show s.heap.IsList l items from x) k
 | false=>exact WO (show s.heap.IsTuple l items from x) k
theorem Fe{e j l:Addr}{i:Nat}{items:Array Value}{x old:Value}{Q:Option Value->Shared->Prop}(hE:IsEnum s.heap e j i old)(hj:At b s.heap j l i)(hl:Of b s.heap l items)(hx:items[i]?=some x)(ne:e≠j)
  (k:∀h',IsEnumOut h' e j ((i:Int)+1) x s.heap.objs.size->At b h' j l (i+1)->h'.get? s.heap.objs.size=some {cls:=.type "tuple",data:=.seq #[.int i s.toks,x]}->h'.objs.size=s.heap.objs.size+1->
   (∀a o,a≠e->a≠j->s.heap.get? a=some o->h'.get? a=some o)->Q (some (.ref s.heap.objs.size)) {s with heap:=h',toks:=s.toks+1}):wpAny (model P w) A (pyNext (.ref e)) Q E s:=by
 have hT:s.TypeIs (.ref e) "enumerate":=⟨_,hE,rfl⟩;unfold pyNext;refine Ug (Wx (U6 (name:=Str.ofString "__next__") hT Wz (Vb Wz hT F.entry_enumerate_next ?_ (Zn _))));obtain⟨hp,g,d,tk,os⟩:=s;show wpAny _ _ (field (.ref e) 2 >>=_) _ _ _;refine Ug (UZ hE rfl (x:=.ref j) rfl (Ug (sU hj hl hx fun k₁ j₁ t₁=>?_)));replace t₁:Heap.SameBut j hp k₁:=t₁;have E₁:IsEnum k₁ e j i old:=(t₁.2 e ne).trans hE;show wpAny _ _ (field (.ref e) 3 >>=_) _ _ ⟨k₁,g,d,tk,os⟩;refine Ug (UZ E₁ rfl (x:=rawInt i) rfl ?_);show wpAny _ _ (field (.ref e) 4 >>=_) _ _ ⟨k₁,g,d,tk,os⟩;refine Ug (UZ E₁ rfl (x:=.none) rfl ?_);show wpAny _ _ (mkInt i >>=_) _ _ ⟨k₁,g,d,tk,os⟩;refine Ug (wpAny_mkInt ?_);show wpAny _ _ (setField (.ref e) 3 (rawInt ((i:Int)+1)) >>=_) _ _ ⟨k₁,g,d,tk+1,os⟩;refine Ug (wpAny_setField_rec E₁ (by simp) fun k₂ E₂ t₂=>?_);replace t₂:Heap.SameBut e k₁ k₂:=t₂;replace E₂:IsEnum k₂ e j ((i:Int)+1) old:=E₂;show wpAny _ _ (setField (.ref e) 4 .none >>=_) _ _ ⟨k₂,g,d,tk+1,os⟩;refine Ug (wpAny_setField_rec E₂ (by simp) fun k₃ E₃ t₃=>?_);replace t₃:Heap.SameBut e k₂ k₃:=t₃;replace E₃:IsEnum k₃ e j ((i:Int)+1) old:=E₃;show wpAny _ _ (newTuple [.int i tk,x] >>=_) _ _ ⟨k₃,g,d,tk+1,os⟩;refine Ug (Xi ?_);have E₄:IsEnum (k₃.push {cls:=.type "tuple",data:=.seq #[.int i tk,x]}) e j ((i:Int)+1) old:=Uj _ E₃;generalize eq₄:k₃.push {cls:=.type "tuple",data:=.seq #[.int i tk,x]}=k₄ at E₄;have sz:k₃.objs.size=hp.objs.size:=by rw[t₃.1,t₂.1,t₁.1]
 have lte:e < hp.objs.size:=UB hE;have tp:k₄.get? hp.objs.size=some {cls:=.type "tuple",data:=.seq #[.int i tk,x]}:=by rw[←eq₄,←sz];exact UD _ rfl
 have sz₄:k₄.objs.size=hp.objs.size+1:=by rw[←eq₄,Vq,sz]
 have up₄:∀a o,a≠e->a≠j->hp.get? a=some o->k₄.get? a=some o:=fun a o z1 z2 q=>by
  rw[←eq₄];exact Uj _ (t₃.extBut a o z1 (t₂.extBut a o z1 (t₁.extBut a o z2 q)))
 have j₄:At b k₄ j l (i+1):=j₁.up fun o q=>by rw[←eq₄];exact Uj _ (t₃.extBut j o (VA ne) (t₂.extBut j o (VA ne) q))
 show wpAny _ _ (ownedTupleIsFree (.ref e) >>=_) _ _ ⟨k₄,g,d,tk+1,os⟩;rw[sz];clear eq₄ E₃ t₃ E₂ t₂ E₁ t₁ j₁ sz k₃ k₂ k₁;refine Ug ?_;unfold ownedTupleIsFree;refine Ug (UZ E₄ rfl (x:=.none) rfl (Uk ?_));simp only[Wy];refine Ug (V1 (Ug (UZ E₄ rfl (x:=old) rfl (Ug (wpAny_setField_rec E₄ (by simp) fun k₅ E₅ t₅=>?_)))));replace t₅:Heap.SameBut e k₄ k₅:=t₅;replace E₅:IsEnum k₅ e j ((i:Int)+1) x:=E₅;show wpAny _ _ (ownedTupleHandOut (.ref e) (.ref hp.objs.size) >>=_) _ _ ⟨k₅,g,d,tk+1,os⟩;refine Ug ?_;unfold ownedTupleHandOut;refine Ug (wpAny_setField_rec E₅ (by simp) fun k₆ E₆ t₆=>?_);replace t₆:Heap.SameBut e k₅ k₆:=t₆;replace E₆:IsEnumOut k₆ e j ((i:Int)+1) x hp.objs.size:=E₆;refine wpAny_setField_rec E₆ (by simp) fun k₇ E₇ t₇=>?_;replace t₇:Heap.SameBut e k₆ k₇:=t₇;replace E₇:IsEnumOut k₇ e j ((i:Int)+1) x hp.objs.size:=E₇;have up:∀a o,a≠e->k₄.get? a=some o->k₇.get? a=some o:=fun a o z q=>t₇.extBut a o z (t₆.extBut a o z (t₅.extBut a o z q));refine Ug (X0 (Uk ⟨_,rfl,Uk (k k₇ E₇ (j₄.up fun o q=>up j o (VA ne) q) (up _ _ (X3 lte) tp) ?_ fun a o z1 z2 q=>up a o z1 (up₄ a o z1 z2 q))⟩));rw[t₇.1,t₆.1,t₅.1,sz₄]
theorem HZ{e j l:Addr}{i:Nat}{items:Array Value}{old:Value}{Q:Option Value->Shared->Prop}(hh:A.handled=none)(hE:IsEnum s.heap e j i old)(hj:At b s.heap j l i)(hl:Of b s.heap l items)(hx:items[i]?=none)
  (k:∀h',Heap.ExtBut j s.heap h'->Q none {s with heap:=h'}):wpAny (model P w) A (pyNext (.ref e)) Q E s:=by
 have hT:s.TypeIs (.ref e) "enumerate":=⟨_,hE,rfl⟩;unfold pyNext;refine Ug (Wx (U6 (name:=Str.ofString "__next__") hT Wz (Vb Wz hT F.entry_enumerate_next ?_ (Zn _))));show wpAny _ _ (field (.ref e) 2 >>=_) _ _ _;refine Ug (UZ hE rfl (x:=.ref j) rfl (Ug (zH hh hj hl hx fun h' y he' ⟨o,ho,hc⟩=>?_)));exact Ug (VT (T:="StopIteration") (b:=true) ⟨o,ho,hc⟩ WD (Uk (k _ he')))
theorem Fd(x:Of b s.heap l items)(k:∀h',IsEnum h' (s.heap.objs.size+1) s.heap.objs.size 0 .none->At b h' s.heap.objs.size l 0->h'.objs.size=s.heap.objs.size+2->(∀a o,s.heap.get? a=some o->h'.get? a=some o)->Q (.ref (s.heap.objs.size+1)) {s with heap:=h'}):
  wpAny (model P w) A (call (.type "enumerate") [.ref l]) Q E s:=by
 cases b with
 | true=>exact call_enumerate_list (show s.heap.IsList l items from x) k
 | false=>
  have mt:PySem.Meets (Builtin.«enumerate.__new__» ⟨[.type "enumerate",.ref l],[]⟩) (fun _ R s=>s.heap.IsTuple l items∧
    R (.ok (.ret (.ref (s.heap.push {cls:=.type "tuple_iterator",data:=.fields #[.ref l,.int 0 0]}).objs.size)))
     {s with heap:=(s.heap.push {cls:=.type "tuple_iterator",data:=.fields #[.ref l,.int 0 0]}).push {cls:=.type "enumerate",data:=.fields #[.none,.bool false,.ref s.heap.objs.size,rawInt 0,.none,.none]}}):=
   .of_wp fun prog w A R s h=>by
    obtain⟨hp,g,d,tk,os⟩:=s;obtain⟨hl,h⟩:=h;have sub:=sub_enumerate;have hL:Heap.IsTuple (Shared.heap ⟨hp,g,d,tk,os⟩) l items:=hl;obtain⟨o0,e0,c0,n0,d0⟩:=id hL
    wp_walk
    refine wpAny_stack_any fun st=>Uk ?_
    split
    ·rename_i c _ _ _ _ _;cases(c==Value.type "enumerate")
     ·wp_walk using WO hL
      exact⟨_,rfl,h⟩
     ·wp_walk using WO hL
      exact⟨_,rfl,h⟩
    ·wp_walk using WO hL
     exact⟨_,rfl,h⟩
  refine callType_new F.called_enumerate (by decide) (F.typeCall_enumerate_1 _) (F.newCall_enumerate_1 _) (fun obj=>F.args_object_init_2 obj _) F.entry_enumerate_new mt ⟨x,?_⟩;have z1:(s.heap.push {cls:=.type "tuple_iterator",data:=.fields #[.ref l,.int 0 0]}).objs.size=s.heap.objs.size+1:=Vq ..;show _∧_;rw[z1];have eE:IsEnum ((s.heap.push {cls:=.type "tuple_iterator",data:=.fields #[.ref l,.int 0 0]}).push
    {cls:=.type "enumerate",data:=.fields #[.none,.bool false,.ref s.heap.objs.size,rawInt 0,.none,.none]}) (s.heap.objs.size+1) s.heap.objs.size 0 .none:=by
   have q:=UD (s.heap.push {cls:=.type "tuple_iterator",data:=.fields #[.ref l,.int 0 0]}) (o:={cls:=.type "enumerate",data:=.fields #[.none,.bool false,.ref s.heap.objs.size,rawInt 0,.none,.none]}) rfl;rw[z1] at q;exact q
  refine⟨⟨_,eE,rfl⟩,k _ eE ⟨_,Uj _ (UD _ rfl),rfl,rfl⟩ (by rw[Vq,z1]) fun a o q=>Uj _ (Uj _ q)⟩
end Sb
namespace Sb
open PySem L2 PySem.Spec PyProof.Rows
open Builtin.SmallTypes (nextOf ownedTupleIsFree ownedTupleHandOut)
structure Zp(z T U p q l m:Addr):Prop where
 Tz:T≠z
 Uz:U≠z
 pz:p≠z
 qz:q≠z
 TU:T≠U
 Tp:T≠p
 Tq:T≠q
 Up:U≠p
 Uq:U≠q
 pq:p≠q
 lz:l≠z
 lU:l≠U
 lp:l≠p
 lq:l≠q
 mz:m≠z
 mU:m≠U
 mp:m≠p
 mq:m≠q
theorem FE (D:Zp z T U p q l m) (hz:IsZip s.heap z T U .none) (hT:IsPair s.heap T (.ref p) (.ref q)) (hU:IsPair s.heap U u v) (h1:At b s.heap p l i) (h2:At c s.heap q m i) (hl:Of b s.heap l xs) (hm:Of c s.heap m ys) (hx:xs[i]?=some x) (hy:ys[i]?=some y) (k:∀h',IsZip h' z T U (rawInt s.heap.objs.size)->IsPair h' U x y->At b h' p l (i+1)->At c h' q m (i+1)->IsPair h' s.heap.objs.size x y->h'.objs.size=s.heap.objs.size+1->
   (∀a o,a≠z->a≠U->a≠p->a≠q->s.heap.get? a=some o->h'.get? a=some o)->Q (some (.ref s.heap.objs.size)) {s with heap:=h'}):wpAny (model P w) A (pyNext (.ref z)) Q E s:=by
 have ty:s.TypeIs (.ref z) "zip":=⟨_,hz,rfl⟩;unfold pyNext;refine Ug (Wx (U6 (name:=Str.ofString "__next__") ty Wc (Vb Wc ty XI ?_ (Xy _))));show wpAny _ _ (field (.ref z) 2 >>=_) _ _ _;refine Ug (UZ hz rfl (x:=.bool false) rfl ?_);show wpAny _ _ (field (.ref z) 3 >>=_) _ _ _;refine Ug (UZ hz rfl (x:=.ref T) rfl (Ug (Vn hT rfl ?_)));show wpAny _ _ (ownedTupleIsFree (.ref z) >>=_) _ _ _;refine Ug ?_;unfold ownedTupleIsFree;refine Ug (UZ hz rfl (x:=.none) rfl (Uk ?_));simp only[Wy];refine Ug (V1 (Ug (UZ hz rfl (x:=.ref U) rfl (Ug (wpAny_setField_rec hz (by simp) fun k₁ z₁ t₁=>?_)))));replace z₁:IsZip k₁ z T U .ellipsis:=z₁;refine Ug ?_;simp only[List.zipIdx_cons,List.zipIdx_nil,WW,XO];refine Ug (Ug (Yd ?_));show wpAny _ _ (nextOf (.ref p) >>=_) _ _ _;refine Ug (sU (h1.up fun o e=>t₁.extBut _ o D.pz e) (hl.up fun o e=>t₁.extBut _ o D.lz e) hx fun k₂ p₂ t₂=>Uk ?_);have U₂:IsPair k₂ U u v:=t₂.extBut _ _ D.Up (t₁.extBut _ _ D.Uz hU);refine Ug (Vn U₂ rfl (Ug (XZ U₂ fun k₃ U₃ t₃=>Ug (X0 (Uk ?_)))));replace U₃:IsPair k₃ U x v:=U₃;refine Ug (Ug (Yd ?_));show wpAny _ _ (nextOf (.ref q) >>=_) _ _ _;refine Ug (sU (h2.up fun o e=>t₃.extBut _ o D.Uq.symm (t₂.extBut _ o D.pq.symm (t₁.extBut _ o D.qz e))) (hm.up fun o e=>t₃.extBut _ o D.mU (t₂.extBut _ o D.mp (t₁.extBut _ o D.mz e))) hy fun k₄ q₄ t₄=>Uk ?_);have U₄:IsPair k₄ U x v:=t₄.extBut _ _ D.Uq U₃;refine Ug (Vn U₄ rfl (Ug (XZ U₄ fun k₅ U₅ t₅=>Ug (X0 (Uk (Uk ?_))))));replace U₅:IsPair k₅ U x y:=U₅;refine Ug (Vn U₅ rfl (Ug (Xi ?_)));have sz:k₅.objs.size=s.heap.objs.size:=by rw[t₅.1,t₄.1,t₃.1,t₂.1,t₁.1]
 have z₅:IsZip k₅ z T U .ellipsis:=t₅.extBut _ _ D.Uz.symm (t₄.extBut _ _ D.qz.symm (t₃.extBut _ _ D.Uz.symm (t₂.extBut _ _ D.pz.symm z₁)));have up₅:∀a o,a≠z->a≠U->a≠p->a≠q->s.heap.get? a=some o->k₅.get? a=some o:=fun a o a1 a2 a3 a4 e=>t₅.extBut _ _ a2 (t₄.extBut _ _ a4 (t₃.extBut _ _ a2 (t₂.extBut _ _ a3 (t₁.extBut _ _ a1 e))));have p₅:At b k₅ p l (i+1):=p₂.up fun o e=>t₅.extBut _ o D.Up.symm (t₄.extBut _ o D.pq (t₃.extBut _ o D.Up.symm e));have q₅:At c k₅ q m (i+1):=q₄.up fun o e=>t₅.extBut _ o D.Uq.symm e;have zlt:z < k₅.objs.size:=UB z₅;show wpAny _ _ (ownedTupleHandOut (.ref z) (.ref k₅.objs.size) >>=_) _ _ _;refine Ug ?_;unfold ownedTupleHandOut;have z₆:IsZip (k₅.push {cls:=.type "tuple",data:=.seq #[x,y]}) z T U .ellipsis:=Uj _ z₅;refine Ug (wpAny_setField_rec z₆ (by simp) fun k₇ z₇ t₇=>?_);replace z₇:IsZip k₇ z T U (rawInt k₅.objs.size):=z₇;refine wpAny_setField_rec z₇ (by simp) fun k₈ z₈ t₈=>?_;replace z₈:IsZip k₈ z T U (rawInt k₅.objs.size):=z₈;have up:∀a o,a≠z->k₅.get? a=some o->k₈.get? a=some o:=fun a o a1 e=>t₈.extBut _ _ a1 (t₇.extBut _ _ a1 (Uj _ e));have T₈:IsPair k₈ k₅.objs.size x y:=t₈.extBut _ _ (X3 zlt) (t₇.extBut _ _ (X3 zlt) (UD _ rfl));have s8:k₈.objs.size=k₅.objs.size+1:=by rw[t₈.1,t₇.1,Vq]
 rw[sz] at z₈ T₈ s8;refine Uk ⟨_,rfl,Uk ?_⟩;show Q (some (.ref k₅.objs.size)) _;rw[sz];exact k k₈ z₈ (up _ _ D.Uz U₅) (p₅.up fun o e=>up _ o D.pz e) (q₅.up fun o e=>up _ o D.qz e) T₈ s8 fun a o a1 a2 a3 a4 e=>up a o a1 (up₅ a o a1 a2 a3 a4 e)
theorem Ja(hh:A.handled=none)(D:Zp z T U p q l m)(hz:IsZip s.heap z T U .none)(hT:IsPair s.heap T (.ref p) (.ref q))(hU:IsPair s.heap U u v)(h1:At b s.heap p l i)(h2:At c s.heap q m i)(hl:Of b s.heap l xs)(hm:Of c s.heap m ys)(he:xs[i]?=none∨ys[i]?=none)(k:∀h',(∀a o,a≠z->a≠U->a≠p->a≠q->s.heap.get? a=some o->h'.get? a=some o)->Q none {s with heap:=h'}):wpAny (model P w) A (pyNext (.ref z)) Q E s:=by
 have ty:s.TypeIs (.ref z) "zip":=⟨_,hz,rfl⟩;unfold pyNext;refine Ug (Wx (U6 (name:=Str.ofString "__next__") ty Wc (Vb Wc ty XI ?_ (Xy _))));have fin:∀h' e,(∀a o,a≠z->a≠U->a≠p->a≠q->s.heap.get? a=some o->h'.get? a=some o)->(∃o,h'.get? e=some o∧o.cls=.type "StopIteration")->
   (fun e s'=>wpAny (model P w) A (isInstance e (.type "StopIteration")) (fun r s''=>(if r=true then Q none s'' else E e s'')) E s') (.ref e) {s with heap:=h'}:=fun h' e up ⟨o,ho,hc⟩=>
  VT (T:="StopIteration") (b:=true) ⟨o,ho,hc⟩ WD (by rw[Ut rfl];exact k h' up)
 show wpAny _ _ (field (.ref z) 2 >>=_) _ _ _;refine Ug (UZ hz rfl (x:=.bool false) rfl ?_);show wpAny _ _ (field (.ref z) 3 >>=_) _ _ _;refine Ug (UZ hz rfl (x:=.ref T) rfl (Ug (Vn hT rfl ?_)));show wpAny _ _ (ownedTupleIsFree (.ref z) >>=_) _ _ _;refine Ug ?_;unfold ownedTupleIsFree;refine Ug (UZ hz rfl (x:=.none) rfl (Uk ?_));simp only[Wy];refine Ug (V1 (Ug (UZ hz rfl (x:=.ref U) rfl (Ug (wpAny_setField_rec hz (by simp) fun k₁ z₁ t₁=>?_)))));replace z₁:IsZip k₁ z T U .ellipsis:=z₁;refine Ug ?_;simp only[List.zipIdx_cons,List.zipIdx_nil,WW,XO];refine Ug (Ug (Yd ?_));show wpAny _ _ (nextOf (.ref p) >>=_) _ _ _;cases ex:xs[i]? with
 | none=>
  refine Ug (zH hh (h1.up fun o e=>t₁.extBut _ o D.pz e) (hl.up fun o e=>t₁.extBut _ o D.lz e) ex fun k₂ e t₂ ⟨oe,hoe,hce⟩=>?_);have z₂:IsZip k₂ z T U .ellipsis:=t₂ _ _ D.pz.symm z₁;have ez:e≠z:=fun r=>by subst r;rw[z₂] at hoe;cases hoe;simp at hce
  refine wpAny_setField_rec z₂ (by simp) fun k₃ _ t₃=>?_;refine Ug (VT (T:="StopIteration") (b:=true) ⟨oe,t₃.extBut _ _ ez hoe,hce⟩ WD (Uk (k _ fun a o a1 _ a3 _ r=>t₃.extBut _ _ a1 (t₂ _ _ a3 (t₁.extBut _ _ a1 r)))))
 | some x=>
  have ey:ys[i]?=none:=by rcases he with r | r;rw[ex] at r;cases r;exact r
  refine Ug (sU (h1.up fun o e=>t₁.extBut _ o D.pz e) (hl.up fun o e=>t₁.extBut _ o D.lz e) ex fun k₂ p₂ t₂=>Uk ?_);have U₂:IsPair k₂ U u v:=t₂.extBut _ _ D.Up (t₁.extBut _ _ D.Uz hU);refine Ug (Vn U₂ rfl (Ug (XZ U₂ fun k₃ U₃ t₃=>Ug (X0 (Uk ?_)))));refine Ug (Ug (Yd ?_));show wpAny _ _ (nextOf (.ref q) >>=_) _ _ _;refine Ug (zH hh (h2.up fun o e=>t₃.extBut _ o D.Uq.symm (t₂.extBut _ o D.pq.symm (t₁.extBut _ o D.qz e))) (hm.up fun o e=>t₃.extBut _ o D.mU (t₂.extBut _ o D.mp (t₁.extBut _ o D.mz e))) ey fun k₄ e t₄ ⟨oe,hoe,hce⟩=>?_);have z₄:IsZip k₄ z T U .ellipsis:=t₄ _ _ D.qz.symm (t₃.extBut _ _ D.Uz.symm (t₂.extBut _ _ D.pz.symm z₁));have ez:e≠z:=fun r=>by subst r;rw[z₄] at hoe;cases hoe;simp at hce
  refine wpAny_setField_rec z₄ (by simp) fun k₅ _ t₅=>?_;refine Ug (VT (T:="StopIteration") (b:=true) ⟨oe,t₅.extBut _ _ ez hoe,hce⟩ WD (Uk (k _ fun a o a1 a2 a3 a4 r=>t₅.extBut _ _ a1 (t₄ _ _ a4 (t₃.extBut _ _ a2 (t₂.extBut _ _ a3 (t₁.extBut _ _ a1 r)))))))
abbrev g1(b:Bool)(h:Heap)(l:Addr):Heap:=h.push {cls:=.type (kn b),data:=.fields #[.ref l,.int 0 0]}
abbrev g2(b c:Bool)(h:Heap)(l m:Addr):Heap:=(g1 b h l).push {cls:=.type (kn c),data:=.fields #[.ref m,.int 0 0]}
abbrev g3(b c:Bool)(h:Heap)(l m:Addr):Heap:=(g2 b c h l m).push {cls:=.type "tuple",data:=.seq #[.ref h.objs.size,.ref (g1 b h l).objs.size]}
abbrev g4(b c:Bool)(h:Heap)(l m:Addr):Heap:=(g3 b c h l m).push {cls:=.type "tuple",data:=.seq #[.none,.none]}
abbrev g5(b c:Bool)(h:Heap)(l m:Addr):Heap:=(g4 b c h l m).push {cls:=.type "zip",data:=.fields #[.none,.bool false,.bool false,.ref (g2 b c h l m).objs.size,.ref (g3 b c h l m).objs.size]}
theorem I9(b c:Bool)(l m:Addr)(xs ys:Array Value):PySem.Meets (Builtin.«zip.__new__» ⟨[.type "zip",.ref l,.ref m],[]⟩) (fun _ R s=>Of b s.heap l xs∧Of c s.heap m ys∧R (.ok (.ret (.ref (g4 b c s.heap l m).objs.size))) {s with heap:=g5 b c s.heap l m}):=
 .of_wp fun prog w A R s h=>by
  obtain⟨hp,g,d,tk,os⟩:=s;obtain⟨hl,hm,h⟩:=h;have sub:=sub_zip;have L1:Of b (Shared.heap ⟨hp,g,d,tk,os⟩) l xs:=hl;have L2:Of c (Shared.heap ⟨hp.push {cls:=.type (kn b),data:=.fields #[.ref l,.int 0 0]},g,d,tk,os⟩) m ys:=hm.up fun o e=>Uj _ e
  wp_walk using Hy L1,Hy L2
  exact⟨_,rfl,h⟩
theorem FD (hl:Of b s.heap l xs) (hm:Of c s.heap m ys) (k:∀h',IsZip h' (s.heap.objs.size+4) (s.heap.objs.size+2) (s.heap.objs.size+3) .none->IsPair h' (s.heap.objs.size+2) (.ref s.heap.objs.size) (.ref (s.heap.objs.size+1))->IsPair h' (s.heap.objs.size+3) .none .none->
   At b h' s.heap.objs.size l 0->At c h' (s.heap.objs.size+1) m 0->h'.objs.size=s.heap.objs.size+5->(∀a o,s.heap.get? a=some o->h'.get? a=some o)->Q (.ref (s.heap.objs.size+4)) {s with heap:=h'}):
  wpAny (model P w) A (call (.type "zip") [.ref l,.ref m]) Q E s:=by
 refine callType_new F.called_zip (by decide) (F.typeCall_zip_2 _ _) (F.newCall_zip_2 _ _) (fun obj=>F.args_object_init_3 obj _ _) F.entry_zip_new (I9 b c l m xs ys) ⟨hl,hm,?_⟩;have z1:(g1 b s.heap l).objs.size=s.heap.objs.size+1:=Vq ..;have z2:(g2 b c s.heap l m).objs.size=s.heap.objs.size+2:=by rw[Vq,z1]
 have z3:(g3 b c s.heap l m).objs.size=s.heap.objs.size+3:=by rw[Vq,z2]
 have z4:(g4 b c s.heap l m).objs.size=s.heap.objs.size+4:=by rw[Vq,z3]
 have z5:(g5 b c s.heap l m).objs.size=s.heap.objs.size+5:=by rw[Vq,z4]
 have e5:(g5 b c s.heap l m).get? (g4 b c s.heap l m).objs.size=some _:=UD _ rfl;have e4:(g5 b c s.heap l m).get? (g3 b c s.heap l m).objs.size=some _:=Uj _ (UD _ rfl);have e3:(g5 b c s.heap l m).get? (g2 b c s.heap l m).objs.size=some _:=Uj _ (Uj _ (UD _ rfl));have e2:(g5 b c s.heap l m).get? (g1 b s.heap l).objs.size=some _:=Uj _ (Uj _ (Uj _ (UD _ rfl)));have e1:(g5 b c s.heap l m).get? s.heap.objs.size=some _:=Uj _ (Uj _ (Uj _ (Uj _ (UD _ rfl))));show _∧_;rw[z2,z3,z4] at e5;rw[z1,z2] at e3;rw[z3] at e4;rw[z1] at e2;rw[z4];exact⟨⟨_,e5,rfl⟩,k _ e5 e3 e4 ⟨_,e1,rfl,rfl⟩ ⟨_,e2,rfl,rfl⟩ z5 fun a o x=>Uj _ (Uj _ (Uj _ (Uj _ (Uj _ x))))⟩
section
variable {X:Cx} {pins:List (Addr×Obj)} {σ:L2.St} {H:Hp} {s:Shared} {h':Heap} {fp:List Addr}
theorem Cs(I:L2.Inv X pins σ H s)(k:∀b o,b∉fp->s.heap.get? b=some o->h'.get? b=some o)(hf:∀b∈fp,fN X pins H b):L2.Inv X pins σ H {s with heap:=h',toks:=t'}:=by
 have nit:∀b u,H b=some u->b∉fp:=fun b u e z=>by rw[(hf b z).1] at e;cases e
 have nL:X.env.locals∉fp:=fun z=>(hf _ z).2.1 rfl;refine I.step (g':=s.gens) (d':=s.drawn) (ch:=fp) (fun b hb=>?_) (fun b o _ _ hc e _=>k b o hc e) (fun b o _ _ hc e _=>⟨o.slots,k b o hc e⟩) (fun _ _ _ _ n=>n)
  (fun b o hc e=>⟨o,k b o hc e⟩) (fun _ _ e=>e) (fun _ _ _ e=>e) (fun b ps e=>⟨#[],by rw[e];simp⟩) (fun m hm=>?_) (fun b u e=>?_) I.bare
 ·obtain⟨f0,f1,f2,f3,f4,f5⟩:=hf b hb;exact⟨f3,f1,f4,f5⟩
 ·obtain⟨o,es,ep,ho,r⟩:=hm;exact⟨o,es,ep,k _ o nL ho,r⟩
 ·refine(I.bj b u e).wI (fun c v hc q=>k c v ?_ q) (fun _ q=>q) fun _ _ q=>q;rcases hc with z | z
  ·rw[z];exact nit b u e
  ·exact nit c _ z
theorem Jc(I:L2.Inv X pins σ H s)(k:∀b o,b∉fp->s.heap.get? b=some o->h'.get? b=some o)(hf:∀b∈fp,fN X pins H b)(hlt:∀b∈fp,b < s.heap.objs.size)(ht:h'.get? s.heap.objs.size=some {cls:=.type "tuple",data:=.seq us.toArray n})(r:Vals vs us)(hz:vs.length≤sizeLine):L2.Inv X pins σ (upd H s.heap.objs.size (.tup vs)) {s with heap:=h',toks:=t'}:=by
 have nit:∀b u,H b=some u->b∉fp:=fun b u e z=>by rw[(hf b z).1] at e;cases e
 have nL:X.env.locals∉fp:=fun z=>(hf _ z).2.1 rfl;have hp:H s.heap.objs.size=none:=I.bj.fresh (Us _);have np:∀b o,s.heap.get? b=some o->b≠s.heap.objs.size:=fun b o e=>UQ (UB e);have nH:∀b u,H b=some u->b≠s.heap.objs.size:=fun b u e=>aO e hp;refine I.step (g':=s.gens) (d':=s.drawn) (ch:=fp) (fun b hb=>?_) (fun b o _ _ hc e _=>k b o hc e) (fun b o _ _ hc e _=>⟨o.slots,k b o hc e⟩) (fun b o _ e n=>by rw[aF (np b o e)];exact n)
  (fun b o hc e=>⟨o,k b o hc e⟩) (fun b _ e=>by rw[aF (nH b _ e)];exact e) (fun b _ _ e=>by rw[aF (nH b _ e)];exact e) (fun b ps e=>⟨#[],by rw[aF (nH b _ e),e];simp⟩) (fun m hm=>?_) (fun b u e=>?_) I.bare
 ·obtain⟨f0,f1,f2,f3,f4,f5⟩:=hf b hb;exact⟨f3,f1,f4,f5⟩
 ·obtain⟨o,es,ep,ho,q⟩:=hm;exact⟨o,es,ep,k _ o nL ho,q⟩
 ·by_cases z:b=s.heap.objs.size
  ·subst z;rw[aR] at e;cases e;exact⟨hz,us,r,⟨_,ht,rfl,⟨n,rfl⟩,rfl⟩⟩
  ·rw[aF z] at e;refine(I.bj b u e).wI (fun c v hc q=>k c v ?_ q) (fun c q=>?_) fun c u q=>?_
   ·rcases hc with y | y
    ·rw[y];exact nit b u e
    ·exact nit c _ y
   ·rw[aF (nH _ _ q)];exact q
   ·rw[aF (nH _ _ q)];exact q
end
def qZ(b:Bool)(K:FR)(H:Hp)(l:Addr)(xs:List V):Prop:=match b with
 | true=>fR K H l xs
 | false=>jD K H l xs
theorem qZ.of(I:L2.Inv X pins σ H s)(q:qZ b X.K H l xs):∃its:List Value,Vals xs its∧Of b s.heap l its.toArray:=by
 cases b with
 | true=>obtain⟨its,r,p,_⟩:=I.list (show fR X.K H l xs from q);exact⟨its,r,p.isList⟩
 | false=>obtain⟨its,r,p,_⟩:=I.tuple (show jD X.K H l xs from q);exact⟨its,r,p⟩
theorem qZ.inj(I:L2.Inv X pins σ H s)(q:qZ b X.K H l xs)(q':qZ b X.K H l ys):xs=ys:=by
 cases b with
 | true=>exact I.zP q q'
 | false=>exact I.va q q'
noncomputable def TB(b:Bool)(K:FR)(l:Addr):It:=
 ⟨fun i H=>∃xs x,qZ b K H l xs∧xs[i]?=some x,fun i H x H'=>∃p y,H p=none∧x=.ref p∧H'=upd H p (.tup [.int (i:Int),y])∧∀xs,qZ b K H l xs->xs[i]?=some y,fun i H=>∃xs,qZ b K H l xs∧xs.length≤i⟩
theorem DV{P:Program}{w:World}{K:FR}{es:List Expr}{k0:Nat}{pos:Pos}(b:Bool)(l e j:Addr)(ne:e≠j):Turn P w K (.Tuple es k0 pos) (TB b K l) [e,j] e (fun i h=>(∃old,IsEnum h e j i old)∧At b h j l i) where
 mem:=by simp
 obj:=fun i h st a ha=>by
  obtain⟨⟨old,h1⟩,o,h2,_,d2⟩:=st;simp at ha;rcases ha with rfl | rfl
  ·exact⟨_,h1,fun v z=>by cases z⟩
  ·exact⟨o,h2,fun v z=>by rw[d2] at z;cases z⟩
 keep:=fun i h h' ⟨⟨old,h1⟩,h2⟩ k=>⟨⟨old,k e (by simp) _ h1⟩,h2.up fun o q=>k j (by simp) o q⟩
 item:=by
  intro X hP hw hK hc i pins s σ H E I hf st hg;subst hP hw hK;obtain⟨xs,x,hq,hx⟩:=hg;obtain⟨⟨old,h1⟩,h2⟩:=st;obtain⟨its,rv,hO⟩:=hq.of I;obtain⟨u,hu,ru⟩:=rv.get hx;have hlt:∀a∈[e,j],a < s.heap.objs.size:=fun a ha=>by
   simp at ha;rcases ha with rfl | rfl
   ·exact UB h1
   ·exact h2.lt
  refine Fe h1 h2 hO (x:=u) (by simpa using hu) ne fun h' a1 a2 a3 a4 a5=>⟨_,rfl,wpAny_letOwnedTupleGo_enum a1 fun h'' b1 b2=>?_⟩;have hp:H s.heap.objs.size=none:=I.bj.fresh (Us _);have I1:=Jc (t':=s.toks+1) (vs:=[.int (i:Int),x]) (us:=[.int i s.toks,u]) (n:=0) I (fun a o ha q=>a5 a o (fun z=>ha (by simp[z])) (fun z=>ha (by simp[z])) q) hf hlt a3 (.cons ⟨_,rfl⟩ (.cons ru .nil)) (show 2≤sizeLine by decide);have hf1:∀a∈[e,j],fN X pins (upd H s.heap.objs.size (.tup [.int (i:Int),x])) a:=fun a ha=>by
   obtain⟨f0,f⟩:=hf a ha;exact⟨by rw[aF (UQ (hlt a ha))];exact f0,f⟩
  have I2:=Cs (t':=s.toks+1) I1 (h':=h'') (fun a o ha q=>b2.extBut a o (fun z=>ha (by simp[z])) q) hf1;exact⟨.ref s.heap.objs.size,_,I2,rfl,⟨_,x,hp,rfl,rfl,fun ys hy=>by rw[hy.inj I hq];exact hx⟩,⟨⟨_,by simpa using b1⟩,a2.up fun o q=>b2.extBut j o (VA ne) q⟩,fun a ha=>(hf1 a ha).1⟩
 done:=by
  intro X hP hw hK hc i pins s σ H E I hf st hg;subst hP hw hK;obtain⟨xs,hq,hx⟩:=hg;obtain⟨⟨old,h1⟩,h2⟩:=st;obtain⟨its,rv,hO⟩:=hq.of I;have hl:=rv.length;exact HZ (I.ok.hd hc) h1 h2 hO (by simp;lia) fun h' eb=>⟨rfl,Cs (t':=s.toks) I (fun a o ha q=>eb a o (fun z=>ha (by simp[z])) q) hf⟩
 self:=fun A i s Q E ⟨⟨old,h1⟩,_⟩ q=>by
  have hT:s.TypeIs (.ref e) "enumerate":=⟨_,h1,rfl⟩;refine wpAny_pyIter_slot hT F.slot_enumerate_iter (Vb F.slot_enumerate_iter hT F.entry_enumerate_iter ?_ (F.args_enumerate_iter_1 _));show wpAny _ _ (ret (.ref e)) _ _ s;exact Uk ⟨_,rfl,"enumerate",_,hT,Wz.lookup,q⟩
theorem boot_zip:bootBuiltins "zip"=some (.type "zip"):=by decide+kernel
theorem Fq:bootBuiltins "enumerate"=some (.type "enumerate"):=by decide+kernel
theorem O4(n l m:Nat)(hl:l < n)(hm:m < n):Zp (n+4) (n+2) (n+3) n (n+1) l m:=by
 constructor <;> (intro h;have h:(_:Nat)=_:=h;lia)
theorem JX(hg:Gl X "enumerate")(hm:X.mg "enumerate"=none)(ha:PA X [a] ta)(hs:starEach [a] X.env=[(false,eval a X.env)]:=by ac_nf):
  PI X (.Tuple es k0 tpos) (.Call (.Name "enumerate" p) [a] [] pos) (fun σ H R=>ta σ H fun vs H1=>∃l b,vs=[.ref l]∧(∃xs,qZ b X.K H1 l xs)∧R (TB b X.K l) H1):=by
 intro pins s σ H R I h;refine Call_ (ip I hg hm Fq (Vm (cq (ha pos pins s σ H _ I h) fun us s1 ⟨vs,H1,I1,r1,q1⟩=>?_) hs rfl));obtain⟨l,b,e,⟨xs,hq⟩,q⟩:=q1;subst e;obtain⟨u,rfl,ru⟩:=Vals.one r1;obtain rfl:u=Value.ref l:=ru;obtain⟨its,rv,hO⟩:=hq.of I1;refine Fd hO fun h' a1 a2 a3 a4=>?_;have I2:L2.Inv X pins σ H1 {s1 with heap:=h'}:=I1.kept (t':=s1.toks) a4;have hf:∀c∈[s1.heap.objs.size+1,s1.heap.objs.size],fN X pins H1 c:=fun c hc=>by
  simp at hc;rcases hc with rfl | rfl
  ·exact I1.zZ (Wi _) (I1.bj.fresh (Wi _))
  ·exact I1.zZ (Us _) (I1.bj.fresh (Us _))
 have T:=DV (P:=X.prog) (w:=X.w) (K:=X.K) (es:=es) (k0:=k0) (pos:=tpos) b l (s1.heap.objs.size+1) s1.heap.objs.size (Nat.succ_ne_self _);refine T.self X.A 0 {s1 with heap:=h'} _ X.xe ⟨⟨_,a1⟩,a2⟩ ?_;exact⟨_,[s1.heap.objs.size+1,s1.heap.objs.size],_,_,H1,rfl,I2,T,⟨⟨_,a1⟩,a2⟩,hf,q⟩
end Sb
namespace Sm
open PySem L2 PySem.Spec PyProof.Rows
noncomputable def jy:Nat->List D->List D
 | _,[]=>[]
 | k,x::r=>.tup [.int (k:Int),x]::jy (k+1) r
theorem pT:∀(xs:List D)(k i:Nat),(jy k xs)[i]?=(xs[i]?).map fun x=>.tup [.int ((k+i:Nat):Int),x]
 | [],k,i=>by simp[jy]
 | x::r,k,0=>by simp[jy]
 | x::r,k,i+1=>by
  show(jy (k+1) r)[i]?=_;rw[pT r (k+1) i];simp only[Vo];congr 1
  funext y
  rw[show k+1+i=k+(i+1) by lia]
theorem cC:∀(xs:List D)(k:Nat),(jy k xs).length=xs.length
 | [],_=>rfl
 | _::r,k=>by simp[jy,cC r (k+1)]
theorem SeqAt.OW{K:FR}{H:Hp}{a:Addr}{vs:List V}{b:Bool}(q:SeqAt K H a vs b):Sb.qZ b K H a vs:=by
 cases q with
 | l q=>exact q
 | t q=>exact q
noncomputable def qk(m:AM):IM:=fun δ h=>(m δ h).bind fun p=>match p.1 with
 | [d]=>(cT d p.2).map fun q=>(jy 0 q.1,q.2,p.2)
 | _=>none
theorem kP(hg:Gl X "enumerate")(hm:X.mg "enumerate"=none)(ha:SA X [a] m)(hl:mN m 1)(hs:starEach [a] X.env=[(false,eval a X.env)]:=by ac_nf):SI X (.Tuple es k0 tpos) (.Call (.Name "enumerate" p) [a] [] pos) (qk m):=
 (Sb.JX hg hm ha hs).imp fun σ H Q ⟨ρ,δ,h,xs,ws,h',R,S,e,k⟩=>by
  obtain⟨⟨ds,h1⟩,e1,e2⟩:=bo e;refine⟨ρ,δ,h,ds,h1,R,S,e1,fun vs ρ1 H1 T1 S1 r1=>?_⟩
  match ds,hl _ _ _ _ e1,e2,r1 with
  | [d],_,e2,r1=>
   obtain⟨⟨ys,w⟩,e3,e4⟩:=fO e2;cases e4;obtain⟨v,rfl,rd⟩:=rep1 r1;obtain⟨a,rfl,⟨us,q,l⟩,st⟩:=jN S1 rd e3;refine⟨a,qT d,rfl,⟨us,q.OW⟩,k _ ρ1 H1 T1 S1 ⟨fun ρ2 H2 h2 T2 S2 hc i=>?_⟩⟩;obtain⟨ws,l2,q2⟩:=st ρ2 H2 h2 T2 S2 hc;refine⟨fun hi=>⟨ws,q2.OW,by rw[l2.length];rw[cC] at hi;exact hi⟩,fun x hx=>?_⟩;rw[pT] at hx;obtain⟨y,ey,hx⟩:=fO hx;subst hx;obtain⟨v,ev,rv⟩:=l2.got ey;refine⟨⟨ws,v,q2.OW,ev⟩,fun u H3 ⟨p,y',hp,hu,hH,hy⟩=>?_⟩;subst hu;subst hH;have hy':y'=v:=by have:=hy ws q2.OW;rw[ev] at this;exact(Option.some.inj this).symm
   subst hy';refine⟨dA.laid S2 hp,S2.laid hp,.tup (.inl ⟨.inl aR,S2.fresh hp⟩) (.cons ?_ (.cons (rv.mono (dA.laid S2 hp).toCh) .nil))⟩;rw[Vr];exact .int _
noncomputable def x6(ls:List (Key×D)):List (Key×D)->Option Bool
 | []=>some true
 |(k,v)::r=>match dN ls k with
  | none=>some false
  | some u=>(qa v).bind fun a=>(qa u).bind fun b=>if a.depth≤60∧b.depth≤60 then(x6 ls r).map fun c=>PyData.eqv a b&&c else none
noncomputable def Ia(ks ls:List (Key×D)):Option Bool:=if ks.length=ls.length then x6 ls ks else some false
noncomputable def LK(d e:D)(h:MH):Option Bool:=match dY d h,dY e h with
 | some ks,some ls=>Ia ks ls
 | _,_=>LJ d e h
noncomputable def cj(d e:D)(h:MH):Option (D×MH):=(LK d e h).map fun c=>(.bl c,h)
noncomputable def lu(d e:D)(h:MH):Option (D×MH):=(LK d e h).map fun c=>(.bl (!c),h)
theorem De(hu:X.A.units+64 < cLine)(I:L2.Inv X pins σ H s)(lb:bg X.K ρ H vs ls)(rb:KV vs kb):
  ∀{us:List (Key×V)} {ks:List (Key×D)} {ka:List (Key×Value)} {c:Bool},bg X.K ρ H us ks->KV us ka->x6 ls ks=some c->PySem.W.KeqHits X.A.in1 s kb ka c
 | _,_,_,c,.nil,ra,e=>by
  cases ra;cases e;exact .nil
 | _,_,_,c,.cons (k:=k) (v:=v) (d:=d) r l,ra,e=>by
  cases ra with
  | cons ra rr=>
   rename_i p ka;obtain⟨k',y⟩:=p;obtain⟨ek,ry⟩:=ra;dsimp only at ek ry;subst ek;simp only[x6] at e;have rel:=rb.val k;rcases lb.val k with⟨h1,h2⟩ |⟨d',v',h1,h2,r'⟩
   ·rw[h1] at e;cases e;rw[h2] at rel;refine .miss ?_;cases q:valueAt kb k with
    | none=>rfl
    | some _=>rw[q] at rel;exact rel.elim
   ·rw[h1] at e;obtain⟨a,e1,e⟩:=bo e;obtain⟨b,e2,e⟩:=bo e
    by_cases z:a.depth≤60∧b.depth≤60
    ·rw[Ut z] at e;obtain⟨c',e3,e4⟩:=fO e;subst e4;rw[h2] at rel;cases q:valueAt kb k with
     | none=>rw[q] at rel;exact rel.elim
     | some y'=>
      rw[q] at rel;obtain⟨r1,c1⟩:=r.uD e1;obtain⟨r2,c2⟩:=r'.uD e2;obtain⟨as,ra1⟩:=r1.reads I ry;obtain⟨bs,ra2⟩:=r2.reads I rel;refine .hit q (Xs a b _ s y y' as bs ra1 ra2 c1 c2 ?_) (De hu I lb rb l rr e3);have:min a.depth b.depth≤a.depth:=XA _ _;show X.A.units+1+min a.depth b.depth < cLine
      lia
    ·rw[Uu z] at e;cases e
theorem HY(hu:X.A.units+64 < cLine)(I:L2.Inv X pins σ H s)(rx:L2.RelV x v)(ry:L2.RelV y u)(S:bK X.K ρ h H)(rd:Rep X.K ρ H x d)(re:Rep X.K ρ H y e)(ee:LK d e h=some c):
  (∀Q:Value->Shared->Prop,Q (.bool c) s->wpAny (model X.prog X.w) X.A (compareOp .Eq v u) Q X.xe s)∧∀Q:Value->Shared->Prop,Q (.bool (!c)) s->wpAny (model X.prog X.w) X.A (compareOp .NotEq v u) Q X.xe s:=by
 have data:LJ d e h=some c->(∀Q:Value->Shared->Prop,Q (.bool c) s->wpAny (model X.prog X.w) X.A (compareOp .Eq v u) Q X.xe s)∧∀Q:Value->Shared->Prop,Q (.bool (!c)) s->wpAny (model X.prog X.w) X.A (compareOp .NotEq v u) Q X.xe s:=by
  intro ee;obtain⟨a,e3,e4⟩:=bo ee;obtain⟨b,e5,e6⟩:=bo e4
  by_cases w:a.depth≤64∧b.depth≤64
  ·rw[Ut w] at e6;cases e6;obtain⟨r1,c1⟩:=rh S rd e3;obtain⟨r2,c2⟩:=rh S re e5;obtain⟨as,ra⟩:=r1.reads I rx;obtain⟨bs,rb⟩:=r2.reads I ry;exact⟨fun Q q=>eq_dataH ra rb (k7 c1 w.1) (k7 c2 w.2) hu q,fun Q q=>ne_dataH ra rb (k7 c1 w.1) (k7 c2 w.2) hu q⟩
  ·rw[Uu w] at e6;cases e6
 unfold LK at ee;cases q1:dY d h with
 | none=>rw[q1] at ee;exact data ee
 | some ks=>
  cases q2:dY e h with
  | none=>rw[q1,q2] at ee;exact data ee
  | some ls=>
   rw[q1,q2] at ee;obtain⟨a,us,rfl,ha,la⟩:=nX S rd q1;obtain⟨b,ws,rfl,hb,lb⟩:=nX S re q2;obtain rfl:v=Value.ref a:=rx;obtain rfl:u=Value.ref b:=ry;obtain⟨_,na,ka,ra,da⟩:=vW I.bj ha;obtain⟨_,nb,kb,rb,db⟩:=vW I.bj hb;have l1:ka.length=ks.length:=by rw[←la.length];exact(Paired.length ra).symm
   have l2:kb.length=ls.length:=by rw[←lb.length];exact(Paired.length rb).symm
   dsimp only[Ia] at ee
   by_cases z:ks.length=ls.length
   ·rw[Ut z] at ee;have hits:=De hu I lb rb la ra ee;have ez:(ka.length==kb.length&&c)=c:=by rw[l1,l2,z,We,Xh]
    exact⟨fun Q q=>PySem.W.keq_eq na nb da db (by lia) (fun _=>hits) (by rw[ez];exact q),fun Q q=>PySem.W.keq_ne na nb da db (by lia) (fun _=>hits) (by rw[ez];exact q)⟩
   ·rw[Uu z] at ee;cases ee;have ez:(ka.length==kb.length&&false)=false:=W6 _;have nh:ka.length=kb.length->PySem.W.KeqHits X.A.in1 s kb ka false:=fun q=>absurd (by rw[←l1,←l2];exact q) z;exact⟨fun Q q=>PySem.W.keq_eq na nb da db (by lia) nh (by rw[ez];exact q),fun Q q=>PySem.W.keq_ne na nb da db (by lia) nh (by rw[ez];exact q)⟩
theorem Nm(hu:X.A.units+64 < cLine):ow X (compareOp .Eq) cj:=by
 intro pins s σ H x y v u Q I rx ry hh;obtain⟨ρ,h,d,e,z,h',S,rd,re,ee,k⟩:=hh;obtain⟨c,e1,e2⟩:=fO ee;cases e2;exact(HY hu I rx ry S rd re e1).1 _ ⟨.bl _,H,I,rfl,k _ _ (.here S (.bl _))⟩
theorem Bu(hu:X.A.units+64 < cLine):ow X (compareOp .NotEq) lu:=by
 intro pins s σ H x y v u Q I rx ry hh;obtain⟨ρ,h,d,e,z,h',S,rd,re,ee,k⟩:=hh;obtain⟨c,e1,e2⟩:=fO ee;cases e2;exact(HY hu I rx ry S rd re e1).2 _ ⟨.bl _,H,I,rfl,k _ _ (.here S (.bl _))⟩
noncomputable def mB(acc:List (Key×D))(ps:List (Key×D)):List (Key×D):=ps.foldl (fun a p=>putD a p.1 p.2) acc
theorem bg.merge{K:FR}{ρ:Ad}{H:Hp}:∀{kvs:List (Key×V)} {ps:List (Key×D)} {acc:List (Key×V)} {ac:List (Key×D)},bg K ρ H acc ac->bg K ρ H kvs ps->bg K ρ H (bI acc kvs) (mB ac ps)
 | _,_,_,_,a,.nil=>a
 | _,_,acc,ac,a,.cons (k:=k) (v:=v) (d:=d) r l=>bg.merge (acc:=putK acc k v) (ac:=putD ac k d) (a.put r) l
theorem yr:bootBuiltins "list"=some (.type "list"):=by decide+kernel
theorem eI:bootBuiltins "tuple"=some (.type "tuple"):=by decide+kernel
theorem K8:bootBuiltins "dict"=some (.type "dict"):=by decide+kernel
theorem K9:bootBuiltins "bool"=some (.type "bool"):=by decide+kernel
theorem Iu:bootBuiltins "int"=some (.type "int"):=by decide+kernel
theorem Oz:bootBuiltins "len"=some (.builtin "len"):=by decide+kernel
theorem OB:bootBuiltins "abs"=some (.builtin "abs"):=by decide+kernel
theorem ix:bootBuiltins "isinstance"=some (.builtin "isinstance"):=by decide+kernel
theorem OA:bootBuiltins "any"=some (.builtin "any"):=by decide+kernel
noncomputable def L5(sc:Scope)(x:Str):Bool:=match sc.names.lookup x with
 | some .local=>true
 | some .cell=>true
 | some .free=>true
 | _=>false
noncomputable def Kp(sc:Scope)(x:Str):Bool:=match sc.names.lookup x with
 | some .local=>true
 | some .cell=>true
 | _=>false
noncomputable def Rk(X:Cx)(x:Str):Bool:=X.fn x||(match X.env.scope.names.lookup x with
 | some .local=>true
 | _=>false)
theorem L4(h:L5 sc x=true):QQ sc x:=by
 unfold L5 at h
 split at h <;> first |(cases h;done) | skip
 ·exact .inl ‹_›
 ·exact .inr (.inl ‹_›)
 ·exact .inr (.inr ‹_›)
theorem Hu(h:Kp sc x=true):Loc sc x:=by
 unfold Kp at h
 split at h <;> first |(cases h;done) | skip
 ·exact .inl ‹_›
 ·exact .inr ‹_›
theorem HE(h:Rk X x=true):X.fn x=true∨X.env.scope.names.lookup x=some .local:=by
 unfold Rk at h;rw[VZ] at h;rcases h with h | h
 ·exact .inl h
 ·split at h
  ·exact .inr ‹_›
  ·cases h
theorem sv(i:Nat)(hN:X.N[i]?=some x:=by ac_nf)(hv:L5 X.env.scope x=true:=by ac_nf)(hd:(x==("__debug__":Str))=false:=by ac_nf)(hcd:(x==("__classdict__":Str))=false:=by ac_nf):SE X (.Name x pos) (ay i):=Mp hN (L4 hv) hd hcd
theorem sset(i:Nat)(hN:X.N.Nodup)(he:SE X e ma)(hi:X.N[i]?=some x:=by ac_nf)(hx:Kp X.env.scope x=true:=by ac_nf)(hs:swapsWith e (some (.Name x pos')) pos.line X.env=pure false:=by ac_nf)(hf:Rk X x=true:=by ac_nf):SS X (.Assign [.Name x pos'] e pos) (aJ i ma):=Mk hN hi (Hu hx) he hs (HE hf)
theorem sgn(i:Nat)(hN:X.N.Nodup)(hi:X.N[i]?=some x:=by ac_nf)(hx:Kp X.env.scope x=true:=by ac_nf)(hf:Rk X x=true:=by ac_nf):SG X (.Name x pos) (gN i):=Jo hN hi (Hu hx) (HE hf)
noncomputable def wZ(i j:Nat)(m:AM):SM:=fun δ h=>(m δ h).bind fun p=>match p.1 with
 | [a,b]=>some (.nx,(δ.set i (some a)).set j (some b),p.2)
 | _=>none
theorem D0(i j:Nat){kt k2 pt2}(hN:X.N.Nodup)(hl:mN m 2)(hc:X.calm=true)(hij:i≠j)(P:PS X (.Assign [.Tuple [.Name x px,.Name y py] kt pt] (.Tuple [a,b] k2 pt2) pos) (Pk i j (Tj X.K m))):
  SS X (.Assign [.Tuple [.Name x px,.Name y py] kt pt] (.Tuple [a,b] k2 pt2) pos) (wZ i j m):=P.imp fun E σ H ⟨ρ,δ,h,fl,δ',h',R,S,e,k⟩=>by
 obtain⟨⟨ds,h1⟩,e1,e2⟩:=bo e;refine⟨ρ,δ,h,ds,h1,R,S,e1,fun vs ρ1 H1 T1 S1 r1=>?_⟩
 match ds,hl _ _ _ _ e1,e2,r1 with
 | [d,d'],_,e2,r1=>
  cases e2;obtain⟨v,u,rfl,rd,rd'⟩:=rep2 r1;exact⟨v,u,rfl,k ρ1 H1 T1 S1 _ (((R.mono T1.toCh).set rd i).set rd' j)⟩
structure Df(P:Program)(w:World)(K:FR)(mg:Str->Option Value)(base:Heap)(nm:Str)(k:Nat)(ps:List Str)(n:Nat)(F:Fn):Prop where
 ex:∃(f:Addr)(fd:FuncData),aX P w K mg base de k f fd ps (dJ K n F)∧PySem.W.keepIn K (.ref f)=true∧Binds K fd ps []∧mg nm=some (.ref f)
theorem PH(d:Df X.prog X.w X.K X.mg X.base nm k ps n F)(hr:gL k' X.A)(hk:k≤k')(ha:SA X (e::es) m)(hl:mN m n)(hg:Gl X nm:=by unfold Gl;ac_nf)(hdb:(nm==("__debug__":Str))=false:=by ac_nf)(he:starEach (e::es) X.env=(false,eval e X.env)::starEach es X.env:=by ac_nf)(hpl:(backTo pos (starEach es X.env)).any (·.1)=false:=by ac_nf):SE X (.Call (.Name nm p) (e::es) [] pos) (ao F m):=by
 obtain⟨f,fd,G,kf,bf,mf⟩:=d.ex;exact Jr G (hr.mono hk) hg mf kf bf ha hl hdb he hpl
theorem nr{P:Program}{w:World}{K:FR}{mg:Str->Option Value}{base:Heap}{k n:Nat}{f:Addr}{fd:FuncData}{ps:List Str}:aX P w K mg base de k f fd ps (dJ K n fun _ _=>none):=
 ⟨fun vs H Q E hh=>(by obtain⟨_,_,_,_,_,_,_,_,e,_⟩:=hh;cases e),fun A outer s H args us vs Q E _ _ _ _ hh=>(by obtain⟨_,_,_,_,_,_,_,_,e,_⟩:=hh;cases e)⟩
end Sm
namespace L2
open PySem PySem.Spec PyProof.Rows
abbrev TK:=St->Hp->(St->Hp->Prop)->Prop
def PM(B:Cx)(act:Sem Unit)(t:TK):Prop:=
 ∀(pins:List (Addr×Obj)) (s:Shared) (τ:St) (H:Hp) (N:St->Hp->Prop),Inv B pins τ H s->t τ H N->wpAny (model B.prog B.w) B.A act (fun _ s'=>∃τ' H',Inv B pins τ' H' s'∧N τ' H') B.xe s
def ub(J:It)(g:TG)(tc:TT)(tm:TK)(N:St->Hp->Prop)(τ0:St)(H0:Hp):Prop:=
 ∃W:Nat->Nat->St->Hp->Prop,(∃m,W 0 m τ0 H0)∧∀i m τ H2,W i m τ H2->
  (J.stop i H2∧N τ H2)∨(J.go i H2∧∃N':St->Hp->Prop,(∀τ' H',N' τ' H'->∃m',m' < m∧W (i+1) m' τ' H')∧∀x H',J.Lo i H2 x H'->g x τ H' fun τ2 H3=>
   tc τ2 H3 fun b H4=>if b=true then tm τ2 H4 N' else N' τ2 H4)
noncomputable def gm(e:Expr)(d:Nat)(tg:Expr)(ifs:List Expr)(act:Sem Unit)(p:Pos)(it acc:Value)(env:Env):Sem Fin:=do
 standAt p
 match←pyNext it with
 | none=>pure (.done .next)
 | some v=>
  letOwnedTupleGo tg it v
  assign tg env v
  let mut ok:=true
  for c in ifs do
   if ok then ok←isTrue c env (eval c env)
  if ok then act
  again (.compLoop e d it acc env)
noncomputable def nu(e:Expr)(d:Nat)(iter:Expr)(acc:Value)(env:Env):Sem Unit:=do
 let x←eval iter env
 standAt iter.pos
 let x←foldedSetIterable iter env x;let _←runOwn (.compStart e d (←holding [x] (pyIter x)) acc env) env
noncomputable def emitSet(elt:Expr)(acc:Value)(env:Env):Sem Unit:=do let v←eval elt env;standAt elt.pos;let _←call (.builtin "set.add") [acc,v]
theorem DT(elt t1 i1:Expr)(f1:List Expr)(sc:Scope)(pos:Pos)(it acc:Value)(env:Env):
  compTurn (.SetComp elt [⟨t1,i1,f1,0⟩] sc pos) 0 it acc env=gm (.SetComp elt [⟨t1,i1,f1,0⟩] sc pos) 0 t1 f1 (emitSet elt acc env) i1.pos it acc env:=by rfl
noncomputable def nS(k v:Expr)(d:Addr)(env:Env):Sem Unit:=do
 let kv←eval k env;let vv←holding [kv] (eval v env)
 standAt {k.pos with endLine:=v.pos.endLine,endCol:=v.pos.endCol}
 holding [kv,vv] (dictSet d kv vv)
theorem AF(k v t1 i1:Expr)(f1:List Expr)(sc:Scope)(pos:Pos)(it:Value)(d:Addr)(env:Env):
  compTurn (.DictComp k v [⟨t1,i1,f1,0⟩] sc pos) 0 it (.ref d) env=gm (.DictComp k v [⟨t1,i1,f1,0⟩] sc pos) 0 t1 f1 (nS k v d env) i1.pos it (.ref d) env:=by rfl
noncomputable def nR(elt:Expr)(acc:Value)(env:Env):Sem Unit:=do let _←call (.builtin "list.append") [acc,←eval elt env]
theorem wB(elt t1 i1 t2 i2:Expr)(f1 f2:List Expr)(sc:Scope)(pos:Pos)(it acc:Value)(env:Env):
  compTurn (.ListComp elt [⟨t1,i1,f1,0⟩,⟨t2,i2,f2,0⟩] sc pos) 0 it acc env=gm (.ListComp elt [⟨t1,i1,f1,0⟩,⟨t2,i2,f2,0⟩] sc pos) 0 t1 f1 (nu (.ListComp elt [⟨t1,i1,f1,0⟩,⟨t2,i2,f2,0⟩] sc pos) 1 i2 acc env) i1.pos it acc env:=by
 refine Eq.trans (b:=(do
   standAt i1.pos
   match←pyNext it with
   | none=>pure (.done .next)
   | some v=>
    letOwnedTupleGo t1 it v
    assign t1 env v
    let mut ok:=true
    for c in f1 do
     if ok then ok←isTrue c env (eval c env)
    if ok then
     let x←eval i2 env
     standAt i2.pos
     let x←foldedSetIterable i2 env x;let _←runOwn (.compStart (.ListComp elt [⟨t1,i1,f1,0⟩,⟨t2,i2,f2,0⟩] sc pos) 1 (←holding [x] (pyIter x)) acc env) env
    again (.compLoop (.ListComp elt [⟨t1,i1,f1,0⟩,⟨t2,i2,f2,0⟩] sc pos) 0 it acc env):Sem Fin)) rfl ?_
 unfold gm nu;simp only[bind_assoc,pure_bind]
theorem wA(elt t1 i1 t2 i2:Expr)(f1 f2:List Expr)(sc:Scope)(pos:Pos)(it acc:Value)(env:Env):
  compTurn (.ListComp elt [⟨t1,i1,f1,0⟩,⟨t2,i2,f2,0⟩] sc pos) 1 it acc env=gm (.ListComp elt [⟨t1,i1,f1,0⟩,⟨t2,i2,f2,0⟩] sc pos) 1 t2 f2 (nR elt acc env) i2.pos it acc env:=by rfl
structure Plain(e:Expr):Prop where
 loop:∀(P:Program)(w:World)(d:Nat)(it acc:Value)(env:Env),(model P w).den (.compLoop e d it acc env)=(compTurn e d it acc env).onRaise (fun x=>do noteFrame x env;theTreesLotGoes x)
 start:∀(P:Program)(w:World)(d:Nat)(it acc:Value)(env:Env),(model P w).den (.compStart e d it acc env)=(compStart e d it acc env).onRaise (fun x=>do noteFrame x env;standAt theWindowsPlace)
 ul:∀(A:Around)(d:Nat)(it acc:Value)(env:Env),A.under (.compLoop e d it acc env)=A
 us:∀(A:Around)(d:Nat)(it acc:Value)(env:Env),A.under (.compStart e d it acc env)=A
theorem Ep(elt:Expr)(gs:List Comprehension)(sc:Scope)(pos:Pos):Plain (.SetComp elt gs sc pos):=⟨fun _ _ _ _ _ _=>rfl,fun _ _ _ _ _ _=>rfl,fun _ _ _ _ _=>rfl,fun _ _ _ _ _=>rfl⟩
theorem sH(elt:Expr)(gs:List Comprehension)(sc:Scope)(pos:Pos):Plain (.ListComp elt gs sc pos):=⟨fun _ _ _ _ _ _=>rfl,fun _ _ _ _ _ _=>rfl,fun _ _ _ _ _=>rfl,fun _ _ _ _ _=>rfl⟩
theorem Bo(k v:Expr)(gs:List Comprehension)(sc:Scope)(pos:Pos):Plain (.DictComp k v gs sc pos):=⟨fun _ _ _ _ _ _=>rfl,fun _ _ _ _ _ _=>rfl,fun _ _ _ _ _=>rfl,fun _ _ _ _ _=>rfl⟩
theorem LL(hk:Plain e)(ht:compTurn e d (.ref it) acc B.env=gm e d tg ifs act p (.ref it) acc B.env)(hc:B.calm=true)(hx:B.xe=fun _ _=>False)(hg:PG B tg g)(hif:IK B ifs tc)(hm:PM B act tm)(I:Inv B pins τ H s)(T:Turn B.prog B.w B.K tg J fp it tn)(st:tn 0 s.heap)(hf:∀b∈fp,fN B pins H b)(hw:ub J g tc tm N τ H):
  codeAny (model B.prog B.w) B.A (.compLoop e d (.ref it) acc B.env) (fun r s'=>r=.ok .next∧∃τ' H',Inv B pins τ' H' s'∧N τ' H') s:=by
 obtain⟨W,⟨m0,w0⟩,turn⟩:=hw;have stat:∀{H':Hp},(∀b∈fp,H' b=none)->∀b∈fp,fN B pins H' b:=fun hn b hb=>⟨hn b hb,(hf b hb).2⟩;have up:∀{α:Type} {t:Sem α} {Q:α->Shared->Prop} {E:Value->Shared->Prop} {s:Shared},wpAny (model B.prog B.w) B.A t Q B.xe s->wpAny (model B.prog B.w) B.A t Q E s:=fun h=>Pd (hx ▸ h);refine codeAny_loop rfl (fun n s'=>∃i τ' H',Inv B pins τ' H' s'∧tn i s'.heap∧(∀b∈fp,H' b=none)∧W i n τ' H') ?_ m0 ⟨0,_,_,I,st,fun b hb=>(hf b hb).1,w0⟩;rintro n s4 ⟨i,τ4,H4,J4,st4,fr4,w4⟩;rw[hk.ul,hk.loop];refine wpAny_noted ?_;rw[ht];unfold gm;rcases turn i n τ4 H4 w4 with⟨stop,qn⟩ |⟨go,N',hN,step⟩
 ·refine Ug (VL (Ug (Vj (T.done B rfl rfl rfl hc i pins s4 τ4 H4 _ J4 (stat fr4) st4 stop) (fun r s5 h5=>?_) fun _ _ e=>e)));obtain⟨hr,J5⟩:=h5;subst hr;exact Uk ⟨rfl,_,_,J5,qn⟩
 ·refine Ug (VL (Ug (Vj (T.item B rfl rfl rfl hc i pins s4 τ4 H4 _ J4 (stat fr4) st4 go) (fun r s5 h5=>?_) fun _ _ e=>e)));obtain⟨u,hr,h5⟩:=h5;subst hr;refine Ug (Vj h5 (fun _ s6 h6=>?_) fun _ _ e=>e);obtain⟨x,H6,J6,r6,y6,st6,fr6⟩:=h6;have J6':=J6.pinned (stat fr6) (T.obj _ _ st6);refine Ug (Vj (up (hg _ s6 τ4 H6 x u _ J6' r6 (step x H6 y6))) (fun _ s7 h7=>?_) fun _ _ e=>e);obtain⟨τ7,H7,J7,q7⟩:=h7;have again:∀{τ8:St} {H8:Hp} {s8:Shared},Inv B (pins++o8 fp s6.heap) τ8 H8 s8->N' τ8 H8->
    ∃m,m < n∧∃i τ' H',Inv B pins τ' H' s8∧tn i s8.heap∧(∀b∈fp,H' b=none)∧W i m τ' H':=fun {τ8 H8 s8} J8 n8=>by
   obtain⟨m',hm,w8⟩:=hN τ8 H8 n8;refine⟨m',hm,i+1,τ8,H8,J8.jK,T.keep _ _ _ st6 fun b hb o e=>(J8.pin (b,o) (UU _ (UU _ (fc hb e)))).1,fun b hb=>?_,w8⟩;obtain⟨o,e,d⟩:=T.obj _ _ st6 b hb;exact(J8.pin (b,o) (UU _ (UU _ (fc hb e)))).2.1
  refine Ug (Vj (up (hif _ s7 τ7 H7 _ J7 q7)) (fun ok s8 h8=>?_) fun _ _ e=>e);obtain⟨H8,J8,q8⟩:=h8;cases ok with
  | false=>exact Uk ⟨rfl,again J8 (by simpa using q8)⟩
  | true=>
   have q8':tm τ7 H8 N':=by simpa using q8
   refine Ug (Vj (up (hm _ s8 τ7 H8 _ J8 q8')) (fun _ s9 h9=>?_) fun _ _ e=>e);obtain⟨τ9,H9,J9,n9⟩:=h9;exact Uk ⟨rfl,again J9 n9⟩
theorem Ic{env:Env}{it acc:Value}{iter:Expr}{prog:Program}{w:World}{A:Around}{s:Shared}{R:Result->Shared->Prop}(hk:Plain e)(hcl:(clausesOf e)[d]?=some ⟨tg,iter,ifs,0⟩)
  (h0:codeAny (model prog w) A (.compLoop e d it acc env) R s)
  (h:wpAny (model prog w) A (pyIter it) (fun it' s'=>codeAny (model prog w) A (.compLoop e d it' acc env) R s') (notedBy (model prog w) A env fun x s'=>R (.error x) s') s):
  codeAny (model prog w) A (.compStart e d it acc env) R s:=by
 refine codeAny_of_tree ?_;rw[hk.us,hk.start];refine wpAny_notedAt ?_;unfold compStart;rw[hcl];show wpAny _ _ (ask >>=_) _ _ s;refine Ug (Wo (wpAny_ite ?_))
 split
 ·first
   | exact Ug (Uk (Uk (And.intro rfl h0)))
   | exact Uk (And.intro rfl h0)
 ·first
   | exact Ug (V1 (Ug (VL (Ug (Vj h (fun it' s' h'=>Uk (And.intro rfl h')) fun _ _ x=>x)))))
   |(refine Ug (V1 ?_);show wpAny _ _ (standAt iter.pos >>=_) _ _ s;exact Ug (VL (Ug (Vj h (fun it' s' h'=>Uk (And.intro rfl h')) fun _ _ x=>x))))
def Po(wi:TI)(g:TG)(tc:TT)(tm:TK):TK:=fun τ H N=>wi τ H fun J H1=>ub J g tc tm N τ H1
theorem JR(hk:Plain e)(hcl:(clausesOf e)[d]?=some ⟨tg,iter,ifs,0⟩)(ht:∀it:Addr,compTurn e d (.ref it) acc B.env=gm e d tg ifs act p (.ref it) acc B.env)(hc:B.calm=true)(hx:B.xe=fun _ _=>False)(hi:PI B tg iter wi)(hg:PG B tg g)(hif:IK B ifs tc)(hm:PM B act tm)(hs:∀x,foldedSetIterable iter B.env x=pure x:=by intro _;rfl):PM B (nu e d iter acc B.env) (Po wi g tc tm):=by
 intro pins s τ H N I h;unfold nu;refine Ug (cq (hi pins s τ H _ I h) fun v s1 h1=>?_);refine Ug (VL (Ug (wpAny_of_eq (hs v) (Ug (U9 (cq h1 fun itv s2 h2=>?_))))));obtain⟨it,fp,tn,J,H2,e,I2,T,st2,f2,hQ⟩:=h2;subst e;have lp:=LL hk (ht it) hc hx hg hif hm I2 T st2 f2 hQ;refine Ug (wpAny_runOwn (XQ (Ic hk hcl lp (T.self B.A 0 _ _ _ st2 lp)) fun r s' hr=>?_));obtain⟨rfl,q⟩:=hr;exact Uk q
def IL(X:Cx)(na:Sem Value)(o:Addr->HO):Prop:=∀(pins:List (Addr×Obj)) (s:Shared) (σ:St) (H:Hp) (Q:Value->Shared->Prop) (E:Value->Shared->Prop),Inv X pins σ H s->
 (∀(obj:Obj)(t':Nat),Inv X pins σ (upd H s.heap.objs.size (o s.heap.objs.size)) {s with heap:=s.heap.push obj,toks:=t'}->Q (.ref s.heap.objs.size) {s with heap:=s.heap.push obj,toks:=t'})->wpAny (model X.prog X.w) X.A na Q E s
def lM(caps:List (Option Nat))(wi:TI)(o:Addr->HO)(g:TG)(tc:TT)(tm:Addr->TK):TE:=fun σ H Q=>wi σ H fun J H1=>∀l,H1 l=none->ub J g tc (tm l) (fun _ H'=>Q (.ref l) H') (pW caps σ) (upd H1 l (o l))
section
variable {X:Cx} {N':List Str} {caps:List (Option Nat)} {scope:Scope} {e tg iter:Expr} {ifs:List Expr} {p:Pos} {wi:TI} {g:TG} {tc:TT} {tm:Addr->TK} {o:Addr->HO} {na:Sem Value} {act:Addr->Env->Sem Unit}
theorem Om(S:a9 X N' caps scope)(hc:X.calm=true)(hk:Plain e)(hcl:(clausesOf e)[0]?=some ⟨tg,iter,ifs,0⟩)(ht:∀(it l:Addr)(env:Env),compTurn e 0 (.ref it) (.ref l) env=gm e 0 tg ifs (act l env) p (.ref it) (.ref l) env)
  (hA:IL X na o) (hg:∀C s₃ H₃ fp pl,PG (fz X N' scope C s₃ H₃ fp pl) tg g) (hif:∀C s₃ H₃ fp pl,IK (fz X N' scope C s₃ H₃ fp pl) ifs tc)
  (hm:∀C s₃ H₃ fp pl l,PM (fz X N' scope C s₃ H₃ fp pl) (act l (fz X N' scope C s₃ H₃ fp pl).env) (tm l)) {pins:List (Addr×Obj)} {σ:St} {H:Hp} {s:Shared} {it:Addr} {fp:List Addr} {tn:Nat->Heap->Prop} {J:It}
  (I:Inv X pins σ H s) (T:Turn X.prog X.w X.K tg J fp it tn) (st:tn 0 s.heap) (hf:∀b∈fp,fN X pins H b) {Q:VK} {RR:Value->Addr->Result->Shared->Prop} {E:Value->Shared->Prop}
  (h:∀l,H l=none->ub J g tc (tm l) (fun _ H'=>Q (.ref l) H') (pW caps σ) (upd H l (o l)))
  (hRR:∀(l C:Addr)(H':Hp)(s':Shared),H' C=none->C≠X.env.locals->X.s₀.heap.objs.size≤C->(∀x c,X.env.cells.lookup x=some c->c≠C)->(∀p∈X.pn++pins,p.1≠C)->(∃m,s'.heap.Ns C m)->Inv X pins σ H' s'->
   (∀h'':Heap,(∀b u,b≠C->s'.heap.get? b=some u->h''.get? b=some u)->Inv X pins σ H' {s' with heap:=h''})->Q (.ref l) H'->RR (.ref l) C (.ok .next) s'):
  wpAny (model X.prog X.w) X.A na (fun acc s₃=>wpAny (model X.prog X.w) X.A (newFunctionEnv scope X.env.globals (iw X.env scope.names []) [] X.env.qual none .none (some X.env)) (fun cenv s₄=>
   codeAny (model X.prog X.w) X.A (.compStart e 0 (.ref it) acc {cenv with scope:=relabel scope X.env}) (RR acc cenv.locals) s₄) E s₃) E s:=by
 have hw:=h s.heap.objs.size I.fresh;refine hA pins s σ H _ _ I fun obj t' I3=>wpAny_newFunctionEnv S.BG (by intro y hy;simp at hy) (fun h₁ hns₁ hsb₁=>?_) S.kind;have hltf:∀b∈fp,b < s.heap.objs.size:=fun b hb=>by
  obtain⟨o,e,_⟩:=T.obj 0 _ st b hb;exact UB e
 have hf3:∀b∈fp,fN X pins (upd H s.heap.objs.size (o s.heap.objs.size)) b:=fun b hb=>⟨by rw[aF (UQ (hltf b hb))];exact(hf b hb).1,(hf b hb).2⟩;have keep3:∀b u,(s.heap.push obj).get? b=some u->h₁.get? b=some u:=fun b u e=>hsb₁.extBut b u (UQ (UB e)) (Uj _ e);have st3:tn 0 h₁:=T.keep 0 _ _ st fun b hb o e=>keep3 b o (Uj _ e);have hlt3:∀b∈fp,b < (s.heap.push obj).objs.size:=fun b hb=>by
  have:=hltf b hb;rw[Vq];exact Zo this
 have J0:=Inv.block S I3 hc hf3 hlt3 hns₁ keep3 (t₄:=t');have fpB:∀b∈fp,fN (fz X N' scope (s.heap.push obj).objs.size {s with heap:=s.heap.push obj,toks:=t'} (upd H s.heap.objs.size (o s.heap.objs.size)) fp pins) [] (upd H s.heap.objs.size (o s.heap.objs.size)) b:=fun b hb=>by
  obtain⟨f0,f1,f2,f3,f4,f5⟩:=hf3 b hb;refine⟨f0,UQ (hlt3 b hb),fun z=>?_,.inl hb,fun x c e=>f4 x c (S.look I3.ok e),fun p hp=>?_⟩
  ·rcases UE.mp (I3.oD b z) with q | q
   ·exact f1 q
   ·exact f2 q
  ·rcases U5.mp hp with q | q
   ·exact f5 p q
   ·cases q
 have lp:=LL hk (ht it s.heap.objs.size _) rfl rfl (hg _ _ _ _ _) (hif _ _ _ _ _) (hm _ _ _ _ _ s.heap.objs.size) J0 T st3 fpB hw;refine XQ (Ic hk hcl lp (T.self X.A 0 _ _ _ st3 lp)) fun r s' hr=>?_;obtain⟨rfl,τ,H',J,q⟩:=hr;refine hRR _ _ H' s' J.free ?_ ?_ ?_ ?_ ?_ ?_ ?_ q
 ·exact(UQ I3.lt).symm
 ·exact I3.sz
 ·intro x c e z;obtain⟨v,o,ho,_⟩:=I3.cell x c e;exact UQ (UB ho) z
 ·intro p hp z;obtain⟨e,_⟩:=I3.pin p hp;exact UQ (UB e) z
 ·obtain⟨m,hm,_⟩:=J.loc;exact⟨m,hm⟩
 ·have:=Inv.q5 S I3 hf3 J (h'':=s'.heap) fun b u _ e=>e;exact this
 ·exact fun h'' hs=>Inv.q5 S I3 hf3 J hs
theorem sI(S:a9 X N' caps scope)(hc:X.calm=true)(hk:Plain e)(hcl:clausesOf e=⟨tg,iter,ifs,0⟩::gs)(ht:∀(it l:Addr)(env:Env),compTurn e 0 (.ref it) (.ref l) env=gm e 0 tg ifs (act l env) p (.ref it) (.ref l) env)(hA:IL X na o)(hi:PI X tg iter wi)(hg:∀C s₃ H₃ fp pl,PG (fz X N' scope C s₃ H₃ fp pl) tg g)(hif:∀C s₃ H₃ fp pl,IK (fz X N' scope C s₃ H₃ fp pl) ifs tc)(hm:∀C s₃ H₃ fp pl l,PM (fz X N' scope C s₃ H₃ fp pl) (act l (fz X N' scope C s₃ H₃ fp pl).env) (tm l))(he:eval e X.env=comprehension e scope X.env p0 na false (eval iter X.env))(hs:∀x,foldedSetIterable iter X.env x=pure x:=by intro _;rfl):PE X e (lM caps wi o g tc tm):=by
 intro pins s σ H Q I h;rw[he];refine XB (use:=none) hcl hs (mJ (S.has I.ok)) S.kind S.names (cq (hi pins s σ H _ I h) fun v s1 h1=>cq h1 fun itv s2 h2=>?_);obtain⟨it,fp,tn,J,H2,e,I2,T,st2,f2,hQ⟩:=h2;subst e;refine Om (RR:=fun acc C=>compPost (model X.prog X.w) X.A X.xe none (EP X pins σ Q) acc C) S hc hk (by rw[hcl];rfl) ht hA hg hif hm I2 T st2 f2 hQ ?_;intro l C H' s' _ _ _ _ _ hm _ hI q;obtain⟨m,hm⟩:=hm;exact⟨m,hm,fun h'' hs''=>⟨.ref l,H',hI h'' fun b u hb e=>hs''.extBut b u hb e,rfl,q⟩⟩
end
end L2
namespace Sm
open PySem L2 PySem.Spec PyProof.Rows
structure Ac(α:Type)where
 at_:FR->Ad->Hp->Addr->α->Prop
 mono:∀{K:FR} {ρ ρ':Ad} {H H':Hp} {l:Addr} {a:α},at_ K ρ H l a->Ch ρ H ρ' H'->H' l=H l->at_ K ρ' H' l a
abbrev MK(α:Type):=DS->MH->α->Option (DS×MH×α)
noncomputable def dD{α:Type}(ws:W)(g:GM)(c:TM)(m:MK α):List D->MK α
 | [],δ,h,a=>if lC ws h then some (δ,h,a) else none
 | x::r,δ,h,a=>if lC ws h then(g x δ h).bind fun q=>(c q.1 q.2).bind fun t=>if t.1 then(m q.1 t.2 a).bind fun z=>dD ws g c m r z.1 z.2.1 z.2.2 else dD ws g c m r q.1 t.2 a else none
structure lE(l:Addr)(ρ:Ad)(H:Hp)(ρ':Ad)(H':Hp):Prop where
 ch:Ch ρ H ρ' H'
 rs:ρ'.rs=ρ.rs
 res:∀b∈ρ.rs,b≠l->H' b=H b
theorem lE.refl:lE l ρ H ρ H:=⟨.refl _ _,rfl,fun _ _ _=>rfl⟩
theorem lE.trans(a:lE l ρ H ρ1 H1)(b:lE l ρ1 H1 ρ2 H2):lE l ρ H ρ2 H2:=⟨a.ch.trans b.ch,b.rs.trans a.rs,fun x hx n=>(b.res x (a.rs ▸ hx) n).trans (a.res x hx n)⟩
theorem dA.Rv(a:dA ρ H ρ1 H1):lE l ρ H ρ1 H1:=⟨a.toCh,a.rs,fun b hb _=>a.res b hb⟩
inductive QX{α:Type}(K:FR)(A:Ac α)(l:Addr)(m:MK α)(τ:L2.St)(H:Hp)(N:L2.St->Hp->Prop):Prop where
 | mk (ρ δ h a δ' h' a'):b7 K ρ H τ δ->bK K ρ h H->l∈ρ.rs->A.at_ K ρ H l a->(m δ h a=some (δ',h',a'))->(∀ρ' H' τ',lE l ρ H ρ' H'->bK K ρ' h' H'->b7 K ρ' H' τ' δ'->A.at_ K ρ' H' l a'->N τ' H')->QX K A l m τ H N
def FP{α:Type}(K:FR)(A:Ac α)(l:Addr)(m:MK α):TK:=fun τ H N=>QX K A l m τ H N
section
variable {α:Type} {K:FR} {A:Ac α} {l:Addr} {g:GM} {mt:TM} {m:MK α}
theorem CM(It:OS K J ρ H ws xs)(T1:Ch ρ H ρ1 H1)(R:b7 K ρ1 H1 τ δ)(S:bK K ρ1 h H1)(hl:l∈ρ1.rs)(hA:A.at_ K ρ1 H1 l a)(e:dD ws g mt m xs δ h a=some (δ',h',a'))(k:∀ρ2 H2 τ2,lE l ρ1 H1 ρ2 H2->bK K ρ2 h' H2->b7 K ρ2 H2 τ2 δ'->A.at_ K ρ2 H2 l a'->N τ2 H2):ub J (AI K g) (yI K mt) (FP K A l m) N τ H1:=by
 refine⟨fun i n τ2 H2=>∃(ρ2:Ad)(δ2:DS)(h2:MH)(a2:α),n=xs.length-i∧i≤xs.length∧lE l ρ1 H1 ρ2 H2∧b7 K ρ2 H2 τ2 δ2∧bK K ρ2 h2 H2∧A.at_ K ρ2 H2 l a2∧dD ws g mt m (xs.drop i) δ2 h2 a2=some (δ',h',a'),
  ⟨_,ρ1,δ,h,a,rfl,Va _,.refl,R,S,hA,e⟩,?_⟩
 rintro i n τ2 H2 ⟨ρ2,δ2,h2,a2,rfl,hi,T2,R2,S2,hA2,e3⟩;have hl2:l∈ρ2.rs:=by rw[T2.rs];exact hl
 cases q:xs.drop i with
 | nil=>
  rw[q] at e3;unfold dD at e3
  by_cases hc:lC ws h2=true
  ·rw[Ut hc] at e3;cases e3;have hle:xs.length≤i:=by have:=congrArg List.length q;rw[Wh,Vx] at this;lia
   exact .inl ⟨(It.run _ H2 _ (T1.trans T2.ch) S2 hc i).1 hle,k _ _ _ T2 S2 R2 hA2⟩
  ·rw[Uu hc] at e3;cases e3
 | cons x r=>
  rw[q] at e3;unfold dD at e3
  by_cases hc:lC ws h2=true
  ·rw[Ut hc] at e3;have hx:xs[i]?=some x:=by
    have:=congrArg (fun l=>l[0]?) q
    simpa using this
   have hlt:i < xs.length:=(Ui.mp hx).1;have hr:xs.drop (i+1)=r:=by
    have:=congrArg List.tail q
    simpa using this
   obtain⟨⟨δ3,h3⟩,e4,e5⟩:=bo e3;obtain⟨⟨t,h4⟩,e6,e7⟩:=bo e5;dsimp only at e4 e5 e6 e7;obtain⟨hgo,hy⟩:=(It.run _ H2 h2 (T1.trans T2.ch) S2 hc i).2 x hx;refine .inr ⟨hgo,fun τ5 H5=>∃(ρ5:Ad)(δ5:DS)(h5:MH)(a5:α),lE l ρ1 H1 ρ5 H5∧b7 K ρ5 H5 τ5 δ5∧bK K ρ5 h5 H5∧A.at_ K ρ5 H5 l a5∧dD ws g mt m r δ5 h5 a5=some (δ',h',a'),?_,?_⟩
   ·rintro τ5 H5 ⟨ρ5,δ5,h5,a5,T5,R5,S5,A5,e5⟩;exact⟨xs.length-(i+1),by lia,ρ5,δ5,h5,a5,rfl,hlt,T5,R5,S5,A5,by rw[hr];exact e5⟩
   ·intro v H3 y3;obtain⟨T3,S3,r3⟩:=hy v H3 y3;refine⟨ρ2,δ2,h2,x,δ3,h3,R2.mono T3.toCh,S3,r3,e4,fun ρ4 H4 τ4 T4 S4 R4=>?_⟩;refine⟨ρ4,δ3,h3,t,h4,R4,S4,e6,fun ρ5 H5 T5 S5=>?_⟩;have T25:dA ρ2 H2 ρ5 H5:=T3.trans (T4.trans T5);have A5:A.at_ K ρ5 H5 l a2:=A.mono hA2 T25.toCh (T25.res l hl2);cases t with
    | false=>
     rw[Uu (by simp)] at e7;exact NT ⟨ρ5,δ3,h4,a2,T2.trans T25.Rv,R4.mono T5.toCh,S5,A5,e7⟩
    | true=>
     rw[Ut rfl] at e7;obtain⟨⟨δ6,h6,a6⟩,e8,e9⟩:=bo e7;refine NS ⟨ρ5,δ3,h4,a2,δ6,h6,a6,R4.mono T5.toCh,S5,by rw[T25.rs];exact hl2,A5,e8,fun ρ7 H7 τ7 T7 S7 R7 A7=>?_⟩;exact⟨ρ7,δ6,h6,a6,(T2.trans T25.Rv).trans T7,R7,S7,A7,e9⟩
  ·rw[Uu hc] at e3;cases e3
theorem zg(h0:∀ρ H l,A.at_ K ρ (upd H l (o l)) l a0)(hh:∃ρ δ h xs ws h1 δ' h' a',b7 K ρ H σ δ∧bK K ρ h H∧mi δ h=some (xs,ws,h1)∧dD ws g mt m xs (lK caps δ) h1 a0=some (δ',h',a')∧∀l ρ' H',dA ρ H ρ' H'->bK K ρ' h' H'->¬ρ'.has l->A.at_ K ρ' H' l a'->Q (.ref l) H'):
  lM caps (Jg K mi) o (AI K g) (yI K mt) (fun l=>FP K A l m) σ H Q:=by
 obtain⟨ρ,δ,h,xs,ws,h1,δ',h',a',R,S,e1,e2,k⟩:=hh;refine⟨ρ,δ,h,xs,ws,h1,R,S,e1,fun J ρ1 H1 T1 S1 It l hl=>?_⟩;have nl:¬ρ1.has l:=S1.fresh hl;have Tl:Ch ρ1 H1 (ρ1.keep l) (upd H1 l (o l)):=Ch.keep hl;refine CM It Tl (((R.mono T1.toCh).pW caps).mono Tl) (S1.keep hl) (Uo) (h0 _ _ _) e2 fun ρ2 H2 τ2 T2 S2 R2 A2=>?_;obtain⟨ob2,rs2⟩:=ρ2;have ers:rs2=l::ρ1.rs:=T2.rs;subst ers;have hsub:∀b∈ρ1.rs,b∈l::ρ1.rs:=fun b hb=>Ur _ hb;have C2:Ch ⟨ob2,l::ρ1.rs⟩ H2 ⟨ob2,ρ1.rs⟩ H2:=Ch.free hsub;have hne:∀b∈ρ1.rs,b≠l:=fun b hb z=>nl (.inr (z ▸ hb));have T2':dA ρ1 H1 ⟨ob2,ρ1.rs⟩ H2:=⟨(Tl.trans T2.ch).trans C2,rfl,fun b hb=>(T2.res b (hsub b hb) (hne b hb)).trans (aF (hne b hb))⟩;refine k l _ H2 (T1.trans T2') (S2.free hsub) (fun z=>?_) (A.mono A2 C2 rfl);rcases z with z | z
 ·exact(S2.vi l Uo).2 z
 ·exact nl (.inr z)
end
def Q3{α:Type}(X:Cx)(act:Addr->Env->Sem Unit)(A:Ac α)(m:MK α):Prop:=∀l,L2.PM X (act l X.env) (FP X.K A l m)
theorem _root_.L2.PM.imp(h:L2.PM X a t)(i:∀σ H Q,t' σ H Q->t σ H Q):L2.PM X a t':=fun pins s σ H Q I q=>h pins s σ H Q I (i σ H Q q)
noncomputable def zK{α:Type}(i:IM)(g:GM)(c:TM)(m:MK α):MK α:=fun δ h a=>(i δ h).bind fun p=>dD p.2.1 g c m p.1 δ p.2.2 a
section
variable {α:Type} {X:Cx} {A:Ac α} {g:GM} {mt:TM} {m:MK α} {mi:IM} {e tg iter:Expr} {ifs:List Expr} {d:Nat} {p:Pos} {act:Addr->Env->Sem Unit}
theorem Jk(hk:Plain e)(hcl:(clausesOf e)[d]?=some ⟨tg,iter,ifs,0⟩)(ht:∀(it l:Addr)(env:Env),compTurn e d (.ref it) (.ref l) env=gm e d tg ifs (act l env) p (.ref it) (.ref l) env)(hc:X.calm=true)(hx:X.xe=fun _ _=>False)
  (hi:SI X tg iter mi) (hg:SG X tg g) (hif:Li X ifs mt) (hm:Q3 X act A m) (hs:∀x,foldedSetIterable iter X.env x=pure x:=by intro _;ac_nf):Q3 X (fun l env=>nu e d iter (.ref l) env) A (zK mi g mt m):=fun l=>
 (JR hk hcl (fun it=>ht it l X.env) hc hx hi hg hif (hm l) hs).imp fun σ H Q ⟨ρ,δ,h,a,δ',h',a',R,S,hl,hA,ee,k⟩=>by
  obtain⟨⟨xs,ws,h1⟩,e1,e2⟩:=bo ee;exact⟨ρ,δ,h,xs,ws,h1,R,S,e1,fun J ρ1 H1 T1 S1 It=>CM It (.refl _ _) (R.mono T1.toCh) S1 (by rw[T1.rs];exact hl) (A.mono hA T1.toCh (T1.res l hl)) e2 fun ρ2 H2 τ2 T2 S2 R2 A2=>k ρ2 H2 τ2 (T1.Rv.trans T2) S2 R2 A2⟩
end
end Sm
namespace L2
open PySem PySem.Spec PyProof.Rows
theorem mH:∀(xs:List α)(i:Nat)(x:α),xs[i]?=some x->(x::xs.eraseIdx i).Perm xs
 | y::r,0,x,h=>by
  rw[YM] at h;cases h;exact .refl _
 | y::r,i+1,x,h=>by
  rw[Vo] at h;exact(List.Perm.swap y x _).trans ((mH r i x h).cons y)
theorem Cq:∀(n:Nat)(xs:List α)(s:Shared)(Q:List α->Shared->Prop),n=xs.length->(∀ys d,ys.Perm xs->Q ys {s with drawn:=d})->wpAny M A (drawOrder n xs) Q E s
 | 0,xs,s,Q,e,h=>by
  have:xs=[]:=Ye e.symm;subst this;exact Uk (h [] s.drawn (.refl _))
 | n+1,[],s,Q,e,h=>by cases e
 | n+1,x::r,s,Q,e,h=>by
  unfold drawOrder;refine Ug (show wpAny M A (choose .order (x::r).length) _ E s from fun Γ p hΓ=>?_);unfold choose;rw[Sem.wp_choose];refine⟨by simp,?_⟩;have hlt:M.w.draws .order (s.drawn.get .order) % (x::r).length < (x::r).length:=Ys _ (by simp);generalize M.w.draws .order (s.drawn.get .order) % (x::r).length=i at hlt ⊢;have hx:(x::r)[i]?=some ((x::r)[i]):=Um hlt;generalize (x::r)[i]=y at hx;show Sem.wp M Γ (pure i) _ _ p _;refine(Uk (M:=M) (A:=A) (E:=E) (a:=i) (s:={s with drawn:=s.drawn.bump .order}) ?_) Γ p hΓ;rw[hx];have hlen:n=((x::r).eraseIdx i).length:=by rw[Yu hlt,←e];rfl
  refine Ug (Cq n _ _ _ hlen fun ys d hy=>Uk ?_);exact h (y::ys) d ((hy.cons y).trans (mH _ _ _ hx))
theorem CV(nx:Nat->Nat):∀(fuel k:Nat)(left:List α)(out:Array α),fuel=left.length->(pickOrder.go nx fuel k left out).toList.Perm (out.toList++left)
 | 0,k,left,out,e=>by
  have:left=[]:=Ye e.symm;subst this;unfold pickOrder.go;rw[Vy]
 | fuel+1,k,left,out,e=>by
  unfold pickOrder.go;have hlt:nx k % left.length < left.length:=Ys _ (by lia);have hx:left[nx k % left.length]?=some (left[nx k % left.length]):=Um hlt;generalize left[nx k % left.length]=y at hx;rw[hx];dsimp only;refine(CV nx fuel (k+1) _ _ (by rw[Yu hlt];lia)).trans ?_;rw[Array.toList_push,VW];exact(mH _ _ _ hx).append_left _
theorem vw(nx:Nat->Nat)(xs:Array α):(pickOrder nx xs).toList.Perm xs.toList:=by
 unfold pickOrder;have:=CV nx xs.size 0 xs.toList #[] (by simp)
 simpa using this
theorem tw{α:Type}(es:Array (α×Value)){idx:List Nat}(hp:idx.Perm (List.range es.size)):(idx.filterMap fun k=>(es[k]?).map (·.2)).Perm (es.toList.map (·.2)):=by
 refine(hp.filterMap _).trans (List.Perm.of_eq ?_);have:∀l:List (α×Value),(List.range l.length).filterMap (fun k=>(l[k]?).map (·.2))=l.map (·.2):=by
  intro l;have h1:(List.range l.length).filterMap (fun k=>(l[k]?).map (·.2))=((List.range l.length).filterMap fun k=>l[k]?).map (·.2):=by
   rw[List.map_filterMap]
  rw[h1,List.filterMap_getElem?_range_length]
 have h2:=this es.toList
 simpa using h2
theorem entry_set_iter':entryFor table "set.__iter__"=some Builtin.«frozenset.__iter__»:=entryFor_alias (id':="frozenset.__iter__") (by ac_nf) rfl (by decide+kernel) (by ac_nf)
theorem dh:Slot "set_iterator" "__next__" "set_iterator.__next__":=.of (owner:="set_iterator") (n:="__next__") (by rw[YO,XX];ac_nf) (by decide+kernel) (by decide+kernel) (by decide+kernel) (by first | exact .inl (by decide+kernel) | exact .inr (by decide+kernel)) (by rw[isSubtype_type];ac_nf)
theorem lJ:entryFor table "set_iterator.__next__"=some Builtin.«set_iterator.__next__»:=entryFor_of_fast (by ac_nf)
theorem n5(a:Value):argsOk "set_iterator.__next__" ⟨[a],[]⟩:=by unfold argsOk;ac_nf
theorem wpAny_of_eq'(e:m=m')(h:wpAny M A m' Q E s):wpAny M A m Q E s:=e ▸ h
section
variable {P:Program} {w:World} {A:Around} {E:Value->Shared->Prop} {s:Shared} {a:Addr} {ks:List Str}
theorem xX(ho:s.heap.get? J=some o)(hd:o.data=.fields fs)(hk:k < fs.size)(h:∀h' o',(∀b u,b≠J->s.heap.get? b=some u->h'.get? b=some u)->h'.get? J=some o'->o'.cls=o.cls->o'.data=.fields (fs.setIfInBounds k x)->Q () {s with heap:=h'}):wpAny M A (setField (.ref J) k x) Q E s:=by
 refine Y2 ho hd hk (h _ _ (fun b u hb e=>(V3 _ _ (VA hb)).trans e) (VR _ ho (Obj.isFreed_of_fields (Xl hd _))) (Obj.cls_mapFields ..) ?_);rw[Xl hd]
theorem DR(hob:s.heap.get? a=some ob)(hdt:ob.data=.set es ep t)(hf:t.fits es.size=true)(ht:w.params.followText "set-order"=true)(h:Q (pickOrder (w.params.setOrder a ep) es) s):wpAny (model P w) A (setWalk a) Q E s:=by
 unfold setWalk setsByText;refine Ug (VM hob hdt hf ?_);dsimp only;refine Ug (Ug (Wo (Uk ?_)));rw[Ut (show(model P w).w.params.followText "set-order"=true from ht)];exact Ug (Wo (Uk h))
theorem vB(hob:s.heap.get? a=some ob)(hdt:ob.data=.set es ep t)(hf:t.fits es.size=true)(ht:w.params.followText "set-order"=true)(h:Q (((pickOrder (w.params.setOrder a ep) es)[i]?).map fun e=>(e.2,k)) s):wpAny (model P w) A (setNext a k i ep) Q E s:=by
 unfold setNext setsByText;refine Ug (VM hob hdt hf ?_);dsimp only;refine Ug (Ug (Wo (Uk ?_)));rw[Ut (show(model P w).w.params.followText "set-order"=true from ht)];simp only[VG,UK,↓reduceIte];exact Ug (DR hob hdt hf ht (Uk h))
theorem wG{J:Addr}(hh:A.handled=none)(hQ:∀h',(∀b o,s.heap.get? b=some o->h'.get? b=some o)->Q none {s with heap:=h'}):
  wpAny (model P w) A.in1 (do let x←newExc (.type "StopIteration") [];raiseNew x:Sem Fin) (fun fin s'=>∃v,fin=Fin.done (Flow.ret v)∧wpAny (model P w) A (pure (some v)) Q E s')
   (fun e s'=>wpAny (model P w) A (do let b←isInstance e (.type "StopIteration");if b=true then pure none else throw e) Q E s') s:=by
 refine Ug ?_;simp only[newExc,newTuple];refine Ug (U2 ?_ (by size_fits));refine Ug (m:=firstArgMember _ _) (wpAny_of_eq (a:=Value.none) (by first | rfl |(simp only[firstArgMember];rfl)) (U2 ?_ (by size_fits)));simp only[raiseNew];refine Ug (wpAny_handled ?_);rw[show A.in1.handled=none from hh];refine Ug (Uk (wpAny_throw ?_));refine Ug (VT (T:="StopIteration") (b:=true) (show Shared.TypeIs _ (.ref _) _ from⟨_,UD _ rfl,rfl⟩) WD ?_);exact Uk (hQ _ fun b o e=>Uj _ (Uj _ e))
end
theorem ue:splitId "set.__len__"=some ("set","__len__"):=by ac_nf
theorem sub_set_set:isSubtype (.type "set") (.type "set")=pure true:=by rw[isSubtype_type];ac_nf
theorem rT:typeLookup (.type "set") (Str.ofString "__len__")=pure (some (.builtin "set.__len__")):=F.slot_set_len.lookup
noncomputable def Fz(a b:Str):Bool:=!ltCps b.cps.toList a.cps.toList
theorem jj:Fz a b=true↔strKind.kle a.cps.toList b.cps.toList:=by
 unfold Fz KeyOrd.kle;rw[ltCps_eq];simp
theorem vM(a b c:Str)(h1:Fz a b=true)(h2:Fz b c=true):Fz a c=true:=jj.mpr (KeyOrd.kle_trans (jj.mp h1) (jj.mp h2))
theorem EO(a b:Str):(Fz a b||Fz b a)=true:=by
 rw[VZ]
 by_cases z:strKind.klt b.cps.toList a.cps.toList
 ·exact .inr (jj.mpr (KeyOrd.kle_of_klt z))
 ·exact .inl (jj.mpr (KeyOrd.kle_of_not_klt z))
theorem Hw(a b:Str)(h1:Fz a b=true)(h2:Fz b a=true):a=b:=by
 have:=KeyOrd.kle_antisymm (jj.mp h1) (jj.mp h2);cases a;cases b;congr 1;exact WT.mp this
noncomputable def jv(ks:List Str):List Str:=ks.mergeSort Fz
theorem lO(ks:List Str):(jv ks).Perm ks:=Y7 _ _
theorem wK(ks:List Str):(jv ks).Pairwise fun a b=>Fz a b=true:=YK vM EO ks
theorem vq:∀(l:List Str)(p:Str),risingS p l=true->(p::l).Pairwise fun a b=>Fz a b=true
 | [],p,_=>by simp
 | x::r,p,h=>by
  have h':(!ltCps x.cps.toList p.cps.toList&&risingS x r)=true:=h;rw[UJ] at h';have ih:=vq r x h'.2;refine Wl.mpr ⟨fun y hy=>?_,ih⟩;rcases UE.mp hy with rfl | hy
  ·exact h'.1
  ·exact vM _ _ _ h'.1 ((Wl.mp ih).1 y hy)
theorem F6(hp:ss.Perm ks)(h:sortedS ss=true):ss=jv ks:=by
 refine Xg (fun a b _ _=>Hw a b) ?_ (wK ks) (hp.trans (lO ks).symm)
 match ss,h with
 | [],_=>exact .nil
 | x::r,h=>exact vq r x h
theorem Ey:IL X (newList []) (fun _=>.lst []):=fun pins s σ H Q E I h=>U2 (h _ _ (I.Kq (t':=s.toks) (its:=[]) (ys:=[]) .nil (Va _)))
theorem Ez:IL X newDict (fun _=>.dK []):=fun pins s σ H Q E I h=>by
 unfold newDict;exact U2 (h _ s.toks (I.laid (a:=s.heap.objs.size) (o:=.dK []) (t':=s.toks) (fun _ _ q=>Uj _ q) (Us _) (nU s.heap I.big)))
def Md(te:TE)(l:Addr):TK:=fun τ H N=>te τ H fun y H5=>∃xs,H5 l=some (.lst xs)∧xs.length < sizeLine∧N τ (upd H5 l (.lst (xs++[y])))
theorem JS(he:PE B elt te):PM B (nR elt (.ref l) B.env) (Md te l):=fun pins s τ H N I h=>by
 unfold nR;refine Ug (cq (he pins s τ H _ I h) fun y s9 h9=>?_);obtain⟨yv,H9,J9,r9,xs,hx,hz,n9⟩:=h9;refine Ug (Vj (pH (X:=B) _ s9 τ H9 (.ref l) [yv] (.ref l) [y] (fun _ H'=>N τ H') J9 rfl (.cons r9 .nil) ⟨_,xs,yv,rfl,rfl,hx,hz,n9⟩) (fun _ s10 h10=>?_) fun _ _ e=>e);obtain⟨_,H10,J10,_,n10⟩:=h10;exact Uk ⟨_,_,J10,n10⟩
def Me(tk tv:TE)(l:Addr):TK:=fun τ H N=>tk τ H fun x H1=>tv τ H1 fun y H2=>∃kvs kk,H2 l=some (.dK kvs)∧x=kV kk∧kvs.length < sizeLine∧N τ (upd H2 l (.dK (putK kvs kk y)))
theorem JT(hk:PE B k tk)(hv:PE B v tv):PM B (nS k v l B.env) (Me tk tv l):=fun pins s τ H N I h=>by
 unfold nS;refine Ug (cq (hk pins s τ H _ I h) fun ku s1 h1=>?_);obtain⟨x,H1,I1,r1,q1⟩:=h1;refine Ug (U9 (cq (hv pins s1 τ H1 _ I1 q1) fun vu s2 h2=>?_));obtain⟨y,H2,I2,r2,kvs,kk,e,rfl,hz,n2⟩:=h2;refine Ug (VL (U9 ?_));obtain⟨z,hd,vs,rel,dd⟩:=vW I2.bj e;have hzz:vs.length≤sizeLine:=by rw[←rel.length];exact z
 have hl:(putK kvs kk y).length≤sizeLine:=by have:=gX kvs kk y;lia
 refine wpAny_dictSet_pairs (hsz:=hzz) (nD r1) dd fun h' dd' hs=>?_;have he:∃q,h'.get? l=some q:=let⟨q,_,_,hq,_⟩:=dd';⟨q,hq⟩;exact⟨τ,_,k8 I2 (by rw[e];exact True.intro) hs he (yc hl hd (rel.put kk r2) dd'),n2⟩
end L2
namespace Sm
open PySem L2 PySem.Spec PyProof.Rows
noncomputable def Rl:Ac (List D) where
 at_:=fun K ρ H l a=>∃vs,H l=some (.lst vs)∧az K ρ H vs a
 mono:=fun⟨vs,e,r⟩ T q=>⟨vs,q.trans e,r.mono T⟩
noncomputable def Rm:Ac (List (Key×D)) where
 at_:=fun K ρ H l a=>∃us,H l=some (.dK us)∧bg K ρ H us a
 mono:=fun⟨vs,e,r⟩ T q=>⟨vs,q.trans e,r.mono T⟩
noncomputable def mL(e:EM):MK (List D):=fun δ h a=>(e δ h).bind fun p=>if a.length < sizeLine then some (δ,p.2,a++[p.1]) else none
noncomputable def mD(k v:EM):MK (List (Key×D)):=fun δ h a=>(k δ h).bind fun p=>(v δ p.2).bind fun q=>(qS p.1).bind fun kk=>if a.length < sizeLine then some (δ,q.2,putD a kk q.1) else none
theorem lE.put{K:FR}(T:dA ρ H ρ1 H1)(hl:l∈ρ.rs):lE l ρ H ρ1 (upd H1 l o):=by
 have hl1:l∈ρ1.rs:=by rw[T.rs];exact hl
 exact⟨T.toCh.trans (Ch.put hl1),T.rs,fun b hb n=>(aF n).trans (T.res b hb)⟩
theorem Jl(he:SE X elt me):Q3 X (fun l env=>nR elt (.ref l) env) Rl (mL me):=fun l=>(JS he).imp fun τ H N ⟨ρ,δ,h,a,δ',h',a',R,S,hl,⟨vs,hv,rl⟩,e,kk⟩=>by
 obtain⟨⟨y,h1⟩,e1,e2⟩:=bo e;dsimp only at e2
 by_cases hz:a.length < sizeLine
 ·rw[Ut hz] at e2;cases e2;refine⟨ρ,δ,h,y,_,R,S,e1,fun u H1 ⟨ρ1,T1,S1,r1⟩=>⟨vs,(T1.res l hl).trans hv,by rw[rl.length];exact hz,?_⟩⟩;have hl1:l∈ρ1.rs:=by rw[T1.rs];exact hl
  have Cp:Ch ρ1 H1 ρ1 (upd H1 l (.lst (vs++[u]))):=Ch.put hl1;exact kk ρ1 _ τ (lE.put (K:=X.K) T1 hl) (S1.put hl1) ((R.mono T1.toCh).mono Cp) ⟨_,aR,((rl.mono T1.toCh).snoc r1).mono Cp⟩
 ·rw[Uu hz] at e2;cases e2
theorem bg.len{K:FR}{ρ:Ad}{H:Hp}:∀{us:List (Key×V)} {ks:List (Key×D)},bg K ρ H us ks->us.length=ks.length
 | _,_,.nil=>rfl
 | _,_,.cons _ r=>by rw[Uw,Uw,r.len]
theorem Jm(hk:SE X k mk)(hv:SE X v mv):Q3 X (fun l env=>nS k v l env) Rm (mD mk mv):=fun l=>(JT hk hv).imp fun τ H N ⟨ρ,δ,h,a,δ',h',a',R,S,hl,⟨vs,hv,rl⟩,e,kk⟩=>by
 obtain⟨⟨x,h1⟩,e1,e2⟩:=bo e;obtain⟨⟨y,h2⟩,e3,e4⟩:=bo e2;obtain⟨c,e5,e6⟩:=bo e4;dsimp only at e3 e5 e6
 by_cases hz:a.length < sizeLine
 ·rw[Ut hz] at e6;cases e6;refine⟨ρ,δ,h,x,h1,R,S,e1,fun u H1 ⟨ρ1,T1,S1,r1⟩=>⟨ρ1,δ,h1,y,_,R.mono T1.toCh,S1,e3,fun u2 H2 ⟨ρ2,T2,S2,r2⟩=>⟨vs,c,((T1.trans T2).res l hl).trans hv,kW r1 e5,by rw[rl.len];exact hz,?_⟩⟩⟩;have T:=T1.trans T2;have hl2:l∈ρ2.rs:=by rw[T.rs];exact hl
  have Cp:Ch ρ2 H2 ρ2 (upd H2 l (.dK (putK vs c u2))):=Ch.put hl2;exact kk ρ2 _ τ (lE.put (K:=X.K) T hl) (S2.put hl2) ((R.mono T.toCh).mono Cp) ⟨_,aR,((rl.mono T.toCh).put r2).mono Cp⟩
 ·rw[Uu hz] at e6;cases e6
end Sm
namespace L2
open PySem PySem.Spec PyProof.Rows
theorem Inv.draw(I:Inv X pins σ H s)(d:Drawn):Inv X pins σ H {s with drawn:=d}:=⟨I.ok,I.os,I.bare,I.base,I.loc,I.cell,I.free,I.kq,I.pin,I.bj,I.len⟩
theorem uX:∀{us:List Value} {ss:List Str},StrsAre us ss->Vals (ss.map V.str) us
 | _,_,.nil=>.nil
 | _,_,.cons x t r=>.cons ⟨t,rfl⟩ (uX r)
end L2
namespace Sm
open PySem L2 PySem.Spec PyProof.Rows
noncomputable def KU{α:Type}(caps:List (Option Nat))(i:IM)(g:GM)(c:TM)(m:MK α)(a0:α)(out:α->D):EM:=fun δ h=>(i δ h).bind fun p=>(dD p.2.1 g c m p.1 (lK caps δ) p.2.2 a0).map fun q=>(out q.2.2,q.2.1)
section
variable {α:Type} {K:FR} {A:Ac α} {g:GM} {mt:TM} {m:MK α}
theorem GB(h0:∀ρ H l,A.at_ K ρ (upd H l (o l)) l a0)(hout:∀ρ H l a,A.at_ K ρ H l a->¬ρ.has l->Rep K ρ H (.ref l) (out a))(hh:tM K (KU caps mi g mt m a0 out) σ H Q):lM caps (Jg K mi) o (AI K g) (yI K mt) (fun l=>FP K A l m) σ H Q:=by
 obtain⟨ρ,δ,h,d,h',R,S,ee,k⟩:=hh;obtain⟨⟨xs,ws,h1⟩,e1,e2⟩:=bo ee;obtain⟨⟨δ',h2,a'⟩,e3,e4⟩:=fO e2;cases e4;exact zg h0 ⟨ρ,δ,h,xs,ws,h1,δ',_,a',R,S,e1,e3,fun l ρ' H' T S' n at'=>k _ _ ⟨ρ',T,S',hout _ _ _ _ at' n⟩⟩
theorem PL{caps:List (Option Nat)}{mi:IM}{m:MK (List (Key×D))}{σ:L2.St}{H:Hp}{Q:VK}(hh:tM K (KU caps mi g mt m [] .dv) σ H Q):lM caps (Jg K mi) (fun _=>.dK []) (AI K g) (yI K mt) (fun l=>FP K Rm l m) σ H Q:=
 GB (A:=Rm) (o:=fun _=>.dK []) (a0:=[]) (out:=.dv) (fun ρ H l=>show ∃us,_ from⟨[],aR,.nil⟩) (fun ρ H l a h n=>by obtain⟨us,e,r⟩:=h;exact .dv e n r) hh
theorem PK{caps:List (Option Nat)}{mi:IM}{m:MK (List D)}{σ:L2.St}{H:Hp}{Q:VK}(hh:tM K (KU caps mi g mt m [] .lv) σ H Q):lM caps (Jg K mi) (fun _=>.lst []) (AI K g) (yI K mt) (fun l=>FP K Rl l m) σ H Q:=
 GB (A:=Rl) (o:=fun _=>.lst []) (a0:=[]) (out:=.lv) (fun ρ H l=>show ∃us,_ from⟨[],aR,.nil⟩) (fun ρ H l a h n=>by obtain⟨us,e,r⟩:=h;exact .lv e n r) hh
end
section
variable {X:Cx} {k v tg iter elt tg2 iter2:Expr} {pos:Pos} {mk mv me:EM} {mt mt2:TM} {g g2:GM} {N':List Str} {caps:List (Option Nat)} {scope:Scope} {ifs ifs2:List Expr} {mi mi2:IM}
theorem Gf(C:a9 X N' caps scope)(hc:X.calm=true)(hi:SI X tg iter mi)(hg:∀C s₃ H₃ fp pl,SG (fz X N' scope C s₃ H₃ fp pl) tg g)(hif:∀C s₃ H₃ fp pl,Li (fz X N' scope C s₃ H₃ fp pl) ifs mt)
  (hk:∀C s₃ H₃ fp pl,SE (fz X N' scope C s₃ H₃ fp pl) k mk) (hv:∀C s₃ H₃ fp pl,SE (fz X N' scope C s₃ H₃ fp pl) v mv) (hs:∀x,foldedSetIterable iter X.env x=pure x:=by intro _;ac_nf):
  SE X (.DictComp k v [⟨tg,iter,ifs,0⟩] scope pos) (KU caps mi g mt (mD mk mv) [] .dv):=
 (sI (g:=AI X.K g) (tc:=yI X.K mt) (tm:=fun l=>FP X.K Rm l (mD mk mv)) C hc (Bo ..) rfl (fun it l env=>AF ..) Ez hi hg hif (fun C s₃ H₃ fp pl l=>Jm (hk C s₃ H₃ fp pl) (hv C s₃ H₃ fp pl) l) rfl hs).imp fun _ _ _=>
  PL
theorem D5(C:a9 X N' caps scope)(hc:X.calm=true)(hi:SI X tg iter mi)(hg:∀C s₃ H₃ fp pl,SG (fz X N' scope C s₃ H₃ fp pl) tg g)(hif:∀C s₃ H₃ fp pl,Li (fz X N' scope C s₃ H₃ fp pl) ifs mt)
  (hi2:∀C s₃ H₃ fp pl,SI (fz X N' scope C s₃ H₃ fp pl) tg2 iter2 mi2) (hg2:∀C s₃ H₃ fp pl,SG (fz X N' scope C s₃ H₃ fp pl) tg2 g2) (hif2:∀C s₃ H₃ fp pl,Li (fz X N' scope C s₃ H₃ fp pl) ifs2 mt2)
  (he:∀C s₃ H₃ fp pl,SE (fz X N' scope C s₃ H₃ fp pl) elt me) (hs:∀x,foldedSetIterable iter X.env x=pure x:=by intro _;ac_nf) (hs2:∀env x,foldedSetIterable iter2 env x=pure x:=by intro _ _;ac_nf):
  SE X (.ListComp elt [⟨tg,iter,ifs,0⟩,⟨tg2,iter2,ifs2,0⟩] scope pos) (KU caps mi g mt (zK mi2 g2 mt2 (mL me)) [] .lv):=
 (sI (g:=AI X.K g) (tc:=yI X.K mt) (tm:=fun l=>FP X.K Rl l (zK mi2 g2 mt2 (mL me))) C hc (sH ..) rfl (fun it l env=>wB ..) Ey hi hg hif
  (fun C s₃ H₃ fp pl l=>Jk (X:=fz X N' scope C s₃ H₃ fp pl) (sH ..) rfl (fun it l env=>wA ..) rfl rfl (hi2 C s₃ H₃ fp pl) (hg2 C s₃ H₃ fp pl) (hif2 C s₃ H₃ fp pl) (Jl (he C s₃ H₃ fp pl)) (hs2 _) l) rfl hs).imp fun _ _ _=>
  PK
theorem vm{K:FR}{ρ:Ad}{H:Hp}:∀(ss:List Str),(∀k∈ss,PyData.strOk k=true)->az K ρ H (ss.map V.str) (ss.map D.str)
 | [],_=>.nil
 | x::r,h=>.cons (.str (h x Uo)) (vm r fun k hk=>h k (Ur _ hk))
end
end Sm
namespace L2
open PySem PySem.Spec PyProof.Rows
theorem zo(its:List Value):slicePick its.toArray none none (some (-1))=its.reverse.toArray:=by
 unfold slicePick;congr 1;have hb:sliceBounds none none (some (-1)) its.toArray.size=((its.length:Int)-1,-1,-1):=by
  unfold sliceBounds;simp
 rw[hb];dsimp only;have hr:sliceRange ((its.length:Int)-1) (-1) (-1)=(List.range its.length).map fun k=>its.length-1-k:=by
  unfold sliceRange;dsimp only;rw[Uu (by decide)];have hc:(if(its.length:Int)-1 > -1 then((its.length:Int)-1 - -1 - -1-1) / (- -1) else 0)=(its.length:Int):=by
   split
   ·simp
   ·lia
  rw[hc,UO];refine Y8 fun k hk=>?_;have:=Vg.mp hk
  lia
 rw[hr];refine WM fun i=>?_;rw[Wm];have hall:∀k∈List.range its.length,((fun x=>its.toArray[x]?)∘fun k=>its.length-1-k) k=some (its.getD (its.length-1-k) .none):=fun k hk=>by
  have:=Vg.mp hk;show its.toArray[its.length-1-k]?=_;rw[XE,Vp,Um (by lia)];rfl
 have hm:∀l:List Nat,(∀k∈l,((fun x=>its.toArray[x]?)∘fun k=>its.length-1-k) k=some (its.getD (its.length-1-k) .none))->l.filterMap ((fun x=>its.toArray[x]?)∘fun k=>its.length-1-k)=l.map fun k=>its.getD (its.length-1-k) .none:=by
  intro l
  induction l with
  | nil=>intro _;rfl
  | cons k r ih=>intro h;rw[VC,h k Uo,Uv,ih fun x hx=>h x (Ur _ hx)]
 rw[hm _ hall,Ux]
 by_cases z:i < its.length
 ·rw[WZ z,List.getElem?_reverse z];simp only[Option.map];rw[Vp,Um (by lia)];rfl
 ·rw[UY (by simpa using z),UY (by simpa using z)];rfl
theorem uY:∀{xs:List V} {us:List Value} {x:V} {u:Value},Vals xs us->RelV x u->Vals (xs++[x]) (us++[u])
 | _,_,_,_,.nil,r=>.cons r .nil
 | _,_,_,_,.cons r l,r'=>.cons r (uY l r')
theorem rH:∀{xs:List V} {us:List Value},Vals xs us->Vals xs.reverse us.reverse
 | _,_,.nil=>.nil
 | _,_,.cons r l=>by
  rw[UW,UW];exact uY (rH l) r
section
variable {X:Cx} {e st:Expr} {te ts:TE} {pos p2:Pos}
end
end L2
namespace Sm
open PySem L2 PySem.Spec PyProof.Rows
section
variable {X:Cx} {e st a b c:Expr} {ma ms mb mc:EM} {pos p2:Pos}
theorem az.rev{K:FR}{ρ:Ad}{H:Hp}:∀{vs:List V} {ds:List D},az K ρ H vs ds->az K ρ H vs.reverse ds.reverse
 | _,_,.nil=>.nil
 | _,_,.cons r l=>by rw[UW,UW];exact(az.rev l).snoc r
abbrev OP:=DS->MH->Option (List (Key×D)×MH)
noncomputable def Ni:OP:=fun _ h=>some ([],h)
noncomputable def iG(k v:EM)(r:OP):OP:=fun δ h=>(k δ h).bind fun p=>(v δ p.2).bind fun q=>(qS p.1).bind fun kk=>(r δ q.2).map fun z=>((kk,q.1)::z.1,z.2)
inductive QT(K:FR)(m:OP)(σ:L2.St)(H:Hp)(Q:List (V×V)->Hp->Prop):Prop where
 | mk (ρ δ h kvs h'):b7 K ρ H σ δ->bK K ρ h H->(m δ h=some (kvs,h'))->(∀us ρ' H',dA ρ H ρ' H'->bK K ρ' h' H'->bg K ρ' H' us kvs->Q (us.map fun kv=>(kV kv.1,kv.2)) H')->QT K m σ H Q
def TN(K:FR)(m:OP):L2.St->Hp->(List (V×V)->Hp->Prop)->Prop:=fun σ H Q=>QT K m σ H Q
def SP(X:Cx)(pos:Pos)(keys:List (Option Expr))(vals:List Expr)(m:OP):Prop:=∃trs,O2 X pos keys vals trs∧∀σ H Q,TN X.K m σ H Q->wF trs σ H Q
theorem Ml:SP X pos [] [] Ni:=⟨[],JN,fun σ H Q ⟨ρ,δ,h,kvs,h',R,S,e,k⟩=>by
 cases e;exact k [] ρ H (.refl _ _) S .nil⟩
theorem kO(hk:SE X kx mk)(hv:SE X vx mv)(hr:SP X pos ks vs m):SP X pos (some kx::ks) (vx::vs) (iG mk mv m):=by
 obtain⟨trs,h1,h2⟩:=hr;refine⟨_,GW hk hv h1,fun σ H Q ⟨ρ,δ,h,kvs,h',R,S,ee,k⟩=>?_⟩;obtain⟨⟨x,ha⟩,e1,e2⟩:=bo ee;obtain⟨⟨y,hb⟩,e3,e4⟩:=bo e2;obtain⟨kk,e5,e6⟩:=bo e4;obtain⟨⟨zs,hz⟩,e7,e8⟩:=fO e6;cases e8;refine⟨ρ,δ,h,x,ha,R,S,e1,fun v H1 ⟨ρ1,T1,S1,r1⟩=>⟨ρ1,δ,ha,y,hb,R.mono T1.toCh,S1,e3,fun u H2 ⟨ρ2,T2,S2,r2⟩=>?_⟩⟩;refine h2 σ H2 _ ⟨ρ2,δ,hb,zs,_,(R.mono T1.toCh).mono T2.toCh,S2,e7,fun us ρ3 H3 T3 S3 r3=>?_⟩;have ek:=kW r1 e5;subst ek;exact k ((kk,u)::us) ρ3 H3 ((T1.trans T2).trans T3) S3 (.cons (r2.mono T3.toCh) r3)
end
end Sm
namespace L2
open PySem PySem.Spec PyProof.Rows
open HT in
theorem DW{t sl:Addr}{items:Array Value}{vl vu:Value}{lo hi:Option Int}{Q:Value->Shared->Prop}(ht:IsTup s.heap t items)(hs:s.heap.IsSliceOf sl vl vu .none)(pl:IsPart vl lo)(pu:IsPart vu hi)
  (hw:b8 items.size 0 lo=0∧b8 items.size items.size hi=items.size) (h:Q (.ref t) s):wpAny (model prog w) A (getItem (.ref t) (.ref sl)) Q E s:=by
 obtain⟨os,hos,hcs,hds⟩:=id hs;have hTs:s.TypeIs (.ref sl) "slice":=⟨os,hos,hcs⟩;unfold getItem
 try with_reducible refine U9 ?_
 first | refine Ug (Uk ?_) | skip
 refine Ug (Ym ht.typeIs (by decide) ?_);refine Ug (U6 (name:=Str.ofString "__getitem__") ht.typeIs U3 (Vb U3 ht.typeIs YI ?_ (Y0 _ _)));show wpAny _ _ (Builtin.Tuple.tupleItemsOf (.ref t) >>=_) _ _ s;refine Ug (tupleItemsOf_ ht (Ug (Wt hTs ?_)));rw[Ut (by decide)];refine Ug (iC hs pl pu ?_);show wpAny _ _ (if(((b8 items.size 0 lo:Nat):Int)==0&&(1:Int)==1&&(b8 items.size items.size hi-b8 items.size 0 lo)==items.size)=true then _ else _) _ _ s;rw[Ut (by rw[hw.1,hw.2];simp)];unfold Builtin.Tuple.tupleIsExact;simp only[bind_assoc,pure_bind];refine Ug (Wt ht.typeIs ?_);rw[Ut (by decide)]
 first
  | exact Ug (V1 (Uk ⟨_,rfl,Uk h⟩))
  | exact Ug (V1 (Ug (Uk (Uk ⟨_,rfl,Uk h⟩))))
def R6(K:FR):V->Option Int->Option Int->Hp->VK->Prop:=fun x lo hi H Q=>∃a xs,x=.ref a∧jD K H a xs∧(HT.b8 xs.length 0 lo=0∧HT.b8 xs.length xs.length hi=xs.length)∧Q (.ref a) H
theorem F7:OL X (R6 X.K):=by
 intro pins s σ H x v vl vu lo hi sl Q I rx hs pl pu h;obtain⟨a,xs,rfl,hx,hw,q⟩:=h;cases rx;obtain⟨its,r,ht,hz⟩:=I.tuple hx;have hlen:its.toArray.size=xs.length:=by rw[UA];exact r.length.symm
 exact⟨"tuple",_,U3.lookup,ht.typeIs,DW ht hs pl pu (by rw[hlen];exact hw) ⟨.ref a,H,I,rfl,q⟩⟩
end L2
namespace Sm
open PySem L2 PySem.Spec PyProof.Rows
section
variable {X:Cx}
noncomputable def pR(d:D)(lo hi:Option Int)(h:MH):Option (D×MH):=match d with
 | .tup xs=>if HT.b8 xs.length 0 lo=0∧HT.b8 xs.length xs.length hi=xs.length then some (.tup xs,h) else some (.tup (cutD xs lo hi),h)
 | d=>Qu d lo hi h
noncomputable def kA(a:EM)(l u:PM):EM:=fun δ h=>(a δ h).bind fun p=>(l δ p.2).bind fun q=>(u δ q.2).bind fun r=>pR p.1 q.1 r.1 r.2
inductive LR(K:FR)(x:V)(lo hi:Option Int)(H:Hp)(Q:VK):Prop where
 | mk (ρ h d z h'):bK K ρ h H->Rep K ρ H x d->(pR d lo hi h=some (z,h'))->(∀v H',dG K ρ H h' z v H'->Q v H')->LR K x lo hi H Q
def Sd(K:FR):V->Option Int->Option Int->Hp->VK->Prop:=fun x lo hi H Q=>LR K x lo hi H Q
theorem Mj:OL X (Sd X.K):=by
 intro pins s σ H x v vl vu lo hi sl Q I rx hs pl pu hh;obtain⟨ρ,h,d,z,h',S,rd,ee,k⟩:=hh;cases d with
 | tup xs=>
  unfold pR at ee;dsimp only at ee
  by_cases c:HT.b8 xs.length 0 lo=0∧HT.b8 xs.length xs.length hi=xs.length
  ·rw[Ut c] at ee;cases ee;have rd0:=rd;cases rd with | tup h0 l0=>
   exact F7 pins s σ H _ v vl vu lo hi sl Q I rx hs pl pu ⟨_,_,rfl,h0.sq,by rw[l0.length];exact c,k _ _ (.here S rd0)⟩
  ·rw[Uu c] at ee;exact Lu pins s σ H x v vl vu lo hi sl Q I rx hs pl pu ⟨ρ,h,_,z,h',S,rd,by unfold Qu;dsimp only;rw[Uu c];exact ee,k⟩
 | _=>exact Lu pins s σ H x v vl vu lo hi sl Q I rx hs pl pu ⟨ρ,h,_,z,h',S,rd,ee,k⟩
theorem Ga{a:Expr}{lo hi:Option Expr}{pos p2:Pos}{ma:EM}{ml mu:PM}(ha:SE X a ma)(hl:SP' X lo ml)(hu:SP' X hi mu):SE X (.Subscript a (.Slice lo hi none p2) pos) (kA ma ml mu):=
 (G0 Mj ha hl hu).imp fun σ H Q ⟨ρ,δ,h,d,h',R,S,e,k⟩=>by
  obtain⟨⟨x,h1⟩,e1,e2⟩:=bo e;obtain⟨⟨l,h2⟩,e3,e4⟩:=bo e2;obtain⟨⟨u,h3⟩,e5,e6⟩:=bo e4;exact⟨ρ,δ,h,x,h1,R,S,e1,fun v H1 ⟨ρ1,T1,S1,r1⟩=>⟨ρ1,δ,h1,l,h2,R.mono T1.toCh,S1,e3,fun ρ2 H2 T2 S2=>⟨ρ2,δ,h2,u,h3,(R.mono T1.toCh).mono T2.toCh,S2,e5,fun ρ3 H3 T3 S3=>
   ⟨ρ3,h3,x,d,h',S3,r1.mono (T2.trans T3).toCh,e6,fun w H4 p=>k w H4 (p.step (T1.trans (T2.trans T3)))⟩⟩⟩⟩
noncomputable def z8:Fn:=fun ds h=>match ds with
 | [.bl b]=>some (.int (if b then 1 else 0),h)
 | _=>none
theorem Oc:hY X (.type "int") z8:=by
 intro pins s σ H xs us Q I r hh;obtain⟨ρ,h,ds,z,h',S,l,ee,k⟩:=hh
 match ds,l,ee with
 | [],_,ee=>exact b5 ee
 | _::_::_,_,ee=>exact absurd ee (by unfold z8;split <;> simp_all)
 | [d],l,ee=>
  obtain⟨v,rfl,rd⟩:=rep1 l;cases rd <;> first |(exact b5 ee) | skip
  cases ee;obtain⟨u,rfl,ru⟩:=Vals.one r;cases ru;exact call_int_bool ⟨.int _,H,I.kept (t':=s.toks+1) (h':=s.heap) fun _ _ e=>e,⟨_,rfl⟩,k _ _ (.here S (.int _))⟩
noncomputable def kr(d e:D)(h:MH):Option (D×MH):=match d,e with
 | .str x,.int n=>if x.length≤1000∧0≤n∧n≤1000∧PyData.strOk (Txt.mul x n)=true then some (.str (Txt.mul x n),h) else none
 | d,e=>NZ d e h
theorem jh:ow X (binaryOp .Mult) kr:=by
 intro pins s σ H x y v u Q I rx ry hh;obtain⟨ρ,h,d,e,z,h',S,rd,re,ee,k⟩:=hh;unfold kr at ee
 split at ee
 ·rename_i x0 n
  by_cases c:x0.length≤1000∧0≤n∧n≤1000∧PyData.strOk (Txt.mul x0 n)=true
  ·rw[Ut c] at ee;cases ee;cases rd;cases re;obtain⟨t1,rfl⟩:=rx;obtain⟨t2,rfl⟩:=ry;obtain⟨c1,c2,c3,c4⟩:=c;refine SB.mul ⟨?_,fun _ _=>?_,fun _ _=>?_⟩ fun t' k'=>⟨.str _,H,I.kept (t':=k') (h':=s.heap) fun _ _ e=>e,⟨t',rfl⟩,k _ _ (.here S (.str c4))⟩
   ·rw[UX (by lia),UX (by lia)];rfl
   ·have h1:(9007199254740991:Int)≤(2^63-1) / n:=by
     refine Int.le_ediv_of_mul_le (by lia) ?_;have:9007199254740991*n≤9007199254740991*1000:=Int.mul_le_mul_of_nonneg_left c3 (by decide)
     lia
    lia
   ·have h1:x0.length*n.toNat≤1000*1000:=Nat.mul_le_mul c1 (by lia);refine UX ?_;have:=VH
    lia
  ·rw[Uu c] at ee;cases ee
 ·exact Nj pins s σ H x y v u Q I rx ry ⟨ρ,h,_,_,z,h',S,rd,re,ee,k⟩
noncomputable def x9(f f':D->D->MH->Option (D×MH))(ma mb mc:EM):EM:=fun δ h=>(ma δ h).bind fun p=>(mb δ p.2).bind fun q=>(f p.1 q.1 q.2).bind fun r=>match r.1 with
 | .bl true=>(mc δ r.2).bind fun u=>f' q.1 u.1 u.2
 | .bl false=>some (.bl false,r.2)
 | _=>none
theorem GC(hh:tM X.K (x9 f f' ma mb mc) σ H Q):FT (rS X.K f) (rS X.K f') (tM X.K ma) (tM X.K mb) (tM X.K mc) σ H Q:=by
 obtain⟨ρ,δ,h,d,h',R,S,ee,k⟩:=hh;obtain⟨⟨x,h1⟩,e1,e2⟩:=bo ee;obtain⟨⟨y,h2⟩,e3,e4⟩:=bo e2;obtain⟨⟨z,h3⟩,e5,e6⟩:=bo e4;dsimp only at e3 e5 e6;refine⟨ρ,δ,h,x,h1,R,S,e1,fun v H1 ⟨ρ1,T1,S1,r1⟩=>⟨ρ1,δ,h1,y,h2,R.mono T1.toCh,S1,e3,fun u H2 ⟨ρ2,T2,S2,r2⟩=>⟨ρ2,h2,x,y,z,h3,S2,r1.mono T2.toCh,r2,e5,fun w H3 ⟨ρ3,T3,S3,r3⟩=>?_⟩⟩⟩;cases z with
 | bl b=>
  cases r3;refine⟨b,rfl,?_⟩;cases b with
  | false=>
   cases e6;exact NT (k _ _ (dG.step (T1.trans (T2.trans T3)) (.here S3 (.bl false))))
  | true=>
   obtain⟨⟨u',h4⟩,e7,e8⟩:=bo e6;have T:=T1.trans (T2.trans T3);exact NS ⟨ρ3,δ,h3,u',h4,R.mono T.toCh,S3,e7,fun v' H4 ⟨ρ4,T4,S4,r4⟩=>⟨ρ4,h4,y,u',d,h',S4,r2.mono (T3.trans T4).toCh,r4,e8,fun w' H5 P=>k w' H5 (P.step (T.trans T4))⟩⟩
 | _=>exact b5 e6
theorem Gg(ho:ow X (compareOp op) f)(ho':ow X (compareOp op') f')(ha:SE X a ma)(hb:SE X b mb)(hc:SE X c mc)(hm:lastMarks [op,op'] [b,c]=false:=by with_unfolding_all rfl):
  SE X (.Compare a [op,op'] [b,c] pos) (x9 f f' ma mb mc):=(G4 ho ho' ha hb hc hm).imp fun _ _ _=>GC
end
end Sm
namespace L2
open PySem PySem.Spec PyProof.Rows
theorem Gv(its:List Value):((List.range its.length).filterMap fun(k:Nat)=>its.toArray[(((its.length:Int)-1)+(k:Int)*(-1)).toNat]?).toArray=its.reverse.toArray:=by
 rw[←zo];unfold slicePick;have hb:sliceBounds none none (some (-1)) its.toArray.size=((its.length:Int)-1,-1,-1):=by
  unfold sliceBounds;simp
 rw[hb];dsimp only;unfold sliceRange;dsimp only;rw[Uu (by decide)];have hc:(if(its.length:Int)-1 > -1 then((its.length:Int)-1 - -1 - -1-1) / (- -1) else 0)=(its.length:Int):=by
  split
  ·simp
  ·lia
 rw[hc,UO,Wm];congr 2
 funext k
 show _=its.toArray[((its.length:Int)-1+-1*(k:Int)).toNat]?;rw[Int.mul_comm]
open HT in
theorem Jd{t sl:Addr}{its:List Value}{tk:Tok}{Q:Value->Shared->Prop}(ht:IsTup s.heap t its.toArray)(hs:s.heap.IsSliceOf sl .none .none (.int (-1) tk))
  (h:Q (.ref s.heap.objs.size) {s with heap:=s.heap.push {cls:=.type "tuple",data:=.seq its.reverse.toArray}}) (hsz:its.length≤sizeLine):wpAny (model prog w) A (getItem (.ref t) (.ref sl)) Q E s:=by
 obtain⟨os,hos,hcs,hds⟩:=id hs;have hTs:s.TypeIs (.ref sl) "slice":=⟨os,hos,hcs⟩;unfold getItem
 try with_reducible refine U9 ?_
 first | refine Ug (Uk ?_) | skip
 refine Ug (Ym ht.typeIs (by decide) ?_);refine Ug (U6 (name:=Str.ofString "__getitem__") ht.typeIs U3 (Vb U3 ht.typeIs YI ?_ (Y0 _ _)));show wpAny _ _ (Builtin.Tuple.tupleItemsOf (.ref t) >>=_) _ _ s;refine Ug (tupleItemsOf_ ht (Ug (Wt hTs ?_)));rw[Ut (by decide)];refine Ug (m:=Builtin.Slice.sliceApplied _ _) ?_;unfold Builtin.Slice.sliceApplied Builtin.Slice.sliceFields;refine Ug (Ug (UZ hos hds (x:=.none) rfl (Ug (UZ hos hds (x:=.none) rfl (Ug (UZ hos hds (x:=.int (-1) tk) rfl (Uk ?_)))))));refine Ug (slicePart_int ?_);show wpAny _ _ (if((-1:Int)==0)=true then _ else _) _ _ s;rw[Uu (by decide)];refine Ug (Yw (Ug (Yw (Ug (Uk ?_)))));have hadj:Builtin.Slice.sliceAdjust none none (-1) (its.toArray.size:Int)=((its.length:Int)-1,-1):=by
  unfold Builtin.Slice.sliceAdjust;simp
 have hpl:Builtin.Slice.slicePlaces ((its.length:Int)-1) (-1) (-1)=its.length:=by
  unfold Builtin.Slice.slicePlaces;rw[Uu (by decide)]
  split
  ·simp
  ·lia
 show wpAny _ _ (match Builtin.Slice.sliceAdjust none none (-1) (its.toArray.size:Int) with |(lo,hi)=>pure (lo,(-1:Int),Builtin.Slice.slicePlaces lo hi (-1))) _ _ s;rw[hadj];show wpAny _ _ (pure ((its.length:Int)-1,(-1:Int),Builtin.Slice.slicePlaces ((its.length:Int)-1) (-1) (-1))) _ _ s;rw[hpl];refine Uk ?_;show wpAny _ _ (if((its.length:Int)-1==0&&(-1:Int)==1&&its.length==its.toArray.size)=true then _ else _) _ _ s;rw[Uu (by rw[show((-1:Int)==1)=false from rfl];simp),Gv];have htake:sizeOk (.seq its.reverse.toArray):=by
  show its.reverse.toArray.size≤sizeLine;rw[UA,U8];exact hsz
 first
  | exact Ug (m:=Builtin.Tuple.tupleExact _) (U2 (Uk ⟨_,rfl,Uk h⟩) htake)
  | exact Ug (Ug (m:=Builtin.Tuple.tupleExact _) (U2 (Uk (Uk ⟨_,rfl,Uk h⟩)) htake))
section
variable {X:Cx} {e st:Expr} {te ts:TE} {pos p2:Pos}
def Ph(K:FR)(te ts:TE):TE:=fun σ H Q=>te σ H fun x H1=>ts σ H1 fun y H2=>y=.int (-1)∧∃a xs,x=.ref a∧((fR K H2 a xs∧∀p,H2 p=none->Q (.ref p) (upd H2 p (.lst xs.reverse)))∨(jD K H2 a xs∧∀p,H2 p=none->Q (.ref p) (upd H2 p (.tup xs.reverse))))
theorem J3(he:PE X e te)(hs:PE X st ts):PE X (.Subscript e (.Slice none none (some st) p2) pos) (Ph X.K te ts):=by
 intro pins s σ H Q I h;refine Subscript_ (cq (he pins s σ H _ I h) fun v s1 ⟨x,H1,I1,r1,q1⟩=>?_);refine wpAny_Slice ?_;rw[Zc];refine Uk (Uk ?_);rw[evalPart_some];refine cq (hs pins s1 σ H1 _ I1 q1) fun vs s3 ⟨y,H3,I3,r3,ey,a,xs,ex,q3⟩=>?_;subst ey ex;obtain⟨tk,rfl⟩:=r3;cases r1;have I4:Inv X pins σ H3 {s3 with heap:=s3.heap.push {cls:=.type "slice",data:=.fields #[.none,.none,.int (-1) tk]}}:=I3.kept (t':=s3.toks) fun b ob q=>Uj _ q;show wpAny (model X.prog X.w) X.A (subscriptTail e (.Slice none none (some st) p2) (.ref a) (.ref s3.heap.objs.size)) (EP X pins σ Q) X.xe {s3 with heap:=s3.heap.push {cls:=.type "slice",data:=.fields #[.none,.none,.int (-1) tk]}};rcases q3 with⟨hx,q3⟩ |⟨hx,q3⟩
 ·obtain⟨its,r,ht,hz⟩:=I4.list hx;refine tail_any (ops:=[.ref a,.ref s3.heap.objs.size]) (T:="list") ht.isList.typeIs Yo.lookup ?_ (by with_unfolding_all rfl);refine Za ht.isList (Heap.IsSliceOf.new ..) .none .none (.int (-1) tk) (by decide) ?_ (by rw[UA,←r.length];exact hz);rw[zo];refine⟨.ref _,_,I4.laid (t':=s3.toks) (o:=.lst xs.reverse) (fun b ob q=>Uj _ q) (Us _) ?_,rfl,q3 _ (I4.bj.fresh (Us _))⟩;exact⟨by rw[U8];exact hz,its.reverse,0,rH r,UD _ rfl⟩
 ·obtain⟨its,r,ht,hz⟩:=I4.tuple hx;refine tail_any (ops:=[.ref a,.ref s3.heap.objs.size]) (T:="tuple") ht.typeIs U3.lookup ?_ (by with_unfolding_all rfl);refine Jd ht (Heap.IsSliceOf.new ..) ?_ (by rw[←r.length];exact hz);refine⟨.ref _,_,I4.laid (t':=s3.toks) (o:=.tup xs.reverse) (fun b ob q=>Uj _ q) (Us _) ?_,rfl,q3 _ (I4.bj.fresh (Us _))⟩;exact⟨by rw[U8];exact hz,its.reverse,rH r,yz.new _ _⟩
end
end L2
namespace Sm
open PySem L2 PySem.Spec PyProof.Rows
section
variable {X:Cx} {e st:Expr} {ma ms:EM} {pos p2:Pos}
noncomputable def Dv(m s:EM):EM:=fun δ h=>(m δ h).bind fun p=>(s δ p.2).bind fun q=>match q.1 with
 | .int j=>if j=-1 then(cT p.1 q.2).map fun r=>(if qT p.1=true then .lv r.1.reverse else .tup r.1.reverse,q.2) else none
 | _=>none
theorem Jq(he:SE X e ma)(hs:SE X st ms):SE X (.Subscript e (.Slice none none (some st) p2) pos) (Dv ma ms):=(J3 he hs).imp fun σ H Q ⟨ρ,δ,h,d,h',R,S,ee,k⟩=>by
 obtain⟨⟨x,h1⟩,e1,e2⟩:=bo ee;obtain⟨⟨y,h2⟩,e3,e4⟩:=bo e2;dsimp only at e3 e4;cases y <;> first |(exact b5 e4) | skip
 rename_i j;dsimp only at e4
 by_cases z:j=-1
 ·rw[Ut z] at e4;subst z;obtain⟨⟨xs,ws⟩,e5,e6⟩:=fO e4;cases e6;refine⟨ρ,δ,h,x,h1,R,S,e1,fun v H1 ⟨ρ1,T1,S1,r1⟩=>⟨ρ1,δ,h1,.int (-1),_,R.mono T1.toCh,S1,e3,fun u H2 ⟨ρ2,T2,S2,r2⟩=>⟨by cases r2;rfl,?_⟩⟩⟩;obtain⟨a,rfl,⟨vs,q,l⟩,_⟩:=jN S2 (r1.mono T2.toCh) e5;refine⟨a,vs,rfl,?_⟩;generalize qT x=b at q k;cases q with
  | l q=>exact .inl ⟨q,fun p hp=>k _ _ (dG.step (T1.trans T2) (.lv S2 l.rev hp))⟩
  | t q=>exact .inr ⟨q,fun p hp=>k _ _ (dG.step (T1.trans T2) (.tup S2 l.rev hp))⟩
 ·rw[Uu z] at e4;cases e4
end
end Sm
namespace L2
open PySem PySem.Spec PyProof.Rows
open HT in
theorem Il{t b:Addr}{vs ws:List Value}{Q:Value->Shared->Prop}(ht:IsTup s.heap t vs.toArray)(hb:IsTup s.heap b ws.toArray)(hv:vs=[])(h:Q (.ref b) s):wpAny (model prog w) A (binaryOp .Add (.ref t) (.ref b)) Q E s:=by
 obtain⟨⟨cls,dd,data,sl⟩,ho,hc,n,hd⟩:=id ht;obtain⟨⟨cls2,dd2,data2,sl2⟩,ho2,hc2,n2,hd2⟩:=id hb;simp only at hc hd hc2 hd2;subst hc hd hc2 hd2;exact concat_meets ⟨_,ho,rfl⟩ ⟨_,ho2,rfl⟩ Yz Zb Xu Xm (Xd _ _)
   (tuple_addW0 t b vs.toArray ws.toArray n n2 dd dd2 sl sl2 (by simp[hv])) ⟨ho,ho2,h⟩
theorem Hf:oA X (binaryOp .Add) (fun x y H Q=>∃a b ys,x=.ref a∧y=.ref b∧jD X.K H a []∧jD X.K H b ys∧Q (.ref b) H):=by
 intro pins s σ H x y v u Q I rx ry h;obtain⟨a,b,ys,rfl,rfl,ha,hb,q⟩:=h;cases rx;cases ry;obtain⟨its,r1,p1,_⟩:=I.tuple ha;obtain⟨its2,r2,p2,_⟩:=I.tuple hb;exact Il p1 p2 (r1.rp.mpr rfl) ⟨.ref b,H,I,rfl,q⟩
end L2
namespace Sm
open PySem L2 PySem.Spec PyProof.Rows
noncomputable def aN(d e:D)(h:MH):Option (D×MH):=match d,e with
 | .tup [],.tup ys=>some (.tup ys,h)
 | d,e=>BS d e h
theorem eB:ow X (binaryOp .Add) aN:=by
 intro pins s σ H x y v u Q I rx ry hh;obtain⟨ρ,h,d,e,z,h',S,rd,re,ee,k⟩:=hh;unfold aN at ee
 split at ee
 ·cases ee;have re0:=re;cases rd with | tup h1 l1=>cases re with | tup h2 l2=>
  cases l1;exact Hf pins s σ H _ _ v u Q I rx ry ⟨_,_,_,rfl,rfl,h1.sq,h2.sq,k _ _ (.here S re0)⟩
 ·exact Np pins s σ H _ _ v u Q I rx ry ⟨ρ,h,_,_,z,h',S,rd,re,ee,k⟩
noncomputable def E9:Fn:=fun ds h=>match ds with
 | [.int i,.int j]=>some (.int (if j < i then j else i),h)
 | _=>none
noncomputable def uT:Fn:=fun ds h=>match ds with
 | [.int i,.int j]=>some (.int (if j > i then j else i),h)
 | _=>none
theorem N9(hc:X.calm=true):hY X (.builtin "min") E9:=by
 intro pins s σ H xs us Q I r hh;obtain⟨ρ,h,ds,z,h',S,l,ee,k⟩:=hh
 match ds,l,ee with
 | [],_,ee=>exact b5 ee
 | [_],_,ee=>exact absurd ee (by unfold E9;split <;> simp_all)
 | _::_::_::_,_,ee=>exact absurd ee (by unfold E9;split <;> simp_all)
 | [d,e],l,ee=>
  obtain⟨v,w,rfl,rd,re⟩:=rep2 l;cases rd <;> first |(exact b5 ee) | skip
  cases re <;> first |(exact b5 ee) | skip
  cases ee;exact Fj hc pins s σ H _ us Q I r ⟨_,_,rfl,k _ _ (.here S (.int _))⟩
theorem Oa(hc:X.calm=true):hY X (.builtin "max") uT:=by
 intro pins s σ H xs us Q I r hh;obtain⟨ρ,h,ds,z,h',S,l,ee,k⟩:=hh
 match ds,l,ee with
 | [],_,ee=>exact b5 ee
 | [_],_,ee=>exact absurd ee (by unfold uT;split <;> simp_all)
 | _::_::_::_,_,ee=>exact absurd ee (by unfold uT;split <;> simp_all)
 | [d,e],l,ee=>
  obtain⟨v,w,rfl,rd,re⟩:=rep2 l;cases rd <;> first |(exact b5 ee) | skip
  cases re <;> first |(exact b5 ee) | skip
  cases ee;exact Fm hc pins s σ H _ us Q I r ⟨_,_,rfl,k _ _ (.here S (.int _))⟩
end Sm
namespace L2
open PySem PySem.Spec PyProof.Rows
section
variable {X:Cx} {a b:Expr} {rest:List Expr} {pos:Pos} {ta tb:TE}
end
end L2
namespace Sm
open PySem L2 PySem.Spec PyProof.Rows
section
variable {X:Cx} {a b:Expr} {pos:Pos} {ma mb:EM}
end
end Sm
namespace L2
open PySem PySem.Spec PyProof.Rows
end L2
namespace Sm
open PySem L2 PySem.Spec PyProof.Rows
theorem Ox:bootBuiltins "min"=some (.builtin "min"):=by decide+kernel
theorem Oy:bootBuiltins "max"=some (.builtin "max"):=by decide+kernel
section
variable {X:Cx} {g:GM} {mt:TM} {ma:EM}
end
end Sm
namespace L2
open PySem PySem.Spec PyProof.Rows
theorem vc:∀{ss:List Str} {us:List Value},Vals (ss.map V.str) us->StrsAre us ss
 | [],_,.nil=>.nil
 | x::r,_,.cons q l=>by obtain⟨t,rfl⟩:=q;exact .cons x t (vc l)
theorem B7:fT X (.builtin "sorted") (fun xs H Q=>∃a ss,xs=[.ref a]∧fR X.K H a (ss.map V.str)∧ss.length < 64∧∀l,H l=none->Q (.ref l) (upd H l (.lst ((jv ss).map V.str)))):=by
 intro pins s σ H xs us Q I r h;obtain⟨a,ss,rfl,ha,h64,q⟩:=h;obtain⟨u,rfl,ru⟩:=vals1 r;cases ru;obtain⟨its,rv,p,hz⟩:=I.list ha;have hS:=vc rv;have hlen:its.length=ss.length:=by have:=rv.length;rw[Uh] at this;exact this.symm
 refine sorted_strs p.isList hS (by lia) fun out ss' h1 h2 h3=>?_;have:=F6 h2 h3;subst this;have hl:s.heap.objs.size≤s.heap.objs.size+1:=Wi _;obtain⟨e,ho⟩:=sortedAll_at s.heap its out;have hz':((jv ss).map V.str).length≤sizeLine:=by rw[Uh,(lO ss).length_eq,VH];lia
 refine⟨.ref (s.heap.objs.size+1),_,I.laid (t':=s.toks) (o:=.lst ((jv ss).map V.str)) (fun b o q=>sortedAll_old q) hl ⟨hz',out.toList,e,uX h1,?_⟩,rfl,q _ (I.bj.fresh hl)⟩;rw[ho]
end L2
namespace Sm
open PySem L2 PySem.Spec PyProof.Rows
noncomputable def tf:List D->Option (List Int)
 | []=>some []
 | .int i::r=>(tf r).map fun is=>i::is
 | _=>none
theorem zT:∀{xs:List D} {ns:List Int},tf xs=some ns->xs=ns.map D.int
 | [],_,e=>by cases e;rfl
 | d::r,ns,e=>by
  cases d <;> first |(exact b5 e) | skip
  obtain⟨is,e1,e2⟩:=fO (show(tf r).map _=some ns from e);cases e2;rw[zT e1];rfl
theorem vP:∀(ns:List Int),tf (ns.map D.int)=some ns
 | []=>rfl
 | n::r=>by show(tf (r.map D.int)).map _=_;rw[vP r];rfl
theorem sr{K:FR}{ρ:Ad}{H:Hp}:∀{vs:List V} {ns:List Int},az K ρ H vs (ns.map D.int)->vs=ns.map V.int
 | _,[],.nil=>rfl
 | _,n::r,.cons q l=>by cases q;rw[sr l];rfl
noncomputable def rP:List D->Option (List Str)
 | []=>some []
 | .str i::r=>(rP r).map fun is=>i::is
 | _=>none
theorem yJ:∀{xs:List D} {ns:List Str},rP xs=some ns->xs=ns.map D.str
 | [],_,e=>by cases e;rfl
 | d::r,ns,e=>by
  cases d <;> first |(exact b5 e) | skip
  obtain⟨is,e1,e2⟩:=fO (show(rP r).map _=some ns from e);cases e2;rw[yJ e1];rfl
theorem vd:∀(ns:List Str),rP (ns.map D.str)=some ns
 | []=>rfl
 | n::r=>by show(rP (r.map D.str)).map _=_;rw[vd r];rfl
theorem sm{K:FR}{ρ:Ad}{H:Hp}:∀{vs:List V} {ns:List Str},az K ρ H vs (ns.map D.str)->vs=ns.map V.str∧∀k∈ns,PyData.strOk k=true
 | _,[],.nil=>⟨rfl,fun _ h=>(nomatch h)⟩
 | _,n::r,.cons q l=>by
  cases q with
  | str h=>
   obtain⟨e,f⟩:=sm l;refine⟨by rw[e];rfl,fun k hk=>?_⟩;rcases UE.mp hk with rfl | hk
   ·exact h
   ·exact f k hk
noncomputable def HH:Fn:=fun ds h=>match ds with
 | [d]=>(fY d h).bind fun xs=>(rP xs).bind fun ns=>if ns.length < 64 then some (.lv ((jv ns).map D.str),h) else none
 | _=>none
theorem Ie:hY X (.builtin "sorted") HH:=by
 intro pins s σ H xs us Q I r hh;obtain⟨ρ,h,ds,z,h',S,l,ee,k⟩:=hh
 match ds,l,ee with
 | [],_,ee=>exact b5 ee
 | _::_::_,_,ee=>exact b5 ee
 | [d],l,ee=>
  obtain⟨v,rfl,rd⟩:=rep1 l;obtain⟨ys,e1,e2⟩:=bo ee;obtain⟨ns,e3,e4⟩:=bo e2
  by_cases c:ns.length < 64
  ·rw[Ut c] at e4;cases e4;obtain⟨a,vs,rfl,ha,la⟩:=eC S rd e1;have:=yJ e3;subst this;obtain⟨e5,f⟩:=sm la;subst e5;refine B7 pins s σ H _ us Q I r ⟨a,ns,rfl,fR.of ha,c,fun l hl=>k _ _ (.lv S (vm _ fun x hx=>f x ((lO ns).mem_iff.mp hx)) hl)⟩
  ·rw[Uu c] at e4;cases e4
section
variable {α:Type} {K:FR} {A:Ac α} {l:Addr} {g:GM} {mt:TM} {m:MK α}
mutual
theorem Rep.calm(hs:∀a,ρ'.has a->ρ.has a){v:V}{d:D}(r:Rep K ρ H v d)(c:g6 0 d=true):Rep K ρ' H v d:=by
 cases r with
 | bz=>exact .bz
 | bl b=>exact .bl b
 | int i=>exact .int i
 | str h=>exact .str h
 | ty n=>exact .ty n
 | tup h l=>exact .tup (h.elim (fun⟨a,n⟩=>.inl ⟨a,fun z=>n (hs _ z)⟩) .inr) (az.calm hs l c)
 | lv h n l=>exact .lv h (fun z=>n (hs _ z)) (az.calm hs l c)
 | ro h l=>exact .ro (h.elim (fun⟨a,n⟩=>.inl ⟨a,fun z=>n (hs _ z)⟩) .inr) (az.calm hs l c)
 | dv h n l=>exact .dv h (fun z=>n (hs _ z)) (bg.calm hs l c)
 | ob e=>simp[g6] at c
theorem az.calm(hs:∀a,ρ'.has a->ρ.has a){vs:List V}{ds:List D}(r:az K ρ H vs ds)(c:dH 0 ds=true):az K ρ' H vs ds:=by
 cases r with
 | nil=>exact .nil
 | cons r l=>have c:=UP.mp c;exact .cons (Rep.calm hs r c.1) (az.calm hs l c.2)
theorem bg.calm(hs:∀a,ρ'.has a->ρ.has a){vs:List (Key×V)}{ds:List (Key×D)}(r:bg K ρ H vs ds)(c:K2 0 ds=true):bg K ρ' H vs ds:=by
 cases r with
 | nil=>exact .nil
 | cons r l=>have c:=UP.mp c;exact .cons (Rep.calm hs r c.1) (bg.calm hs l c.2)
end
end
section
variable {X:Cx} {k v tg iter:Expr} {pos:Pos} {mk mv:EM} {mt:TM} {g:GM} {N':List Str} {caps:List (Option Nat)} {scope:Scope} {ifs:List Expr} {mi:IM}
end
theorem wb:bootBuiltins "sorted"=some (.builtin "sorted"):=by decide+kernel
end Sm
namespace L2
open PySem PySem.Spec PyProof.Rows
theorem jD.off{K:FR}{H:Hp}{a d:Addr}{ys:List V}{o:HO}(h:jD K H a ys)(hd:H d=none):jD K (upd H d o) a ys:=by
 rcases h with h | h
 ·rcases h with h |⟨u,h⟩
  ·exact .inl (.inl (by rw[aF (aO h hd)];exact h))
  ·exact .inl (.inr ⟨u,by rw[aF (aO h hd)];exact h⟩)
 ·exact .inr h
end L2
namespace Sm
open PySem L2 PySem.Spec PyProof.Rows
end Sm
namespace L2
open PySem PySem.Spec PyProof.Rows
end L2
namespace Sm
open PySem L2 PySem.Spec PyProof.Rows
noncomputable def N0(d e:D)(h:MH):Option (D×MH):=match d,e with
 | .tup xs,.tup []=>some (.bl xs.isEmpty,h)
 | _,_=>none
theorem y8{K:FR}{ρ:Ad}{H:Hp}:∀{vs:List V} {ds:List D},az K ρ H vs ds->vs.length=ds.length
 | _,_,.nil=>rfl
 | _,_,.cons _ l=>by rw[Uw,Uw,y8 l]
theorem N7(hu:X.A.units+64 < cLine)(I:L2.Inv X pins σ H s)(rx:L2.RelV x v)(ry:L2.RelV y u)(rd:Rep X.K ρ H x (.tup xs))(re:Rep X.K ρ H y (.tup [])):
  (∀Q:Value->Shared->Prop,Q (.bool xs.isEmpty) s->wpAny (model X.prog X.w) X.A (compareOp .Eq v u) Q X.xe s)∧∀Q:Value->Shared->Prop,Q (.bool (!xs.isEmpty)) s->wpAny (model X.prog X.w) X.A (compareOp .NotEq v u) Q X.xe s:=by
 cases rd with
 | @tup a vs _ h0 l0=>
  cases re with
  | @tup b ws _ h1 l1=>
   cases rx;cases ry;obtain⟨its,rv,p,_⟩:=I.tuple h0.sq;obtain⟨jts,rw',q,_⟩:=I.tuple h1.sq;have n1:its.length=xs.length:=by rw[←y8 l0];exact rv.length.symm
   have n2:jts=[]:=by
    cases l1;exact Xo.mp (by have:=rw'.length;simpa using this.symm)
   subst n2;have hb:((List.range (min its.toArray.size ([]:List Value).toArray.size)).all (fun _=>true)&&its.toArray.size==([]:List Value).toArray.size)=xs.isEmpty:=by
    cases xs with
    | nil=>
     have:=Xo.mp n1;subst this;rfl
    | cons x r=>
     rw[UA,n1];simp
   have hlt:X.A.units < cLine:=by lia
   refine⟨fun Q z=>PySem.SeqAt.eq_tupleAt (e:=fun _=>true) p q hlt (fun j _ h2=>absurd h2 (by simp)) (by rw[hb];exact z),fun Q z=>PySem.SeqAt.RcNeAt.tuples (e:=fun _=>true) p q hlt (fun j _ h2=>absurd h2 (by simp)) _ _ _ Q (by rw[hb];exact z)⟩
theorem Nl(hu:X.A.units+64 < cLine):ow X (compareOp .Eq) N0:=by
 intro pins s σ H x y v u Q I rx ry hh;obtain⟨ρ,h,d,e,z,h',S,rd,re,ee,k⟩:=hh;unfold N0 at ee
 split at ee
 ·cases ee;exact(N7 hu I rx ry rd re).1 _ ⟨.bl _,H,I,rfl,k _ _ (.here S (.bl _))⟩
 ·cases ee
end Sm
namespace Hd
open PySem PySem.W PySem.Spec PyProof.Rows L2 Sm
noncomputable def KD(_:Obj):Bool:=true
noncomputable def Kx(h:Heap)(a:Addr):Option (Addr×Obj):=match h.get? a with
 | some o=>if KD o then some (a,o) else none
 | none=>none
noncomputable def aU(h:Heap):Frag:=(List.range h.objs.size).filterMap (Kx h)
theorem pM(h:Heap)(a:Addr):∀l:List Addr,(l.filterMap (Kx h)).lookup a=if a∈l then(Kx h a).map (·.2) else none
 | []=>rfl
 | b::r=>by
  have ih:=pM h a r
  by_cases hb:a=b
  ·subst hb;rw[Ut Uo];rw[VC];cases e:Kx h a with
   | none=>
    dsimp only;rw[ih,e]
    split <;> rfl
   | some p=>
    have hp:p.1=a:=by
     unfold Kx at e
     split at e
     ·split at e
      ·cases e;rfl
      ·cases e
     ·cases e
    obtain⟨p1,p2⟩:=p;dsimp only at hp;subst hp;simp
  ·have hm:(a∈b::r)↔a∈r:=by simp[hb]
   rw[VC];cases e:Kx h b with
   | none=>dsimp only;rw[ih];simp only[hm]
   | some p=>
    have hp:p.1=b:=by
     unfold Kx at e
     split at e
     ·split at e
      ·cases e;rfl
      ·cases e
     ·cases e
    obtain⟨p1,p2⟩:=p;dsimp only at hp;subst hp;have hab:(a==p1)=false:=by simpa using hb
    rw[Vi,hab];dsimp only;rw[ih];simp only[hm]
theorem kX(e:h.get? a=some o)(f:KD o=true):(aU h).lookup a=some o:=by
 unfold aU;rw[pM,Ut]
 ·unfold Kx;rw[e];dsimp only;rw[Ut f];rfl
 ·rw[Vg];exact UB e
theorem Ky(h:Heap):(aU h).In h:=fun a o e=>by
 unfold aU at e;rw[pM] at e
 split at e
 ·unfold Kx at e;cases g:h.get? a with
  | none=>rw[g] at e;cases e
  | some o'=>
   rw[g] at e;dsimp only at e
   split at e
   ·cases e;rfl
   ·cases e
 ·cases e
noncomputable def posOf(s:Stmt):Pos:=match s with
 | .FunctionDef _ _ _ _ _ _ _ _ _ p=>p
 | _=>⟨0,0,0,0⟩
noncomputable def vn(n:Str)(s:Stmt):DefRec:=⟨n,nV s,g0 s,ag s,posOf s⟩
theorem KY(r:h.CodeRec cd q):codeIn (aU h) cd q=true:=by
 obtain⟨c,o,vs,t,rfl,g,d,e⟩:=r;have f:KD o=true:=rfl;unfold codeIn;dsimp only;rw[kX g f];obtain⟨oc,od,dt,sl⟩:=o;dsimp only at d;subst d;dsimp only;obtain⟨l⟩:=vs;cases l with
 | nil=>cases e
 | cons x l=>cases l with
  | nil=>cases e
  | cons y r=>cases y <;> first |(cases e;simp;done) |(cases e;done)
theorem vS{q:Program}{loose:List Str}{mean:ExcName->Option Value}{mg mb:Str->Option Value}{h:Heap}(T:Top q loose mean mg mb h){n:Str}{st:Stmt}(e:(recsOf q).find? (fun e=>e.name==n)=some (vn n st)):
  ∃f fd,mg n=some (.ref f)∧dI (aU h) n n st f fd:=by
 have hm:vn n st∈recsOf q:=List.mem_of_find?_eq_some e;obtain⟨a,o,pm,code,doc,m,g,d,c⟩:=T.fn _ hm;have f:KD o=true:=rfl;have lk:=kX g f;have kp:keepIn (aU h) (.ref a)=true:=by
  unfold keepIn;dsimp only;rw[lk];obtain⟨oc,od,dt,sl⟩:=o;dsimp only at d;subst d;rfl
 obtain⟨oc,od,dt,sl⟩:=o;dsimp only at d;subst d;exact⟨a,_,m,⟨oc,od,.none,doc,pm,_,code,_,sl,rfl,lk,KY c⟩,kp⟩
theorem _root_.L2.dI.one{K:Frag}{x qual:Str}{st:Stmt}{f:Addr}{fd:FuncData}{p:Str}(F:dI K x qual st f fd)
  (h:∀(kV doc pm:Value)(an:Option Addr)(cdv ct:Value)(u:Value),bindArgs (PySem.W.fnOf x qual (nV st) (g0 st) (ag st) .none kV doc pm an cdv ct) ⟨[u],[]⟩=pure [(p,u)]) (s:Shared) (u:Value):BindsTo s fd ⟨[u],[]⟩ [(p,u)]:=by
 obtain⟨oc,od,kV,doc,pm,an,cdv,ct,osl,rfl,lk,hcd⟩:=F.ex;exact .of_eq (h kV doc pm an cdv ct u)
theorem NV{l:OpenLaw}{q:Program}{loose:List Str}{XP:(Str->Option Value)->Heap->Prop}{YP:World->Heap->Prop}{d:DefRec}{k:Nat}(hn:l.most=some 63)(hdf:d.params.defaults=[])(hr:gL k callerA)
  (F:∀(w:World)(s₀:Shared)(mg mb:Str->Option Value)(h:Heap),Ground q loose [] XP w s₀ mg mb h->YP w h->∃(fa:Addr)(fd:FuncData),mg d.name=some (.ref fa)∧(∀(s:Shared)(u:Value),BindsTo s fd ⟨[u],[]⟩ [("_law_script",u)])∧
   ∀base:Heap,(aU h).In base->base.Ns mainGlobals mg->aX l.prog w (aU h) mg base de k fa fd ["_law_script"] (spT (aU h))):
  WalkO q loose XP YP l.row.toRowW d [] (fun f vs=>PySem.call f vs):=by
 refine Att.Ap hn hdf fun w s₀ s₁ mg mb fa o pm cd doc a vs ns G Y ho hd hcd hmg hobj hints hlen hg=>?_;obtain⟨fa',fd,e,hb,hF⟩:=F w s₀ mg mb _ G Y;rw[e] at hmg;cases hmg;exact Hx (Ky _) G.T.g G.T.b G.T.builtins G.T.nolimit hg hobj hints (UL hlen (by decide)) hr hF hb (fun H hO hS=>⟨a,ns,rfl,hS,hlen,fun _=>rfl⟩) fun _ _ _ z=>z
noncomputable def freeOk(q:Program)(loose xs:List Str):Bool:=xs.all fun x=>!startupNames.contains x&&!(looseW q loose).contains x&&!((recsOf q).map (·.name)).contains x&&!((litsOf q).map (·.1)).contains x&&!((clssOf q (looseW q loose)).map (·.name)).contains x
theorem cB(T:Top q (looseW q loose) mean mg mb h)(e:freeOk q loose xs=true)(hx:x∈xs):mg x=none:=by
 have:=V2.mp e x hx;simp only[UJ,Zt,List.contains_eq_mem,YG] at this;exact T.free x this.1.1.1.1 this.1.1.1.2 this.1.1.2 this.1.2 this.2
end Hd
namespace Sm
open PySem L2
noncomputable def Ql(f:Expr->Option D):List Expr->Option (List D)
 | []=>some []
 | e::es=>(f e).bind fun d=>(Ql f es).bind fun ds=>some (d::ds)
noncomputable def kD:Nat->Expr->Option D
 | 0,_=>none
 | n+1,e=>match e with
  | .Constant .none _ _=>some .bz
  | .Constant (.bool b) _ _=>some (.bl b)
  | .Constant (.int i) _ _=>some (.int i)
  | .Constant (.str x) _ _=>if PyData.strOk x then some (.str x) else none
  | .UnaryOp .USub (.Constant (.int i) _ _) _=>some (.int (-i))
  | .Tuple es _ _=>(Ql (kD n) es).bind fun ds=>if ds.length≤1000 then some (.tup ds) else none
  | .List es _=>(Ql (kD n) es).bind fun ds=>if ds.length≤1000 then some (.lv ds) else none
  | .Dict [] [] _=>some (.dv [])
  | _=>none
noncomputable def aK(ds:List D):AM:=fun _ h=>some (ds,h)
theorem QO(ds:List D):mN (aK ds) ds.length:=fun δ h xs h' e=>by cases e;rfl
section
variable {X:Cx}
theorem FX(h:kD n e=some d)(es:List Expr):starEach (e::es) X.env=(false,eval e X.env)::starEach es X.env:=by
 cases n with
 | zero=>exact b5 h
 | succ n=>cases e <;> first | rfl |(exfalso;exact(nomatch h))
theorem wU(hf:∀{e:Expr} {d:D},f e=some d->SE X e (eK d))(hs:∀{e:Expr} {d:D},f e=some d->∀es:List Expr,starEach (e::es) X.env=(false,eval e X.env)::starEach es X.env):
  ∀{es:List Expr} {ds:List D},Ql f es=some ds->SA X es (aK ds)
 | [],ds,h=>by cases h;exact av
 | e::es,ds,h=>by
  unfold Ql at h;obtain⟨d,e1,h⟩:=bo h;obtain⟨r,e2,h⟩:=bo h;cases h;exact(aa (hf e1) (wU hf hs e2) (hs e1 es):SA X _ (ae (eK d) (aK r)))
theorem cO:∀(n:Nat) {e:Expr} {d:D},kD n e=some d->SE X e (eK d)
 | 0,_,_,h=>by cases h
 | n+1,e,d,h=>by
  cases e <;> first |(exact b5 h) | skip
  case Constant c _ _=>
   cases c <;> first |(exact b5 h) | skip
   case none=>cases h;exact Gb
   case bool=>cases h;exact Lw
   case int=>cases h;exact bt
   case str x=>
    have h:(if PyData.strOk x then some (D.str x) else none)=some d:=h
    by_cases hs:PyData.strOk x=true
    ·rw[Ut hs] at h;cases h;exact cN hs
    ·rw[Uu hs] at h;cases h
  case UnaryOp o e _=>
   cases o <;> first |(exact b5 h) | skip
   cases e <;> first |(exact b5 h) | skip
   rename_i c _ _;cases c <;> first |(exact b5 h) | skip
   cases h;exact(Lv FJ bt:SE X _ (jG cS (eK _)))
  case Tuple es _ _=>
   obtain⟨ds,e1,e2⟩:=bo h
   by_cases hl:ds.length≤1000
   ·rw[Ut hl] at e2;cases e2;exact(cU (wU (cO n) FX e1) (QO ds) (UL hl (by decide)):SE X _ (ao aD (aK ds)))
   ·rw[Uu hl] at e2;cases e2
  case List es _=>
   obtain⟨ds,e1,e2⟩:=bo h
   by_cases hl:ds.length≤1000
   ·rw[Ut hl] at e2;cases e2;exact(t6.lv (iS (wU (cO n) FX e1) (QO ds) (UL hl (by decide))):SE X _ (iB (aK ds)))
   ·rw[Uu hl] at e2;cases e2
  case Dict ks vs _=>
   cases ks <;> first |(exact b5 h) | skip
   cases vs <;> first |(exact b5 h) | skip
   cases h;exact PF
end
end Sm
namespace L2
open PySem PySem.Spec PyProof.Rows
noncomputable def lF(ns:List Int):List Int:=ns.mergeSort fun a b=>decide (a≤b)
theorem iQ(ns:List Int):(lF ns).Perm ns:=Y7 _ _
theorem wJ(ns:List Int):(lF ns).Pairwise (·≤·):=by
 have:=YK (le:=fun a b:Int=>decide (a≤b)) (fun a b c h1 h2=>by simp at h1 h2 ⊢;lia) (fun a b=>by simp;lia) ns;exact this.imp fun h=>by simpa using h
theorem F5(hp:ss.Perm ns)(h:ss.Pairwise (·≤·)):ss=lF ns:=
 Xg (fun a b _ _ h1 h2=>Int.le_antisymm h1 h2) h (wJ ns) (hp.trans (iQ ns).symm)
theorem B8:fT X (.builtin "sorted") (fun xs H Q=>∃a ss,xs=[.ref a]∧fR X.K H a (ss.map V.int)∧ss.length < 64∧∀l,H l=none->Q (.ref l) (upd H l (.lst ((lF ss).map V.int)))):=by
 intro pins s σ H xs us Q I r h;obtain⟨a,ss,rfl,ha,h64,q⟩:=h;obtain⟨u,rfl,ru⟩:=vals1 r;cases ru;obtain⟨its,rv,p,hz⟩:=I.list ha;have hS:=intsAre_of rv;have hlen:its.length=ss.length:=by have:=rv.length;rw[Uh] at this;exact this.symm
 refine sorted_ints p.isList hS (by lia) fun out ss' h1 h2 h3=>?_;have:=F5 h2 h3;subst this;have hl:s.heap.objs.size≤s.heap.objs.size+1:=Wi _;obtain⟨e,ho⟩:=sortedAll_at s.heap its out;have hz':((lF ss).map V.int).length≤sizeLine:=by rw[Uh,(iQ ss).length_eq,VH];lia
 refine⟨.ref (s.heap.objs.size+1),_,I.laid (t':=s.toks) (o:=.lst ((lF ss).map V.int)) (fun b o q=>sortedAll_old q) hl ⟨hz',out.toList,e,kK h1,?_⟩,rfl,q _ (I.bj.fresh hl)⟩;rw[ho]
end L2
namespace Sm
open PySem L2 PySem.Spec PyProof.Rows
noncomputable def HI:Fn:=fun ds h=>match ds with
 | [d]=>(fY d h).bind fun xs=>(tf xs).bind fun ns=>if ns.length < 64 then some (.lv ((lF ns).map D.int),h) else none
 | _=>none
theorem repL_ints'{K:FR}{ρ:Ad}{H:Hp}:∀(ns:List Int),az K ρ H (ns.map V.int) (ns.map D.int)
 | []=>.nil
 | n::r=>.cons (.int n) (repL_ints' r)
theorem Ig:hY X (.builtin "sorted") HI:=by
 intro pins s σ H xs us Q I r hh;obtain⟨ρ,h,ds,z,h',S,l,ee,k⟩:=hh
 match ds,l,ee with
 | [],_,ee=>exact b5 ee
 | _::_::_,_,ee=>exact b5 ee
 | [d],l,ee=>
  obtain⟨v,rfl,rd⟩:=rep1 l;obtain⟨ys,e1,e2⟩:=bo ee;obtain⟨ns,e3,e4⟩:=bo e2
  by_cases c:ns.length < 64
  ·rw[Ut c] at e4;cases e4;obtain⟨a,vs,rfl,ha,la⟩:=eC S rd e1;have:=zT e3;subst this;have:=sr la;subst this;exact B8 pins s σ H _ us Q I r ⟨a,ns,rfl,fR.of ha,c,fun l hl=>k _ _ (.lv S (repL_ints' _) hl)⟩
  ·rw[Uu c] at e4;cases e4
noncomputable def BY(m:OP):EM:=fun δ h=>(m δ h).bind fun p=>if p.1.length≤15 then some (.ob p.2.length,p.2++[.dct (mB [] p.1)]) else none
theorem Gd(h:SP X pos keys vals m)(hall:keys.all (·.isSome)=true)(hl:keys.length=vals.length)(h0:keys≠[])(hp:∀trs,O2 X pos keys vals trs->PE X (.Dict keys vals pos) (Lr trs)):SE X (.Dict keys vals pos) (BY m):=by
 obtain⟨trs,h1,h2⟩:=h;refine(hp trs h1).imp fun σ H Q ⟨ρ,δ,h,d,h',R,S,ee,k⟩ p hpn=>?_;obtain⟨⟨kvs,ha⟩,e1,e2⟩:=bo ee;dsimp only at e2
 by_cases z:kvs.length≤15
 ·rw[Ut z] at e2;cases e2;have Tl:Ch ρ H (ρ.keep p) (upd H p (.dK [])):=Ch.keep hpn;have nl:¬ρ.has p:=S.fresh hpn;refine h2 σ _ _ ⟨ρ.keep p,δ,h,kvs,_,R.mono Tl,S.keep hpn,e1,fun us ρ2 H2 T2 S2 r2=>?_⟩;have hp2:H2 p=some (.dK []):=(T2.res p Uo).trans aR;refine⟨hp2,us,rfl,by rw[r2.len];exact z,?_⟩;obtain⟨ob2,rs2⟩:=ρ2;have ers:rs2=p::ρ.rs:=T2.rs;subst ers;have hml:p∈(⟨ob2,p::ρ.rs⟩:Ad).rs:=Uo;have npo:p∉ob2:=(S2.vi p hml).2;have hne:∀b∈ρ.rs,b≠p:=fun b hb z=>nl (.inr (z ▸ hb));generalize hH3:upd H2 p (.dK (bI [] us))=H3;have at3:∀b,b≠p->H3 b=H2 b:=fun b hb=>by rw[←hH3,aF hb]
  have C23:Ch ⟨ob2,p::ρ.rs⟩ H2 ⟨ob2++[p],ρ.rs⟩ H3:=by
   refine⟨fun n a e=>?_,fun b o nb eb=>⟨fun z=>?_,?_⟩⟩
   ·show(ob2++[p])[n]?=_;rw[UG (Ui.mp e).1];exact e
   ·rcases z with z | z
    ·rcases U5.mp z with z | z
     ·exact nb (.inl z)
     ·exact nb (.inr (by rw[UC.mp z];exact Uo))
    ·exact nb (.inr (Ur _ z))
   ·rw[at3 b (fun z=>nb (.inr (by rw[z];exact Uo)))];exact eb
  refine k _ _ ⟨⟨ob2++[p],ρ.rs⟩,⟨(Tl.trans T2.toCh).trans C23,rfl,fun b hb=>?_⟩,?_,.ob (by show(ob2++[p])[ha.length]?=_;rw[←S2.len];simp)⟩
  ·rw[at3 b (hne b hb),T2.res b (Ur _ hb)];exact aF (hne b hb)
  ·refine⟨by show(ob2++[p]).length=_;simp;exact S2.len,?_,fun n a x e1 e2=>?_,fun b hb=>?_⟩
   ·show(ob2++[p]).Nodup;rw[Xb];exact⟨S2.nd,by simp,fun a ha b hb z=>npo (by rw[←UC.mp hb,←z];exact ha)⟩
   ·have e1:(ob2++[p])[n]?=some a:=e1;have hlen:ob2.length=ha.length:=S2.len
    by_cases hn:n < ob2.length
    ·rw[UG hn] at e1;rw[UG (by lia)] at e2;exact(S2.at_ n a x e1 e2).mono C23 (at3 a fun z=>npo (z ▸ Ul e1))
    ·have l1:=(Ui.mp e1).1;simp at l1;have hn':n=ob2.length:=by lia
     subst hn';rw[US (Us _)] at e1;rw[US (by lia),hlen] at e2;simp at e1 e2;subst e1;subst e2;exact⟨bI [] us,by rw[←hH3];exact aR,(bg.merge .nil r2).mono C23⟩
   ·obtain⟨⟨o,eo⟩,nb⟩:=S2.vi b (Ur _ hb);refine⟨⟨o,by rw[at3 b (hne b hb)];exact eo⟩,fun z=>?_⟩;rcases U5.mp z with z | z
    ·exact nb z
    ·exact hne b hb (UC.mp z)
 ·rw[Uu z] at e2;cases e2
noncomputable def KO(d e:D)(h:MH):Option (D×MH):=match e with
 | .int n=>(fY d h).bind fun xs=>if 0≤n∧n≤1000∧xs.length≤1000 then some (.lv (List.replicate n.toNat xs).flatten,h) else none
 | _=>none
theorem az.rep{K:FR}{ρ:Ad}{H:Hp}{vs:List V}{ds:List D}(h:az K ρ H vs ds):∀k:Nat,az K ρ H (List.replicate k vs).flatten (List.replicate k ds).flatten
 | 0=>.nil
 | k+1=>by
  rw[V0,V0,Ws,Ws];exact h.append (az.rep h k)
theorem G8:ow X (binaryOp .Mult) KO:=by
 intro pins s σ H x y v u Q I rx ry hh;obtain⟨ρ,h,d,e,z,h',S,rd,re,ee,k⟩:=hh;cases e <;> first |(exact b5 ee) | skip
 rename_i n;obtain⟨xs,e1,e2⟩:=bo (show(fY d h).bind _=_ from ee)
 by_cases c:0≤n∧n≤1000∧xs.length≤1000
 ·rw[Ut c] at e2;cases e2;obtain⟨a,vs,rfl,ha,la⟩:=eC S rd e1;cases re;have hb:xs.length*n.toNat≤1000*1000:=Nat.mul_le_mul c.2.2 (by lia);exact Nt pins s σ H _ _ v u Q I rx ry ⟨a,n,vs,rfl,rfl,ha,by lia,by lia,by rw[la.length,show sizeLine=16777216 from rfl];lia,fun l hl=>k _ _ (.lv S (la.rep _) hl)⟩
 ·rw[Uu c] at e2;cases e2
end Sm
namespace L2
open PySem PySem.Spec PyProof.Rows
theorem uZ:∀(us:List Value)(o:Nat),(∀(j:Nat) v,us[j]?=some v->∃t,v=.int ((o:Int)+j) t)->Vals ((List.range' o us.length).map fun(k:Nat)=>V.int k) us
 | [],_,_=>.nil
 | u::r,o,h=>by
  rw[Uw,List.range'_succ,Uv];obtain⟨t,e⟩:=h 0 u rfl;refine .cons ⟨t,by rw[e];simp⟩ (uZ r (o+1) fun j v hv=>?_);obtain⟨t,e⟩:=h (j+1) v (by simpa using hv);exact⟨t,by rw[e];congr 1;lia⟩
theorem Et(hc:X.calm=true)(hg1:Gl X "list")(hm1:X.mg "list"=none)(hg2:Gl X "range")(hm2:X.mg "range"=none)(hv:bootBuiltins "list"=some (.type "list"))(ha:PA X [a] ta)(hs:starEach [a] X.env=[(false,eval a X.env)]):
  PE X (.Call (.Name "list" p) [.Call (.Name "range" p2) [a] [] pos2] [] pos) (fun σ H Q=>ta σ H fun vs H1=>∃j:Int,vs=[.int j]∧0≤j∧j≤1000∧∀l,H1 l=none->Q (.ref l) (upd H1 l (.lst ((List.range j.toNat).map fun(k:Nat)=>V.int k)))):=by
 intro pins s σ H Q I h;refine V7 (ip I hg1 hm1 hv ?_);refine Vm ?_ rfl rfl;show wpAny _ _ (spliced ((false,eval (.Call (.Name "range" p2) [a] [] pos2) X.env)::backTo pos (starEach [] X.env))) _ _ s;refine Yg ?_;refine V7 (ip I hg2 hm2 boot_range (Vm (cq (ha pos2 pins s σ H _ I h) fun us s1 ⟨vs,H1,I1,r1,q1⟩=>?_) hs rfl));obtain⟨j,e,j0,j1,q⟩:=q1;subst e;cases r1 with
 | cons r rr=>
  cases rr;obtain⟨t,rfl⟩:=r;refine call_range_1 ?_;have I2:Inv X pins σ H1 {s1 with heap:=s1.heap.push {cls:=.type "range",data:=.fields #[.int 0 s1.toks,.int j t,.int 1 (s1.toks+1)]},toks:=s1.toks+1+1}:=I1.kept fun b o e=>Uj _ e;refine Yr ?_;refine call_list_range (n:=j.toNat) (I1.ok.hd hc) (IsRange.new ..) (small_one (by lia) (by lia) (by lia) (by lia)) (by rw[rangeSize_one];split <;> lia) (by lia) fun h' tk acc' c' hk hS' hacc=>?_;have hlen:acc'.toList.length=j.toNat:=by rw[WC];exact hacc.1
  have hv:Vals ((List.range j.toNat).map fun(k:Nat)=>V.int k) acc'.toList:=by
   have:=uZ acc'.toList 0 fun i v hv=>by
    obtain⟨t,e⟩:=hacc.2 i v (by simpa using hv);exact⟨t,by rw[e];congr 1;simp⟩
   rw[hlen] at this;rw[List.range_eq_range'];exact this
  refine⟨.ref _,_,I2.laid (t':=tk) (o:=.lst ((List.range j.toNat).map fun(k:Nat)=>V.int k)) hk (Us _) ⟨by rw[Uh,UI,VH];lia,acc'.toList,c',hv,?_⟩,rfl,q _ (I2.bj.fresh (Us _))⟩;rw[hS']
end L2
namespace Sm
open PySem L2 PySem.Spec PyProof.Rows
noncomputable def OG(m:AM):AM:=fun δ h=>(m δ h).bind fun p=>match p.1 with
 | [.int j]=>if 0≤j∧j≤1000 then some ((List.range j.toNat).map fun(k:Nat)=>D.int k,p.2) else none
 | _=>none
theorem so{K:FR}{ρ:Ad}{H:Hp}:∀l:List Nat,az K ρ H (l.map fun(k:Nat)=>V.int k) (l.map fun(k:Nat)=>D.int k)
 | []=>.nil
 | n::r=>.cons (.int n) (so r)
theorem D2(hc:X.calm=true)(hg1:Gl X "list")(hm1:X.mg "list"=none)(hg2:Gl X "range")(hm2:X.mg "range"=none)(hv:bootBuiltins "list"=some (.type "list"))(ha:SA X [a] m)(hs:starEach [a] X.env=[(false,eval a X.env)]:=by ac_nf):
  t6 X (.Call (.Name "list" p) [.Call (.Name "range" p2) [a] [] pos2] [] pos) (OG m):=(Et hc hg1 hm1 hg2 hm2 hv ha hs).imp fun σ H Q ⟨ρ,δ,h,ds,h',R,S,e,k⟩=>by
 obtain⟨⟨xs,h1⟩,e1,e2⟩:=bo e;dsimp only at e2
 split at e2
 ·rename_i j
  split at e2
  ·rename_i c;cases e2;refine⟨ρ,δ,h,_,_,R,S,e1,fun vs ρ1 H1 T1 S1 r1=>?_⟩;obtain⟨v,rfl,rd⟩:=rep1 r1;cases rd;exact⟨j,rfl,c.1,c.2,fun l hl=>k ρ1 H1 l _ T1 S1 hl (so _)⟩
  ·cases e2
 ·cases e2
noncomputable def OH(ma mb:EM):AM:=fun δ h=>(ma δ h).bind fun p=>(mb δ p.2).bind fun q=>(fY p.1 q.2).bind fun xs=>(fY q.1 q.2).bind fun ys=>if xs.length+ys.length≤sizeLine then some (xs++ys,q.2) else none
theorem Mo(ha:SE X a ma)(hb:SE X b mb):t6 X (.BinOp a .Add b pos) (OH ma mb):=(LB Hg ha hb).imp fun σ H Q ⟨ρ,δ,h,ds,h',R,S,e,k⟩=>by
 obtain⟨⟨x,h1⟩,e1,e2⟩:=bo e;obtain⟨⟨y,h2⟩,e3,e4⟩:=bo e2;obtain⟨xs,e5,e6⟩:=bo e4;obtain⟨ys,e7,e8⟩:=bo e6;dsimp only at e3 e5 e7
 split at e8
 ·rename_i c;cases e8;refine⟨ρ,δ,h,x,h1,R,S,e1,fun v H1 ⟨ρ1,T1,S1,r1⟩=>⟨ρ1,δ,h1,y,h2,R.mono T1.toCh,S1,e3,fun u H2 ⟨ρ2,T2,S2,r2⟩=>?_⟩⟩;obtain⟨a,vs,rfl,hA,lA⟩:=eC S2 (r1.mono T2.toCh) e5;obtain⟨b,us,rfl,hB,lB⟩:=eC S2 r2 e7;exact⟨a,b,vs,us,rfl,rfl,hA,hB,by rw[lA.length,lB.length];exact c,fun p hp=>k ρ2 H2 p (vs++us) (T1.trans T2) S2 hp (lA.append lB)⟩
 ·cases e8
end Sm
namespace Sm
open PySem L2
theorem sG:∀cs:List Int,iA (cs.map D.int)=some (cs.map PyData.int)
 | []=>rfl
 | c::r=>by simp only[Uv,iA,qa,sG r,UT,U4]
theorem mI:∀cs:List Int,PyData.depthAll (cs.map PyData.int)=0
 | []=>rfl
 | c::r=>by simp only[Uv,PyData.depthAll,mI r,PyData.depth];rfl
theorem E8{h:MH}{c:Nat}{cs:List Int}(hc:h[c]?=some (.lst (cs.map D.int))):lu (.ob c) (.lv []) h=some (.bl (!cs.isEmpty),h):=by
 simp only[lu,LK,dY,hc,LJ,Ej,sG,qa,iA,U4,UT,PyData.depth,mI];cases cs <;> rfl
theorem kz(hn:h[n]?=some (.lst xs))(e:g8 xs i=some d):aE (.ob n) (.int i) h=some (d,h):=by
 simp only[aE,dY,hn,cT,UT,e,U4]
theorem Ds(hn:h[n]?=some (.lst xs)):cX [.ob n] h=some (.int xs.length,h):=by
 simp only[cX,dY,hn,cT,U4]
theorem xZ(hn:h[n]?=some (.lst xs))(e:uO xs.length i=some p):uS (.ob n) (.int i) d h=some (h.set n (.lst (xs.set p d))):=by
 simp only[uS,hn,e,U4]
theorem IC(cs:List Int)(i:Int)(h0:0≤i)(h1:i < cs.length):∃z,g8 (cs.map D.int) i=some (.int z):=by
 have hlt:i.toNat < cs.length:=by lia
 refine⟨cs[i.toNat]'hlt,?_⟩;have e:((i.toNat:Nat):Int)=i:=W0 h0;have q:g8 (cs.map D.int) ((i.toNat:Nat):Int)=some (D.int (cs[i.toNat]'hlt)):=rE (by rw[Ux,Um hlt];rfl);rw[e] at q;exact q
theorem IB(h0:0≤i)(h1:i < xs.length):∃v,g8 xs i=some v∧v∈xs:=by
 have hlt:i.toNat < xs.length:=by lia
 have e:((i.toNat:Nat):Int)=i:=W0 h0;have q:g8 xs ((i.toNat:Nat):Int)=some (xs[i.toNat]'hlt):=rE (Um hlt);rw[e] at q;exact⟨_,q,Xq hlt⟩
end Sm
namespace Sm
open PySem
def Rn{α:Type}(o:Option α)(Q:α->Prop):Prop:=∃a,o=some a∧Q a
theorem rv(e:o=some a)(q:Q a):Rn o Q:=⟨a,e,q⟩
theorem Rn.imp(r:Rn o Q)(f:∀a,Q a->Q' a):Rn o Q':=let⟨a,e,q⟩:=r;⟨a,e,f a q⟩
theorem aT(r:Rn o fun a=>Rn (f a) Q):Rn (o.bind f) Q:=by
 obtain⟨a,e,b,e2,q⟩:=r;exact⟨b,by rw[e];exact e2,q⟩
theorem Gs(r:Rn o fun a=>Q (f a)):Rn (o.map f) Q:=by
 obtain⟨a,e,q⟩:=r;exact⟨f a,by rw[e];rfl,q⟩
theorem iE(e:δ[i]?=some (some d))(q:Q (d,h)):Rn (ay i δ h) Q:=⟨(d,h),by unfold ay;rw[e];rfl,q⟩
theorem PV(q:Q (d,h)):Rn (eK d δ h) Q:=⟨_,rfl,q⟩
theorem Bj(r:Rn (a δ h) fun p=>Rn (b δ p.2) fun q=>Rn (f p.1 q.1 q.2) Q):Rn (aj f a b δ h) Q:=aT (r.imp fun _ r=>aT r)
theorem RV(r:Rn (a δ h) fun p=>Rn (f p.1 p.2) Q):Rn (jG f a δ h) Q:=aT r
theorem CN(q:Q ([],h)):Rn (aP δ h) Q:=⟨_,rfl,q⟩
theorem i7(r:Rn (a δ h) fun p=>Rn (m δ p.2) fun q=>Q (p.1::q.1,q.2)):Rn (ae a m δ h) Q:=aT (r.imp fun _ r=>aT (r.imp fun _ q=>⟨_,rfl,q⟩))
theorem Jx(r:Rn (m δ h) fun p=>Rn (f p.1 p.2) Q):Rn (ao f m δ h) Q:=aT r
theorem R3(r:Rn (t δ h) fun p=>(p.1=true->Rn (a δ p.2) Q)∧(p.1=false->Rn (b δ p.2) Q)):Rn (BX t a b δ h) Q:=aT (r.imp fun p ⟨q1,q2⟩=>by
 obtain⟨c,h⟩:=p;cases c with
 | true=>exact q1 rfl
 | false=>exact q2 rfl)
theorem MR(r:Rn (a δ h) fun p=>∃c,p.1=.bl c∧Q (c,p.2)):Rn (aA a δ h) Q:=aT (r.imp fun p ⟨c,e,q⟩=>⟨(c,p.2),by rw[e],q⟩)
theorem MF(r:Rn (a δ h) fun p=>∃c,yH p.1 p.2=some c∧Q (c,p.2)):Rn (ia a δ h) Q:=aT (r.imp fun p ⟨c,e,q⟩=>⟨(c,p.2),by rw[e];rfl,q⟩)
theorem MG(r:Rn (t δ h) fun p=>Q (!p.1,p.2)):Rn (Sm.rO t δ h) Q:=Gs r
theorem MI(r:Rn (a δ h) fun p=>(p.1=true->Rn (b δ p.2) Q)∧(p.1=false->Q (false,p.2))):Rn (Sm.lj a b δ h) Q:=aT (r.imp fun p ⟨q1,q2⟩=>by
 obtain⟨c,h⟩:=p;cases c with
 | true=>exact q1 rfl
 | false=>exact⟨_,rfl,q2 rfl⟩)
theorem PN(r:Rn (a δ h) fun p=>(p.1=true->Q (true,p.2))∧(p.1=false->Rn (b δ p.2) Q)):Rn (Sm.Cu a b δ h) Q:=aT (r.imp fun p ⟨q1,q2⟩=>by
 obtain⟨c,h⟩:=p;cases c with
 | true=>exact⟨_,rfl,q1 rfl⟩
 | false=>exact q2 rfl)
theorem P1(r:Rn (a δ h) fun p=>∃c,p.1=.bl c∧(c=true->Rn (b δ p.2) Q)∧(c=false->Q (.bl false,p.2))):Rn (yb a b δ h) Q:=aT (r.imp fun p ⟨c,e,q1,q2⟩=>by
 rw[e];cases c with
 | true=>exact q1 rfl
 | false=>exact⟨_,rfl,q2 rfl⟩)
theorem RW(r:Rn (a δ h) fun p=>∃c,p.1=.bl c∧(c=true->Q (.bl true,p.2))∧(c=false->Rn (b δ p.2) Q)):Rn (SJ a b δ h) Q:=aT (r.imp fun p ⟨c,e,q1,q2⟩=>by
 rw[e];cases c with
 | true=>exact⟨_,rfl,q1 rfl⟩
 | false=>exact q2 rfl)
theorem RZ(r:Rn (m δ h) fun p=>Q (.lv p.1,p.2)):Rn (iB m δ h) Q:=Gs r
theorem RX(r:Rn (m δ h) fun p=>Q (.ob p.2.length,p.2++[.lst p.1])):Rn (Dw m δ h) Q:=Gs r
theorem GI(r:Rn (m δ h) fun p=>∃d xs ws,p.1=[d]∧cT d p.2=some (xs,ws)∧Q (xs,p.2)):Rn (DL m δ h) Q:=aT (r.imp fun p ⟨d,xs,ws,e,e2,q⟩=>⟨(xs,p.2),by rw[e];dsimp only;rw[e2];rfl,q⟩)
theorem PQ(q:Q (none,h)):Rn (zr δ h) Q:=⟨_,rfl,q⟩
theorem PR(r:Rn (a δ h) fun p=>∃i,p.1=.int i∧Q (some i,p.2)):Rn (zt a δ h) Q:=aT (r.imp fun p ⟨c,e,q⟩=>⟨_,by rw[e],q⟩)
abbrev SQ:=Fl×DS×MH->Prop
theorem MJ(q:Q (.nx,δ,h)):Rn (bG δ h) Q:=⟨_,rfl,q⟩
theorem ML(q:Q (.bk,δ,h)):Rn (Jt δ h) Q:=⟨_,rfl,q⟩
def vb(b:SM)(Q:SQ):SQ:=fun r=>match r.1 with
 | .nx=>Rn (b r.2.1 r.2.2) Q
 | _=>Q r
theorem lH(r:Rn (a δ h) (vb b Q)):Rn (ah a b δ h) Q:=aT (r.imp fun p q=>by
 obtain⟨f,δ',h'⟩:=p;cases f with
 | nx=>exact q
 | bk=>exact⟨_,rfl,q⟩
 | ct=>exact⟨_,rfl,q⟩
 | rt d=>exact⟨_,rfl,q⟩)
theorem GF(r:Rn (e δ h) fun p=>Q (.nx,δ.set i (some p.1),p.2)):Rn (aJ i e δ h) Q:=aT (r.imp fun _ q=>⟨_,rfl,q⟩)
theorem LA(r:Rn (e δ h) fun p=>Rn (g p.1 δ p.2) fun q=>Q (.nx,q.1,q.2)):Rn (eU e g δ h) Q:=aT (r.imp fun _ r=>aT (r.imp fun _ q=>⟨_,rfl,q⟩))
theorem GJ(r:Rn (e δ h) fun p=>Q (.nx,δ,p.2)):Rn (gw e δ h) Q:=aT (r.imp fun _ q=>⟨_,rfl,q⟩)
theorem GG(r:Rn (e δ h) fun p=>Q (.rt p.1,δ,p.2)):Rn (aG e δ h) Q:=aT (r.imp fun _ q=>⟨_,rfl,q⟩)
theorem Lz(r:Rn (t δ h) fun p=>(p.1=true->Rn (a δ p.2) Q)∧(p.1=false->Rn (b δ p.2) Q)):Rn (fw t a b δ h) Q:=aT (r.imp fun p ⟨q1,q2⟩=>by
 obtain⟨c,h⟩:=p;cases c with
 | true=>exact q1 rfl
 | false=>exact q2 rfl)
theorem PU(r:Rn (m δ h) fun p=>∃a b,p.1=[a,b]∧Q (.nx,(δ.set i (some a)).set j (some b),p.2)):Rn (wZ i j m δ h) Q:=aT (r.imp fun p ⟨a,b,e,q⟩=>⟨_,by rw[e],q⟩)
theorem El(q:Q (δ.set i (some d),h)):Rn (gN i d δ h) Q:=⟨_,rfl,q⟩
theorem MP(r:Rn (o δ h) fun p=>Rn (i δ p.2) fun q=>Rn (uS p.1 q.1 v q.2) fun h'=>Q (δ,h')):Rn (Sm.uQ o i v δ h) Q:=aT (r.imp fun _ r=>aT (r.imp fun _ r=>Gs r))
theorem MN(hn:xs.length=n)(r:Rn (u xs δ h) Q):Rn (gT n u (.tup xs) δ h) Q:=by
 unfold gT;dsimp only;rw[Ut hn];exact r
theorem iF(r:Rn (g d δ h) fun p=>Rn (u xs p.1 p.2) Q):Rn (ai g u (d::xs) δ h) Q:=aT r
theorem xo(q:Q (δ,h)):Rn (bA [] δ h) Q:=⟨_,rfl,q⟩
def Bc(Q:D×MH->Prop):SQ:=fun r=>match r.1 with
 | .rt d=>Q (d,r.2.2)
 | .nx=>Q (.bz,r.2.2)
 | _=>False
theorem Sl(q:Q (d,h)):Bc Q (.rt d,δ,h):=q
theorem Sn(q:Q (.bz,h)):Bc Q (.nx,δ,h):=q
theorem FN(r:Rn (b δ h) Q):vb b Q (.nx,δ,h):=r
theorem Rw(q:Q (.rt d,δ,h)):vb b Q (.rt d,δ,h):=q
theorem Rx(q:Q (.bk,δ,h)):vb b Q (.bk,δ,h):=q
def zM(I:DS->MH->Prop)(Q:SQ):SQ:=fun z=>match z.1 with
 | .nx=>I z.2.1 z.2.2
 | .ct=>I z.2.1 z.2.2
 | .bk=>Q (.nx,z.2.1,z.2.2)
 | .rt d=>Q (.rt d,z.2.1,z.2.2)
theorem Su(q:I δ h):zM I Q (.nx,δ,h):=q
theorem Sv(q:Q (.nx,δ,h)):zM I Q (.bk,δ,h):=q
theorem Ss(q:Q (.rt d,δ,h)):zM I Q (.rt d,δ,h):=q
theorem aZ(r:Rn (b (entry len ds) h) (Bc Q)):Rn (fW len b ds h) Q:=aT (r.imp fun p q=>by
 obtain⟨f,δ',h'⟩:=p;cases f with
 | nx=>exact⟨_,rfl,q⟩
 | rt d=>exact⟨_,rfl,q⟩
 | bk=>exact q.elim
 | ct=>exact q.elim)
theorem PZ(r:Rn (i δ h) fun p=>Rn (nN p.2.1 g b p.1 δ p.2.2) Q):Rn (jY i g b δ h) Q:=aT r
theorem dO:∀{xs:List D} {δ:DS} {h:MH} (I:Nat->DS->MH->Prop),I 0 δ h->(∀i δ h,i≤xs.length->I i δ h->lC ws h=true)->
  (∀i x δ h,xs[i]?=some x->I i δ h->Rn (g x δ h) fun q=>Rn (b q.1 q.2) (zM (I (i+1)) Q))->(∀δ h,I xs.length δ h->Q (.nx,δ,h))->Rn (nN ws g b xs δ h) Q
 | [],δ,h,I,h0,hc,_,hq=>by
  unfold nN;rw[Ut (hc 0 δ h (Us _) h0)];exact⟨_,rfl,hq δ h h0⟩
 | x::xs,δ,h,I,h0,hc,ht,hq=>by
  unfold nN;rw[Ut (hc 0 δ h (Va _) h0)];obtain⟨q,e1,z,e2,hz⟩:=ht 0 x δ h rfl h0;rw[e1];show Rn ((b q.1 q.2).bind _) Q;rw[e2];obtain⟨f,δ',h'⟩:=z;have next:I 1 δ' h'->Rn (nN ws g b xs δ' h') Q:=fun hi=>dO (fun i=>I (i+1)) hi (fun i δ h hl=>hc (i+1) δ h (Wg hl)) (fun i x δ h hx=>ht (i+1) x δ h (by simpa using hx)) hq
  cases f with
  | nx=>exact next hz
  | ct=>exact next hz
  | bk=>exact⟨_,rfl,hz⟩
  | rt d=>exact⟨_,rfl,hz⟩
theorem eV(r:Rn (e δ h) fun p=>∃xs ws,cT p.1 p.2=some (xs,ws)∧Q (xs,ws,p.2)):Rn (iq e δ h) Q:=aT (r.imp fun p ⟨xs,ws,e,q⟩=>⟨(xs,ws,p.2),by rw[e];rfl,q⟩)
theorem gx(r:Rn (m δ h) fun p=>∃j:Int,p.1=[.int j]∧-(2^62)≤j∧j < 2^62∧Q ((List.range j.toNat).map fun(k:Nat)=>D.int (k:Int),[],p.2)):Rn (mG m δ h) Q:=aT (r.imp fun p ⟨j,e,h1,h2,q⟩=>by
 rw[e];dsimp only;rw[Ut ⟨h1,h2⟩];exact⟨_,rfl,q⟩)
theorem kS(r:Rn (m δ h) fun p=>∃d xs ws,p.1=[d]∧cT d p.2=some (xs,ws)∧Q (jy 0 xs,ws,p.2)):Rn (qk m δ h) Q:=
 aT (r.imp fun p ⟨d,xs,ws,e1,e2,q⟩=>⟨_,by rw[e1];dsimp only;rw[e2];rfl,q⟩)
theorem MQ(r:Rn (i δ h) fun p=>Rn (bB p.2.1 g c e p.1 (lK caps δ) p.2.2) fun q=>q.1.length≤sizeLine∧Q q):Rn (dE caps i g c e δ h) Q:=
 aT (r.imp fun p r=>aT (r.imp fun q ⟨hz,hq⟩=>⟨q,by rw[Ut hz],hq⟩))
theorem xq(hc:lC ws h=true)(f:D->Option D)(J:DS->Prop):∀{xs:List D} {δ:DS},J δ->
  (∀x∈xs,∀δ,J δ->Rn (g x δ h) fun q=>q.2=h∧Rn (c q.1 h) fun t=>t.2=h∧J q.1∧(t.1=true->∃y,f x=some y∧Rn (e q.1 h) fun p=>p=(y,h))∧(t.1=false->f x=none))->
  bB ws g c e xs δ h=some (xs.filterMap f,h)
 | [],δ,_,_=>by unfold bB;rw[Ut hc];rfl
 | x::xs,δ,hJ,ht=>by
  unfold bB;rw[Ut hc];obtain⟨⟨δ1,h1⟩,e1,rfl,⟨t,h2⟩,e2,rfl,J1,q1,q2⟩:=ht x Uo δ hJ;rw[e1];dsimp only[Option.bind_some] at e2 q1 q2 ⊢;rw[e2];dsimp only[Option.bind_some];have ih:=xq hc f J J1 (xs:=xs) fun y hy=>ht y (Ur _ hy);cases t with
  | true=>
   obtain⟨y,ef,p,ep,rfl⟩:=q1 rfl;rw[Ut rfl,ep];dsimp only[Option.bind_some];rw[ih,VC,ef];rfl
  | false=>
   rw[Uu (by simp),ih,VC,q2 rfl]
theorem zl(h:k∉kvs.map (·.1)):putD kvs k v=kvs++[(k,v)]:=by
 unfold putD;rw[Uu];intro z;obtain⟨p,hp,e⟩:=WB.mp z;exact h (UR.mpr ⟨p,hp,Vk e⟩)
theorem x4(hd:dY d h=some kvs)(hv:dN kvs (.inr x)=some v):aE d (.str x) h=some (v,h):=by
 simp only[aE,hd,qS,UT,hv,U4]
end Sm
namespace Sm
theorem ME(q:Q (d,h))(e:δ[i]?=some (some d):=by with_unfolding_all rfl):Rn (ay i δ h) Q:=iE e q
theorem PY(r:Rn (u xs δ h) Q)(hn:xs.length=n:=by with_unfolding_all rfl):Rn (gT n u (.tup xs) δ h) Q:=MN hn r
end Sm
namespace Sm
open PySem L2
theorem xr:∀(xs:List D)(P:List D->DS->MH->α->Prop)(δ:DS)(h:MH)(a:α),P xs δ h a->
  (∀x r δ h a,P (x::r) δ h a->lC ws h=true∧Rn (g x δ h) fun q=>Rn (c q.1 q.2) fun t=>if t.1=true then Rn (m q.1 t.2 a) fun z=>P r z.1 z.2.1 z.2.2 else P r q.1 t.2 a)->
  (∀δ h a,P [] δ h a->lC ws h=true∧Q (δ,h,a))->Rn (dD ws g c m xs δ h a) Q
 | [],P,δ,h,a,p,_,fin=>by
  obtain⟨hc,q⟩:=fin δ h a p;exact⟨_,by unfold dD;rw[Ut hc],q⟩
 | x::r,P,δ,h,a,p,step,fin=>by
  obtain⟨hc,q,e1,t,e2,q3⟩:=step x r δ h a p;unfold dD;rw[Ut hc,e1];show Rn ((c q.1 q.2).bind _) Q;rw[e2];show Rn (if t.1=true then _ else _) Q
  by_cases z:t.1=true
  ·rw[Ut z] at q3 ⊢;obtain⟨y,e3,q4⟩:=q3;rw[e3];exact xr r P _ _ _ q4 step fin
  ·rw[Uu z] at q3 ⊢;exact xr r P _ _ _ q3 step fin
theorem P0{α:Type}{caps:List (Option Nat)}{i:IM}{g:GM}{c:TM}{m:MK α}{a0:α}{out:α->D}{Q:D×MH->Prop}(hh:Rn (i δ h) fun p=>Rn (dD p.2.1 g c m p.1 (lK caps δ) p.2.2 a0) fun q=>Q (out q.2.2,q.2.1)):Rn (KU caps i g c m a0 out δ h) Q:=
 aT (hh.imp fun p r=>Gs r)
theorem RY(hh:Rn (k δ h) fun p=>Rn (v δ p.2) fun q=>∃kk,qS p.1=some kk∧a.length < sizeLine∧Q (δ,q.2,putD a kk q.1)):Rn (mD k v δ h a) Q:=
 aT (hh.imp fun p r=>aT (r.imp fun q ⟨kk,e1,l,k⟩=>by rw[e1];show Rn (if a.length < sizeLine then _ else _) Q;rw[Ut l];exact⟨_,rfl,k⟩))
theorem Jy(hh:Rn (m δ h) fun p=>Rn (s δ p.2) fun q=>q.1=.int (-1)∧∃xs ws,cT p.1 q.2=some (xs,ws)∧Q (if qT p.1=true then .lv xs.reverse else .tup xs.reverse,q.2)):Rn (Dv m s δ h) Q:=
 aT (hh.imp fun p x=>aT (x.imp fun q ⟨e1,xs,ws,e2,k⟩=>by rw[e1];show Rn (if(-1:Int)=-1 then _ else _) Q;rw[Ut rfl,e2];exact⟨_,rfl,k⟩))
theorem xp(hh:Rn (a δ h) fun p=>Rn (l δ p.2) fun q=>Rn (u δ q.2) fun r=>Rn (pR p.1 q.1 r.1 r.2) Q):Rn (kA a l u δ h) Q:=aT (hh.imp fun _ x=>aT (x.imp fun _ y=>aT y))
theorem GK(hh:Rn (ma δ h) fun p=>Rn (mb δ p.2) fun q=>Rn (f p.1 q.1 q.2) fun r=>∃b,r.1=.bl b∧if b=true then Rn (mc δ r.2) fun u=>Rn (f' q.1 u.1 u.2) Q else Q (.bl false,r.2)):Rn (x9 f f' ma mb mc δ h) Q:=
 aT (hh.imp fun p x=>aT (x.imp fun q y=>aT (y.imp fun r ⟨b,e,k⟩=>by
  rw[e];cases b with
  | true=>rw[Ut rfl] at k;exact aT k
  | false=>rw[Uu (by simp)] at k;exact⟨_,rfl,k⟩)))
theorem O5(q:Q (.tup ds,h)):Rn (aD ds h) Q:=⟨_,rfl,q⟩
theorem O7(q:Q (.int (-a),h)):Rn (cS (.int a) h) Q:=⟨_,rfl,q⟩
theorem w_add(q:Q (.int (a+b),h)):Rn (aN (.int a) (.int b) h) Q:=⟨_,rfl,q⟩
theorem w_sub(q:Q (.int (a-b),h)):Rn (xY (.int a) (.int b) h) Q:=⟨_,rfl,q⟩
theorem w_lt(q:Q (.bl (decide (a < b)),h)):Rn (IX (.int a) (.int b) h) Q:=⟨_,rfl,q⟩
theorem Rq(q:Q (.bl (decide (b < a)),h)):Rn (HN (.int a) (.int b) h) Q:=⟨_,rfl,q⟩
theorem Rr(q:Q (.bl (decide (b≤a)),h)):Rn (Qv (.int a) (.int b) h) Q:=⟨_,rfl,q⟩
theorem Pc(q:Q (.bl (a==b),h)):Rn (cj (.int a) (.int b) h) Q:=⟨_,rfl,q⟩
theorem Pb(q:Q (.bl (x==y),h)):Rn (cj (.str x) (.str y) h) Q:=⟨_,rfl,q⟩
theorem Pa(q:Q (d,h)):Rn (aE (.tup (d::r)) (.int 0) h) Q:=⟨_,by
 show((g8 (d::r) 0).map fun z=>(z,h))=_;have:g8 (d::r) 0=some d:=by unfold g8;rw[show uO (d::r).length 0=some 0 by unfold uO;simp;try lia];rfl
 rw[this];rfl,q⟩
theorem O9(q:Q (e,h)):Rn (aE (.tup (d::e::r)) (.int 1) h) Q:=⟨_,by
 show((g8 (d::e::r) 1).map fun z=>(z,h))=_;have:g8 (d::e::r) 1=some e:=by unfold g8;rw[show uO (d::e::r).length 1=some 1 by unfold uO;simp;try lia];rfl
 rw[this];rfl,q⟩
theorem O8(q:Q (f,h)):Rn (aE (.tup (d::e::f::r)) (.int 2) h) Q:=⟨_,by
 show((g8 (d::e::f::r) 2).map fun z=>(z,h))=_;have:g8 (d::e::f::r) 2=some f:=by unfold g8;rw[show uO (d::e::f::r).length 2=some 2 by unfold uO;simp;try lia];rfl
 rw[this];rfl,q⟩
theorem L0(q:Q (.int r.length,h)):Rn (cX [.lv r] h) Q:=⟨_,rfl,q⟩
inductive p6{α β:Type}(R:α->β->Prop):List α->List β->Prop where
 | nil:p6 R [] []
 | cons {x y xs ys}:R x y->p6 R xs ys->p6 R (x::xs) (y::ys)
theorem p6.length:∀{xs:List α} {ys:List β},p6 R xs ys->ys.length=xs.length
 | _,_,.nil=>rfl
 | _,_,.cons _ t=>by rw[Uw,Uw,p6.length t]
theorem p6.right:∀{xs:List α} {ys:List β},p6 R xs ys->∀y∈ys,∃x∈xs,R x y
 | _,_,.nil,_,h=>by cases h
 | _,_,.cons r t,y,h=>by
  rcases UE.mp h with rfl | h
  ·exact⟨_,Uo,r⟩
  ·obtain⟨x,hx,r⟩:=p6.right t y h;exact⟨x,Ur _ hx,r⟩
theorem ng(R:D->D->Prop):∀{xs:List D} {δ:DS} {h:MH} (J:Nat->DS->MH->Prop),J 0 δ h->(∀i δ h,i≤xs.length->J i δ h->lC ws h=true)->
  (∀i x δ h,xs[i]?=some x->J i δ h->Rn (g x δ h) fun q=>Rn (e q.1 q.2) fun y=>R x y.1∧J (i+1) q.1 y.2)->Rn (bB ws g bU e xs δ h) fun p=>p6 R xs p.1∧∃δ',J xs.length δ' p.2
 | [],δ,h,J,hJ,hc,_=>by
  unfold bB;rw[Ut (hc 0 δ h (Us _) hJ)];exact⟨_,rfl,.nil,δ,hJ⟩
 | x::xs,δ,h,J,hJ,hc,ht=>by
  unfold bB;rw[Ut (hc 0 δ h (Va _) hJ)];obtain⟨⟨δ1,h1⟩,e1,⟨y,h2⟩,e2,r,J1⟩:=ht 0 x δ h rfl hJ;dsimp only at e2 r J1;obtain⟨⟨ys,h3⟩,e3,a,δ',J2⟩:=ng R (xs:=xs) (fun i=>J (i+1)) J1 (fun i δ h hl=>hc (i+1) δ h (Wg hl)) fun i y δ h hy=>ht (i+1) y δ h (by simpa using hy);refine⟨(y::ys,h3),?_,.cons r a,δ',J2⟩;rw[e1];dsimp only[Option.bind_some];show((some (true,h1)).bind _)=_;dsimp only[Option.bind_some];rw[Ut rfl,e2];dsimp only[Option.bind_some];rw[e3];rfl
theorem rm(R:D->D->Prop):∀{xs:List D} {δ:DS} {h:MH} (J:Nat->DS->MH->Prop),J 0 δ h->(∀i δ h,i≤xs.length->J i δ h->lC ws h=true)->
  (∀i x δ h,xs[i]?=some x->J i δ h->Rn (g x δ h) fun q=>Rn (c q.1 q.2) fun t=>(t.1=true->Rn (e q.1 t.2) fun y=>R x y.1∧J (i+1) q.1 y.2)∧(t.1=false->J (i+1) q.1 t.2))->Rn (bB ws g c e xs δ h) fun p=>p.1.length≤xs.length∧(∀y∈p.1,∃x∈xs,R x y)∧∃δ',J xs.length δ' p.2
 | [],δ,h,J,hJ,hc,_=>by
  unfold bB;rw[Ut (hc 0 δ h (Us _) hJ)];exact⟨_,rfl,Us _,fun _ z=>(nomatch z),δ,hJ⟩
 | x::xs,δ,h,J,hJ,hc,ht=>by
  unfold bB;rw[Ut (hc 0 δ h (Va _) hJ)];obtain⟨⟨δ1,h1⟩,e1,⟨t,h2⟩,e2,q1,q2⟩:=ht 0 x δ h rfl hJ;dsimp only at e2 q1 q2;rw[e1];dsimp only[Option.bind_some];rw[e2];dsimp only[Option.bind_some];have next:=fun {δ':DS} {h':MH} (J1:J 1 δ' h')=>rm R (xs:=xs) (fun i=>J (i+1)) J1 (fun i δ h hl=>hc (i+1) δ h (Wg hl)) fun i y δ h hy=>ht (i+1) y δ h (by simpa using hy)
  cases t with
  | true=>
   obtain⟨⟨y,h3⟩,e3,r,J1⟩:=q1 rfl;dsimp only at r J1;obtain⟨⟨ys,h4⟩,e4,l,a,δ',J2⟩:=next J1
   refine⟨(y::ys,h4),?_,Wg l,fun z hz=>?_,δ',J2⟩
   ·rw[Ut rfl,e3];dsimp only[Option.bind_some];rw[e4];rfl
   ·rcases UE.mp hz with rfl | hz
    ·exact⟨x,Uo,r⟩
    ·obtain⟨u,hu,r⟩:=a z hz;exact⟨u,Ur _ hu,r⟩
  | false=>
   obtain⟨⟨ys,h4⟩,e4,l,a,δ',J2⟩:=next (q2 rfl)
   refine⟨(ys,h4),?_,Vt l,fun z hz=>?_,δ',J2⟩
   ·rw[Uu (by decide),e4]
   ·obtain⟨u,hu,r⟩:=a z hz;exact⟨u,Ur _ hu,r⟩
theorem QC(r:Rn (e δ h) fun p=>Rn (b (δ.set i (some p.1)) p.2) Q):Rn (ah (aJ i e) b δ h) Q:=lH (GF (r.imp fun _ q=>FN q))
theorem QH(r:Rn (e δ h) fun p=>Rn (g p.1 δ p.2) fun q=>Rn (b q.1 q.2) Q):Rn (ah (eU e g) b δ h) Q:=lH (LA (r.imp fun _ q=>q.imp fun _ q=>FN q))
theorem Ov(r:Rn (e δ h) fun p=>Rn (b δ p.2) Q):Rn (ah (gw e) b δ h) Q:=lH (GJ (r.imp fun _ q=>FN q))
theorem Ub(r:Rn (m δ h) fun q=>Q (d::q.1,q.2))(e:δ[i]?=some (some d):=by with_unfolding_all rfl):Rn (ae (ay i) m δ h) Q:=i7 (iE e r)
theorem Uc(r:Rn (m δ h) fun q=>Q (d::q.1,q.2)):Rn (ae (eK d) m δ h) Q:=i7 (PV r)
theorem SV(r:Rn (f [d] h) Q)(e:δ[i]?=some (some d):=by with_unfolding_all rfl):Rn (ao f (ae (ay i) aP) δ h) Q:=Jx (i7 (iE e (CN r)))
theorem SU(r:Rn (f [d,d'] h) Q)(e:δ[i]?=some (some d):=by with_unfolding_all rfl)(e':δ[j]?=some (some d'):=by with_unfolding_all rfl):Rn (ao f (ae (ay i) (ae (ay j) aP)) δ h) Q:=Jx (i7 (iE e (i7 (iE e' (CN r)))))
theorem SR(r:Rn (f [d,d',d''] h) Q)(e:δ[i]?=some (some d):=by with_unfolding_all rfl)(e':δ[j]?=some (some d'):=by with_unfolding_all rfl)(e'':δ[k]?=some (some d''):=by with_unfolding_all rfl):Rn (ao f (ae (ay i) (ae (ay j) (ae (ay k) aP))) δ h) Q:=Jx (i7 (iE e (i7 (iE e' (i7 (iE e'' (CN r)))))))
theorem QE(r:Rn (f d c h) Q)(e:δ[i]?=some (some d):=by with_unfolding_all rfl):Rn (aj f (ay i) (eK c) δ h) Q:=Bj (iE e (PV r))
theorem QD(r:Rn (f d d' h) Q)(e:δ[i]?=some (some d):=by with_unfolding_all rfl)(e':δ[j]?=some (some d'):=by with_unfolding_all rfl):Rn (aj f (ay i) (ay j) δ h) Q:=Bj (iE e (iE e' r))
theorem SN(r:Rn (b δ h) fun q=>Rn (f d q.1 q.2) Q)(e:δ[i]?=some (some d):=by with_unfolding_all rfl):Rn (aj f (ay i) b δ h) Q:=Bj (iE e r)
theorem SO(r:Rn (a δ h) fun q=>Rn (f q.1 c q.2) Q):Rn (aj f a (eK c) δ h) Q:=Bj (r.imp fun _ r=>PV r)
theorem QG(q:Q ((δ.set i (some a)).set j (some b),h)):Rn (gT 2 (ai (gN i) (ai (gN j) bA)) (.tup [a,b]) δ h) Q:=MN rfl (iF (El (iF (El (xo q)))))
theorem QF(q:Q (((δ.set i (some a)).set j (some b)).set k (some c),h)):Rn (gT 3 (ai (gN i) (ai (gN j) (ai (gN k) bA))) (.tup [a,b,c]) δ h) Q:=MN rfl (iF (El (iF (El (iF (El (xo q)))))))
theorem Oq(q:Q (.rt d,δ,h))(e:δ[i]?=some (some d):=by with_unfolding_all rfl):Rn (aG (ay i) δ h) Q:=GG (iE e q)
theorem Ot(q:Q (.rt d,δ,h)):Rn (aG (eK d) δ h) Q:=GG (PV q)
end Sm
namespace L2
open PySem PySem.Spec PyProof.Rows
abbrev Sr:Hp:=fun _=>none
structure Tab(P:Program)(w:World)(K:FR)(mg:Str->Option Value)(nm:Str)(tb:List (Str×List Int)):Prop where
 ex:∃(a:Addr)(o:Obj)(es:Array DictEntry)(ep:Nat)(kvs:List (Str×Value)),mg nm=some (.ref a)∧K.lookup a=some o∧o.ExactDict∧o.data=.dict es ep∧(a==sysModules)=false∧KeysOf (strKind P w) es∧Pairs (strKind P w) es.toList kvs∧(kvs.map (·.1)).Nodup∧
  Sm.p6 (fun(x:Str×List Int)(y:Str×Value)=>x.1=y.1∧∃(t:Addr)(u:Obj)(its:Array Value)(n:Nat),y.2=.ref t∧K.lookup t=some u∧u.cls=.type "tuple"∧u.dict=none∧u.data=.seq its n∧its.size≤sizeLine∧IntsAre its.toList x.2) tb kvs
theorem DX{K:FR}:∀{tb:List (Str×List Int)} {kvs:List (Str×Value)},Sm.p6 (fun(x:Str×List Int)(y:Str×Value)=>x.1=y.1∧∃(t:Addr)(u:Obj)(its:Array Value)(n:Nat),y.2=.ref t∧K.lookup t=some u∧u.cls=.type "tuple"∧u.dict=none∧u.data=.seq its n∧its.size≤sizeLine∧IntsAre its.toList x.2) tb kvs->∀x:Str,
  (∀is,tb.lookup x=some is->∃t,valueAt kvs x=some (.ref t)∧∀H,jD K H t (is.map V.int))∧(valueAt kvs x).isSome=(tb.lookup x).isSome:=by
 intro tb kvs h
 induction h with
 | nil=>exact fun x=>⟨fun is e=>(nomatch e),rfl⟩
 | @cons p q tb kvs r l ih=>
  intro x;obtain⟨a,is0⟩:=p;obtain⟨b,v⟩:=q;obtain⟨e0,t,u,its,n,e1,h1,h2,h3,h4,h5,h6⟩:=r;dsimp only at e0 e1 h6;subst e0;subst e1
  by_cases hx:x=a
  ·subst hx;have hv:valueAt ((x,Value.ref t)::kvs) x=some (.ref t):=by unfold valueAt;simp
   have hl:((x,is0)::tb).lookup x=some is0:=by simp
   refine⟨fun is e=>?_,by rw[hv,hl];rfl⟩;rw[hl] at e;cases e;exact⟨t,hv,fun H=>.inr ⟨u,its,n,h1,h2,h4,h5,kK h6,h3⟩⟩
  ·have hv:valueAt ((a,Value.ref t)::kvs) x=valueAt kvs x:=by
    unfold valueAt;rw[YU (by simpa using fun z=>hx z.symm)]
   have hl:((a,is0)::tb).lookup x=tb.lookup x:=by
    rw[Vi,show(x==a)=false by simpa using hx]
   rw[hv,hl];exact ih x
theorem Tab.dict(T:Tab X.prog X.w X.K X.mg nm tb)(I:Inv X pins σ H s):∃(a:Addr)(kvs:List (Str×Value)),X.mg nm=some (.ref a)∧(a==sysModules)=false∧s.heap.DictOf (strKind X.prog X.w) a kvs∧∀x:Str,
  (∀is,tb.lookup x=some is->∃t,valueAt kvs x=some (.ref t)∧∀H,jD X.K H t (is.map V.int))∧(valueAt kvs x).isSome=(tb.lookup x).isSome:=by
 obtain⟨a,o,es,ep,kvs,h1,h2,h3,h4,h5,h6,h7,h8,h9⟩:=T.ex;exact⟨a,kvs,h1,h5,⟨o,es,ep,I.xR a o h2,h3,h4,h6,h7,h8⟩,DX h9⟩
theorem M8(T:Tab X.prog X.w X.K X.mg nm tb)(hg:Gl X nm)(hi:PE X i ti)(hs:Lj i)(hd:(nm==("__debug__":Str))=false):
  PE X (.Subscript (.Name nm p) i pos) (fun σ H Q=>ti σ H fun y H1=>∃x is,y=.str x∧tb.lookup x=some is∧∀t,jD X.K Sr t (is.map V.int)->Q (.ref t) H1):=by
 intro pins s σ H Q I h;obtain⟨a,kvs,hm,hsm,dd,hv⟩:=T.dict I;refine Ji Yv.lookup hs (C1 I hg hm (cq (hi pins s σ H _ I h) fun iv s2 ⟨y,H2,I2,ry,x,is,ey,l,q⟩=>?_) hd);subst ey;obtain⟨t,rfl⟩:=ry;obtain⟨a',kvs',hm',hsm',dd',hv'⟩:=T.dict I2;rw[hm] at hm';cases hm';obtain⟨u,e,sq⟩:=(hv' x).1 is l;exact⟨dd'.typeIs,wpAny_getItem_of (by show Value.isStrOf x (.str x t)=true;unfold Value.isStrOf;simp) dd'.mapOf e ⟨.ref u,H2,I2.tok _,rfl,q u (sq _)⟩⟩
end L2
namespace Sm
open PySem L2 PySem.Spec PyProof.Rows
noncomputable def NY(tb:List (Str×List Int))(d:D)(h:MH):Option (D×MH):=match d with
 | .str x=>(tb.lookup x).map fun is=>(.tup (is.map D.int),h)
 | _=>none
theorem Mq(T:Tab X.prog X.w X.K X.mg nm tb)(hi:SE X i mi)(hg:Gl X nm:=by unfold Gl;ac_nf)(hs:Lj i:=by unfold Lj;intro _ _;ac_nf)(hd:(nm==("__debug__":Str))=false:=by ac_nf):SE X (.Subscript (.Name nm p) i pos) (jG (NY tb) mi):=
 (M8 T hg hi hs hd).imp fun σ H Q ⟨ρ,δ,h,d,h',R,S,e,k⟩=>by
  obtain⟨⟨x,h1⟩,e1,e2⟩:=bo e;dsimp only at e2;refine⟨ρ,δ,h,x,h1,R,S,e1,fun v H1 ⟨ρ1,T1,S1,r1⟩=>?_⟩;unfold NY at e2
  split at e2
  ·rename_i y;obtain⟨is,e3,e4⟩:=fO e2;cases e4;cases r1;exact⟨_,is,rfl,e3,fun t sq=>k _ _ ⟨ρ1,T1,S1,.tup (.inr sq) (repL_ints' is)⟩⟩
  ·cases e2
end Sm
namespace Hd
open PySem PySem.W PySem.Spec PyProof.Rows L2 Sm
abbrev Sub(h h':Heap):Prop:=∀b o,h.get? b=some o->h'.get? b=some o
theorem A9(k:Sub h h')(x:rowAt h e=some r):rowAt h' e=some r:=by
 unfold rowAt at x ⊢
 split at x
 ·split at x
  ·split at x
   ·rename_i u hu;rw[k _ _ hu];exact x
   ·cases x
  ·cases x
 ·cases x
theorem p8(k:Sub h h'):∀{es:List DictEntry} {r:List (Str×Int×List Int)},l9 h es=some r->l9 h' es=some r
 | [],_,x=>x
 | e::es,r,x=>by
  unfold l9 at x ⊢;obtain⟨y,e1,x⟩:=Xn.mp x;obtain⟨ys,e2,x⟩:=Vh.mp x;rw[A9 k e1,p8 k e2];exact congrArg some x
theorem AH(k:Sub h h')(x:tabAt h nm=some r):tabAt h' nm=some r:=by
 have hg:∀v,h.nsMap mainGlobals nm=some v->h'.nsMap mainGlobals nm=some v:=fun v e=>by
  unfold Heap.nsMap at e ⊢
  split at e
  ·rename_i o ho;rw[k _ _ ho];exact e
  ·cases e
 unfold tabAt at x ⊢
 split at x
 ·rename_i a ha;rw[hg _ ha];dsimp only
  split at x
  ·cases x
  ·rename_i hs;rw[Uu hs]
   split at x
   ·rename_i o ho;rw[k _ _ ho];dsimp only
    split at x
    ·rename_i hc;rw[Ut hc]
     split at x
     ·exact p8 k x
     ·cases x
    ·cases x
   ·cases x
 ·cases x
theorem zS:∀{vs:List Value} {is:List Int},Dc vs=some is->IntsAre vs is
 | [],_,e=>by cases e;exact .nil
 | v::r,is,e=>by
  cases v <;> first |(exact b5 e) | skip
  obtain⟨js,e1,e2⟩:=Vh.mp (show(Dc r).map _=some is from e);subst e2;exact .cons _ _ (zS e1)
theorem Ak(h:DA v t=true):v=.type t:=by
 unfold DA at h
 split at h
 ·rw[Vk h]
 ·cases h
theorem sg:∀{es:List DictEntry} {tb:List (Str×List Int)},l9 h es=some (tb.map fun x=>(x.1,hashStr w x.1,x.2))->
  ∃kvs:List (Str×Value),(∀e∈es,∃k,(PySem.strKind P w).is k e.key=true∧e.hash=(PySem.strKind P w).hash k)∧Pairs (PySem.strKind P w) es kvs∧kvs.map (·.1)=tb.map (·.1)∧
   p6 (fun(x:Str×List Int)(y:Str×Value)=>x.1=y.1∧∃(t:Addr)(u:Obj)(its:Array Value)(n:Nat),y.2=.ref t∧(aU h).lookup t=some u∧u.cls=.type "tuple"∧u.dict=none∧u.data=.seq its n∧its.size≤sizeLine∧IntsAre its.toList x.2) tb kvs
 | [],tb,x=>by
  have hz:tb=[]:=by
   have:=Option.some.inj x;exact List.map_eq_nil_iff.mp this.symm
  subst hz;exact⟨[],fun _ z=>(nomatch z),.nil,rfl,.nil⟩
 | e::es,tb,x=>by
  unfold l9 at x;obtain⟨y,e1,x⟩:=Xn.mp x;obtain⟨ys,e2,x⟩:=Vh.mp x;cases tb with
  | nil=>cases x
  | cons q tb=>
   rw[Uv] at x;obtain⟨rfl,rfl⟩:=List.cons.inj x;obtain⟨kvs,h1,h2,h3,h4⟩:=sg (P:=P) e2;unfold rowAt at e1
   split at e1
   ·rename_i x0 tk hk
    split at e1
    ·rename_i t hv
     split at e1
     ·rename_i u hu
      split at e1
      ·rename_i hc;rw[UJ] at hc
       split at e1
       ·rename_i its n hd
        split at e1
        ·rename_i hs;obtain⟨is,e3,e4⟩:=Vh.mp e1;have e5:x0=q.1:=congrArg (·.1) e4;have e6:e.hash=hashStr w q.1:=congrArg (·.2.1) e4;have e7:is=q.2:=congrArg (·.2.2) e4;have hki:(PySem.strKind P w).is q.1 e.key=true:=by rw[hk,e5];show Value.isStrOf q.1 (.str q.1 tk)=true;unfold Value.isStrOf;simp
         refine⟨(q.1,.ref t)::kvs,fun e' he'=>?_,.cons hki hv h2,by rw[Uv,Uv,h3],.cons ⟨rfl,t,u,its,n,rfl,kX hu rfl,Ak hc.1,by simpa using hc.2,hd,UL hs (by decide),by rw[←e7];exact zS e3⟩ h4⟩;rcases UE.mp he' with rfl | he'
         ·exact⟨q.1,hki,e6⟩
         ·exact h1 e' he'
        ·cases e1
       ·cases e1
      ·cases e1
     ·cases e1
    ·cases e1
   ·cases e1
theorem tab_of(x:tabAt h nm=some (tb.map fun x=>(x.1,hashStr w x.1,x.2)))(g:h.Ns mainGlobals mg)(nd:(tb.map (·.1)).Nodup):Tab P w (aU h) mg nm tb:=by
 unfold tabAt at x
 split at x
 ·rename_i a ha
  split at x
  ·cases x
  ·rename_i hs
   split at x
   ·rename_i o ho
    split at x
    ·rename_i hc;rw[UJ,UJ] at hc
     split at x
     ·rename_i es ep hd;obtain⟨kvs,h1,h2,h3,h4⟩:=sg (P:=P) x;have hm:mg nm=some (.ref a):=by
       obtain⟨o',es',ep',g1,g2,_,g3⟩:=g;rw[←g3 nm,←ha];unfold Heap.nsMap;rw[g1];dsimp only;rw[g2]
      exact⟨a,o,es,ep,kvs,hm,kX ho rfl,⟨Ak hc.1.1,by simpa using hc.1.2,Vk hc.2⟩,hd,by simpa using hs,fun e he=>h1 e (VS.mpr he),h2,by rw[h3];exact nd,h4⟩
     ·cases x
    ·cases x
   ·cases x
 ·cases x
end Hd
namespace L2
open PySem PySem.Spec PyProof.Rows
end L2
namespace Sm
open PySem L2 PySem.Spec PyProof.Rows
end Sm
namespace Sb
open PySem L2 PySem.Spec PyProof.Rows
open Builtin.SmallTypes (nextOf ownedTupleIsFree ownedTupleHandOut)
abbrev mM(h:Heap)(z T U:Addr)(t:Addr)(f:Bool):Prop:=
 h.get? z=some {cls:=.type "zip",dict:=none,data:=.fields #[rawInt t,.bool f,.bool false,.ref T,.ref U],slots:=#[]}
theorem alive(ho:s.heap.get? a=some o)(h:Q (some o) s):wpAny (model P w) A (loadIfAlive a) Q E s:=by
 have h':Q (s.heap.get? a) s:=by rw[ho];exact h
 exact fun _ _ _=>h'
theorem seen(hz:mM s.heap z T U t f)(k:∀k₁,mM k₁ z T U t true->Heap.SameBut z s.heap k₁->C false {s with heap:=k₁}):
  wpAny (model P w) A (if(Value.bool f !=Value.bool true)=true then do setField (.ref z) 1 (.bool true);pure false else pure false) C E s:=by
 cases f with
 | true=>rw[Uu (by decide)];exact Uk (k s.heap hz (Heap.SameBut.refl ..))
 | false=>
  rw[Ut (by decide)];refine Ug (wpAny_setField_rec hz (by simp) fun k₁ z₁ t₁=>Uk (k k₁ ?_ t₁));exact z₁
theorem I8 (D:Zp z T U p q l m) (hz:mM s.heap z T U t f) (ht:s.heap.get? t=some ot) (hT:IsPair s.heap T (.ref p) (.ref q)) (h1:At b s.heap p l i) (h2:At c s.heap q m i) (hl:Of b s.heap l xs) (hm:Of c s.heap m ys) (hx:xs[i]?=some x) (hy:ys[i]?=some y) (k:∀h',mM h' z T U t true->At b h' p l (i+1)->At c h' q m (i+1)->IsPair h' s.heap.objs.size x y->h'.objs.size=s.heap.objs.size+1->
   (∀a o,a≠z->a≠p->a≠q->s.heap.get? a=some o->h'.get? a=some o)->Q (some (.ref s.heap.objs.size)) {s with heap:=h'}):wpAny (model P w) A (pyNext (.ref z)) Q E s:=by
 have ty:s.TypeIs (.ref z) "zip":=⟨_,hz,rfl⟩;unfold pyNext;refine Ug (Wx (U6 (name:=Str.ofString "__next__") ty Wc (Vb Wc ty XI ?_ (Xy _))));show wpAny _ _ (field (.ref z) 2 >>=_) _ _ _;refine Ug (UZ hz rfl (x:=.bool false) rfl ?_);show wpAny _ _ (field (.ref z) 3 >>=_) _ _ _;refine Ug (UZ hz rfl (x:=.ref T) rfl (Ug (Vn hT rfl ?_)));show wpAny _ _ (ownedTupleIsFree (.ref z) >>=_) _ _ _;refine Ug ?_;unfold ownedTupleIsFree;refine Ug (UZ hz rfl (x:=rawInt t) rfl ?_);show wpAny _ _ (loadIfAlive ((t:Int).toNat) >>=_) _ _ _;rw[UO];refine Ug (alive ht ?_);simp only[Zf,UK,Vu];refine Ug (UZ hz rfl (x:=.bool f) rfl ?_);refine seen hz fun k₁ z₁ t₁=>?_;simp only[UK,Vu];have hT₁:IsPair k₁ T (.ref p) (.ref q):=t₁.extBut _ _ D.Tz hT;refine Ug ?_;rw[←Wn];simp only[WW,XO];refine Ug (Ug (U9 ?_));show wpAny _ _ (nextOf (.ref p) >>=_) _ _ _;refine Ug (sU (h1.up fun o e=>t₁.extBut _ o D.pz e) (hl.up fun o e=>t₁.extBut _ o D.lz e) hx fun k₂ p₂ t₂=>Uk ?_);refine Uk ?_;refine Ug (Ug (U9 ?_));show wpAny _ _ (nextOf (.ref q) >>=_) _ _ _;refine Ug (sU (h2.up fun o e=>t₂.extBut _ o D.pq.symm (t₁.extBut _ o D.qz e)) (hm.up fun o e=>t₂.extBut _ o D.mp (t₁.extBut _ o D.mz e)) hy fun k₃ q₃ t₃=>Uk ?_);refine Uk ?_;refine Uk ?_;dsimp only;refine Ug (Xi ?_ (hsz:=by show 2≤sizeLine;rw[VH];lia));have sz:k₃.objs.size=s.heap.objs.size:=by rw[t₃.1,t₂.1,t₁.1]
 have z₃:mM k₃ z T U t true:=t₃.extBut _ _ D.qz.symm (t₂.extBut _ _ D.pz.symm z₁);have up₃:∀a o,a≠z->a≠p->a≠q->s.heap.get? a=some o->k₃.get? a=some o:=fun a o a1 a3 a4 e=>t₃.extBut _ _ a4 (t₂.extBut _ _ a3 (t₁.extBut _ _ a1 e));have p₃:At b k₃ p l (i+1):=p₂.up fun o e=>t₃.extBut _ o D.pq e;refine Uk ⟨_,rfl,Uk ?_⟩;show Q (some (.ref k₃.objs.size)) _;rw[sz];refine k (k₃.push {cls:=.type "tuple",data:=.seq #[x,y]}) (Uj _ z₃) (p₃.up fun o e=>Uj _ e) (q₃.up fun o e=>Uj _ e) ?_ (by rw[Vq,sz]) fun a o a1 a3 a4 e=>Uj _ (up₃ a o a1 a3 a4 e);rw[←sz];exact UD _ rfl
theorem yC(hh:A.handled=none)(D:Zp z T U p q l m)(hz:mM s.heap z T U t f)(ht:s.heap.get? t=some ot)(hT:IsPair s.heap T (.ref p) (.ref q))(h1:At b s.heap p l i)(h2:At c s.heap q m i)(hl:Of b s.heap l xs)(hm:Of c s.heap m ys)(he:xs[i]?=none∨ys[i]?=none)(k:∀h',(∀a o,a≠z->a≠p->a≠q->s.heap.get? a=some o->h'.get? a=some o)->Q none {s with heap:=h'}):wpAny (model P w) A (pyNext (.ref z)) Q E s:=by
 have ty:s.TypeIs (.ref z) "zip":=⟨_,hz,rfl⟩;unfold pyNext;refine Ug (Wx (U6 (name:=Str.ofString "__next__") ty Wc (Vb Wc ty XI ?_ (Xy _))));show wpAny _ _ (field (.ref z) 2 >>=_) _ _ _;refine Ug (UZ hz rfl (x:=.bool false) rfl ?_);show wpAny _ _ (field (.ref z) 3 >>=_) _ _ _;refine Ug (UZ hz rfl (x:=.ref T) rfl (Ug (Vn hT rfl ?_)));show wpAny _ _ (ownedTupleIsFree (.ref z) >>=_) _ _ _;refine Ug ?_;unfold ownedTupleIsFree;refine Ug (UZ hz rfl (x:=rawInt t) rfl ?_);show wpAny _ _ (loadIfAlive ((t:Int).toNat) >>=_) _ _ _;rw[UO];refine Ug (alive ht ?_);simp only[Zf,UK,Vu];refine Ug (UZ hz rfl (x:=.bool f) rfl ?_);refine seen hz fun k₁ z₁ t₁=>?_;simp only[UK,Vu];refine Ug ?_;rw[←Wn];simp only[WW,XO];refine Ug (Ug (U9 ?_));show wpAny _ _ (nextOf (.ref p) >>=_) _ _ _;cases ex:xs[i]? with
 | none=>
  refine Ug (zH hh (h1.up fun o e=>t₁.extBut _ o D.pz e) (hl.up fun o e=>t₁.extBut _ o D.lz e) ex fun k₂ e t₂ ⟨oe,hoe,hce⟩=>?_);refine Ug (VT (T:="StopIteration") (b:=true) ⟨oe,hoe,hce⟩ WD (Uk (k _ fun a o a1 a3 _ r=>t₂ _ _ a3 (t₁.extBut _ _ a1 r))))
 | some x=>
  have ey:ys[i]?=none:=by rcases he with r | r;rw[ex] at r;cases r;exact r
  refine Ug (sU (h1.up fun o e=>t₁.extBut _ o D.pz e) (hl.up fun o e=>t₁.extBut _ o D.lz e) ex fun k₂ p₂ t₂=>Uk ?_);refine Uk ?_;refine Ug (Ug (U9 ?_));show wpAny _ _ (nextOf (.ref q) >>=_) _ _ _;refine Ug (zH hh (h2.up fun o e=>t₂.extBut _ o D.pq.symm (t₁.extBut _ o D.qz e)) (hm.up fun o e=>t₂.extBut _ o D.mp (t₁.extBut _ o D.mz e)) ey fun k₄ e t₄ ⟨oe,hoe,hce⟩=>?_);refine Ug (VT (T:="StopIteration") (b:=true) ⟨oe,hoe,hce⟩ WD (Uk (k _ fun a o a1 a3 a4 r=>t₄ _ _ a4 (t₂.extBut _ _ a3 (t₁.extBut _ _ a1 r)))))
structure Lf(b c:Bool)(lo:Nat)(z T U p q l m:Addr)(i:Nat)(h:Heap):Prop where
 RU:IsZip h z T U .none∨∃t f ot,mM h z T U t f∧h.get? t=some ot∧lo≤t
 T_:IsPair h T (.ref p) (.ref q)
 U_:∃u v,IsPair h U u v
 p_:At b h p l i
 q_:At c h q m i
theorem Dh{lo:Nat}{t d:Addr}(h:lo≤t)(hd:d < lo):t≠d:=fun e=>absurd (UN hd h) (by rw[e];exact V9 _)
theorem Lf.but{lo:Nat}{z T U p q l m d:Addr}{i:Nat}{h h':Heap}(x:Lf b c lo z T U p q l m i h)(hd:∀t∈[z,T,U,p,q],t≠d)(hl:d < lo)(k:∀a o,a≠d->h.get? a=some o->h'.get? a=some o):Lf b c lo z T U p q l m i h':=
 ⟨x.RU.imp (fun y=>k _ _ (hd z (by simp)) y) fun⟨t,f,ot,h1,h2,h3⟩=>⟨t,f,ot,k _ _ (hd z (by simp)) h1,k _ _ (Dh h3 hl) h2,h3⟩,k _ _ (hd T (by simp)) x.T_,let⟨u,v,e⟩:=x.U_;⟨u,v,k _ _ (hd U (by simp)) e⟩,x.p_.up fun o e=>k _ o (hd p (by simp)) e,x.q_.up fun o e=>k _ o (hd q (by simp)) e⟩
theorem Lf.next{lo:Nat}{z T U p q l m:Addr}{i:Nat}{xs ys:Array Value}{x y:Value}{Q:Option Value->Shared->Prop}(D:Zp z T U p q l m)(st:Lf b c lo z T U p q l m i s.heap)(hlo:z < lo∧U < lo∧p < lo∧q < lo)(hs:lo≤s.heap.objs.size)
  (hl:Of b s.heap l xs) (hm:Of c s.heap m ys) (hx:xs[i]?=some x) (hy:ys[i]?=some y)
  (k:∀h',Lf b c lo z T U p q l m (i+1) h'->IsPair h' s.heap.objs.size x y->h'.objs.size=s.heap.objs.size+1->
   (∀a o,a≠z->a≠U->a≠p->a≠q->s.heap.get? a=some o->h'.get? a=some o)->Q (some (.ref s.heap.objs.size)) {s with heap:=h'}):wpAny (model P w) A (pyNext (.ref z)) Q E s:=by
 obtain⟨hr,hT,⟨u,v,hU⟩,h1,h2⟩:=st;rcases hr with hz |⟨t,f,ot,hz,ht,hlt⟩
 ·refine FE D hz hT hU h1 h2 hl hm hx hy fun h' a1 a2 a3 a4 a5 a6 a7=>?_;exact k h' ⟨.inr ⟨_,false,_,a1,a5,hs⟩,a7 _ _ D.Tz D.TU D.Tp D.Tq hT,⟨_,_,a2⟩,a3,a4⟩ a5 a6 a7
 ·refine I8 D hz ht hT h1 h2 hl hm hx hy fun h' a1 a3 a4 a5 a6 a7=>?_;exact k h' ⟨.inr ⟨t,true,ot,a1,a7 _ _ (Dh hlt hlo.1) (Dh hlt hlo.2.2.1) (Dh hlt hlo.2.2.2) ht,hlt⟩,a7 _ _ D.Tz D.Tp D.Tq hT,⟨u,v,a7 _ _ D.Uz D.Up D.Uq hU⟩,a3,a4⟩ a5 a6 fun a o n1 _ n3 n4 e=>a7 a o n1 n3 n4 e
theorem Lf.done{lo:Nat}{z T U p q l m:Addr}{i:Nat}{xs ys:Array Value}{Q:Option Value->Shared->Prop}(hh:A.handled=none)(D:Zp z T U p q l m)(st:Lf b c lo z T U p q l m i s.heap)
  (hl:Of b s.heap l xs) (hm:Of c s.heap m ys) (he:xs[i]?=none∨ys[i]?=none)
  (k:∀h',(∀a o,a≠z->a≠U->a≠p->a≠q->s.heap.get? a=some o->h'.get? a=some o)->Q none {s with heap:=h'}):wpAny (model P w) A (pyNext (.ref z)) Q E s:=by
 obtain⟨hr,hT,⟨u,v,hU⟩,h1,h2⟩:=st;rcases hr with hz |⟨t,f,ot,hz,ht,hlt⟩
 ·exact Ja hh D hz hT hU h1 h2 hl hm he k
 ·exact yC hh D hz ht hT h1 h2 hl hm he fun h' a=>k h' fun a' o n1 _ n3 n4 e=>a a' o n1 n3 n4 e
end Sb
namespace PySem
theorem lD:typeLookup (.type "zip") "__getattr__"=pure none:=by rw[YO,XX];ac_nf
theorem gS:entryFor table "zip.__getattribute__"=some Builtin.«object.__getattribute__»:=
 entryFor_alias (id':="object.__getattribute__") (by ac_nf) (by decide+kernel) (by decide+kernel) (by ac_nf)
theorem fX(a:Addr)(fs:Array Value)(sl:Array (Option Value))(name:Str)(u:Tok)(hmiss:typeLookup (.type "zip") name=pure none)(hname:(["__module__","__name__","__qualname__","__doc__","__annotations__"]:List Str).contains name=false)(hsz:name.length+100≤sizeLine:=by size_fits):
  Meets (Builtin.«object.__getattribute__» ⟨[.ref a,.str name u],[]⟩) (fun A R s=>s.heap.get? a=some {cls:=.type "zip",dict:=none,data:=.fields fs,slots:=sl}∧raisesAttr (.ref a) name A R s):=
 Meets.of_wp fun prog w A R s hs=>by
  obtain⟨hp,g,d,tk,os⟩:=s;obtain⟨hx,hs⟩:=hs;have hT:(⟨hp,g,d,tk,os⟩:Shared).TypeIs (.ref a) "zip":=⟨_,hx,rfl⟩;unfold Builtin.«object.__getattribute__»
  repeat(any_goals (first | assumption | wp_step))
  simp only[hname,UK,Vu]
  repeat(any_goals (first | assumption | wp_step))
  exact wpAny_raiseAttrError hs.1 hs.2 (attrMsg_fits (by decide+kernel) hsz)
end PySem
namespace L2
open PySem PySem.Spec PyProof.Rows
theorem zO:typeLookup (.type "zip") "keys"=pure none:=by rw[YO,XX];ac_nf
theorem Kk(hx:s.heap.get? a=some {cls:=.type "zip",dict:=none,data:=.fields fs,slots:=#[]})(hA:A.handled=none)(h:∀h' tk,(∀b o,s.heap.get? b=some o->h'.get? b=some o)->Q none {s with heap:=h',toks:=tk}):
  wpAny (model prog w) A (getAttr? (.ref a) "keys") Q E s:=by
 obtain⟨hp,g,d,tk,os⟩:=s;have hT:∀tk',(⟨hp,g,d,tk',os⟩:Shared).TypeIs (.ref a) "zip":=fun _=>⟨_,hx,rfl⟩;have f1:=sub_AttributeError;have f3:=XH.lookup;have f4:=XH.bind (.ref a);have f5:=lD;unfold getAttr? getAttrBy? getAttrBy
 repeat(any_goals (first | assumption | exact hT _ |((with_reducible show wpAny _ _ (call (Value.builtin "zip.__getattribute__") _ _) _ _ _);refine Xk XH (hT _) gS (F.args_zip_getattribute_2 _ _) (fX a fs #[] "keys" _ zO (by decide+kernel) (by decide)) ⟨hx,hA,fun h' tk' e hx'=>?_⟩) | wp_step))
 obtain⟨t',u',he⟩:=hx'.there;have hE:∀tk',(⟨h',g,d,tk',os⟩:Shared).TypeIs (.ref e) "AttributeError":=fun _=>⟨_,he,rfl⟩;show wpAny _ _ (getattributeRaised _ _ _ _ _ _ _) _ _ _;unfold getattributeRaised
 repeat(any_goals (first | assumption | exact hE _ | wp_step))
 exact h _ _ hx'.keeps
theorem Inv.u9{pins:List (Addr×Obj)}{σ:St}{H:Hp}{s:Shared}{h':Heap}{t':Nat}{fp:List Addr}(I:Inv X pins σ H s)(k:∀b o,b∉fp->s.heap.get? b=some o->h'.get? b=some o)(hf:∀b∈fp,fN X pins H b):Inv X pins σ H {s with heap:=h',toks:=t'}:=by
 have nit:∀b u,H b=some u->b∉fp:=fun b u e z=>by rw[(hf b z).1] at e;cases e
 refine I.step (g':=s.gens) (d':=s.drawn) (ch:=fp) (fun b hb=>?_) (fun b o _ _ hc e _=>k b o hc e) (fun b o _ _ hc e _=>⟨o.slots,k b o hc e⟩) (fun _ _ _ _ n=>n)
  (fun b o hc e=>⟨o,k b o hc e⟩) (fun _ _ e=>e) (fun _ _ _ e=>e) (fun b ps e=>⟨#[],by rw[e];simp⟩) (fun m hm=>?_) (fun b u e=>?_) I.bare
 ·obtain⟨_,h1,_,h3,h4,h5⟩:=hf b hb;exact⟨h3,h1,h4,h5⟩
 ·obtain⟨o,es,ep,ho,r⟩:=hm;exact⟨o,es,ep,k _ o (fun z=>(hf _ z).2.1 rfl) ho,r⟩
 ·refine(I.bj b u e).wI (fun c v hc q=>k c v ?_ q) (fun _ q=>q) fun _ _ q=>q;rcases hc with z | z
  ·rw[z];exact nit b u e
  ·exact nit c _ z
theorem fR.off{K:FR}{H:Hp}{a d:Addr}{ys:List V}{o:HO}(h:fR K H a ys)(hd:H d=none):fR K (upd H d o) a ys:=by
 rcases h with h | h
 ·rcases h with h |⟨u,h⟩
  ·exact .inl (.inl (by rw[aF (aO h hd)];exact h))
  ·exact .inl (.inr ⟨u,by rw[aF (aO h hd)];exact h⟩)
 ·exact .inr h
end L2
namespace L2
open PySem PySem.Spec PyProof.Rows Sb
theorem qZ.off{b:Bool}{K:FR}{H:Hp}{a d:Addr}{ys:List V}{o:HO}(h:qZ b K H a ys)(hd:H d=none):qZ b K (upd H d o) a ys:=by
 cases b with
 | true=>exact fR.off (show fR K H a ys from h) hd
 | false=>exact jD.off (show jD K H a ys from h) hd
structure OM(xs ys:List V)(kvs:List (Key×V)):Prop where
 len:kvs.length=min xs.length ys.length
 at_:∀(i:Nat) kv,kvs[i]?=some kv->xs[i]?=some (kV kv.1)∧ys[i]?=some kv.2
theorem B2{A:Around}{pins:List (Addr×Obj)}{σ:St}{H:Hp}{b c:Bool}{z T U p q l m d:Addr}{lo:Nat}{xs ys:List V}{kvs:List (Key×V)}{R:Result->Shared->Prop}(hA:A.handled=none)(D:Zp z T U p q l m)(hl:qZ b X.K H l xs)(hm:qZ c X.K H m ys)(hr:OM xs ys kvs)(hk:kvs.length≤1000000)(hd:H d=none)
  (hlo:z < lo∧U < lo∧p < lo∧q < lo) (hdl:d < lo) (hdn:∀t∈[z,T,U,p,q],t≠d) (hf:∀t∈[z,U,p,q],fN X pins H t)
  (h:∀s',Inv X pins σ (upd H d (.dK (bI [] kvs))) s'->R (.ok (.ret .none)) s'):∀(n i:Nat)(s:Shared),kvs.length-i=n->i≤kvs.length->lo≤s.heap.objs.size->Lf b c lo z T U p q l m i s.heap->Inv X pins σ (upd H d (.dK (bI [] (kvs.take i)))) s->
   codeAny (model X.prog X.w) A (.builtin "dict.update.loop" ⟨[.ref d,.ref z,rawInt i,.none],[]⟩) R s:=by
 have hsz:sizeLine≥1000001:=by decide
 have hfd:∀o,∀t∈[z,U,p,q],fN X pins (upd H d o) t:=fun o t ht=>by
  obtain⟨h0,h1⟩:=hf t ht;refine⟨?_,h1⟩;rw[aF (hdn t (by simp at ht ⊢;rcases ht with rfl | rfl | rfl | rfl <;> simp))];exact h0
 intro n
 induction n with
 | zero=>
  intro i s hn hi hsl st I;have ei:i=kvs.length:=by lia
  refine Wa jz ?_;rw[VI dM _];obtain⟨its,rv,pl⟩:=Sb.qZ.of I (L2.qZ.off hl hd (o:=.dK (bI [] (kvs.take i))));obtain⟨jts,rw_,pm⟩:=Sb.qZ.of I (L2.qZ.off hm hd (o:=.dK (bI [] (kvs.take i))));have e1:=rv.length;have e2:=rw_.length;have e3:=hr.len;show wpAny _ _ (pyNext (.ref z) >>=_) _ _ s;refine Ug (st.done hA D pl pm ?_ fun h' up=>?_)
  ·rcases Nat.le_total xs.length ys.length with y | y
   ·left;simp;lia
   ·right;simp;lia
  show wpAny _ _ (Builtin.Dict.addKeywords d [] >>=fun _=>ret .none) _ _ _;have I':=I.u9 (t':=s.toks) (h':=h') (fp:=[z,U,p,q]) (fun b o hb e=>up b o (fun y=>hb (by simp[y])) (fun y=>hb (by simp[y])) (fun y=>hb (by simp[y])) (fun y=>hb (by simp[y])) e) (hfd _);refine Ug (Uk (Uk ?_));rw[ei,VB] at I';exact h _ I'
 | succ n ih=>
  intro i s hn hi hsl st I;have hi':i < kvs.length:=by lia
  refine Wa jz ?_;rw[VI dM _];obtain⟨its,rv,pl⟩:=Sb.qZ.of I (L2.qZ.off hl hd (o:=.dK (bI [] (kvs.take i))));obtain⟨jts,rw_,pm⟩:=Sb.qZ.of I (L2.qZ.off hm hd (o:=.dK (bI [] (kvs.take i))));have hki:kvs[i]?=some (kvs[i]'hi'):=Um _;generalize kvs[i]'hi'=kv at hki;obtain⟨hxi,hyi⟩:=hr.at_ i kv hki;obtain⟨ku,hku,rk⟩:=rv.get hxi;obtain⟨vu,hvu,rw2⟩:=rw_.get hyi;show wpAny _ _ (pyNext (.ref z) >>=_) _ _ s;refine Ug (st.next D hlo hsl pl pm (x:=ku) (y:=vu) (by simpa using hku) (by simpa using hvu) fun h' st' pt sz up=>?_);have I':=I.u9 (t':=s.toks) (h':=h') (fp:=[z,U,p,q]) (fun b o hb e=>up b o (fun y=>hb (by simp[y])) (fun y=>hb (by simp[y])) (fun y=>hb (by simp[y])) (fun y=>hb (by simp[y])) e) (hfd _);dsimp only;refine Ug (U9 ?_);refine Ug (wpAny_tryCatch ?_);unfold Builtin.Dict.pairItems;refine Ug (Wt (T:="tuple") ⟨_,pt,rfl⟩ ?_);rw[Ut (by decide)];refine Ug (Vn pt rfl (Uk ?_));show wpAny _ _ (holding [ku,vu] (dictSet d ku vu)) _ _ _;refine U9 ?_;have ed:upd H d (.dK (bI [] (kvs.take i))) d=some (.dK (bI [] (kvs.take i))):=aR;obtain⟨zz,hdm,vs,rel,dd⟩:=vW I'.bj ed;have hz3:vs.length≤sizeLine:=by rw[←rel.length];exact zz
  unfold dictSet;refine U9 (Ug ((bF X.prog X.w).pyHash (nD rk) ?_));refine wpAny_dictSetHashed_pairs (hsz:=hz3) (nD rk) dd fun h2 dd' hs=>?_;have he:∃q,h2.get? d=some q:=let⟨q,_,_,hq,_⟩:=dd';⟨q,hq⟩;have e2:putK (bI [] (kvs.take i)) kv.1 kv.2=bI [] (kvs.take (i+1)):=by
   rw[Wv,hki,←zJ];rfl
  have hl2:(putK (bI [] (kvs.take i)) kv.1 kv.2).length≤sizeLine:=by
   rw[e2];have:=il (kvs.take (i+1)) [];rw[UM] at this;simp only[Vx] at this
   lia
  have I2:=k8 (t':=s.toks+1) I' (by rw[ed];exact True.intro) hs he (yc (H':=upd (upd H d (.dK (bI [] (kvs.take i)))) d (.dK (putK (bI [] (kvs.take i)) kv.1 kv.2))) hl2 hdm (rel.put kv.1 rw2) dd');rw[Jb,e2] at I2;have hc:((i:Int)+1)=((i+1:Nat):Int):=by push_cast;rfl
  rw[hc];refine Uk ⟨WK dM _,ih (i+1) _ (by lia) (by lia) ?_ ?_ I2⟩
  ·show lo≤h2.objs.size;have:h2.objs.size=h'.objs.size:=hs.1;rw[this,sz];exact Vt hsl
  ·exact st'.but hdn hdl fun a o na e=>hs.extBut _ _ na e
theorem Br{a a':Expr}{ta:TA}{p pos p2 pos2:Pos}(hc:X.calm=true)(hg1:Gl X "dict")(hm1:X.mg "dict"=none)(hv:bootBuiltins "dict"=some (.type "dict"))(hg:Gl X "zip")(hm:X.mg "zip"=none)(ha:PA X [a,a'] ta)
  (hs:starEach [a,a'] X.env=[(false,eval a X.env),(false,eval a' X.env)]) (hs2:starEach [a'] X.env=[(false,eval a' X.env)]):
  PE X (.Call (.Name "dict" p) [.Call (.Name "zip" p2) [a,a'] [] pos2] [] pos) (fun σ H Q=>ta σ H fun vs H1=>∃l m b c xs ys kvs,vs=[.ref l,.ref m]∧qZ b X.K H1 l xs∧qZ c X.K H1 m ys∧OM xs ys kvs∧kvs.length≤1000000∧∀q,H1 q=none->Q (.ref q) (upd H1 q (.dK (bI [] kvs)))):=by
 intro pins s σ H Q I h;refine V7 (ip I hg1 hm1 hv ?_);refine Vm ?_ rfl rfl;show wpAny _ _ (spliced ((false,eval (.Call (.Name "zip" p2) [a,a'] [] pos2) X.env)::backTo pos (starEach [] X.env))) _ _ s;refine Yg ?_;refine V7 (ip I hg hm Sb.boot_zip (Vm (cq (ha pos2 pins s σ H _ I h) fun us s1 ⟨vs,H1,I1,r1,q1⟩=>?_) (by rw[hs,hs2]) (by rw[hs2];rfl)));obtain⟨l,m,b,c,xs,ys,kvs,e,hq,hq',hr,hk,q⟩:=q1;subst e;obtain⟨u,v,rfl,ru,rv'⟩:=Vals.two r1;obtain rfl:u=Value.ref l:=ru;obtain rfl:v=Value.ref m:=rv';obtain⟨its,rv,hO⟩:=hq.of I1;obtain⟨its',rv',hO'⟩:=hq'.of I1;refine FD hO hO' fun h' a1 a2 a3 a4 a5 a6 a7=>?_;have I2:L2.Inv X pins σ H1 {s1 with heap:=h'}:=I1.kept (t':=s1.toks) a7;have hf1:∀d,s1.heap.objs.size≤d->fN X pins H1 d:=fun d hd=>I1.zZ hd (I1.bj.fresh hd);have ll:l < s1.heap.objs.size:=by obtain⟨o,n,e,_⟩:=hO.data;exact UB e
 have lm:m < s1.heap.objs.size:=by obtain⟨o,n,e,_⟩:=hO'.data;exact UB e
 have D:Zp (s1.heap.objs.size+4) (s1.heap.objs.size+2) (s1.heap.objs.size+3) s1.heap.objs.size (s1.heap.objs.size+1) l m:=O4 _ _ _ ll lm;have hA:X.A.handled=none:=I.ok.hd hc;refine Yr ?_;generalize hn:s1.heap.objs.size=N at*;refine callType_codes (Q₁:=fun obj s₁=>obj=.ref h'.objs.size∧s₁={s1 with heap:=h'.push {cls:=.type "dict",data:=.dict #[]}}) F.kt_called_dict (F.kt_typeCall_dict_1 _) F.entry_dict_init (kt_code_dict_new _ ⟨rfl,rfl⟩) ?_;rintro obj s₁ ⟨rfl,rfl⟩;have hd:H1 h'.objs.size=none:=I2.fresh;have hnew:(h'.push {cls:=.type "dict",data:=.dict #[]}).DictOf (bF X.prog X.w) h'.objs.size []:=Heap.DictOf.new h';have I3:Inv X pins σ (upd H1 h'.objs.size (.dK [])) {s1 with heap:=h'.push {cls:=.type "dict",data:=.dict #[]}}:=I2.laid (t':=s1.toks) (fun _ _ q=>Uj _ q) (Us _) (nU h' I2.big);refine⟨hnew.typeIs,F.args_dict_init_2 _ _,?_⟩;unfold Builtin.«dict.__init__»;refine Ug ?_;unfold Builtin.Dict.selfAndRest;refine Ug (wpAny_notOrdered_dict hnew.typeIs ?_);show wpAny _ _ (pure (h'.objs.size,[Value.ref (N+4)])) _ _ _;refine Uk ?_;show wpAny _ _ (Builtin.Dict.updateFrom "dict.__init__" h'.objs.size (.ref (N+4)) [] .none) _ _ _;unfold Builtin.Dict.updateFrom;have b1:IsZip (h'.push {cls:=.type "dict",data:=.dict #[]}) (N+4) (N+2) (N+3) .none:=Uj _ a1;refine Ug (Wt (T:="zip") ⟨_,b1,rfl⟩ ?_);rw[Ut (by decide)];refine Ug (Kk b1 (by exact hA) fun h2 tk keep=>?_);have I4:=I3.kept (t':=tk) keep;have up2:∀a o,h'.get? a=some o->h2.get? a=some o:=fun a o e=>keep a o (Uj _ e);simp only[Option.isNone_none,Wy];refine Ug (V1 (Ug (wpAny_pyIter_zip (f0:=.none) (up2 _ _ a1) ?_)));have hszd:h'.objs.size < h2.objs.size:=by obtain⟨o,_,_,e,_⟩:=hnew;exact UB (keep _ _ e)
 refine Uk ⟨WK dM _,?_⟩;refine B2 (X:=X) (σ:=σ) (H:=H1) (kvs:=kvs) (lo:=h2.objs.size) (by exact hA) D hq hq' hr hk hd ⟨?_,?_,?_,?_⟩ hszd (fun t ht=>?_) (fun t ht=>?_) (fun s' I'=>⟨rfl,⟨.ref _,_,I',rfl,q _ hd⟩⟩) kvs.length 0 _ (by lia) (Va _) (Us _) ⟨.inl (up2 _ _ a1),up2 _ _ a2,⟨_,_,up2 _ _ a3⟩,a4.up fun o e=>up2 _ o e,a5.up fun o e=>up2 _ o e⟩ I4
 ·exact UN (UB a1) (WA hszd)
 ·exact UN (UB a3) (WA hszd)
 ·exact UN a4.lt (WA hszd)
 ·exact UN a5.lt (WA hszd)
 ·simp at ht;rw[a6];rcases ht with rfl | rfl | rfl | rfl | rfl <;> (refine UQ ?_;lia)
 ·refine hf1 t ?_;simp at ht;rcases ht with rfl | rfl | rfl | rfl <;> lia
end L2
namespace Sm
open PySem L2 PySem.Spec PyProof.Rows Sb
noncomputable def vg:List D->List D->Option (List (Key×D))
 | x::r,y::s=>(qS x).bind fun k=>(vg r s).map fun ps=>(k,y)::ps
 | _,_=>some []
noncomputable def BZ(m:AM):EM:=fun δ h=>(m δ h).bind fun p=>match p.1 with
 | [d,e]=>(cT d p.2).bind fun xs=>(cT e p.2).bind fun ys=>(vg xs.1 ys.1).bind fun ps=>if ps.length≤1000000 then some (.dv (mB [] ps),p.2) else none
 | _=>none
theorem CD{K:FR}{ρ:Ad}{H:Hp}:∀{vs:List V} {xs:List D} {us:List V} {ys:List D} {ps:List (Key×D)},az K ρ H vs xs->az K ρ H us ys->vg xs ys=some ps->∃kvs,OM vs us kvs∧bg K ρ H kvs ps
 | _,_,_,_,_,.nil,_,e=>by cases e;exact⟨[],⟨by simp,fun i kv z=>by simp at z⟩,.nil⟩
 | _,_,_,_,_,.cons _ _,.nil,e=>by cases e;exact⟨[],⟨by simp,fun i kv z=>by simp at z⟩,.nil⟩
 | v::vs,_,u::us,_,_,.cons rx lx,.cons ry ly,e=>by
  obtain⟨ky,e1,e2⟩:=bo e;obtain⟨q,e3,e4⟩:=fO e2;subst e4;obtain⟨kvs,p1,p2⟩:=CD lx ly e3;have ek:=kW rx e1;subst ek;refine⟨(ky,u)::kvs,⟨by simp[p1.len,Nat.succ_min_succ],fun i kv z=>?_⟩,.cons ry p2⟩;cases i with
  | zero=>cases z;exact⟨rfl,rfl⟩
  | succ i=>exact p1.at_ i kv (by simpa using z)
theorem Ge{a b:Expr}{m:AM}{p pos p2 pos2:Pos}(hc:X.calm=true)(hg1:Gl X "dict")(hm1:X.mg "dict"=none)(hv:bootBuiltins "dict"=some (.type "dict"))(hg:Gl X "zip")(hm:X.mg "zip"=none)(ha:SA X [a,b] m)(hl:mN m 2)
  (hs:starEach [a,b] X.env=[(false,eval a X.env),(false,eval b X.env)]:=by ac_nf) (hs2:starEach [b] X.env=[(false,eval b X.env)]:=by ac_nf):
  SE X (.Call (.Name "dict" p) [.Call (.Name "zip" p2) [a,b] [] pos2] [] pos) (BZ m):=(Br hc hg1 hm1 hv hg hm ha hs hs2).imp fun σ H Q ⟨ρ,δ,h,d0,h',R,S,e,k⟩=>by
 obtain⟨⟨ds,h1⟩,e1,e2⟩:=bo e;refine⟨ρ,δ,h,ds,h1,R,S,e1,fun vs ρ1 H1 T1 S1 r1=>?_⟩
 match ds,hl _ _ _ _ e1,e2,r1 with
 | [d,d'],_,e2,r1=>
  obtain⟨⟨xs,w⟩,e3,e4⟩:=bo e2;obtain⟨⟨ys,w'⟩,e5,e6⟩:=bo e4;obtain⟨ps,e7,e8⟩:=bo e6;dsimp only at e7 e8
  by_cases c:ps.length≤1000000
  ·rw[Ut c] at e8;cases e8;obtain⟨v,v',rfl,rd,rd'⟩:=rep2 r1;obtain⟨a,rfl,⟨us,q,l⟩,st⟩:=jN S1 rd e3;obtain⟨a',rfl,⟨us',q',l'⟩,st'⟩:=jN S1 rd' e5;obtain⟨kvs,p1,p2⟩:=CD l l' e7;exact⟨a,a',qT d,qT d',us,us',kvs,rfl,q.OW,q'.OW,p1,by rw[p2.len];exact c,fun q hq=>k _ _ (dG.step T1 (.dv S1 (bg.merge .nil p2) hq))⟩
  ·rw[Uu c] at e8;cases e8
end Sm
namespace Sb
open PySem L2 PySem.Spec PyProof.Rows
variable {P:Program} {w:World} {A:Around} {E:Value->Shared->Prop} {s:Shared} {b c:Bool}
end Sb
namespace Sb
open PySem L2 PySem.Spec PyProof.Rows
variable {P:Program} {w:World} {A:Around} {E:Value->Shared->Prop} {s:Shared} {b c:Bool}
end Sb
namespace L2
open PySem PySem.Spec PyProof.Rows Sb
end L2
namespace Sm
open PySem L2 PySem.Spec PyProof.Rows Sb
end Sm
namespace PySem
end PySem
namespace L2
open PySem PySem.Spec PyProof.Rows
end L2
namespace Sm
open PySem L2 PySem.Spec PyProof.Rows
end Sm
namespace L2
open PySem PySem.Spec PyProof.Rows
def eJ(xs:Array Nat):Prop:=∀i j (hi:i < xs.size) (hj:j < xs.size),i < j->xs[i] < xs[j]
theorem tR(xs:Array Nat)(j:Nat)(hx:eJ xs):∀(fuel lo hi:Nat),hi-lo≤fuel->lo≤hi->hi≤xs.size->(∀i (h:i < xs.size),i < lo->xs[i] < j)->(∀i (h:i < xs.size),hi≤i->j≤xs[i])->
  SetTable.below.go xs j fuel lo hi≤xs.size∧(∀i (h:i < xs.size),i < SetTable.below.go xs j fuel lo hi->xs[i] < j)∧(∀i (h:i < xs.size),SetTable.below.go xs j fuel lo hi≤i->j≤xs[i])
 | 0,lo,hi,hf,hl,hs,h1,h2=>by
  have:lo=hi:=by lia
  subst this;unfold SetTable.below.go;exact⟨hs,h1,h2⟩
 | fuel+1,lo,hi,hf,hl,hs,h1,h2=>by
  unfold SetTable.below.go
  by_cases hlt:lo < hi
  ·rw[Ut hlt];dsimp only;have hm:(lo+hi) / 2 < xs.size:=by lia
   have hg:xs.getD ((lo+hi) / 2) j=xs[(lo+hi) / 2]:=by simp[Array.getD,hm]
   rw[hg]
   by_cases hc:xs[(lo+hi) / 2] < j
   ·rw[Ut hc];refine tR xs j hx fuel _ _ (by lia) (by lia) hs (fun i h hi'=>?_) h2;rcases Wj i ((lo+hi) / 2) with q | q
    ·exact Xv (hx i _ h hm q) hc
    ·have:i=(lo+hi) / 2:=by lia
     subst this;exact hc
   ·rw[Uu hc];refine tR xs j hx fuel _ _ (by lia) (by lia) (by lia) h1 (fun i h hi'=>?_);rcases Wj ((lo+hi) / 2) i with q | q
    ·have:=hx _ i hm h q;lia
    ·have:i=(lo+hi) / 2:=by lia
     subst this;lia
  ·rw[Uu hlt];have:lo=hi:=by lia
   subst this;exact⟨hs,h1,h2⟩
theorem jn(xs:Array Nat)(j:Nat)(hx:eJ xs):SetTable.below xs j≤xs.size∧(∀i (h:i < xs.size),i < SetTable.below xs j->xs[i] < j)∧(∀i (h:i < xs.size),SetTable.below xs j≤i->j≤xs[i]):=
 tR xs j hx _ _ _ (by lia) (by lia) (Us _) (fun i h z=>absurd z (Wq _)) (fun i h z=>absurd (UN h z) (V9 _))
theorem iK(hx:eJ xs)(h:xs[i]?=some j):SetTable.below xs j=i:=by
 obtain⟨hi,e⟩:=Ww.mp h;have b:=jn xs j hx;rcases X4 (SetTable.below xs j) i with q | q | q
 ·have h1:=b.2.2 (SetTable.below xs j) (by lia) (Us _);have h2:=hx _ i (by lia) hi q
  lia
 ·exact q
 ·have:=b.2.1 i hi q
  lia
theorem vf{t:SetTable}{i j:Nat}(hx:eJ t.place)(h:t.place[i]?=some j):t.slot j=.live i:=by
 unfold SetTable.slot;rw[iK hx h];dsimp only;rw[Ut (by rw[h];simp)]
theorem AN{t:SetTable}{j:Nat}(hd:t.dummies=#[])(h:j∉t.place.toList):t.slot j=.empty:=by
 unfold SetTable.slot;dsimp only;rw[Uu (by
  intro z;have z:=eq_of_beq z;exact h (by rw[VS];exact XF z)),hd]
 rfl
noncomputable def road(t:SetTable)(h:Int):Nat->SetTable.Probe
 | 0=>t.probeStart h
 | n+1=>t.advance (road t h n)
theorem vj(e:t.mask=t'.mask)(h:Int):∀n,road t h n=road t' h n
 | 0=>by show t.probeStart h=t'.probeStart h;unfold SetTable.probeStart;rw[e]
 | n+1=>by
  show t.advance (road t h n)=t'.advance (road t' h n);rw[vj e h n];unfold SetTable.advance;rw[e]
theorem si(t:SetTable)(h:Int):∀n,(road t h n).dummy=none
 | 0=>rfl
 | n+1=>by
  have:=si t h n;show(t.advance (road t h n)).dummy=none;unfold SetTable.advance
  split
  ·exact this
  ·exact this
theorem sk(hm:t.mask=7)(h:Int):∀n,(road t h n).more=0∧(road t h n).j=(road t h n).i∧(road t h n).i < 8∧(road t h n).perturb=SetTable.bits h / 32^n
 | 0=>by
  show(t.probeStart h).more=0∧_;unfold road SetTable.probeStart SetTable.runEnd;rw[hm];dsimp only;refine⟨by rw[Uu (by lia)];lia,rfl,Ys _ (by lia),by simp⟩
 | n+1=>by
  obtain⟨h1,h2,h3,h4⟩:=sk hm h n;show(t.advance (road t h n)).more=0∧(t.advance (road t h n)).j=(t.advance (road t h n)).i∧(t.advance (road t h n)).i < 8∧(t.advance (road t h n)).perturb=_;unfold SetTable.advance SetTable.leap SetTable.runEnd;rw[hm,h1,Uu (by lia)];dsimp only;refine⟨by rw[Uu (by lia)];lia,rfl,Ys _ (by lia),?_⟩;rw[h4,Nat.div_div_eq_div_mul,Nat.pow_succ]
theorem Ba(hm:t.mask=7)(h:Int)(n:Nat):(road t h (n+1)).i=((road t h n).i*5+1+(road t h n).perturb / 32) % 8:=by
 obtain⟨h1,h2,h3,h4⟩:=sk hm h n;show(t.advance (road t h n)).i=_;unfold SetTable.advance SetTable.leap;rw[hm,h1,Uu (by lia)]
theorem La(h:Int):SetTable.bits h < 32^13:=by
 unfold SetTable.bits;have:h % (2^64:Int) < 2^64:=VP _ (by decide);have h0:0≤h % (2^64:Int):=VF _ (by decide)
 lia
noncomputable def T8(i:Nat):Nat:=(i*5+1) % 8
noncomputable def Ku:Nat->Nat->Nat
 | 0,i=>i
 | n+1,i=>T8 (Ku n i)
theorem sj(hm:t.mask=7)(h:Int):∀k,(road t h (13+k)).j=Ku k (road t h 13).j
 | 0=>rfl
 | k+1=>by
  have ih:=sj hm h k;rw[(sk hm h _).2.1] at ih;rw[(sk hm h _).2.1,show 13+(k+1)=(13+k)+1 from rfl,Ba hm h (13+k),(sk hm h _).2.2.2];have hz:SetTable.bits h / 32^(13+k) / 32=0:=by
   have:SetTable.bits h / 32^(13+k)=0:=by
    refine Nat.div_eq_of_lt (UN (La h) ?_);exact Y4 (by lia) (by lia)
   rw[this]
  rw[hz,ih];rfl
theorem Kv:∀i:_root_.Fin 8,∀j:_root_.Fin 8,∃k:_root_.Fin 8,Ku k.1 i.1=j.1:=by decide
theorem lcg_all'(i j:Nat)(hi:i < 8)(hj:j < 8):∃k,k < 8∧Ku k i=j:=by
 obtain⟨k,hk⟩:=Kv ⟨i,hi⟩ ⟨j,hj⟩;exact⟨k.1,k.2,hk⟩
theorem Ec(hm:t.mask=7)(h:Int)(j:Nat)(hj:j < 8):∃n,n < 21∧(road t h n).j=j:=by
 have h13:(road t h 13).j < 8:=by rw[(sk hm h 13).2.1];exact(sk hm h 13).2.2.1
 have hl:=sj hm h;revert h13 hl;generalize (road t h 13).j=r;intro h13 hl;obtain⟨k,hk1,hk⟩:=lcg_all' r j h13 hj;exact⟨13+k,by lia,(hl k).trans hk⟩
theorem sT [DecidableEq W]:∀(l ws:List W),l.Nodup->(∀x∈l,x∈ws)->l.length≤ws.length
 | [],ws,_,_=>Va _
 | x::l,ws,hn,hs=>by
  have hn:=V5.mp hn;have hx:=hs x (.head _);have:=sT l (ws.erase x) hn.2 fun y hy=>by
   have:y≠x:=fun e=>hn.1 (e ▸ hy);exact(List.mem_erase_of_ne this).mpr (hs y (.tail _ hy))
  rw[List.length_erase_of_mem hx] at this;have h0:0 < ws.length:=YT hx;simp only[Uw]
  lia
theorem Bb(hm:t.mask=7)(h:Int)(hs:t.place.size < 8):∃n,n < 21∧(road t h n).j∉t.place.toList:=by
 have:∃j,j < 8∧j∉t.place.toList:=by
  apply V4;intro z;have hsub:List.range 8 ⊆ t.place.toList:=fun j hj=>by
   apply V4;intro q;exact z ⟨j,Vg.mp hj,q⟩
  have:=sT (List.range 8) t.place.toList Yc hsub;simp at this
  lia
 obtain⟨j,hj,hn⟩:=this;obtain⟨n,h1,h2⟩:=Ec hm h j hj;exact⟨n,h1,by rw[h2];exact hn⟩
theorem HF [DecidablePred p]:∀{n:Nat},p n->∃m,m≤n∧p m∧∀i,i < m->¬p i
 | 0,h=>⟨0,Us _,h,fun i hi=>absurd hi (Wq _)⟩
 | n+1,h=>by
  by_cases q:∃i,i≤n∧p i
  ·obtain⟨i,hi,hp⟩:=q;have:∀k,k≤n->p k->∃m,m≤k∧p m∧∀i,i < m->¬p i:=by
    intro k
    induction k using Nat.strongRecOn with
    | _ k ih=>
     intro hk hpk
     by_cases q2:∃i,i < k∧p i
     ·obtain⟨i,hi,hp⟩:=q2;obtain⟨m,h1,h2,h3⟩:=ih i hi (by lia) hp;exact⟨m,by lia,h2,h3⟩
     ·exact⟨k,Us _,hpk,fun i hi hp=>q2 ⟨i,hi,hp⟩⟩
   obtain⟨m,h1,h2,h3⟩:=this i hi hp;exact⟨m,by lia,h2,h3⟩
  ·exact⟨n+1,Us _,h,fun i hi hp=>q ⟨i,by lia,hp⟩⟩
theorem zm{t:SetTable}(hx:eJ t.place)(hd:t.dummies=#[])(hashAt:Nat->Int)(h:Int){N:Nat}(hN:(road t h N).j∉t.place.toList):∀(fuel m:Nat),m≤N->N-m < fuel->(∀i,i < N->(road t h i).j∈t.place.toList)->
  (SetTable.probe.go t hashAt h fuel (road t h m)=some (.empty (road t h N).j none)∧(∀c i,m≤c->c < N->t.place[i]?=some (road t h c).j->hashAt i≠h))∨
  ∃c i,m≤c∧c < N∧t.place[i]?=some (road t h c).j∧hashAt i=h∧(∀c' i,m≤c'->c' < c->t.place[i]?=some (road t h c').j->hashAt i≠h)∧SetTable.probe.go t hashAt h fuel (road t h m)=some (.candidate (road t h c).j i (road t h (c+1)))
 | 0,m,hm,hf,hl=>absurd hf (Wq _)
 | fuel+1,m,hm,hf,hl=>by
  unfold SetTable.probe.go
  by_cases e:m=N
  ·subst e;rw[AN hd hN];refine .inl ⟨?_,fun c i h1 h2=>absurd h2 (by lia)⟩;rw[si]
  ·have hlt:m < N:=by lia
   obtain⟨i,hi,hv⟩:=Y6 (VS.mp (hl m hlt));have hg:t.place[i]?=some (road t h m).j:=by rw[U1 hi,hv]
   rw[vf hx hg];dsimp only;have uni:∀i',t.place[i']?=some (road t h m).j->i'=i:=fun i' h'=>(iK hx h').symm.trans (iK hx hg)
   by_cases hh:hashAt i=h
   ·refine .inr ⟨m,i,Us _,hlt,hg,hh,fun c' i' h1 h2=>absurd h2 (by lia),?_⟩;rw[Ut (by rw[hh];simp)];rfl
   ·rw[Uu (by simpa using hh)];show _∨_;rcases zm hx hd hashAt h hN fuel (m+1) hlt (by lia) hl with⟨h1,h2⟩ |⟨c,i2,h1,h2,h3,h4,h5,h6⟩
    ·refine .inl ⟨h1,fun c i' hc hcN hp=>?_⟩;rcases Zh hc with q | q
     ·subst q;rw[uni i' hp];exact hh
     ·exact h2 c i' q hcN hp
    ·refine .inr ⟨c,i2,by lia,h2,h3,h4,fun c' i' hc hcc hp=>?_,h6⟩;rcases Zh hc with q | q
     ·subst q;rw[uni i' hp];exact hh
     ·exact h5 c' i' q hcc hp
end L2
namespace L2
open PySem PySem.Spec PyProof.Rows PySem.SeqAt
theorem JU:∀(n:Nat) {d e:PyData},eR n d=true->eR n e=true->PyData.eqv d e=true->d=e:=by
 intro n
 induction n with
 | zero=>
  intro d e hd he h;cases d <;> cases e <;> simp_all [eR,PyData.eqv]
 | succ n ih=>
  have hl:∀(xs ys:List PyData),xs.all (eR n)=true->ys.all (eR n)=true->PyData.eqvAll xs ys=true->xs=ys:=by
   intro xs
   induction xs with
   | nil=>intro ys _ _ h;cases ys with | nil=>rfl | cons _ _=>simp[PyData.eqvAll] at h
   | cons x xs ihx=>
    intro ys h1 h2 h;cases ys with
    | nil=>simp[PyData.eqvAll] at h
    | cons y ys=>
     rw[Xf,UJ] at h1 h2;rw[PyData.eqvAll,UJ] at h;rw[ih h1.1 h2.1 h.1,ihx ys h1.2 h2.2 h.2]
  intro d e hd he h;cases d <;> cases e <;> first
   |(simp_all [eR,PyData.eqv];done)
   |(rename_i xs ys;rw[PyData.eqv] at h;rw[hl xs ys hd he h])
theorem xv:∀(n:Nat) {d:PyData},eR n d=true->d.canLay0=true∧d.depth≤n:=by
 intro n
 induction n with
 | zero=>
  intro d hd;cases d <;> simp_all [eR,PyData.canLay0,PyData.depth]
 | succ n ih=>
  have hl:∀(xs:List PyData),xs.all (eR n)=true->PyData.canLayAll0 xs=true∧PyData.depthAll xs≤n:=by
   intro xs
   induction xs with
   | nil=>intro _;exact⟨by simp[PyData.canLayAll0],by simp[PyData.depthAll]⟩
   | cons x xs ihx=>
    intro h1;rw[Xf,UJ] at h1;obtain⟨a1,a2⟩:=ih h1.1;obtain⟨b1,b2⟩:=ihx h1.2;refine⟨by rw[PyData.canLayAll0,a1,b1];rfl,?_⟩;rw[PyData.depthAll]
    lia
  intro d hd;cases d <;> first
   |(simp_all [eR,PyData.canLay0,PyData.depth];done)
   |(rename_i xs;obtain⟨a1,a2⟩:=hl xs hd;refine⟨(by rw[PyData.canLay0];exact a1),?_⟩;rw[PyData.depth];lia)
theorem EZ:∀(n:Nat) {A:Around} {s:Shared} {d:PyData} {v:Value} {as:List Addr} {Q:Int->Shared->Prop},A.units+n < cLine->eR n d=true->Reads s.heap v d as->(∀k,Q (fZ w n d) {s with toks:=s.toks+k})->
  wpAny (model P w) A (pyHash v) Q E s:=by
 have leaf:∀(n:Nat) {A:Around} {s:Shared} {d:PyData} {v:Value} {as:List Addr} {Q:Int->Shared->Prop},(∀xs,d≠.tuple xs)->eR n d=true->Reads s.heap v d as->(∀k,Q (fZ w n d) {s with toks:=s.toks+k})->wpAny (model P w) A (pyHash v) Q E s:=by
  intro n A s d v as Q hnt hp hr h;cases hr with
  | int i t=>exact(bF P w).pyHash (k:=.inl i) (qi P w i t) (by have:=h 1;cases n <;> exact this)
  | str x t=>exact(bF P w).pyHash (k:=.inr x) (qh P w x t) (by have:=h 1;cases n <;> exact this)
  | tuple=>exact absurd rfl (hnt _)
  | none=>cases n <;> simp[eR] at hp
  | bool=>cases n <;> simp[eR] at hp
  | list=>cases n <;> simp[eR] at hp
  | dict=>cases n <;> simp[eR] at hp
 intro n
 induction n with
 | zero=>
  intro A s d v as Q hu hp hr h;exact leaf 0 (fun xs e=>by subst e;simp[eR] at hp) hp hr h
 | succ n ih=>
  intro A s d v as Q hu hp hr h
  by_cases hnt:∀xs,d≠.tuple xs
  ·exact leaf (n+1) hnt hp hr h
  ·have:∃xs,d=.tuple xs:=V4 fun z=>hnt fun xs e=>z ⟨xs,e⟩;obtain⟨xs,rfl⟩:=this;cases hr with
   | @tuple a o vs m _ _ ho hc hd hall=>
    have hT:s.TypeIs (.ref a) "tuple":=⟨o,ho,hc⟩;have hp':xs.all (eR n)=true:=hp;unfold pyHash
    first | unfold pyHashByItsType | skip
    first | refine Ug (wpAny_cRoomFor_or (.inr (by lia)) ?_) | skip
    refine Ug (WN hT WU.lookup ?_);show wpAny _ _ (if(some (Value.builtin "tuple.__hash__")==some Value.none)=true then _ else _) Q E s;rw[Uu (by rw[beq_builtin_none];exact U0)];refine Ug (WN hT WU.lookup ?_);show wpAny _ _ (callSpecialIfBoundUnlessNone? (.ref a) "__hash__" _ >>=_) Q E s;refine Ug (wpAny_callSpecialIfBoundUnlessNone?_slot hT WU (Vb WU hT F.entry_tuple_hash ?_ (F.args_tuple_hash_1 _)));show wpAny _ _ (Builtin.Tuple.tupleItemsOf (.ref a) >>=_) _ _ s;refine Ug (wpAny_tupleItemsOf ho hd ?_);refine Ug ?_;rw[←Wn];refine W2 _
     (fun rest (b:Array Int) s'=>∃done left as',xs=done++left∧ReadsAll s.heap rest left as'∧b.toList=done.map (fZ w n)∧∃k,s'={s with toks:=s.toks+k})
     _ ?_ ?_ _ _ ⟨[],xs,_,rfl,hall,rfl,0,rfl⟩
    ·rintro x rest b s' ⟨done,left,as',e,hl,hb,k,rfl⟩;cases hl with
     | @cons _ _ d1 ds bs cs h1 hl'=>
      have hd1:eR n d1=true:=by
       rw[V2] at hp';exact hp' d1 (by rw[e];simp)
      refine Ug (ih (A:=A.in1) (s:={s with toks:=s.toks+k}) (by rw[Around.in1_units];lia) hd1 h1 fun k2=>?_)
      first
       | exact Uk ⟨done++[d1],ds,_,by rw[e];simp,hl',by simp[hb],k+k2,by simp[XU]⟩
       | exact Ug (Uk (Uk ⟨done++[d1],ds,_,by rw[e];simp,hl',by simp[hb],k+k2,by simp[XU]⟩))
    ·rintro b s' ⟨done,left,as',e,hl,hb,k,rfl⟩;cases hl;rw[Vy] at e;subst e;show wpAny _ _ (retInt (Builtin.Tuple.tupleHashOf b.toList)) _ _ _;rw[hb];refine wpAny_ret_mkInt ?_;show wpAny _ _ (if(decide (-(2:Int)^63≤Builtin.Tuple.tupleHashOf (xs.map (fZ w n)))&&decide (Builtin.Tuple.tupleHashOf (xs.map (fZ w n)) < 2^63))=true then _ else _) Q E _;have h:=h (k+1);unfold fZ reduceHash at h
     by_cases hr:(decide (-(2:Int)^63≤Builtin.Tuple.tupleHashOf (xs.map (fZ w n)))&&decide (Builtin.Tuple.tupleHashOf (xs.map (fZ w n)) < 2^63))=true
     ·rw[Ut hr];rw[Ut hr] at h;exact Uk (by simpa [XU] using h)
     ·rw[Uu hr];rw[Uu hr] at h;exact Ug (V1 (Uk (by simpa [XU] using h)))
theorem HW(n:Nat)(hu:A.units+n < cLine)(pd:eR n d=true)(pe:eR n e=true)(rd:Reads s.heap u d as)(re:Reads s.heap v e bs)(h:Q (PyData.eqv d e) s):
  wpAny (model P w) A (eqBool u v) Q E s:=by
 have c1:=xv n pd;have c2:=xv n pe;refine eqBoolOverData P w A E s u v d e as bs Q rd re c1.1 c2.1 ?_ h;have:min d.depth e.depth≤d.depth:=XA _ _
 lia
theorem p9:∀(n:Nat) {A:Around} {s:Shared} {d:PyData} {v:Value} {as:List Addr} {Q:Bool->Shared->Prop},eR n d=true->Reads s.heap v d as->Q true s->∀m,n≤m->wpAny (model P w) A (eqIsQuiet m v) Q E s:=by
 intro n
 induction n with
 | zero=>
  intro A s d v as Q hp hr h m hm;have:carriedByValue v=true:=by cases hr <;> first | rfl | simp[eR] at hp
  rw[Yq _ this];exact Uk h
 | succ n ih=>
  intro A s d v as Q hp hr h m hm;cases hr with
  | @tuple a o vs k xs _ ho hc hd hall=>
   obtain⟨m,rfl⟩:∃m',m=m'+1:=⟨m-1,by lia⟩;have hT:s.TypeIs (.ref a) "tuple":=⟨o,ho,hc⟩;have hp':xs.all (eR n)=true:=hp;unfold eqIsQuiet;refine Ug (WN hT F.slot_tuple_eq.lookup ?_);show wpAny _ _ (isInstance (.ref a) (.type "tuple") >>=_) _ _ s;refine Ug (VT hT isSubtype_tuple_tuple ?_);simp only[VE,UK,Vu];refine Ug (Vn ho hd ?_);refine Ug ?_;show wpAny _ _ (forIn vs _ _) _ _ s;rw[←Wn];refine W2 _ (fun rest r s'=>r.1=none∧s'=s∧∃ds as',ReadsAll s.heap rest ds as'∧ds.all (eR n)=true) _ ?_ ?_ _ _ ⟨rfl,rfl,xs,_,hall,hp'⟩
   ·rintro v rest r s' ⟨hr,rfl,ds,as',hl,hds⟩;cases hl with
    | cons h1 h2=>
     rw[Xf,UJ] at hds;refine Ug (ih hds.1 h1 ?_ m (by lia));simp only[VE,UK,Vu];exact Uk ⟨rfl,rfl,_,_,h2,hds.2⟩
   ·rintro⟨r1,r2⟩ s' ⟨hr,rfl,_⟩;simp only at hr;subst hr;exact Uk h
  | int i t=>rw[Yq _ rfl];exact Uk h
  | str i t=>rw[Yq _ rfl];exact Uk h
  | none=>simp[eR] at hp
  | bool=>simp[eR] at hp
  | list=>simp[eR] at hp
  | dict=>simp[eR] at hp
theorem iu(n:Nat)(h:carriedByValue v=true):ofAClassStatement n v=pure false:=by
 cases v with
 | ref a=>simp[carriedByValue] at h
 | _=>first | rfl | simp[ofAClassStatement] |(unfold ofAClassStatement;rfl)
theorem qt:∀(n:Nat) {A:Around} {s:Shared} {d:PyData} {v:Value} {as:List Addr} {Q:Bool->Shared->Prop},eR n d=true->Reads s.heap v d as->Q false s->∀m,n≤m->wpAny (model P w) A (ofAClassStatement m v) Q E s:=by
 intro n
 induction n with
 | zero=>
  intro A s d v as Q hp hr h m hm;have:carriedByValue v=true:=by cases hr <;> first | rfl | simp[eR] at hp
  rw[iu _ this];exact Uk h
 | succ n ih=>
  intro A s d v as Q hp hr h m hm;cases hr with
  | @tuple a o vs k xs _ ho hc hd hall=>
   obtain⟨m,rfl⟩:∃m',m=m'+1:=⟨m-1,by lia⟩;have hT:s.TypeIs (.ref a) "tuple":=⟨o,ho,hc⟩;have hp':xs.all (eR n)=true:=hp;unfold ofAClassStatement;refine Ug (Wt hT ?_);dsimp only;refine Ug ?_;refine Uk ?_;simp only[VE,UK,Vu];refine Ug (Vn ho hd ?_);dsimp only;refine Ug ?_;show wpAny _ _ (forIn vs _ _) _ _ s;rw[←Wn];refine W2 _ (fun rest r s'=>r.1=none∧s'=s∧∃ds as',ReadsAll s.heap rest ds as'∧ds.all (eR n)=true) _ ?_ ?_ _ _ ⟨rfl,rfl,xs,_,hall,hp'⟩
   ·rintro v rest r s' ⟨hr,rfl,ds,as',hl,hds⟩;cases hl with
    | cons h1 h2=>
     rw[Xf,UJ] at hds;refine Ug (ih hds.1 h1 ?_ m (by lia));simp only[VE,UK,Vu];exact Uk ⟨rfl,rfl,_,_,h2,hds.2⟩
   ·rintro⟨r1,r2⟩ s' ⟨hr,rfl,_⟩;simp only at hr;subst hr;exact Uk h
  | int i t=>rw[iu _ rfl];exact Uk h
  | str i t=>rw[iu _ rfl];exact Uk h
  | none=>simp[eR] at hp
  | bool=>simp[eR] at hp
  | list=>simp[eR] at hp
  | dict=>simp[eR] at hp
theorem E3:∀(n:Nat) {A:Around} {s:Shared} {d:PyData} {v:Value} {as:List Addr} {Q:Bool->Shared->Prop},eR n d=true->Reads s.heap v d as->(∀b,Q b s)->∀m,wpAny (model P w) A (hashByValue m v) Q E s:=by
 intro n
 induction n with
 | zero=>
  intro A s d v as Q hp hr h m;cases hr with
  | int i t=>rw[WY m (x:=.int i t) rfl];exact Uk (h _)
  | str i t=>rw[WY m (x:=.str i t) rfl];exact Uk (h _)
  | none=>simp[eR] at hp
  | bool=>simp[eR] at hp
  | list=>simp[eR] at hp
  | dict=>simp[eR] at hp
  | tuple=>simp[eR] at hp
 | succ n ih=>
  intro A s d v as Q hp hr h m;cases hr with
  | @tuple a o vs k xs _ ho hc hd hall=>
   have hT:s.TypeIs (.ref a) "tuple":=⟨o,ho,hc⟩;have hp':xs.all (eR n)=true:=hp;cases m with
   | zero=>unfold hashByValue;exact Uk (h _)
   | succ m=>
    unfold hashByValue;refine Ug (WN hT WU.lookup ?_);dsimp only;refine Ug (Vn ho hd ?_);refine Ug ?_;show wpAny _ _ (forIn vs _ _) _ _ s;rw[←Wn];refine W2 _ (fun rest r s'=>r.1=none∧s'=s∧∃ds as',ReadsAll s.heap rest ds as'∧ds.all (eR n)=true) _ ?_ ?_ _ _ ⟨rfl,rfl,xs,_,hall,hp'⟩
    ·rintro v rest r s' ⟨hr,rfl,ds,as',hl,hds⟩;cases hl with
     | cons h1 h2=>
      rw[Xf,UJ] at hds;refine Ug (ih hds.1 h1 (fun b=>?_) m);cases b with
      | true=>
       simp only[VE,UK,Vu];exact Uk ⟨rfl,rfl,_,_,h2,hds.2⟩
      | false=>
       simp only[Bool.not_false,Wy];exact Uk (Uk (h _))
    ·rintro⟨r1,r2⟩ s' ⟨hr,rfl,_⟩;simp only at hr;subst hr;exact Uk (h _)
  | int i t=>rw[WY m (x:=.int i t) rfl];exact Uk (h _)
  | str i t=>rw[WY m (x:=.str i t) rfl];exact Uk (h _)
  | none=>simp[eR] at hp
  | bool=>simp[eR] at hp
  | list=>simp[eR] at hp
  | dict=>simp[eR] at hp
structure og(es:Array (Int×Value))(t:SetTable):Prop where
 mask:t.mask=7
 Qx:t.dummies=#[]
 MA:eJ t.place
 sz:t.place.size=es.size
 le:es.size≤4
 reach:∀(i j:Nat)(e:Int×Value),t.place[i]?=some j->es[i]?=some e->∃n,(road t e.1 n).j=j∧∀m,m < n->(road t e.1 m).j∈t.place.toList
def LX(w:World)(h:Heap)(n:Nat)(e:Int×Value)(d:PyData):Prop:=eR n d=true∧(∃as,Reads h e.2 d as)∧e.1=fZ w n d∧∃a,e.2=.ref a
def ua(w:World)(h:Heap)(n:Nat)(es:Array (Int×Value))(ds:List PyData):Prop:=ds.length=es.size∧∀(i:Nat)(e:Int×Value)(d:PyData),es[i]?=some e->ds[i]?=some d->LX w h n e d
theorem ua.at{w:World}{h:Heap}{n:Nat}{es:Array (Int×Value)}{ds:List PyData}(E:ua w h n es ds){i:Nat}{e:Int×Value}(he:es[i]?=some e):∃d,ds[i]?=some d∧LX w h n e d:=by
 have hi:i < es.size:=(Ww.mp he).1;have hd:ds[i]?=some (ds[i]'(by rw[E.1];exact hi)):=Um _;exact⟨_,hd,E.2 i e _ he hd⟩
theorem og.fits(T:og es t):t.fits es.size=true:=by
 unfold SetTable.fits SetTable.fill;rw[T.sz,T.Qx,T.mask];have:=T.le;simp
 lia
theorem og.E5(T:og es t)(h:Int):∃N,N < 21∧(road t h N).j∉t.place.toList∧∀i,i < N->(road t h i).j∈t.place.toList:=by
 obtain⟨n,h1,h2⟩:=Bb T.mask h (by rw[T.sz];have:=T.le;lia);obtain⟨m,m1,m2,m3⟩:=HF (p:=fun i=>(road t h i).j∉t.place.toList) h2;exact⟨m,by lia,m2,fun i hi=>V4 (m3 i hi)⟩
theorem F9(hn:n≤8)(px:eR n dx=true)(rx:Reads s.heap x dx as):∀(ys:List Value),(∀y∈ys,∃d as,eR n d=true∧Reads s.heap y d as)->∀{Q:Bool->Shared->Prop},Q false s->wpAny (model P w) A (searchCouldBeSeen x ys) Q E s:=by
 intro ys hys Q h;unfold searchCouldBeSeen;refine Ug ?_;refine W2 _ (fun rest r s'=>r.1=none∧s'=s∧∀y∈rest,∃d as,eR n d=true∧Reads s.heap y d as) _ ?_ ?_ _ _ ⟨rfl,rfl,hys⟩
 ·rintro y rest r s' ⟨hr,rfl,hl⟩;obtain⟨d,bs,pd,rd⟩:=hl y (.head _);have hl':=fun z hz=>hl z (.tail _ hz);dsimp only
  split
  all_goals
   split
   ·exact Uk ⟨rfl,rfl,hl'⟩
   ·refine Ug (p9 n px rx ?_ 8 hn);simp only[VE,UK,Vu];refine Ug (p9 n pd rd ?_ 8 hn);simp only[VE,UK,Vu];refine Ug (qt n px rx ?_ 8 hn);simp only[UK,Vu];refine Ug (qt n pd rd ?_ 8 hn);simp only[UK,Vu];exact Uk ⟨rfl,rfl,hl'⟩
 ·rintro⟨r1,r2⟩ s' ⟨hr,rfl,_⟩;simp only at hr;subst hr;exact Uk h
theorem AO{a b:Addr}{ob:Obj}{es:Array (Int×Value)}{ep:Nat}{t:SetTable}{n:Nat}{ds:List PyData}{dx:PyData}{as:List Addr}{h:Int}{N:Nat}{Q:SetFound->Shared->Prop}
  (hob:s.heap.get? a=some ob) (hdt:ob.data=.set es ep t) (T:og es t) (L:ua w s.heap n es ds) (hn:n≤8) (hu:A.units+n < cLine) (px:eR n dx=true) (rx:Reads s.heap (.ref b) dx as) (hh:h=fZ w n dx)
  (hN:(road t h N).j∉t.place.toList) (hl:∀i,i < N->(road t h i).j∈t.place.toList) (hN21:N < 21)
  (hit:dx∈ds->Q (.there none) s) (miss:dx∉ds->Q (.free (road t h N).j false) s):
  ∀(k fuel m:Nat)(stand:Option SetTable.Probe),N-m=k->m≤N->N-m < fuel->stand.getD (t.probeStart h)=road t h m->(∀(c i:Nat)(d:PyData),c < m->t.place[i]?=some (road t h c).j->ds[i]?=some d->d≠dx)->
   wpAny (model P w) A (setSearchFrom a (.ref b) h true fuel stand) Q E s:=by
 intro k
 induction k using Nat.strongRecOn with
 | _ k ih=>
  intro fuel m stand hk hm hf hst hin;obtain⟨fuel,rfl⟩:∃f,fuel=f+1:=⟨fuel-1,by lia⟩;unfold setSearchFrom;refine Ug (VM hob hdt T.fits ?_);dsimp only;have hgw:t.gaveWay=false:=by unfold SetTable.gaveWay;rw[T.mask];rfl
  rw[hgw];simp only[UK,Vu];rw[hst];generalize hha:(fun(i:Nat)=>((es[i]?.map fun(e:Int×Value)=>e.1).getD 0:Int))=hashAt;have hfuel:N-m < 10*SetTable.turns t.mask:=by unfold SetTable.turns;rw[T.mask];lia
  have hpr:=zm T.MA T.Qx hashAt h hN (10*SetTable.turns t.mask) m hm hfuel hl;have at_:∀i j,t.place[i]?=some j->∃e,es[i]?=some e:=fun i j hj=>by
   have:i < es.size:=by rw[←T.sz];exact(Ww.mp hj).1
   exact⟨es[i],U1 this⟩
  have hhe:∀i e,es[i]?=some e->hashAt i=e.1:=fun i e he=>by rw[←hha];simp[he]
  rcases hpr with⟨p1,p2⟩ |⟨c,i,c1,c2,c3,c4,c5,c6⟩
  ·have hp:t.probe hashAt h (road t h m)=some (.empty (road t h N).j none):=p1;subst hha
   erw [hp]
   dsimp only;refine Uk (miss fun hmem=>?_);obtain⟨i,hi⟩:=VD.mp hmem;have his:i < es.size:=by rw[←L.1];exact(Ui.mp hi).1
   have he:=U1 (xs:=es) his;obtain⟨hp1,hr1,hh1,_⟩:=L.2 i _ dx he hi;have hpl:i < t.place.size:=by rw[T.sz];exact his
   have hj:=U1 (xs:=t.place) hpl;obtain⟨n0,r1,r2⟩:=T.reach i _ _ hj he;rw[hh1,←hh] at r1 r2;have hn0:n0 < N:=by
    rcases X4 n0 N with q | q | q
    ·exact q
    ·subst q;exact absurd (by rw[r1];simp) hN
    ·exact absurd (r2 N q) hN
   rcases Wj n0 m with q | q
   ·exact hin n0 i dx q (by rw[r1];exact hj) hi rfl
   ·exact p2 n0 i q hn0 (by rw[r1];exact hj) (by rw[hhe i _ he,hh1,hh])
  ·have hp:t.probe hashAt h (road t h m)=some (.candidate (road t h c).j i (road t h (c+1))):=c6;subst hha
   erw [hp]
   dsimp only;obtain⟨⟨h',y⟩,he⟩:=at_ i _ c3
   obtain⟨dy,hdy,py,⟨bs,ry⟩,hhy,⟨ya,hya⟩⟩:=L.at he;dsimp only at ry hhy hya;subst hya;have seen:∀{Q':Bool->Shared->Prop},Q' false s->wpAny (model P w) A (searchCouldBeSeen (.ref b) ((es.filter (·.1==h)).toList.map (·.2))) Q' E s:=fun {Q'} q=>by
    refine F9 hn px rx _ (fun y hy=>?_) q;obtain⟨e,he,rfl⟩:=UR.mp hy;have he':e∈es.toList:=by
     have:=VS.mp he;exact VS.mpr (Array.mem_filter.mp this).1
    obtain⟨i,hi,hv⟩:=Y6 (VS.mp he');obtain⟨d,_,pd,⟨bs,rd⟩,_,_⟩:=L.at (i:=i) (e:=e) (by rw[U1 hi,hv]);exact⟨d,bs,pd,rd⟩
   have go:wpAny (model P w) A (do
     let some (_,y):=es[i]? | unsupported "internal:set-entry"
     let equal←holding [y] (eqBool y (.ref b));let(es',_,t')←setState a
     if true&&equal then return .there none
     let some same:=t'.sameMemory t.moves t.mask | unsupported "set.changed-during-lookup:is-the-new-block-at-the-old-address"
     let still←match (if same then t'.slot (road t h c).j else .empty) with
      | .live i'=>match es'[i']? with
       | some (_,y')=>do pure (if←isSame y' y then some i' else none)
       | none=>pure none
      | _=>pure none
     match still with
     | none=>rule "set.search.anew";setSearchFrom a (.ref b) h true fuel none
     | some i'=>if equal then return .there (some i') else setSearchFrom a (.ref b) h true fuel (some (road t h (c+1)))) Q E s:=by
    rw[he];dsimp only;refine Ug (U9 (HW n hu py px ry rx ?_));refine Ug (VM hob hdt T.fits ?_);dsimp only;cases hq:PyData.eqv dy dx with
    | true=>
     rw[Xh,Ut rfl];refine Uk (hit ?_);rw[←JU n py px hq];exact Ul hdy
    | false=>
     rw[Xh,Uu U0];have hsm:t.sameMemory t.moves t.mask=some true:=by unfold SetTable.sameMemory;rw[Ut (by simp)]
     rw[hsm];dsimp only;rw[Ut rfl,vf T.MA c3];dsimp only;rw[he];dsimp only;refine Ug (wpAny_isSame_ref_self (Ug (Uk ?_)));rw[Ut rfl];dsimp only;rw[Uu U0];refine ih (N-(c+1)) (by lia) fuel (c+1) _ rfl (by lia) (by lia) rfl fun c' i' d' hc' hp' hd'=>?_;have his':i' < es.size:=by rw[←L.1];exact(Ui.mp hd').1
     have he':=U1 (xs:=es) his';obtain⟨pd',_,hh',_⟩:=L.2 i' _ d' he' hd';rcases Wj c' m with q | q
     ·exact hin c' i' d' q hp' hd'
     ·rcases Wj c' c with q2 | q2
      ·intro z;subst z;exact c5 c' i' q q2 hp' (by rw[hhe i' _ he',hh',hh])
      ·have:c'=c:=by lia
       subst this;have:i'=i:=(iK T.MA hp').symm.trans (iK T.MA c3);subst this;intro z;rw[hdy] at hd';injection hd' with hd'
       rw[hd',z,eqv_refl dx (xv n px).1] at hq;cases hq
   cases hled:t.led with
   | true=>
    simp only[VE,UK,Vu];exact go
   | false=>
    simp only[Bool.not_false,Wy];refine Ug (seen ?_);simp only[UK,Vu];exact go
theorem tj(xs:Array α)(p:Nat)(x:α)(hp:p≤xs.size)(i:Nat):(SetTable.insertAt xs p x)[i]?=if i < p then xs[i]? else if i=p then some x else xs[i-1]?:=by
 rw[←VN,Ze]
 by_cases h1:i < p
 ·rw[Ut h1,UG (by simp;lia),Zj,Ut h1,VN]
 ·rw[Uu h1,US (by simp;lia)];have hl:(xs.toList.take p).length=p:=by simp;lia
  rw[hl]
  by_cases h2:i=p
  ·subst h2;rw[Ut rfl,X2];rfl
  ·rw[Uu h2];obtain⟨k,hk⟩:∃k,i-p=k+1:=⟨i-p-1,by lia⟩;rw[hk,Vo,List.getElem?_drop,VN];congr 1
   lia
theorem eJ.ins(hx:eJ xs)(hj:j∉xs.toList):eJ (SetTable.insertAt xs (SetTable.below xs j) j):=by
 obtain⟨b1,b2,b3⟩:=jn xs j hx;have g:=tj xs (SetTable.below xs j) j b1;generalize SetTable.below xs j=p at b1 b2 b3 g;intro i k hi hk hik;have gi:=g i;have gk:=g k;rw[U1 hi] at gi;rw[U1 hk] at gk;have b3':∀i (h:i < xs.size),p≤i->j < xs[i]:=fun i h q=>by
  rcases Wj j xs[i] with z | z
  ·exact z
  ·have y0:=b3 i h q;have y1:xs[i]=j:=by lia
   have y2:xs[i]∈xs.toList:=by simp
   rw[y1] at y2;exact absurd y2 hj
 have some_lt:∀{i v:Nat},some v=xs[i]?->∃h:i < xs.size,v=xs[i]:=fun {i v} e=>by
  obtain⟨h1,h2⟩:=Ww.mp e.symm;exact⟨h1,h2.symm⟩
 by_cases i1:i < p
 ·rw[Ut i1] at gi;obtain⟨hi',ei⟩:=some_lt gi;rw[ei]
  by_cases k1:k < p
  ·rw[Ut k1] at gk;obtain⟨hk',ek⟩:=some_lt gk;rw[ek];exact hx i k hi' hk' hik
  ·rw[Uu k1] at gk
   by_cases k2:k=p
   ·rw[Ut k2] at gk;injection gk with gk
    rw[gk];exact b2 i hi' i1
   ·rw[Uu k2] at gk;obtain⟨hk',ek⟩:=some_lt gk;rw[ek];exact Xv (b2 i hi' i1) (b3' _ hk' (by lia))
 ·rw[Uu i1] at gi;have k1:¬k < p:=by lia
  have k2:¬k=p:=by lia
  rw[Uu k1,Uu k2] at gk;obtain⟨hk',ek⟩:=some_lt gk;rw[ek]
  by_cases i2:i=p
  ·rw[Ut i2] at gi;injection gi with gi
   rw[gi];exact b3' _ hk' (by lia)
  ·rw[Uu i2] at gi;obtain⟨hi',ei⟩:=some_lt gi;rw[ei];exact hx _ _ hi' hk' (by lia)
theorem KG(hp:p≤xs.size):k∈(SetTable.insertAt xs p j).toList↔k=j∨k∈xs.toList:=by
 rw[(XR xs p j).mem_iff];simp[or_comm]
theorem og.put(T:og es t)(hle:es.size≤3)(hN:(road t h N).j∉t.place.toList)(hl:∀i,i < N->(road t h i).j∈t.place.toList)(ht:t'.mask=t.mask∧t'.dummies=t.dummies∧t'.place=SetTable.insertAt t.place (SetTable.below t.place (road t h N).j) (road t h N).j):
  og (SetTable.insertAt es (SetTable.below t.place (road t h N).j) (h,x)) t':=by
 obtain⟨t1,t2,t3⟩:=ht;have hb:=(jn t.place (road t h N).j T.MA).1;have hb':SetTable.below t.place (road t h N).j≤es.size:=by rw[←T.sz];exact hb
 have hs1:(SetTable.insertAt t.place (SetTable.below t.place (road t h N).j) (road t h N).j).size=t.place.size+1:=by
  have:=(XR t.place (SetTable.below t.place (road t h N).j) (road t h N).j).length_eq
  simpa using this
 have hs2:(SetTable.insertAt es (SetTable.below t.place (road t h N).j) (h,x)).size=es.size+1:=by
  have:=(XR es (SetTable.below t.place (road t h N).j) (h,x)).length_eq
  simpa using this
 have hr:∀h' n,road t' h' n=road t h' n:=fun h' n=>vj t1 h' n;refine⟨t1.trans T.mask,t2.trans T.Qx,by rw[t3];exact T.MA.ins hN,by rw[t3,hs1,hs2,T.sz],by rw[hs2];lia,fun i j e hi he=>?_⟩;rw[t3,tj _ _ _ hb] at hi;rw[tj _ _ _ hb'] at he;simp only[hr,t3,KG hb]
 by_cases i1:i < SetTable.below t.place (road t h N).j
 ·rw[Ut i1] at hi he;obtain⟨n,n1,n2⟩:=T.reach i j e hi he;exact⟨n,n1,fun m hm=>.inr (n2 m hm)⟩
 ·rw[Uu i1] at hi he
  by_cases i2:i=SetTable.below t.place (road t h N).j
  ·rw[Ut i2] at hi he;injection hi with hi
   injection he with he
   subst hi;subst he;exact⟨N,rfl,fun m hm=>.inr (hl m hm)⟩
  ·rw[Uu i2] at hi he;obtain⟨n,n1,n2⟩:=T.reach _ j e hi he;exact⟨n,n1,fun m hm=>.inr (n2 m hm)⟩
theorem take_snoc{α:Type}{l:List α}{i:Nat}{x:α}(h:l[i]?=some x):l.take (i+1)=l.take i++[x]:=by rw[List.take_add_one,h];rfl
end L2
namespace Sm
open PySem L2 PySem.Spec PyProof.Rows
end Sm
namespace Hd
open PySem PySem.W PySem.Spec PyProof.Rows L2 Sm
end Hd
namespace L2
open PySem PySem.Spec PyProof.Rows
end L2
namespace Sm
open PySem L2 PySem.Spec PyProof.Rows
end Sm
namespace L2
open PySem PySem.Spec PyProof.Rows
end L2
namespace Sm
open PySem L2 PySem.Spec PyProof.Rows
end Sm
namespace L2
open PySem PySem.Spec PyProof.Rows
end L2
namespace Sm
open PySem L2
end Sm
namespace Sm
open PySem L2 PySem.Spec PyProof.Rows
end Sm
namespace L2
open PySem PySem.Spec PyProof.Rows
end L2
namespace Sm
open PySem L2 PySem.Spec PyProof.Rows
theorem gR(d:Df X.prog X.w X.K X.mg X.base nm k ps n F)(hr:gL k' X.A)(ha:SA X (e::es) m)(hk:k≤k':=by decide)(hl:mN m n:=by repeat(first | exact aC | refine af ?_))(hg:Gl X nm:=by unfold Gl;ac_nf)(hdb:(nm==("__debug__":Str))=false:=by ac_nf)(he:starEach (e::es) X.env=(false,eval e X.env)::starEach es X.env:=by ac_nf)(hpl:(backTo pos (starEach es X.env)).any (·.1)=false:=by ac_nf):SE X (.Call (.Name nm p) (e::es) [] pos) (ao F m):=PH d hr hk ha hl hg hdb he hpl
theorem IT{x:Str}{id:String}{p pos:Pos}{e:Expr}{es:List Expr}{f:Fn}{m:AM}(hc:hY X (.builtin id) f)(hm:X.mg x=none)(hv:bootBuiltins x=some (.builtin id))(ha:SA X (e::es) m)(hg:Gl X x:=by unfold Gl;ac_nf)(hn:x≠"__name__":=by decide)(hdb:(x==("__debug__":Str))=false:=by ac_nf)
  (he:starEach (e::es) X.env=(false,eval e X.env)::starEach es X.env:=by ac_nf) (hpl:(backTo pos (starEach es X.env)).any (·.1)=false:=by ac_nf):SE X (.Call (.Name x p) (e::es) [] pos) (ao f m):=Gi hc hg hm hv ha hn hdb he hpl
theorem Js{x:Str}{id:String}{p pos:Pos}{e:Expr}{es:List Expr}{f:Fn}{m:AM}(hc:hY X (.type id) f)(hm:X.mg x=none)(hv:bootBuiltins x=some (.type id))(ha:SA X (e::es) m)(hg:Gl X x:=by unfold Gl;ac_nf)(hn:x≠"__name__":=by decide)(hdb:(x==("__debug__":Str))=false:=by ac_nf)
  (he:starEach (e::es) X.env=(false,eval e X.env)::starEach es X.env:=by ac_nf) (hpl:(backTo pos (starEach es X.env)).any (·.1)=false:=by ac_nf):SE X (.Call (.Name x p) (e::es) [] pos) (ao f m):=Gh hc hg hm hv ha hn hdb he hpl
theorem RI(hm:X.mg x=none)(hv:bootBuiltins x=some (.type n))(hg:Gl X x:=by unfold Gl;ac_nf)(hn:x≠"__name__":=by decide)(hd:(x==("__debug__":Str))=false:=by ac_nf):SE X (.Name x pos) (eK (.ty n)):=Py hg hm hv hn hd
theorem six(hr:gL k X.A)(ha:SE X a ma)(hb:SE X b mb)(hs:ou b:=by unfold ou;intro _ _;ac_nf):SE X (.Subscript a b pos) (aj aE ma mb):=PC hr.units ha hb hs
end Sm
namespace Hd
open PySem PySem.W PySem.Spec PyProof.Rows L2 Sm
theorem u0{P:List Value->Prop}(h:P [])(us:List Value)(hl:us.length=0):P us:=by cases us with | nil=>exact h | cons _ _=>cases hl
theorem u1{P:List Value->Prop}(h:∀a,P [a])(us:List Value)(hl:us.length=1):P us:=by
 cases us with
 | nil=>cases hl
 | cons a r=>exact u0 (P:=fun r=>P (a::r)) (h a) r (Nat.succ.inj hl)
theorem u2{P:List Value->Prop}(h:∀a b,P [a,b])(us:List Value)(hl:us.length=2):P us:=by
 cases us with
 | nil=>cases hl
 | cons a r=>exact u1 (P:=fun r=>P (a::r)) (h a) r (Nat.succ.inj hl)
theorem u3{P:List Value->Prop}(h:∀a b c,P [a,b,c])(us:List Value)(hl:us.length=3):P us:=by
 cases us with
 | nil=>cases hl
 | cons a r=>exact u2 (P:=fun r=>P (a::r)) (h a) r (Nat.succ.inj hl)
theorem u4{P:List Value->Prop}(h:∀a b c d,P [a,b,c,d])(us:List Value)(hl:us.length=4):P us:=by
 cases us with
 | nil=>cases hl
 | cons a r=>exact u3 (P:=fun r=>P (a::r)) (h a) r (Nat.succ.inj hl)
theorem u5{P:List Value->Prop}(h:∀a b c d e,P [a,b,c,d,e])(us:List Value)(hl:us.length=5):P us:=by
 cases us with
 | nil=>cases hl
 | cons a r=>exact u4 (P:=fun r=>P (a::r)) (h a) r (Nat.succ.inj hl)
theorem u6{P:List Value->Prop}(h:∀a b c d e f,P [a,b,c,d,e,f])(us:List Value)(hl:us.length=6):P us:=by
 cases us with
 | nil=>cases hl
 | cons a r=>exact u5 (P:=fun r=>P (a::r)) (h a) r (Nat.succ.inj hl)
theorem u7{P:List Value->Prop}(h:∀a b c d e f g,P [a,b,c,d,e,f,g])(us:List Value)(hl:us.length=7):P us:=by
 cases us with
 | nil=>cases hl
 | cons a r=>exact u6 (P:=fun r=>P (a::r)) (h a) r (Nat.succ.inj hl)
theorem aW{q:Program}{loose:List Str}{mean:ExcName->Option Value}{mg mb:Str->Option Value}{h base:Heap}{P:Program}{w:World}(T:Top q loose mean mg mb h){n:Str}{st:Stmt}(e:(recsOf q).find? (fun e=>e.name==n)=some (vn n st)){ps:List Str}{k N:Nat}{F:Fn}
  (hb:∀{f:Addr} {fd:FuncData},dI (aU h) n n st f fd->Binds (aU h) fd ps []) (ok:∀{f:Addr} {fd:FuncData},dI (aU h) n n st f fd->keepIn (aU h) (.ref f)=true->Binds (aU h) fd ps []->mg n=some (.ref f)->aX P w (aU h) mg base de k f fd ps (dJ (aU h) N F)):Df P w (aU h) mg base n k ps N F:=by
 obtain⟨f,fd,m,G⟩:=vS T e;exact⟨f,fd,ok G G.kp (hb G) m,G.kp,hb G,m⟩
end Hd
namespace L2
open PySem PySem.Spec PyProof.Rows Builtin.Str
end L2
namespace L2
open PySem PySem.Spec PyProof.Rows
end L2
namespace Sm
open PySem L2 PySem.Spec PyProof.Rows Builtin.Str
end Sm
namespace L2
open PySem PySem.Spec PyProof.Rows
section
variable {X:Cx}
end
end L2
namespace Sm
open PySem L2 PySem.Spec PyProof.Rows
section
variable {X:Cx}
end
theorem vQ{h:Heap}{f:Value->Bool}{p:PyData}:∀{us:List Value} {ds:List PyData} {as:List Addr},ReadsAll h us ds as->(∀u d as,u∈us->Reads h u d as->d∈ds->f u=PyData.eqv d p)->us.findIdx? f=ds.findIdx? fun b=>PyData.eqv b p
 | _,_,_,.nil,_=>rfl
 | _,_,_,.cons r l,hf=>by
  rw[Zk,Zk,hf _ _ _ Uo r Uo,vQ l fun u d as hu hr hd=>hf u d as (Ur _ hu) hr (Ur _ hd)]
noncomputable def nz:IZ:=fun d ds h=>match ds with
 | [x]=>(fY d h).bind fun ys=>(Ej h x).bind fun p=>(iA ys).bind fun bs=>if p.depth≤60∧PyData.depthAll bs≤60 then(bs.findIdx? fun b=>PyData.eqv b p).map fun j:Nat=>(D.int (Int.ofNat j),h) else none
 | _=>none
theorem EI{X:Cx}(hu:X.A.units+64 < cLine):LW X "list.index" (rM X.K nz):=by
 intro pins s σ H x xs v us Q I rx rs hh;obtain⟨ρ,h,d,ds,z,h',S,rd,l,ee,k⟩:=hh
 match ds,l,ee with
 | [],_,ee=>exact b5 ee
 | _::_::_,_,ee=>exact b5 ee
 | [y],l,ee=>
  obtain⟨ys,e1,e2⟩:=bo ee;obtain⟨p,e3,e4⟩:=bo e2;obtain⟨bs,e5,e6⟩:=bo e4
  by_cases w:p.depth≤60∧PyData.depthAll bs≤60
  ·rw[Ut w] at e6;obtain⟨j,e7,e8⟩:=fO e6;cases e8;obtain⟨a,vs,rfl,ha,l1⟩:=eC S rd e1;obtain rfl:v=Value.ref a:=rx;obtain⟨yv,rfl,ry⟩:=rep1 l;obtain⟨u,rfl,ru⟩:=Vals.one rs;obtain⟨r1,c1⟩:=rh S ry e3;obtain⟨r2,c2⟩:=l1.uD e5;obtain⟨as,ra⟩:=r1.reads I ru;obtain⟨its,rv,pl,hz⟩:=I.list (.inl (.inl ha));obtain⟨bs',rb⟩:=r2.reads I rv;have hj:=(vQ (f:=HX s.heap p) rb fun u d as _ hr hd=>x8 hr (dP c2 hd)).trans e7;obtain⟨j1,j2,j3⟩:=WJ.mp hj;have key:∀y,y∈its.toArray->PySem.SeqAt.EqAt X.A.in1 s y u (HX s.heap p y):=by
    intro y hy;obtain⟨d,as',hr,hd⟩:=o4 rb y (by simpa using hy);rw[x8 hr (dP c2 hd)];refine Xs d p _ s y u as' as hr ra (dP c2 hd) c1 ?_;have h1:=pU hd;have h2:min d.depth p.depth≤d.depth:=XA _ _;show X.A.units+1+min d.depth p.depth < cLine;have h3:=w.2
    lia
   obtain⟨o,n,g,o1,o2,o3⟩:=pl;obtain⟨oc,od,oda,os⟩:=o;dsimp only at o1 o2 o3;subst o1 o2 o3;have hz2:=rv.length;rw[VH] at hz;refine Xk YH ⟨_,g,rfl⟩ PySem.F.entry_list_index (PySem.F.args_list_index_2 _ _)
    (PySem.SeqAt.list_indexAt a its.toArray n none os u (HX s.heap p) j (by simpa using j1) (by lia) (by simpa using j2) (fun m hm hlt=>by simpa using j3 m hlt)) ⟨g,key,?_⟩
   exact⟨.int _,H,I.kept (t':=s.toks+1) fun _ _ e=>e,⟨_,rfl⟩,k _ _ (.here S (.int _))⟩
  ·rw[Uu w] at e6;cases e6
end Sm
namespace L2
open PySem PySem.Spec PyProof.Rows
end L2
namespace Sm
open PySem L2 PySem.Spec PyProof.Rows
end Sm
namespace L2
open PySem PySem.Spec PyProof.Rows
inductive Ck(w:World)(h:Heap)(a:Addr)(es:Array (Int×Value))(ep:Nat)(t:SetTable)(vs:List Value)(i:Nat):Value->Prop where
 | drawn {T:Addr} {idx:List Nat} {o:Obj} {n:Nat} (ho:h.get? T=some o) (hcT:o.cls=.type "tuple") (hd:o.data=.seq (idx.map fun(k:Nat)=>rawInt (k:Int)).toArray n) (hp:idx.Perm (List.range es.size)) (hv:vs=idx.filterMap fun k=>(es[k]?).map (·.2)):Ck w h a es ep t vs i (.ref T)
 | text (ht:w.params.followText "set-order"=true) (hv:vs=(pickOrder (w.params.setOrder a ep) es).toList.map (·.2)):Ck w h a es ep t vs i (.int 0 0)
 | led {slot:Nat} (ht:w.params.followText "set-order"=false) (hr:eJ t.place) (hz:(!t.plain&&decide (es.size > 1))=false) (hl:t.led=true) (hs:slot=if i=0 then 0 else(t.place.getD (i-1) 0)+1) (hv:vs=es.toList.map (·.2)):Ck w h a es ep t vs i (.int slot 0)
def Aw(w:World)(h:Heap)(J a:Addr)(es:Array (Int×Value))(ep:Nat)(t:SetTable)(vs:List Value)(i:Nat):Prop:=
 (∃ob,h.get? a=some ob∧ob.data=.set es ep t)∧t.fits es.size=true∧∃o first,h.get? J=some o∧o.cls=.type "set_iterator"∧o.data=.fields #[first,.int i 0,.ref a,.int es.size 0,.int ep 0]∧Ck w h a es ep t vs i first
theorem Ck.perm(x:Ck w h a es ep t vs i f):vs.Perm (es.toList.map (·.2)):=by
 cases x with
 | drawn ho _ hd hp hv=>subst hv;exact tw es hp
 | text ht hv=>subst hv;exact(vw _ es).map _
 | led ht hr hz hl hs hv=>subst hv;exact .refl _
def kJ(w:World)(h:Heap)(a:Addr)(es:Array (Int×Value)):Prop:=
 ∃o ep t,h.get? a=some o∧o.ExactSet∧o.data=.set es ep t∧es.size < scanBound∧t.fits es.size=true∧(t.led=!w.params.followText "set-order")∧(t.plain=true->eJ t.place)
theorem pQ{t:SetTable}{n:Nat}(h:t.fits n=true):t.place.size=n:=by
 unfold SetTable.fits at h;rw[UJ,VO] at h;exact h.1
theorem below_at(hx:eJ xs)(hi:i≤xs.size):SetTable.below xs (if i=0 then 0 else xs.getD (i-1) 0+1)=i:=by
 obtain⟨b1,b2,b3⟩:=jn xs (if i=0 then 0 else xs.getD (i-1) 0+1) hx;generalize SetTable.below xs (if i=0 then 0 else xs.getD (i-1) 0+1)=b at b1 b2 b3
 by_cases z:i=0
 ·rw[Ut z] at b2;rcases Zg b with q | q
  ·lia
  ·exact absurd (b2 0 (by lia) q) (Wq _)
 ·rw[Uu z] at b2 b3;have hg:xs.getD (i-1) 0=xs[i-1]'(by lia):=by
   rw[Yl,U1 (by lia)];rfl
  rw[hg] at b2 b3;rcases X4 b i with q | q | q
  ·have:=b3 (i-1) (by lia) (by lia);lia
  ·exact q
  ·have h1:=b2 i (by lia) q;have h2:=hx (i-1) i (by lia) (by lia) (by lia)
   lia
theorem xb(h:xs.size≤1):eJ xs:=fun i j hi hj z=>by lia
section
variable {P:Program} {w:World} {A:Around} {E:Value->Shared->Prop} {s:Shared} {a:Addr} {es:Array (Int×Value)}
theorem kJ.type(h:kJ w s.heap a es):s.TypeIs (.ref a) "set":=let⟨o,_,_,e,x,_⟩:=h;⟨o,e,x.1⟩
theorem IF(hS:kJ w s.heap a es)(h:∀h' d J ep t vs,(∀b o,s.heap.get? b=some o->h'.get? b=some o)->s.heap.objs.size≤J->vs.Perm (es.toList.map (·.2))->Aw w h' J a es ep t vs 0->Q (.ref J) {s with heap:=h',drawn:=d}):
  wpAny (model P w) A (pyIter (.ref a)) Q E s:=by
 have hT:=hS.type;obtain⟨ob,ep,t,hob,hex,hdt,h4,h5,h6,h7⟩:=hS;have out:∀(h':Heap)(d:Drawn)(J:Addr)(vs:List Value) {f:Value},(∀b o,s.heap.get? b=some o->h'.get? b=some o)->s.heap.objs.size≤J->(∃o,h'.get? J=some o∧o.cls=.type "set_iterator"∧o.data=.fields #[f,.int 0 0,.ref a,.int es.size 0,.int ep 0])->Ck w h' a es ep t vs 0 f->Q (.ref J) {s with heap:=h',drawn:=d}:=
  fun h' d J vs f hk hJ ⟨o,e1,e2,e3⟩ wy=>by
   have hp:=wy.perm;exact h h' d J ep t vs hk hJ hp ⟨⟨ob,hk _ _ hob,hdt⟩,h5,o,f,e1,e2,e3,wy⟩
 refine wpAny_pyIter_slot hT F.slot_set_iter (Vb F.slot_set_iter hT entry_set_iter' ?_ (F.args_set_iter_1 _));unfold Builtin.«frozenset.__iter__» Builtin.Frozenset.slot0 slotArgs Builtin.Frozenset.sizeOf Builtin.Frozenset.addrOf;simp only[Xp,VE,UK,↓reduceIte,bind_assoc,Vx,VG,pure_bind];refine Ug (X9 hob hdt h5 ?_);unfold setDrawn setsByText;simp only[bind_assoc];refine Ug (VM hob hdt h5 ?_);dsimp only;refine Ug (Wo ?_);simp only[pure_bind];cases hb:(!(model P w).w.params.followText "set-order"&&(!t.plain&&decide (es.size > 1))) with
 | true=>
  refine wpAny_of_eq' (Ut hb) ?_;refine Ug (Cq _ _ _ _ (by simp) fun idx d hp=>Ug (Xi ?_ (by rw[Uh,hp.length_eq,UI];exact Yp h4)));have k1:∀(o1:Obj) b o,s.heap.get? b=some o->(s.heap.push o1).get? b=some o:=fun o1 b o e=>Uj _ e;refine Ug (wpAny_setEpoch_of (k1 _ _ _ hob) hdt h5 (Ug (U2 (Uk ⟨_,rfl,"set_iterator",_,⟨_,UD _ rfl,rfl⟩,dh.lookup,?_⟩))));exact out _ d _ _ (fun b o e=>Uj _ (Uj _ e)) (by rw[Vq];exact Wi _) ⟨_,UD _ rfl,rfl,rfl⟩ (.drawn (Uj _ (UD _ rfl)) rfl rfl hp rfl)
 | false=>
  refine wpAny_of_eq' (Uu fun z=>Bool.noConfusion (hb.symm.trans z)) ?_;refine Ug (wpAny_setEpoch_of hob hdt h5 (Ug (U2 (Uk ⟨_,rfl,"set_iterator",_,⟨_,UD _ rfl,rfl⟩,dh.lookup,?_⟩))));have hb':(!w.params.followText "set-order"&&(!t.plain&&decide (es.size > 1)))=false:=hb;cases ht:w.params.followText "set-order" with
  | true=>exact out _ s.drawn _ _ (fun b o e=>Uj _ e) (Us _) ⟨_,UD _ rfl,rfl,rfl⟩ (.text ht rfl)
  | false=>
   have hz:(!t.plain&&decide (es.size > 1))=false:=by
    rw[ht] at hb';exact hb'
   have hr:eJ t.place:=by
    cases q:t.plain with
    | true=>exact h7 q
    | false=>
     rw[q] at hz;refine xb ?_;rw[pQ h5]
     simpa using hz
   exact out _ s.drawn _ _ (fun b o e=>Uj _ e) (Us _) ⟨_,UD _ rfl,rfl,rfl⟩ (.led (slot:=0) ht hr hz (by rw[h6,ht];rfl) rfl rfl)
theorem zG(hob:s.heap.get? a=some ob)(hdt:ob.data=.set es ep t)(hf:t.fits es.size=true)(ht:w.params.followText "set-order"=false)(hz:(!t.plain&&decide (es.size > 1))=false)(hl:t.led=true)(h:Q (match es[SetTable.below t.place k]?,t.place[SetTable.below t.place k]? with | some (_,x),some j=>some (x,j+1) | _,_=>none) s):wpAny (model P w) A (setNext a k i ep) Q E s:=by
 unfold setNext setsByText;refine Ug (VM hob hdt hf ?_);dsimp only;refine Ug (Ug (Wo (Uk ?_)));rw[Uu (show ¬(model P w).w.params.followText "set-order"=true by rw[show(model P w).w.params.followText "set-order"=false from ht];simp)];have hdr:¬(!t.plain&&decide (es.size > 1))=true:=by rw[hz];simp
 refine wpAny_of_eq' (Uu hdr) ?_;refine Ug (wpAny_of_eq' (m':=pure ()) (Uu (show ¬(!t.led&&!es.isEmpty)=true by rw[hl];simp)) (Uk ?_));exact Uk h
theorem ID(hS:Aw w s.heap J a es ep t vs i)(hv:vs[i]?=some v)(hne:J≠a)(h:∀h',(∀b o,b≠J->s.heap.get? b=some o->h'.get? b=some o)->Aw w h' J a es ep t vs (i+1)->Q (some v) {s with heap:=h'}):wpAny (model P w) A (pyNext (.ref J)) Q E s:=by
 obtain⟨⟨ob,hob,hdt⟩,hf,o,first,ho,hc,hd,wy⟩:=hS;have hT:s.TypeIs (.ref J) "set_iterator":=⟨o,ho,hc⟩;unfold pyNext;refine Ug (Wx (U6 (name:=Str.ofString "__next__") hT dh (Vb dh hT lJ ?_ (n5 _))));unfold Builtin.«set_iterator.__next__» slotArgs;simp only[Xp,VE,UK,↓reduceIte,bind_assoc,Vx,VG,pure_bind];refine Ug (wpAny_fieldsOf ho hd ?_);dsimp only;refine Ug (X9 hob hdt hf ?_);simp only[VG,UK,↓reduceIte];cases wy with
 | @drawn T idx oT nT hoT hcT hdT hp hvs=>
  have hTJ:T≠J:=fun z=>by subst z;rw[ho] at hoT;cases hoT;rw[hd] at hdT;cases hdT
  refine Ug (m:=seqItems? (.ref T)) (Vn hoT hdT ?_);dsimp only;have hlen:idx.length=es.size:=by rw[hp.length_eq,UI]
  have hall:∀k∈idx,∃e,es[k]?=some e:=fun k hk=>by
   have:k < es.size:=by have:=hp.mem_iff.mp hk;simpa using this
   exact⟨_,U1 this⟩
  have hget:∀(l:List Nat)(i:Nat)(v:Value),(∀k∈l,∃e,es[k]?=some e)->(l.filterMap fun k=>(es[k]?).map (·.2))[i]?=some v->∃k e,l[i]?=some k∧es[k]?=some e∧e.2=v:=by
   intro l
   induction l with
   | nil=>intro i v _ h;simp at h
   | cons k r ih=>
    intro i v ha h;obtain⟨e,he⟩:=ha k Uo;rw[VC,he] at h;dsimp only[Option.map] at h;cases i with
    | zero=>rw[YM] at h;cases h;exact⟨k,e,rfl,he,rfl⟩
    | succ j=>
     rw[Vo] at h;obtain⟨k',e',a1,a2,a3⟩:=ih j v (fun x hx=>ha x (Ur _ hx)) h;exact⟨k',e',by rw[Vo];exact a1,a2,a3⟩
  rw[hvs] at hv;obtain⟨k,e,e1,e2,rfl⟩:=hget idx i v hall hv;have e3:((idx.map fun(k:Nat)=>rawInt (k:Int)).toArray)[(i:Int).toNat]?=some (rawInt (k:Int)):=by
   rw[UO,XE,Ux,e1];rfl
  rw[e3];show wpAny _ _ (setNextDrawn a (k:Int).toNat (ep:Int).toNat >>=_) _ _ s;rw[UO,UO];unfold setNextDrawn;simp only[bind_assoc];refine Ug (VM hob hdt hf ?_);dsimp only;simp only[VG,UK,↓reduceIte];rw[e2];simp only[pure_bind];refine Ug (xX ho hd (by simp) fun h' o' hk ho' hc' hd'=>Uk ⟨_,rfl,Uk (h h' hk ?_)⟩);exact⟨⟨ob,hk _ _ (VA hne) hob,hdt⟩,hf,o',.ref T,ho',hc'.trans hc,hd',.drawn (hk _ _ hTJ hoT) hcT hdT hp (by rw[hvs])⟩
 | text ht hvs=>
  show wpAny _ _ (setNext a (0:Int).toNat (i:Int).toNat (ep:Int).toNat >>=_) _ _ s;rw[UO,UO];refine Ug (vB hob hdt hf ht ?_);have hv':=hv;rw[hvs,Ux] at hv';obtain⟨e,e1,e2⟩:=Vh.mp hv';rw[VN] at e1;rw[e1];dsimp only[Option.map];refine Ug (xX ho hd (by simp) fun h1 o1 hk1 ho1 hc1 hd1=>Ug (xX ho1 hd1 (by simp) fun h' o' hk ho' hc' hd'=>Uk ⟨_,rfl,Uk ?_⟩));rw[e2];refine h h' (fun b u hb z=>hk b u hb (hk1 b u hb z)) ⟨⟨ob,hk _ _ (VA hne) (hk1 _ _ (VA hne) hob),hdt⟩,hf,o',_,ho',(hc'.trans hc1).trans hc,hd',.text ht hvs⟩
 | @led slot ht hr hz hl hs hvs=>
  show wpAny _ _ (setNext a (slot:Int).toNat (i:Int).toNat (ep:Int).toNat >>=_) _ _ s;rw[UO,UO,UO];have hlt:i < es.size:=by
   have:=(Ui.mp hv).1;rw[hvs] at this
   simpa using this
  have hpz:=pQ hf;refine Ug (zG hob hdt hf ht hz hl ?_);rw[hs,below_at hr (by lia),U1 (show i < t.place.size by lia)];have hv':=hv;rw[hvs,Ux] at hv';obtain⟨e,e1,e2⟩:=Vh.mp hv';rw[VN] at e1;obtain⟨eh,ev⟩:=e;rw[e1];dsimp only at e2 ⊢;refine Ug (xX ho hd (by simp) fun h1 o1 hk1 ho1 hc1 hd1=>Ug (xX ho1 hd1 (by simp) fun h' o' hk ho' hc' hd'=>Uk ⟨_,rfl,Uk ?_⟩));rw[e2];refine h h' (fun b u hb z=>hk b u hb (hk1 b u hb z)) ⟨⟨ob,hk _ _ (VA hne) (hk1 _ _ (VA hne) hob),hdt⟩,hf,o',_,ho',(hc'.trans hc1).trans hc,hd',.led (slot:=t.place[i]+1) ht hr hz hl ?_ hvs⟩;rw[Uu (Nat.succ_ne_zero i),Zi,Yl,U1 (show i < t.place.size by lia)];rfl
theorem Le(hh:A.handled=none)(hS:Aw w s.heap J a es ep t vs vs.length)(h:∀h',(∀b o,b≠J->s.heap.get? b=some o->h'.get? b=some o)->Q none {s with heap:=h'}):wpAny (model P w) A (pyNext (.ref J)) Q E s:=by
 obtain⟨⟨ob,hob,hdt⟩,hf,o,first,ho,hc,hd,wy⟩:=hS;have hT:s.TypeIs (.ref J) "set_iterator":=⟨o,ho,hc⟩;have hlen:vs.length=es.size:=by have:=wy.perm.length_eq;simpa using this
 unfold pyNext;refine Ug (Wx (U6 (name:=Str.ofString "__next__") hT dh (Vb dh hT lJ ?_ (n5 _))));unfold Builtin.«set_iterator.__next__» slotArgs;simp only[Xp,VE,UK,↓reduceIte,bind_assoc,Vx,VG,pure_bind];refine Ug (wpAny_fieldsOf ho hd ?_);dsimp only;refine Ug (X9 hob hdt hf ?_);simp only[VG,UK,↓reduceIte];cases wy with
 | @drawn T idx oT nT hoT hcT hdT hp hvs=>
  refine Ug (m:=seqItems? (.ref T)) (Vn hoT hdT ?_);dsimp only;have e3:((idx.map fun(k:Nat)=>rawInt (k:Int)).toArray)[(vs.length:Int).toNat]?=none:=by
   rw[UO,XE,Ux,UY (by rw[hp.length_eq,UI,hlen];exact Us _)];rfl
  rw[e3];refine Ug (xX ho hd (by simp) fun h1 o1 hk1 ho1 hc1 hd1=>Ug (xX ho1 hd1 (by simp) fun h2 o2 hk2 ho2 hc2 hd2=>?_));exact wG (J:=J) hh fun h' hk=>h h' fun b u hb z=>hk b u (hk2 b u hb (hk1 b u hb z))
 | text ht hvs=>
  show wpAny _ _ (setNext a (0:Int).toNat (vs.length:Int).toNat (ep:Int).toNat >>=_) _ _ s;rw[UO,UO];refine Ug (vB hob hdt hf ht ?_);have hz:(pickOrder (w.params.setOrder a ep) es).size=es.size:=by have:=(vw (w.params.setOrder a ep) es).length_eq;simpa using this
  rw[YX (by rw[hz,hlen];exact Us _)];dsimp only[Option.map];refine Ug (xX ho hd (by simp) fun h2 o2 hk2 ho2 hc2 hd2=>?_);exact wG (J:=J) hh fun h' hk=>h h' fun b u hb z=>hk b u (hk2 b u hb z)
 | @led slot ht hr hz hl hs hvs=>
  show wpAny _ _ (setNext a (slot:Int).toNat (vs.length:Int).toNat (ep:Int).toNat >>=_) _ _ s;rw[UO,UO,UO];refine Ug (zG hob hdt hf ht hz hl ?_);have hpz:=pQ hf;have hnone:es[SetTable.below t.place slot]?=none:=by
   rw[hs,below_at hr (by lia)];exact YX (by lia)
  rw[hnone];dsimp only;refine Ug (xX ho hd (by simp) fun h2 o2 hk2 ho2 hc2 hd2=>?_);exact wG (J:=J) hh fun h' hk=>h h' fun b u hb z=>hk b u (hk2 b u hb z)
theorem Aw.off(x:Aw w h J a es ep t vs i)(hS:h.get? S=some oS)(hc:oS.cls=.type "list")(hj:S≠J)(ha:S≠a)(k:∀b o,b≠S->h.get? b=some o->h'.get? b=some o):Aw w h' J a es ep t vs i:=by
 obtain⟨⟨ob,hob,hdt⟩,hf,o,first,ho,hcc,hd,wy⟩:=x;refine⟨⟨ob,k _ _ (VA ha) hob,hdt⟩,hf,o,first,k _ _ (VA hj) ho,hcc,hd,?_⟩;cases wy with
 | @drawn T idx oT nT hoT hcT hdT hp hvs=>
  have hTS:T≠S:=fun z=>by subst z;rw[hS] at hoT;cases hoT;rw[hc] at hcT;exact absurd hcT (by decide)
  exact .drawn (k _ _ hTS hoT) hcT hdT hp hvs
 | text ht hvs=>exact .text ht hvs
 | led ht hr hz hl hs hvs=>exact .led ht hr hz hl hs hvs
theorem D3(hh:A.handled=none)(hj:S≠J)(ha:S≠a)(hja:J≠a)(hz:vs.length≤sizeLine):
  ∀(m i:Nat)(s:Shared)(c:Nat),vs.length-i=m->i≤vs.length->Aw w s.heap J a es ep t vs i->s.heap.get? S=some {cls:=.type "list",dict:=none,data:=.seq (vs.take i).toArray c,slots:=#[]}->
  (∀h' c',(∀b o,b≠S->b≠J->s.heap.get? b=some o->h'.get? b=some o)->h'.get? S=some {cls:=.type "list",dict:=none,data:=.seq vs.toArray c',slots:=#[]}->R (.ok (.ret (.ref S))) {s with heap:=h'})->
  codeAny (model P w) A (.builtin "list.extend.loop" ⟨[.ref S,.ref J,.ref S],[]⟩) R s:=by
 intro m
 induction m with
 | zero=>
  intro i s c hm hi st hS hR;have hin:i=vs.length:=by lia
  subst hin;refine Wa F.entry_extend_loop ?_;rw[VI W8 _];show wpAny _ A.in1 (pyNext (.ref J) >>=_) _ _ s;refine Ug (Le (A:=A.in1) hh st fun h' hk=>Uk (hR h' c (fun b o _ hb e=>hk b o hb e) ?_));rw[VB] at hS;exact hk _ _ hj hS
 | succ m ih=>
  intro i s c hm hi st hS hR;have hlt:i < vs.length:=by lia
  have hv:vs[i]?=some vs[i]:=Um hlt;refine Wa F.entry_extend_loop ?_;rw[VI W8 _];show wpAny _ A.in1 (pyNext (.ref J) >>=_) _ _ s;refine Ug (ID (A:=A.in1) st hv hja fun h1 hk1 st1=>?_);have hS1:=hk1 _ _ hj hS;show wpAny _ A.in1 (updateSeq S (·.push vs[i]) >>=_) _ _ _;have hlen:(vs.take i).toArray.size=i:=by rw[UA,UM];lia
  refine Ug (YN (s:={s with heap:=h1}) hS1 rfl (Uk ⟨WK W8 _,?_⟩) (by rw[hlen];lia) (by show((vs.take i).toArray.push vs[i]).size≤sizeLine+1;rw[Array.size_push,hlen];lia));have hS2:=VR (Obj.mapSeq (·.push vs[i])) hS1 rfl;have hk2:∀b o,b≠S->h1.get? b=some o->(h1.update S (Obj.mapSeq (·.push vs[i]))).get? b=some o:=fun b o hb e=>(V3 _ _ (VA hb)).trans e;have hpush:(vs.take i).toArray.push vs[i]=(vs.take (i+1)).toArray:=by
   rw[Wv,hv];simp
  have hS3:∃c',(h1.update S (Obj.mapSeq (·.push vs[i]))).get? S=some {cls:=.type "list",dict:=none,data:=.seq (vs.take (i+1)).toArray c',slots:=#[]}:=by
   rw[←hpush];exact⟨_,hS2⟩
  obtain⟨c3,hS3⟩:=hS3;exact ih (i+1) {s with heap:=h1.update S (Obj.mapSeq (·.push vs[i]))} c3 (by lia) hlt (st1.off hS1 rfl hj ha hk2) hS3 fun h' c' hk hS'=>hR h' c' (fun b o hb hb' e=>hk b o hb hb' (hk2 b o hb (hk1 b o hb' e))) hS'
theorem Ag(hh:A.handled=none)(hS:kJ w s.heap a es)(h:∀h' d vs,s.heap.objs.size≤h'.objs.size->(∀b o,s.heap.get? b=some o->h'.get? b=some o)->vs.Perm (es.toList.map (·.2))->Q vs {s with heap:=h',drawn:=d}):wpAny (model P w) A (collect (.ref a)) Q E s:=by
 have hT:=hS.type;have hlt:a < s.heap.objs.size:=let⟨o,_,_,e,_⟩:=hS;UB e;have hks:es.size≤sizeLine:=let⟨_,_,_,_,_,_,h4,_⟩:=hS;Yp h4;unfold collect;refine Ug (wpAny_runValue (Wa F.entry_proto_collect ?_));rw[VI F.plain_proto_collect _];show wpAny _ A.in1 (newList [] >>=fun l=>again (.builtin "list.__iadd__" ⟨[l,.ref a],[]⟩)) _ _ s;refine Ug (U2 (Uk ⟨WK F.plain_list_iadd _,Wa F.entry_list_iadd ?_⟩));rw[VI F.plain_list_iadd _];generalize hoS:({cls:=.type "list",data:=.seq ([]:List Value).toArray}:Obj)=oS;have k0:∀b o,s.heap.get? b=some o->(s.heap.push oS).get? b=some o:=fun b o e=>Uj _ e;have hS1:kJ w (s.heap.push oS) a es:=let⟨o,ep,t,e,r⟩:=hS;⟨o,ep,t,k0 _ _ e,r⟩;have hSa:s.heap.objs.size≠a:=(UQ hlt).symm;have hgS:(s.heap.push oS).get? s.heap.objs.size=some oS:=UD _ (by rw[←hoS];rfl);show wpAny _ A.in1 (Builtin.List.listExtendWith (.ref s.heap.objs.size) (.ref a) (.ref s.heap.objs.size)) _ _ {s with heap:=s.heap.push oS};unfold Builtin.List.listExtendWith;refine Ug (Wt (s:={s with heap:=s.heap.push oS}) (kJ.type (s:={s with heap:=s.heap.push oS}) hS1) ?_);have e1:Builtin.List.listSameRef (.ref s.heap.objs.size) (.ref a)=false:=by simp[Builtin.List.listSameRef,hSa]
 have e2:(Value.type "set"==Value.type "list")=false:=by decide
 have e3:(Value.type "set"==Value.type "tuple")=false:=by decide
 simp only[e1,e2,e3,YF,UK,Vu];refine Ug (IF (s:={s with heap:=s.heap.push oS}) hS1 fun h1 d J ep t vs k1 hJ hp st=>?_);refine Ug (U9 ?_);have hS2:kJ w h1 a es:=let⟨o,ep,t,e,r⟩:=hS1;⟨o,ep,t,k1 _ _ e,r⟩;have hT2:Shared.TypeIs {s with heap:=h1,drawn:=d} (.ref a) "set":=kJ.type (s:={s with heap:=h1,drawn:=d}) hS2;unfold Builtin.List.listLengthHint;refine Ug (WN hT2 rT ?_);dsimp only;rw[ue];dsimp only;refine Ug (VT hT2 sub_set_set ?_);simp only[VE,UK,Vu];refine wpAny_of_eq' (Ut (by decide+kernel)) ?_;refine Ug (Wt hT2 (Uk ?_));have hgS1:h1.get? s.heap.objs.size=some {cls:=.type "list",data:=.seq ([]:List Value).toArray}:=by rw[hoS];exact k1 _ _ hgS
 have hJs:s.heap.objs.size < J:=by
  have:=hJ;rw[show(s.heap.push oS).objs.size=s.heap.objs.size+1 from Vq _ _] at this;exact this
 have hlen:vs.length=es.size:=by have:=hp.length_eq;simpa using this
 refine wpAny_of_eq' (Ut (by decide+kernel)) (Ug (V1 (Ug ?_)));show wpAny _ A.in1 (updateSeq s.heap.objs.size (·.push .none) >>=fun _=>updateSeq s.heap.objs.size (·.pop)) _ _ _;refine Ug (YN (s:={s with heap:=h1,drawn:=d}) hgS1 rfl ?_);have hgS2:=VR (Obj.mapSeq (·.push Value.none)) hgS1 rfl;refine YN hgS2 rfl ?_;have hgS3:=VR (Obj.mapSeq (·.pop)) hgS2 rfl;have koff:∀b o,b≠s.heap.objs.size->h1.get? b=some o->((h1.update s.heap.objs.size (Obj.mapSeq (·.push Value.none))).update s.heap.objs.size (Obj.mapSeq (·.pop))).get? b=some o:=
  fun b o hb e=>(V3 _ _ (VA hb)).trans ((V3 _ _ (VA hb)).trans e)
 have hgS4:∃c',((h1.update s.heap.objs.size (Obj.mapSeq (·.push Value.none))).update s.heap.objs.size (Obj.mapSeq (·.pop))).get? s.heap.objs.size=some {cls:=.type "list",dict:=none,data:=.seq (vs.take 0).toArray c',slots:=#[]}:=⟨_,hgS3⟩;obtain⟨c4,hgS4⟩:=hgS4;refine Uk ⟨WK W8 _,D3 (A:=A) hh (UQ hJs) hSa (fun z=>?_) (by rw[hlen];exact hks) vs.length 0 _ c4 rfl (Va _) (st.off hgS1 rfl (UQ hJs) hSa koff) hgS4 fun h' c' hk hS'=>?_⟩
 ·rw[z] at hJs;exact Nat.lt_asymm hJs hlt
 ·show wpAny _ A (load s.heap.objs.size >>=_) _ _ _;refine Ug (wpAny_load hS' (Uk ?_));refine h h' d vs (WA (UB hS')) (fun b o e=>?_) hp;have hb:b≠s.heap.objs.size:=UQ (UB e);exact hk b o hb (UQ (Xv (UB e) hJs)) (koff b o hb (k1 b o (k0 b o e)))
end
end L2
namespace L2
open PySem PySem.Spec PyProof.Rows PySem.SeqAt
end L2
namespace L2
open PySem PySem.Spec PyProof.Rows
section
variable {P:Program} {w:World} {A:Around} {E:Value->Shared->Prop} {s:Shared} {a:Addr} {ks:List Int}
end
end L2
namespace Sm
open PySem L2 PySem.Spec PyProof.Rows
end Sm
namespace L2
open PySem PySem.Spec PyProof.Rows
end L2
namespace Sm
open PySem L2 PySem.Spec PyProof.Rows
end Sm
namespace L2
open PySem PySem.Spec PyProof.Rows PySem.SeqAt
section
variable {P:Program} {w:World} {E:Value->Shared->Prop}
end
noncomputable local instance:DecidableEq PyData:=fun a b=>Classical.propDecidable _
end L2
namespace L2
open PySem PySem.Spec PyProof.Rows PySem.W
abbrev ax:=Str×Int
noncomputable def lr(a b:ax):Bool:=decide (a.1.cps.toList < b.1.cps.toList)||(decide (a.1=b.1)&&decide (a.2 < b.2))
noncomputable def runK{α:Type}(lt:Nat->Nat->Bool):KasT α->α
 | .ret a=>a
 | .ask i j k=>runK lt (k (lt i j))
noncomputable def EY{α:Type}(n:Nat):KasT α->Bool
 | .ret _=>true
 | .ask i j k=>decide (i < n)&&decide (j < n)&&EY n (k true)&&EY n (k false)
theorem Gr{α:Type}{n:Nat}{cmp:Nat->Nat->(Bool->Shared->Prop)->Shared->Prop}{lt:Nat->Nat->Bool}{s:Shared}(hc:∀i j C,i < n->j < n->C (lt i j) s->cmp i j C s){Q:α->Shared->Prop}:∀(t:KasT α),EY n t=true->Q (runK lt t) s->t.kasWp cmp Q s
 | .ret a,_,h=>h
 | .ask i j k,hi,h=>by
  have hi:(decide (i < n)&&decide (j < n)&&EY n (k true)&&EY n (k false))=true:=hi;simp only[UJ,Vc] at hi;refine hc i j _ hi.1.1.1 hi.1.1.2 ?_;refine Gr hc (k (lt i j)) ?_ h;cases lt i j with
  | true=>exact hi.1.2
  | false=>exact hi.2
noncomputable def Fv(n:Nat):Nat->List (List Nat)
 | 0=>[[]]
 | k+1=>(Fv n k).flatMap fun l=>(List.range n).map fun x=>x::l
theorem Aq{n:Nat}:∀{l:List Nat},(∀x∈l,x < n)->l∈Fv n l.length
 | [],_=>UC.mpr rfl
 | x::r,h=>List.mem_flatMap.mpr ⟨r,Aq fun y hy=>h y (Ur _ hy),UR.mpr ⟨x,Vg.mpr (h x Uo),rfl⟩⟩
noncomputable def zV(n:Nat)(l:List Nat):Bool:=!decide l.Nodup||((runK (fun i j=>decide (l.getD i 0 < l.getD j 0)) (kas_sort n)).toList.map (fun i=>l.getD i 0)==List.range n&&(runK (fun i j=>decide (l.getD i 0 < l.getD j 0)) (kas_sort n)).toList.isPerm (List.range n))
theorem good2:(Fv 2 2).all (zV 2)=true:=by decide+kernel
theorem good3:(Fv 3 3).all (zV 3)=true:=by decide+kernel
theorem Qr:(Fv 4 4).all (zV 4)=true:=by decide+kernel
theorem Hz:EY 2 (kas_sort 2)=true∧EY 3 (kas_sort 3)=true∧EY 4 (kas_sort 4)=true:=by decide+kernel
theorem xO(a:ax):lr a a=false:=by
 unfold lr;rw[UX (List.lt_irrefl _),UX (Int.lt_irrefl _),W6];rfl
theorem xP{a b:ax}:lr a b=true↔a.1.cps.toList < b.1.cps.toList∨(a.1=b.1∧a.2 < b.2):=by
 unfold lr;rw[VZ,UJ,Vv,Vv,Vv]
theorem pJ{a b c:ax}(h:lr a b=true)(g:lr b c=true):lr a c=true:=by
 rw[xP] at*;rcases h with h |⟨h1,h2⟩ <;> rcases g with g |⟨g1,g2⟩
 ·exact .inl (List.lt_trans h g)
 ·exact .inl (g1 ▸ h)
 ·exact .inl (h1 ▸ g)
 ·exact .inr ⟨h1.trans g1,Int.lt_trans h2 g2⟩
theorem AJ{a b:Str}(h:a.cps.toList=b.cps.toList):a=b:=by
 obtain⟨a⟩:=a;obtain⟨b⟩:=b;have:=WT.mp h;exact congrArg _ this
theorem xN{a b:ax}(h:a≠b):lr a b=true∨lr b a=true:=by
 rw[xP,xP]
 by_cases h1:a.1.cps.toList < b.1.cps.toList
 ·exact .inl (.inl h1)
 by_cases h2:b.1.cps.toList < a.1.cps.toList
 ·exact .inr (.inl h2)
 have e:a.1=b.1:=AJ (List.le_antisymm (List.not_lt.mp h2) (List.not_lt.mp h1));rcases Int.lt_trichotomy a.2 b.2 with q | q | q
 ·exact .inl (.inr ⟨e,q⟩)
 ·exact absurd (Prod.ext e q) h
 ·exact .inr (.inr ⟨e.symm,q⟩)
theorem Hr{a b:ax}(h:lr a b=true)(g:lr b a=true):False:=by
 have:=pJ h g;rw[xO] at this;cases this
noncomputable def EX(k:ax):List ax->List ax
 | []=>[k]
 | x::r=>if lr k x then k::x::r else x::EX k r
noncomputable def lN:List ax->List ax
 | []=>[]
 | k::r=>EX k (lN r)
theorem pO(k:ax):∀l:List ax,(EX k l).Perm (k::l)
 | []=>.refl _
 | x::r=>by
  unfold EX
  split
  ·exact .refl _
  ·exact((pO k r).cons x).trans (.swap ..)
theorem gf:∀l:List ax,(lN l).Perm l
 | []=>.refl _
 | k::r=>(pO k _).trans ((gf r).cons k)
theorem qj{k:ax}:∀{l:List ax},k∉l->l.Pairwise (fun a b=>lr a b=true)->(EX k l).Pairwise fun a b=>lr a b=true
 | [],_,_=>List.pairwise_singleton _ _
 | x::r,hk,h=>by
  rw[Wl] at h;have hne:k≠x:=fun z=>hk (z ▸ Uo);unfold EX
  by_cases c:lr k x=true
  ·rw[Ut c];refine Wl.mpr ⟨fun y hy=>?_,Wl.mpr h⟩;rcases UE.mp hy with rfl | hy
   ·exact c
   ·exact pJ c (h.1 y hy)
  ·rw[Uu c];refine Wl.mpr ⟨fun y hy=>?_,qj (fun z=>hk (Ur _ z)) h.2⟩;rcases UE.mp ((pO k r).mem_iff.mp hy) with rfl | hy
   ·exact(xN hne).resolve_left c
   ·exact h.1 y hy
theorem jM:∀{l:List ax},l.Nodup->(lN l).Pairwise fun a b=>lr a b=true
 | [],_=>.nil
 | k::r,h=>by
  rw[V5] at h;exact qj (fun z=>h.1 ((gf r).mem_iff.mp z)) (jM h.2)
theorem CA{ks l:List ax}(hp:l.Perm ks)(hs:l.Pairwise fun a b=>lr a b=true)(nd:ks.Nodup):l=lN ks:=
 Xg (fun a b _ _ x y=>(Hr x y).elim) hs (jM nd) (hp.trans (gf ks).symm)
noncomputable def qX:ax:=(Str.ofString "",0)
noncomputable def IU(ks:List ax)(i:Nat):Nat:=(ks.filter fun k=>lr k (ks.getD i qX)).length
theorem filter_le{α:Type}{p q:α->Bool}:∀{l:List α},(∀x∈l,p x=true->q x=true)->(l.filter p).length≤(l.filter q).length
 | [],_=>Us _
 | x::r,h=>by
  have i:=filter_le (l:=r) fun y hy=>h y (Ur _ hy);have hx:=h x Uo;rw[Xr,Xr];cases hp:p x with
  | true=>rw[Ut rfl,Ut (hx hp)];simp only[Uw];lia
  | false=>
   rw[Uu (by simp)]
   split
   ·simp only[Uw];lia
   ·exact i
theorem filter_lt{α:Type}{p q:α->Bool}:∀{l:List α},(∀x∈l,p x=true->q x=true)->(∃y∈l,q y=true∧p y=false)->(l.filter p).length < (l.filter q).length
 | [],_,⟨_,h,_⟩=>by cases h
 | x::r,h,⟨y,hy,h1,h2⟩=>by
  have hr:=fun y hy=>h y (Ur x hy);rw[Xr,Xr];rcases UE.mp hy with rfl | hy
  ·rw[h2,Uu (by simp),Ut h1,Uw];have:=filter_le hr
   lia
  ·have i:=filter_lt hr ⟨y,hy,h1,h2⟩;cases hp:p x with
   | true=>rw[Ut rfl,Ut (h x Uo hp)];simp only[Uw];lia
   | false=>
    rw[Uu (by simp)]
    split
    ·simp only[Uw];lia
    ·exact i
section
variable {ks:List ax} {i j:Nat}
theorem IA(hi:i < ks.length):ks.getD i qX∈ks:=by
 rw[Vp,Um hi];exact Xq hi
theorem rg(hi:i < ks.length)(h:lr (ks.getD i qX) (ks.getD j qX)=true):IU ks i < IU ks j:=
 filter_lt (fun x _ q=>pJ q h) ⟨_,IA hi,h,xO _⟩
theorem PJ(hi:i < ks.length):IU ks i < ks.length:=by
 have:=filter_lt (l:=ks) (p:=fun k=>lr k (ks.getD i qX)) (q:=fun _=>true) (fun _ _ _=>rfl) ⟨_,IA hi,rfl,xO _⟩;rw[List.filter_eq_self.mpr fun _ _=>rfl] at this;exact this
theorem Gu(hi:i < ks.length)(hj:j < ks.length):decide (IU ks i < IU ks j)=lr (ks.getD i qX) (ks.getD j qX):=by
 cases c:lr (ks.getD i qX) (ks.getD j qX) with
 | true=>exact Ve (rg hi c)
 | false=>
  refine UX fun z=>?_
  by_cases e:ks.getD i qX=ks.getD j qX
  ·unfold IU at z;rw[e] at z;exact V9 _ z
  ·have:=(xN e).resolve_left (by rw[c];simp);have:=rg hj this
   lia
theorem getD_inj(nd:ks.Nodup)(hi:i < ks.length)(hj:j < ks.length)(e:ks.getD i qX=ks.getD j qX):i=j:=by
 rw[Vp,Vp,Um hi,Um hj] at e;exact(X8 hi nd).mp (by rw[Um hi,Um hj];exact congrArg some e)
theorem Mz(nd:ks.Nodup)(hi:i < ks.length)(hj:j < ks.length)(e:IU ks i=IU ks j):i=j:=by
 refine V4 fun z=>?_;have hne:ks.getD i qX≠ks.getD j qX:=fun q=>z (getD_inj nd hi hj q);rcases xN hne with q | q
 ·have:=rg hi q;lia
 ·have:=rg hj q;lia
end
noncomputable def mW(ks:List ax):List Nat:=(List.range ks.length).map (IU ks)
theorem xa{ks:List ax}{i:Nat}(hi:i < ks.length):(mW ks).getD i 0=IU ks i:=by
 unfold mW;rw[Vp,Ux,WZ hi];rfl
theorem sf{α:Type}{n:Nat}{f g:Nat->Nat->Bool}(h:∀i j,i < n->j < n->f i j=g i j):∀t:KasT α,EY n t=true->runK f t=runK g t
 | .ret a,_=>rfl
 | .ask i j k,hi=>by
  have hi:(decide (i < n)&&decide (j < n)&&EY n (k true)&&EY n (k false))=true:=hi;simp only[UJ,Vc] at hi;show runK f (k (f i j))=runK g (k (g i j));rw[h i j hi.1.1.1 hi.1.1.2];refine sf h _ ?_;cases g i j with
  | true=>exact hi.1.2
  | false=>exact hi.2
noncomputable def qK(ks:List ax):List Nat:=(runK (fun i j=>lr (ks.getD i qX) (ks.getD j qX)) (kas_sort ks.length)).toList
theorem Nq{ks:List ax}(nd:ks.Nodup)(h2:2≤ks.length)(h4:ks.length≤4):(qK ks).map (fun i=>ks.getD i qX)=lN ks∧(∀i∈qK ks,i < ks.length)∧(qK ks).length=ks.length∧EY ks.length (kas_sort ks.length)=true:=by
 have hl:(mW ks).length=ks.length:=by unfold mW;rw[Uh,UI]
 have hm:mW ks∈Fv ks.length ks.length:=by
  have:=Aq (n:=ks.length) (l:=mW ks) fun x hx=>by
   obtain⟨i,hi,rfl⟩:=UR.mp hx;exact PJ (Vg.mp hi)
  rw[hl] at this;exact this
 have qW:(mW ks).Nodup:=by
  unfold mW;rw[Yt,Xa];refine YE (fun {a b} ha hb q z=>q (Mz nd (Vg.mp ha) (Vg.mp hb) z)) Yc
 have both:zV ks.length (mW ks)=true∧EY ks.length (kas_sort ks.length)=true:=by
  obtain e | e | e:ks.length=2∨ks.length=3∨ks.length=4:=by lia
  ·rw[e] at hm ⊢;exact⟨V2.mp good2 _ hm,Hz.1⟩
  ·rw[e] at hm ⊢;exact⟨V2.mp good3 _ hm,Hz.2.1⟩
  ·rw[e] at hm ⊢;exact⟨V2.mp Qr _ hm,Hz.2.2⟩
 have g:=both.1;unfold zV at g;rw[Ve qW,VE,Bool.false_or,UJ] at g;have ec:runK (fun i j=>decide ((mW ks).getD i 0 < (mW ks).getD j 0)) (kas_sort ks.length)=runK (fun i j=>lr (ks.getD i qX) (ks.getD j qX)) (kas_sort ks.length):=
  sf (n:=ks.length) (fun i j hi hj=>by rw[xa hi,xa hj,Gu hi hj]) _ both.2
 rw[ec] at g;have g1:(qK ks).map (fun i=>(mW ks).getD i 0)=List.range ks.length:=eq_of_beq g.1;have op:(qK ks).Perm (List.range ks.length):=List.isPerm_iff.mp g.2;have g2:∀i∈qK ks,i < ks.length:=fun i hi=>Vg.mp (op.mem_iff.mp hi);have g3:(qK ks).length=ks.length:=by have:=congrArg List.length g1;rw[Uh,UI] at this;exact this
 have pw:(qK ks).Pairwise fun a b=>(mW ks).getD a 0 < (mW ks).getD b 0:=by
  have:=List.pairwise_lt_range (n:=ks.length);rw[←g1,Xa] at this;exact this
 have pl:((qK ks).map fun i=>ks.getD i qX).Pairwise fun a b=>lr a b=true:=by
  rw[Xa];refine YE (fun {a b} ha hb q=>?_) pw;rw[xa (g2 a ha),xa (g2 b hb)] at q;rw[←Gu (g2 a ha) (g2 b hb)];exact Ve q
 refine⟨CA ((op.map _).trans (.of_eq ?_)) pl nd,g2,g3,both.2⟩;refine WM fun i=>?_;rw[Ux]
 by_cases h:i < ks.length
 ·rw[WZ h,Um h,U4,Vp,Um h];rfl
 ·rw[UY (by simpa using h),UY (by simpa using h)];rfl
def eL(h:Heap)(v:Value)(k:ax):Prop:=∃b o m t u,v=.ref b∧h.get? b=some o∧o.cls=.type "tuple"∧o.data=.seq #[.str k.1 t,.int k.2 u] m
abbrev fS(h:Heap):List Value->List ax->Prop:=Paired fun v k=>eL h v k
section
variable {P:Program} {w:World} {A:Around} {E:Value->Shared->Prop} {s:Shared}
theorem Kn{x y:Value}{k k':ax}{Q:Bool->Shared->Prop}(hx:eL s.heap x k)(hy:eL s.heap y k')(h:Q (lr k k') s):wpAny (model P w) A (keyLt' (tuples' true) x y) Q E s:=by
 obtain⟨b,o,m,t,u,rfl,e1,_,e2⟩:=hx;obtain⟨b',o',m',t',u',rfl,e1',_,e2'⟩:=hy;refine kat_lt e1 e2 e1' e2' ?_;show KatLex P w A true _ Q [(Value.str k.1 t,Value.str k'.1 t'),(Value.int k.2 u,Value.int k'.2 u')] 0 s;refine kat_cons (eqBool_str (kat_go (fun c=>?_) fun c=>?_))
 ·have c1:k.1=k'.1:=eq_of_beq c;have hlt:¬k.1.cps.toList < k'.1.cps.toList:=by rw[c1];exact List.lt_irrefl _
  refine kat_yes (kat_cons (wpAny_eqBool_int (kat_go (fun d=>?_) fun d=>?_)))
  ·have d1:k.2=k'.2:=eq_of_beq d;refine kat_yes (kat_nil ?_);have:lr k k'=false:=by unfold lr;rw[UX hlt,d1,UX (Int.lt_irrefl _),W6];rfl
   rw[this] at h;exact h
  ·refine kat_no (kat_one _ _ (lt_int ?_));have:lr k k'=decide (k.2 < k'.2):=by unfold lr;rw[UX hlt,Ve c1];rfl
   rw[this] at h;exact h
 ·have c1:¬k.1=k'.1:=fun z=>by rw[z,We] at c;cases c
  refine kat_no (kas_lt_str ?_);have:lr k k'=decide (k.1.cps.toList < k'.1.cps.toList):=by unfold lr;rw[UX c1,Bool.false_and,YF]
  rw[this] at h;exact h
theorem eL.keep{h h':Heap}{v:Value}{k:ax}(x:eL h v k)(hk:∀b o m its,h.get? b=some o->o.cls=.type "tuple"->o.data=.seq its m->h'.get? b=some o):eL h' v k:=
 let⟨b,o,m,t,u,e,e1,e2,e3⟩:=x
 ⟨b,o,m,t,u,e,hk b o m _ e1 e2 e3,e2,e3⟩
theorem fS.at_{h:Heap}:∀{vs:List Value} {ks:List ax} {i:Nat},fS h vs ks->i < ks.length->eL h (vs.getD i Value.none) (ks.getD i qX)
 | _,_,0,.cons r _,_=>r
 | _,_,i+1,.cons _ t,hi=>fS.at_ (i:=i) t (by simpa using hi)
theorem fS.of_map{h:Heap}{vs:List Value}{ks:List ax}(x:fS h vs ks):∀{is:List Nat},(∀i∈is,i < ks.length)->fS h (is.map fun i=>vs.getD i Value.none) (is.map fun i=>ks.getD i qX)
 | [],_=>.nil
 | i::r,hi=>.cons (x.at_ (hi i Uo)) (fS.of_map x fun j hj=>hi j (Ur _ hj))
theorem fS.qA{h:Heap}:∀{vs:List Value} {ks:List ax},fS h vs ks->∃fs,KatTups h vs fs∧fs.length=vs.length∧∀f∈fs,∃x t,f=Value.str x t
 | _,_,.nil=>⟨[],.nil,rfl,fun _ z=>(nomatch z)⟩
 | _,_,.cons ⟨b,o,m,t,u,e,e1,e2,e3⟩ r=>by
  obtain⟨fs,h1,h2,h3⟩:=fS.qA r;subst e;refine⟨_::fs,.cons e1 e2 e3 rfl h1,by simp[h2],fun f hf=>?_⟩;rcases UE.mp hf with rfl | hf
  ·exact⟨_,_,rfl⟩
  ·exact h3 f hf
theorem AL{a:Addr}{vs:List Value}{ks:List ax}{n:Nat}{C:PySem.Fin->Shared->Prop}(ho:s.heap.get? a=some (seqObj "list" vs.toArray n))(hp:fS s.heap vs ks)(nd:ks.Nodup)(h4:ks.length≤4)
  (fin:∀out:List Value,fS s.heap out (lN ks)->(∀v∈out,v∈vs)->C (.done (.ret .none)) {s with heap:=sortedHeap s.heap a vs out.toArray}):
  wpAny (model P w) A (Builtin.«list.sort» ⟨[.ref a],[]⟩) C E s:=by
 have hlen:vs.length=ks.length:=hp.length;have hva:vs.toArray.size=vs.length:=by simp
 have hlt:a < s.heap.objs.size:=UB ho;rw[list_sort_plain];refine Ug (listItems_at ho rfl (Ug (listUpdate_at ho rfl ?_)));obtain⟨ep,hbare⟩:∃ep,(s.heap.update a (Obj.mapSeq fun _=>#[])).get? a=some (seqObj "list" #[] ep):=⟨_,get?_update_seq ho fun _=>#[]⟩;refine Ug (seqEpoch_at hbare rfl (Ug (Xi (Ug (wpAny_newList (U9 ?_))))));generalize hG:((s.heap.update a (Obj.mapSeq fun _=>#[])).push (seqObj "tuple" vs.toArray 0)).push (seqObj "list" #[] 0)=G;have hGa:G.get? a=some (seqObj "list" #[] ep):=by
  rw[←hG,Xx _ _ _ (by rw[size_push',XG];lia),Xx _ _ _ (by rw[XG];lia)];exact hbare
 have hGo:∀b o m its,s.heap.get? b=some o->o.cls=.type "tuple"->o.data=.seq its m->G.get? b=some o:=fun b o m its e hc hd=>by
  have hb:=UB e;have hne:b≠a:=fun z=>by
   subst z;rw[ho] at e;cases e;injection hc with z
   exact absurd z (by decide)
  rw[←hG,Xx _ _ _ (by rw[size_push',XG];lia),Xx _ _ _ (by rw[XG];lia),Heap.get?_update_ne _ _ _ _ hne];exact e
 show wpAny (model P w) A _ C E {s with heap:=G};dsimp only
 by_cases h2:vs.toArray.size < 2
 ·rw[Ut h2,Ut h2];refine Ug (Uk ?_);rw[StateT.run_pure];refine Ug (Uk ?_);dsimp only;refine Ug (seqEpoch_at hGa rfl (Ug (listUpdate_at hGa rfl ?_ (hsz2:=by rw[Array.size_map];show(pairsOf vs).size≤_;rw[pairsOf_size,VH];lia))));simp only[VG,UK,Vu];refine Uk ?_;have es:lN ks=ks:=by
   match ks,hlen with
   | [],_=>rfl
   | [_],_=>rfl
   | _::_::_,z=>simp only[Uw] at z;lia
  have:=fin vs (by rw[es];exact hp) fun _ z=>z;unfold sortedHeap at this;rw[hG] at this;have ev:(pairsOf vs).map (·.2)=vs.toArray:=by
   apply WT.mp;unfold pairsOf;simp;exact List.map_snd_zip (Us _)
  rw[←ev] at this;exact this
 ·have h2':2≤vs.length:=by lia
  rw[Uu h2,Uu h2];have hpG:fS G vs ks:=Paired.imp' (fun v k x=>x.keep hGo) hp;obtain⟨fs,t1,t2,t3⟩:=hpG.qA;obtain⟨g1,g2,g3,g4⟩:=Nq nd (by lia) h4;refine Ug (kat_kind (s:={s with heap:=G}) t1 (by lia) (T:=Value.type "str") (fun v hv=>?_) (by decide) ?_)
  ·obtain⟨x,u,rfl⟩:=t3 v hv;exact .now
  rw[show(Value.type "str" !=Value.type "tuple")=true by decide];refine Ug (Vj (kat_run (s:={s with heap:=G}) (ks:=vs) (vs:=vs) (κ:=tuples' true) (Q:=fun st' s'=>s'={s with heap:=G}∧(arrOf st').map (·.2)=((qK ks).map fun i=>vs.getD i Value.none).toArray∧failedOf st'=none) rfl h2' (by lia) (G:=fun p s'=>s'={s with heap:=G}∧p.toList=qK ks) (fun p st' s' hps har hf hs=>⟨hs.1,by rw[kat_snds rfl har,hs.2],hf⟩) ?_) (fun r s' hq=>?_) fun _ _ e=>e)
  case refine_2=>
   obtain⟨⟨⟩,st'⟩:=r;obtain⟨rfl,eo,hf⟩:=hq;dsimp only at eo hf ⊢;refine Ug (seqEpoch_at hGa rfl (Ug (listUpdate_at hGa rfl ?_ (hsz2:=by rw[eo,VH];simp;lia))));rw[hf];simp only[VG,UK,Vu];refine Uk ?_;have:=fin ((qK ks).map fun i=>vs.getD i Value.none) (by rw[←g1];exact hp.of_map g2) fun v hv=>by
    obtain⟨i,hi,rfl⟩:=UR.mp hv;have hil:i < vs.length:=by rw[hlen];exact g2 i hi
    rw[Vp,Um hil];exact Xq hil
   unfold sortedHeap at this;rw[hG] at this;rw[eo];exact this
  ·rw[hlen];refine Gr (n:=ks.length) (lt:=fun i j=>lr (ks.getD i qX) (ks.getD j qX)) (fun i j Q hi hj q=>?_) _ g4 ⟨rfl,rfl⟩;exact Kn (s:={s with heap:=G}) (hpG.at_ hi) (hpG.at_ hj) q
end
end L2
namespace L2
open PySem PySem.Spec PyProof.Rows PySem.W PySem.SeqAt
noncomputable def gW(k:ax):PyData:=.tuple [.str k.1,.int k.2]
theorem xu{k:ax}(h:PyData.strOk k.1=true):eR 8 (gW k)=true:=by simp[gW,eR,h]
theorem JM{k k':ax}(h:gW k=gW k'):k=k':=by
 unfold gW at h;injection h with h
 injection h with h1 h2
 injection h1 with h1
 injection h2 with h2
 injection h2 with h2
 exact Prod.ext h1 h2
noncomputable def Ts(w:World)(q:Addr×ax):Int×Value:=(fZ w 8 (gW q.2),.ref q.1)
def t9(w:World)(h:Heap)(a:Addr)(qs:List (Addr×ax)):Prop:=
 (qs.map (·.2)).Nodup∧∃o es ep t,∃qs':List (Addr×ax),h.get? a=some o∧o.ExactSet∧o.data=.set es ep t∧og es t∧es.toList=qs'.map (Ts w)∧qs'.Perm qs∧(t.led=!w.params.followText "set-order")
noncomputable def addQ(qs:List (Addr×ax))(b:Addr)(k:ax):List (Addr×ax):=if k∈qs.map (·.2) then qs else qs++[(b,k)]
noncomputable def KI(ds:List (Addr×ax))(p:Nat)(d:Addr×ax):List (Addr×ax):=ds.take p++d::ds.drop p
theorem EW(ds:List (Addr×ax))(p:Nat)(d:Addr×ax):(KI ds p d).Perm (ds++[d]):=by
 unfold KI;have h1:(ds.take p++d::ds.drop p).Perm (d::(ds.take p++ds.drop p)):=List.perm_middle;rw[WR] at h1;exact h1.trans (List.perm_append_singleton d ds).symm
def Q4(h:Heap)(qs:List (Addr×ax)):Prop:=∀q∈qs,PyData.strOk q.2.1=true∧∃as,Reads h (.ref q.1) (gW q.2) as
theorem KS{es:Array (Int×Value)}(e:es.toList=qs.map (Ts w))(hr:Q4 h qs):ua w h 8 es (qs.map fun q=>gW q.2):=by
 refine⟨by rw[Uh,←WC,e,Uh],fun i x d hx hd=>?_⟩;rw[←VN,e,Ux] at hx;rw[Ux] at hd;cases hq:qs[i]? with
 | none=>rw[hq] at hd;cases hd
 | some q=>
  rw[hq] at hx hd;cases hx;cases hd;have hh:=hr q (Ul hq);exact⟨xu hh.1,hh.2,rfl,⟨_,rfl⟩⟩
section
variable {P:Program} {w:World} {A:Around} {E:Value->Shared->Prop} {s:Shared} {a:Addr}
theorem uE{b:Addr}{k:ax}{as:List Addr}{qs:List (Addr×ax)}{Q:Bool->Shared->Prop}(hS:t9 w s.heap a qs)(hr:Q4 s.heap qs)(hu:A.units+8 < cLine)(ok:PyData.strOk k.1=true)(rx:Reads s.heap (.ref b) (gW k) as)(hroom:qs.length≤3)(h:∀r h',Heap.SameBut a s.heap h'->t9 w h' a (addQ qs b k)->Q r {s with heap:=h'}):wpAny (model P w) A (setAddHashed a (.ref b) (fZ w 8 (gW k))) Q E s:=by
 obtain⟨nd,ob,es,ep,t,qs',hob,hex,hdt,T,hes,hperm,hled⟩:=id hS;have L:ua w s.heap 8 es (qs'.map fun q=>gW q.2):=KS hes fun q hq=>hr q (hperm.mem_iff.mp hq);obtain⟨N,N1,N2,N3⟩:=T.E5 (fZ w 8 (gW k));have hmem:gW k∈(qs'.map fun q=>gW q.2)↔k∈qs.map (·.2):=by
  constructor
  ·intro z;obtain⟨q,hq,e⟩:=UR.mp z;exact UR.mpr ⟨q,hperm.mem_iff.mp hq,JM e⟩
  ·intro z;obtain⟨q,hq,e⟩:=UR.mp z;exact UR.mpr ⟨q,hperm.mem_iff.mpr hq,by rw[e]⟩
 unfold setAddHashed setAddHashedIn;refine U9 (Ug (VM hob hdt T.fits ?_));dsimp only;rw[Uu (by show ¬(byScan (Value.ref b) es=true);unfold byScan Value.scannable;simp)];refine Ug ?_;unfold setSearch;refine AO hob hdt T L (Us _) hu (xu ok) rx rfl N2 N3 N1 (fun hit=>?_) (fun miss=>?_) _ 100000 0 none rfl (Va _) (by lia) rfl (fun c i d hc=>absurd hc (Wq _))
 ·dsimp only;refine Uk ?_;refine h false s.heap (Heap.SameBut.refl a s.heap) ?_;unfold addQ;rw[Ut (hmem.mp hit)];exact hS
 ·dsimp only;have hno:¬k∈qs.map (·.2):=fun z=>miss (hmem.mpr z);refine Ug (VM hob hdt T.fits ?_);dsimp only;have hlen:es.size≤3:=by rw[←L.1,Uh,hperm.length_eq];exact hroom
  have hdm:(t.put (road t (fZ w 8 (gW k)) N).j).1.dummies=t.dummies:=by
   unfold SetTable.put;dsimp only;rw[T.Qx];rfl
  have fin:∀(t2:SetTable),t2.mask=t.mask->t2.dummies=t.dummies->t2.place=SetTable.insertAt t.place (SetTable.below t.place (road t (fZ w 8 (gW k)) N).j) (road t (fZ w 8 (gW k)) N).j->t2.led=t.led->
    wpAny (model P w) A (do
     storeSet a (SetTable.insertAt es (SetTable.below t.place (road t (fZ w 8 (gW k)) N).j) (fZ w 8 (gW k),.ref b)) t2
     if(!false&&t2.tooFull)=true then do
      setRelay a (SetTable.grown (es.size+1))
      pure true
     else pure true) Q E s:=fun t2 m1 m2 m3 m4=>by
   have T2:=T.put hlen (x:=.ref b) N2 N3 ⟨m1,m2,m3⟩;have hsz:=T2.le;refine Ug (wpAny_storeSet_of hob hdt ?_ (Yp (by unfold scanBound;lia)));have hnf:t2.tooFull=false:=by
    unfold SetTable.tooFull SetTable.fill;have h1:=T2.sz;rw[T2.mask,T2.Qx];simp
    lia
   rw[hnf,Uu (by simp)];refine Uk (h true _ (Yb s.heap a (Obj.putSet _ t2)) ?_);have hget:=VR (Obj.putSet (SetTable.insertAt es (SetTable.below t.place (road t (fZ w 8 (gW k)) N).j) (fZ w 8 (gW k),.ref b)) t2) hob (by rw[putSet_of _ t2 hdt];rfl);rw[putSet_of _ t2 hdt] at hget;unfold addQ;rw[Uu hno];refine⟨?_,_,_,_,_,KI qs' (SetTable.below t.place (road t (fZ w 8 (gW k)) N).j) (b,k),hget,hex,rfl,T2,?_,(EW _ _ _).trans (hperm.append_right _),m4.trans hled⟩
   ·rw[UH];refine Xb.mpr ⟨nd,by simp,fun x hx y hy z=>?_⟩;rw[List.map_singleton,UC] at hy;subst hy;subst z;exact hno hx
   ·rw[Ze,hes];unfold KI;rw[UH,Uv,XW,YD];rfl
  cases hpn:(t.put (road t (fZ w 8 (gW k)) N).j).1.plain with
  | true=>
   rw[Ut rfl];refine Ug (E3 8 (xu ok) rx (fun bv=>?_) 8);cases bv with
   | true=>exact fin _ rfl hdm rfl rfl
   | false=>exact fin _ rfl hdm rfl rfl
  | false=>
   rw[Uu U0];refine Ug (Uk ?_);exact fin _ rfl hdm rfl rfl
theorem JK{b:Addr}{k:ax}{as:List Addr}{qs:List (Addr×ax)}{Q:Value->Shared->Prop}(hS:t9 w s.heap a qs)(hr:Q4 s.heap qs)(hu:A.units+64 < cLine)(ok:PyData.strOk k.1=true)(rx:Reads s.heap (.ref b) (gW k) as)(hroom:qs.length≤3)(h:∀h' t,Heap.SameBut a s.heap h'->t9 w h' a (addQ qs b k)->Q .none {s with heap:=h',toks:=t}):wpAny (model P w) A (call (.builtin "set.add") [.ref a,.ref b]) Q E s:=by
 have hT:s.TypeIs (.ref a) "set":=let⟨_,o,_,_,_,_,e,x,_⟩:=hS;⟨o,e,x.1⟩;have hu1:A.in1.units+8 < cLine:=by show A.units+1+8 < cLine;lia
 refine Vb F.slot_set_add hT F.entry_set_add ?_ (F.args_set_add_2 _ _);unfold Builtin.«set.add» Builtin.Frozenset.oneOther Builtin.Frozenset.addrOf setAdd;simp only[Xp,bind_assoc,pure_bind];refine Ug (U9 (Ug (EZ 8 hu1 (xu ok) rx fun j=>?_)));refine uE (s:={s with toks:=s.toks+j}) hS hr hu1 ok rx hroom fun r h' hs hS'=>?_;exact Uk ⟨_,rfl,h h' _ hs hS'⟩
theorem GZ{α β:Type}{f:α->β}:∀{vs ws:List β},vs.Perm ws->∀{l:List α},ws=l.map f->∃l':List α,l'.Perm l∧vs=l'.map f:=by
 intro vs ws h
 induction h with
 | nil=>intro l e;exact⟨l,.refl _,e⟩
 | cons x _ ih=>
  intro l e;cases l with
  | nil=>cases e
  | cons y l=>
   rw[Uv] at e;injection e with e1 e2
   obtain⟨l',p,q⟩:=ih e2;exact⟨y::l',p.cons y,by rw[Uv,e1,q]⟩
 | swap x y r=>
  intro l e
  match l,e with
  | [],e=>cases e
  | [_],e=>cases e
  | u::v::l,e=>
   rw[Uv,Uv] at e;injection e with e1 e2
   injection e2 with e2 e3
   exact⟨v::u::l,.swap ..,by rw[Uv,Uv,e1,e2,e3]⟩
 | trans _ _ ih1 ih2=>
  intro l e;obtain⟨l2,p2,q2⟩:=ih2 e;obtain⟨l1,p1,q1⟩:=ih1 q2;exact⟨l1,p1.trans p2,q1⟩
theorem Ei{h:Heap}{l:List Value}{x:Str}{i:Int}{as:List Addr}(r:ReadsAll h l [.str x,.int i] as):∃t u,l=[.str x t,.int i u]:=by
 cases r with
 | cons q1 q2=>
  cases q2 with
  | cons q3 q4=>
   cases q4;cases q1 with
   | str x t=>
    cases q3 with
    | int i u=>exact⟨t,u,rfl⟩
theorem Ew{h:Heap}{b:Addr}{k:ax}{as:List Addr}(r:Reads h (.ref b) (gW k) as):eL h (.ref b) k:=by
 unfold gW at r;cases r with
 | tuple h1 h2 h3 h4=>
  obtain⟨t,u,e⟩:=Ei h4;have e2:=WT.mp (show _=(#[Value.str k.1 t,Value.int k.2 u]:Array Value).toList from e);subst e2;exact⟨_,_,_,t,u,rfl,h1,h2,h3⟩
theorem Bt{h:Heap}{v:Value}{k k':ax}(x:eL h v k)(y:eL h v k'):k=k':=by
 obtain⟨b,o,m,t,u,rfl,e1,_,e2⟩:=x;obtain⟨b',o',m',t',u',z,e1',_,e2'⟩:=y;cases z;rw[e1] at e1';cases e1';rw[e2] at e2';injection e2' with e _
 have:=congrArg Array.toList e;simp at this;exact Prod.ext this.1.1 this.2.1
theorem CT{h:Heap}{qs:List (Addr×ax)}(hq:∀q∈qs,eL h (.ref q.1) q.2):∀{vs:List Value} {ks:List ax},fS h vs ks->(∀v∈vs,v∈qs.map fun q=>Value.ref q.1)->∃out:List (Addr×ax),vs=out.map (fun q=>Value.ref q.1)∧out.map (·.2)=ks∧∀q∈out,q∈qs
 | _,_,.nil,_=>⟨[],rfl,rfl,fun _ z=>(nomatch z)⟩
 | _,_,.cons r t,hm=>by
  obtain⟨out,e1,e2,e3⟩:=CT hq t fun v hv=>hm v (Ur _ hv);obtain⟨q,hqm,rfl⟩:=UR.mp (hm _ Uo);have:=Bt (hq q hqm) r;subst this;refine⟨q::out,by rw[Uv,e1],by rw[Uv,e2],fun x hx=>?_⟩;rcases UE.mp hx with rfl | hx
  ·exact hqm
  ·exact e3 x hx
theorem vt{h:Heap}:∀{qs:List (Addr×ax)},(∀q∈qs,eL h (.ref q.1) q.2)->fS h (qs.map fun q=>Value.ref q.1) (qs.map (·.2))
 | [],_=>.nil
 | q::r,hq=>.cons (hq q Uo) (vt fun x hx=>hq x (Ur _ hx))
theorem yN{qs:List (Addr×ax)}(hh:A.handled=none)(hS:t9 w s.heap a qs)(hr:Q4 s.heap qs)(h4:qs.length≤4){Q:Value->Shared->Prop}
  (h:∀h' d l n (out:List (Addr×ax)),(∀b o,s.heap.get? b=some o->h'.get? b=some o)->s.heap.objs.size≤l->h'.get? l=some (seqObj "list" (out.map fun q=>Value.ref q.1).toArray n)->out.map (·.2)=lN (qs.map (·.2))->(∀q∈out,q∈qs)->Q (.ref l) {s with heap:=h',drawn:=d}):
  wpAny (model P w) A (call (.builtin "sorted") [.ref a]) Q E s:=by
 obtain⟨nd,o,es,ep,t,qs',e,ex,dd,T,hes,hperm,hled⟩:=hS;refine Calls.call_function_entry kind_sorted plain_sorted entry_sorted (args_sorted1 _) ?_;unfold Builtin.«sorted»;refine Ug (m:=checkCount "sorted" 1 1 _) (Uk ?_);refine Ug (Ag (A:=A.in1) (es:=es) hh ⟨o,ep,t,e,ex,dd,by have:=T.le;unfold scanBound;lia,T.fits,hled,fun _=>T.MA⟩ fun h1 d vs hsz k1 hp=>?_);rw[hes,V8] at hp;obtain⟨qs2,p2,rfl⟩:=GZ (f:=fun q:Addr×ax=>Value.ref q.1) hp rfl;have p3:=p2.trans hperm;have nd2:(qs2.map (·.2)).Nodup:=(p3.map (·.2)).nodup_iff.mpr nd;have hl2:qs2.length≤4:=by rw[p3.length_eq];exact h4
 have es2:lN (qs2.map (·.2))=lN (qs.map (·.2)):=CA ((gf _).trans (p3.map _)) (jM nd2) nd;have hpa:∀q∈qs2,eL h1 (.ref q.1) q.2:=fun q hq=>by
  obtain⟨_,as,ra⟩:=hr q (p3.mem_iff.mp hq);exact(Ew ra).keep fun b o _ _ z _ _=>k1 b o z
 refine Ug (wpAny_newList ?_ (by rw[VH,Uh];lia));generalize hvs:(qs2.map fun q:Addr×ax=>Value.ref q.1)=vs;have hL:(h1.push (seqObj "list" vs.toArray 0)).get? h1.objs.size=some (seqObj "list" vs.toArray 0):=UD _ rfl;have hpa2:∀q∈qs2,eL (h1.push (seqObj "list" vs.toArray 0)) (.ref q.1) q.2:=fun q hq=>(hpa q hq).keep fun b o _ _ z _ _=>Uj _ z;have hpr:fS (h1.push (seqObj "list" vs.toArray 0)) vs (qs2.map (·.2)):=by subst hvs;exact vt hpa2
 show wpAny _ _ _ _ _ {s with heap:=h1.push (seqObj "list" vs.toArray 0),drawn:=d};refine Ug (U9 (Vb slot_list_sort ⟨_,hL,rfl⟩ entry_list_sort (AL (s:={s with heap:=h1.push (seqObj "list" vs.toArray 0),drawn:=d}) hL hpr nd2 (by rw[Uh];exact hl2) fun out g1 g2=>⟨_,rfl,?_⟩) (args_list_sort _)));obtain⟨out',rfl,o2,o3⟩:=CT hpa2 g1 (by rw[hvs];exact g2);have hlt:h1.objs.size < (h1.push (seqObj "list" vs.toArray 0)).objs.size:=by rw[Vq];exact WS _
 obtain⟨n,hn⟩:=sortedHeap_at (vs:=vs) (out:=(out'.map fun q:Addr×ax=>Value.ref q.1).toArray) hL;refine Uk ⟨_,rfl,h _ d _ n out' (fun b o e=>?_) hsz hn (o2.trans es2) fun q hq=>p3.mem_iff.mp (o3 q hq)⟩;have e:=k1 b o e;have hb:=UB e;rw[sortedHeap_old (UQ hb) (Xv hb hlt)];exact Uj _ e
end
noncomputable def FC(w:World)(a:Addr)(qs:List (Addr×ax)):HO:=.ext fun h=>t9 w h a qs
theorem GQ(x:t9 w h a qs):b6 P' w' H h a (FC w a qs):=
 ⟨x,let⟨_,o,_,_,_,_,e,_⟩:=x;⟨o,e⟩,fun h1 h2 y k=>let⟨q,o,es,ep,t,qs',e,r⟩:=y;⟨q,o,es,ep,t,qs',k o e,r⟩⟩
theorem Ex:IL X (newSet (.type "set")) (fun l=>FC X.w l []):=fun pins s σ H Q E I h=>by
 unfold newSet setsByText;refine Ug (Ug (Wo (Uk ?_)));dsimp only;refine U2 (h _ s.toks (I.laid (a:=s.heap.objs.size) (t':=s.toks) (fun _ _ q=>Uj _ q) (Us _) (GQ ⟨.nil,_,#[],0,_,[],UD _ rfl,⟨rfl,rfl,rfl⟩,rfl,?_⟩)));refine⟨⟨rfl,rfl,fun i j hi=>absurd hi (Wq _),rfl,Va _,fun i j e hi=>?_⟩,rfl,.refl _,rfl⟩;exact absurd hi (by simp[SetTable.fresh])
def LQ(K:FR)(H:Hp)(q:Addr×ax):Prop:=PyData.strOk q.2.1=true∧Fw K H (.ref q.1) (gW q.2)
theorem Lx(I:Inv X pins σ H s)(h:∀q∈qs,LQ X.K H q):Q4 s.heap qs:=fun q hq=>⟨(h q hq).1,(h q hq).2.reads I rfl⟩
def Mc(K:FR)(w:World)(te:TE)(l:Addr):TK:=fun τ H N=>te τ H fun x H1=>∃qs b k,H1 l=some (FC w l qs)∧x=.ref b∧LQ K H1 (b,k)∧(∀q∈qs,LQ K H1 q)∧qs.length≤3∧N τ (upd H1 l (FC w l (addQ qs b k)))
theorem JQ{B:Cx}{elt:Expr}{te:TE}{l:Addr}(hu:B.A.units+64 < cLine)(he:PE B elt te):PM B (emitSet elt (.ref l) B.env) (Mc B.K B.w te l):=fun pins s τ H N I h=>by
 unfold emitSet;refine Ug (cq (he pins s τ H _ I h) fun u s1 h1=>?_);obtain⟨x,H1,I1,r1,qs,b,k,e,rfl,hb,hq,hz,n1⟩:=h1;cases r1;refine Ug (VL (Ug ?_));obtain⟨hS,_,_⟩:=I1.bj l _ e;obtain⟨as,ra⟩:=hb.2.reads I1 rfl;refine JK hS (Lx I1 hq) hu hb.1 ra hz fun h' t' hs hS'=>Uk ?_;have hget:∃q,h'.get? l=some q:=let⟨_,q,_,_,_,_,hq,_⟩:=hS';⟨q,hq⟩;exact⟨τ,_,k8 I1 (by rw[e];exact True.intro) hs hget (GQ hS'),n1⟩
theorem B6{X:Cx}(hc:X.calm=true):fT X (.builtin "sorted") (fun xs H Q=>∃a qs,xs=[.ref a]∧H a=some (FC X.w a qs)∧(∀q∈qs,LQ X.K H q)∧qs.length≤4∧∀l (out:List (Addr×ax)),H l=none->out.map (·.2)=lN (qs.map (·.2))->(∀q∈out,q∈qs)->Q (.ref l) (upd H l (.lst (out.map fun q=>V.ref q.1)))):=by
 intro pins s σ H xs us Q I r h;obtain⟨a,qs,rfl,e,hq,h4,q⟩:=h;obtain⟨u,rfl,rx⟩:=vals1 r;cases rx;obtain⟨hS,_,_⟩:=I.bj a _ e;refine yN (I.ok.hd hc) hS (Lx I hq) h4 fun h' d l n out k hl ho e1 e2=>?_;have hln:out.length≤4:=by
  have:=congrArg List.length e1;rw[(gf _).length_eq,Uh,Uh] at this
  lia
 have hz:(out.map fun q=>V.ref q.1).length≤sizeLine:=by rw[Uh,VH];lia
 have hv:∀out:List (Addr×ax),Vals (out.map fun q=>V.ref q.1) (out.map fun q=>Value.ref q.1):=fun out=>by
  induction out with
  | nil=>exact .nil
  | cons q r ih=>exact .cons rfl ih
 exact⟨.ref l,_,(I.laid (t':=s.toks) (o:=.lst (out.map fun q=>V.ref q.1)) k hl ⟨hz,_,n,hv out,ho⟩).draw d,rfl,q l out (I.bj.fresh hl) e1 e2⟩
end L2
namespace Sm
open PySem L2 PySem.Spec PyProof.Rows
noncomputable def M1:D->Option ax
 | .tup [.str x,.int i]=>some (x,i)
 | _=>none
noncomputable def gV(k:ax):D:=.tup [.str k.1,.int k.2]
theorem JL{d:D}{k:ax}(e:M1 d=some k):d=gV k:=by
 unfold M1 at e
 split at e
 ·cases e;rfl
 ·cases e
theorem Gw{K:FR}{ρ:Ad}{H:Hp}{v:V}{k:ax}(r:Rep K ρ H v (gV k)):∃b,v=.ref b∧LQ K H (b,k):=by
 unfold gV at r;have hs:PyData.strOk k.1=true:=by
  cases r with
  | tup _ l=>cases l with
   | cons q _=>cases q with
    | str x=>exact x
 have:=r.uD (p:=gW k) rfl;cases r with
 | tup h l=>exact⟨_,rfl,hs,this.1⟩
noncomputable def QP(w:World):Ac (List ax) where
 at_:=fun K ρ H l a=>∃qs,H l=some (FC w l qs)∧a=qs.map (·.2)∧∀q∈qs,Rep K ρ H (.ref q.1) (gV q.2)
 mono:=fun⟨qs,e,r,k⟩ T q=>⟨qs,q.trans e,r,fun x hx=>(k x hx).mono T⟩
noncomputable def IG(ks:List ax)(k:ax):List ax:=if k∈ks then ks else ks++[k]
noncomputable def mP(e:EM):MK (List ax):=fun δ h a=>(e δ h).bind fun p=>(M1 p.1).bind fun k=>if a.length≤3 then some (δ,p.2,IG a k) else none
theorem CJ{K:FR}{ρ:Ad}{H:Hp}{q:Addr×ax}(r:Rep K ρ H (.ref q.1) (gV q.2)):LQ K H q:=by
 obtain⟨b,e,h⟩:=Gw r;cases e;exact h
theorem Jj{X:Cx}{elt:Expr}{me:EM}(hu:X.A.units+64 < cLine)(he:SE X elt me):Q3 X (fun l env=>emitSet elt (.ref l) env) (QP X.w) (mP me):=fun l=>(JQ hu he).imp fun τ H N ⟨ρ,δ,h,a,δ',h',a',R,S,hl,⟨qs,hv,ha,bj⟩,e,kk⟩=>by
 obtain⟨⟨x,h1⟩,e1,e2⟩:=bo e;obtain⟨c,e5,e6⟩:=bo e2;dsimp only at e5 e6
 by_cases hz:a.length≤3
 ·rw[Ut hz] at e6;cases e6;refine⟨ρ,δ,h,x,_,R,S,e1,fun u H1 ⟨ρ1,T1,S1,r1⟩=>?_⟩;have:=JL e5;subst this;obtain⟨b,rfl,hb⟩:=Gw r1;have hok1:∀q∈qs,Rep X.K ρ1 H1 (.ref q.1) (gV q.2):=fun q hq=>(bj q hq).mono T1.toCh;refine⟨qs,b,c,(T1.res l hl).trans hv,rfl,hb,fun q hq=>CJ (hok1 q hq),by rw[ha,Uh] at hz;exact hz,?_⟩;have hl1:l∈ρ1.rs:=by rw[T1.rs];exact hl
  have Cp:Ch ρ1 H1 ρ1 (upd H1 l (FC X.w l (addQ qs b c))):=Ch.put hl1;refine kk ρ1 _ τ (lE.put (K:=X.K) T1 hl) (S1.put hl1) ((R.mono T1.toCh).mono Cp) ⟨_,aR,?_,fun q hq=>?_⟩
  ·unfold IG addQ;rw[ha]
   split
   ·rfl
   ·rw[UH];rfl
  ·refine Rep.mono Cp ?_;unfold addQ at hq
   split at hq
   ·exact hok1 q hq
   ·rcases U5.mp hq with z | z
    ·exact hok1 q z
    ·rw[UC] at z;subst z;exact r1
 ·rw[Uu hz] at e6;cases e6
noncomputable def BW(caps:List (Option Nat))(i:IM)(g:GM)(c:TM)(m:MK (List ax)):EM:=fun δ h=>(i δ h).bind fun p=>(dD p.2.1 g c m p.1 (lK caps δ) p.2.2 []).bind fun q=>if q.2.2.length≤4 then some (.lv ((lN q.2.2).map gV),q.2.1) else none
theorem y7{K:FR}{ρ:Ad}{H:Hp}:∀{qs:List (Addr×ax)},(∀q∈qs,Rep K ρ H (.ref q.1) (gV q.2))->az K ρ H (qs.map fun q=>V.ref q.1) ((qs.map (·.2)).map gV)
 | [],_=>.nil
 | q::r,h=>.cons (h q Uo) (y7 fun x hx=>h x (Ur _ hx))
theorem Gz{X:Cx}{caps:List (Option Nat)}{mi:IM}{g:GM}{mt:TM}{m:MK (List ax)}{σ:L2.St}{H:Hp}{Q:VK}(hh:tM X.K (BW caps mi g mt m) σ H Q):
  RG (fun xs H Q=>∃a qs,xs=[.ref a]∧H a=some (FC X.w a qs)∧(∀q∈qs,LQ X.K H q)∧qs.length≤4∧∀l (out:List (Addr×ax)),H l=none->out.map (·.2)=lN (qs.map (·.2))->(∀q∈out,q∈qs)->Q (.ref l) (upd H l (.lst (out.map fun q=>V.ref q.1)))) (fun σ H Q=>lM caps (Jg X.K mi) (fun l=>FC X.w l []) (AI X.K g) (yI X.K mt) (fun l=>FP X.K (QP X.w) l m) σ H fun v H1=>Q [v] H1) σ H Q:=by
 obtain⟨ρ,δ,h,d,h',R,S,ee,k⟩:=hh;obtain⟨⟨xs,ws,h1⟩,e1,e2⟩:=bo ee;obtain⟨⟨δ',h2,a'⟩,e3,e4⟩:=bo e2;dsimp only at e4
 by_cases hz:a'.length≤4
 ·rw[Ut hz] at e4;cases e4;show lM caps (Jg X.K mi) (fun l=>FC X.w l []) (AI X.K g) (yI X.K mt) (fun l=>FP X.K (QP X.w) l m) σ H fun v H1=>∃a qs,[v]=[V.ref a]∧H1 a=some (FC X.w a qs)∧(∀q∈qs,LQ X.K H1 q)∧qs.length≤4∧∀l (out:List (Addr×ax)),H1 l=none->out.map (·.2)=lN (qs.map (·.2))->(∀q∈out,q∈qs)->Q (.ref l) (upd H1 l (.lst (out.map fun q=>V.ref q.1)));refine zg (A:=QP X.w) (o:=fun l=>FC X.w l []) (a0:=[]) (fun ρ H l=>⟨[],aR,rfl,fun k hk=>(nomatch hk)⟩) ⟨ρ,δ,h,xs,ws,h1,δ',_,a',R,S,e1,e3,fun l ρ' H' T S' n ⟨qs,at',ea,ok⟩=>?_⟩;subst ea;refine⟨l,qs,rfl,at',fun q hq=>CJ (ok q hq),by rw[Uh] at hz;exact hz,fun l2 out hl2 o1 o2=>?_⟩;rw[←o1] at k;exact k _ _ (dG.step T (dG.lv S' (y7 fun q hq=>ok q (o2 q hq)) hl2))
 ·rw[Uu hz] at e4;cases e4
theorem D4{X:Cx}{tg iter elt:Expr}{p pos spos:Pos}{me:EM}{mt:TM}{g:GM}{N':List Str}{caps:List (Option Nat)}{scope:Scope}{ifs:List Expr}{mi:IM}(C:a9 X N' caps scope)(hc:X.calm=true)(hgl:Gl X "sorted")(hmg:X.mg "sorted"=none)(hu:X.A.units+64 < cLine)(hi:SI X tg iter mi)(hg:∀C s₃ H₃ fp pl,SG (fz X N' scope C s₃ H₃ fp pl) tg g)(hif:∀C s₃ H₃ fp pl,Li (fz X N' scope C s₃ H₃ fp pl) ifs mt)(he:∀C s₃ H₃ fp pl,SE (fz X N' scope C s₃ H₃ fp pl) elt me)(hs:∀x,foldedSetIterable iter X.env x=pure x:=by intro _;ac_nf):
  SE X (.Call (.Name "sorted" p) [.SetComp elt [⟨tg,iter,ifs,0⟩] scope spos] [] pos) (BW caps mi g mt (mP me)):=by
 have hcomp:=sI (g:=AI X.K g) (tc:=yI X.K mt) (tm:=fun l=>FP X.K (QP X.w) l (mP me)) C hc (Ep elt [⟨tg,iter,ifs,0⟩] scope spos) rfl (fun it l env=>DT ..) Ex hi hg hif
  (fun C s₃ H₃ fp pl l=>Jj (X:=fz X N' scope C s₃ H₃ fp pl) hu (he C s₃ H₃ fp pl) l) rfl hs
 exact(zp (B6 hc) hgl hmg (by decide+kernel) (CW hcomp G6)).imp fun σ H Q hh=>Gz hh
end Sm
namespace L2
open PySem PySem.Spec PyProof.Rows
noncomputable def Lk(lo c:Int)(n:Nat):It:=⟨fun i _=>i < n,fun i H x H'=>H'=H∧x=.int (lo+i*c),fun i _=>n≤i⟩
theorem yG{P:Program}{w:World}{K:FR}{tg:Expr}(it:Addr)(lo c:Int)(n:Nat):Turn P w K tg (Lk lo c n) [it] it (fun i h=>IsRangeIter h it (lo+(i:Nat)*c) ((n:Int)-(i:Nat)) c) where
 mem:=by simp
 obj:=fun i h st b hb=>by
  have e:b=it:=by simpa using hb
  subst e;exact⟨_,st,fun v z=>by
   have z':Data.fields _=Data.cell v:=z;cases z'⟩
 keep:=fun i h h' st k=>k it (by simp) _ st
 item:=by
  intro X hP hw hK hc i pins s σ H E I hf st hg;subst hP hw hK;obtain⟨f0,f1,f2,f3,f4,f5⟩:=hf it (by simp);have W:=Walks.range (prog:=X.prog) (w:=X.w) (I.ok.hd hc) it lo c n;refine W.item i s _ _ hg st fun v h' tk hv st' kk=>?_;obtain⟨t,rfl⟩:=hv;have I1:Inv X pins σ H {s with heap:=h',toks:=tk}:=I.turned (fun b o hb e=>kk b o (by simpa using hb) e) f0 f1 f3 f4 f5;exact⟨_,rfl,Dg (s:={s with heap:=h',toks:=tk}) (n:="range_iterator") st' rfl rfl (by decide) ⟨.int (lo+i*c),H,I1,⟨t,rfl⟩,⟨rfl,rfl⟩,st',fun b hb=>(hf b hb).1⟩⟩
 done:=by
  intro X hP hw hK hc i pins s σ H E I hf st hg;subst hP hw hK;obtain⟨f0,f1,f2,f3,f4,f5⟩:=hf it (by simp);exact wpAny_pyNext_range_end (I.ok.hd hc) st (by have:n≤i:=hg;lia) fun h' eb=>⟨rfl,I.turned (t':=s.toks) (fun b o hb e=>eb b o hb e) f0 f1 f3 f4 f5⟩
 self:=fun _ _ _ _ _ st h=>wpAny_pyIter_rangeiter st h
def IV(i j c:Int):Prop:=(-1000000≤i∧i≤1000000)∧(-1000000≤j∧j≤1000000)∧0 < c∧c≤1000
instance:Decidable (IV i j c):=by unfold IV;exact inferInstance
theorem size_pos(h:IV i j c):0≤Builtin.Range.rangeSize i j c∧Builtin.Range.rangeSize i j c≤2000000:=by
 obtain⟨h1,h2,h3,h4⟩:=h;unfold Builtin.Range.rangeSize;rw[Ut h3]
 split
 ·have:=Int.ediv_nonneg (a:=j-i-1) (b:=c) (by lia) (by lia);have:=Int.ediv_le_self (a:=j-i-1) c (by lia)
  lia
 ·lia
theorem Ek{pins:List (Addr×Obj)}{σ:St}{H:Hp}{s:Shared}{R:It->Hp->Prop}{E:Value->Shared->Prop}{lo hi c:Int}{t u v:Tok}{tk:Nat}(I:Inv X pins σ H s)(h1:IV lo hi c)
  (q:R (Lk lo c (Builtin.Range.rangeSize lo hi c).toNat) H):wpAny (model X.prog X.w) X.A (pyIter (.ref s.heap.objs.size)) (Ta X pins σ tg R) E {s with heap:=s.heap.push {cls:=.type "range",data:=.fields #[.int lo t,.int hi u,.int c v]},toks:=tk}:=by
 have hsz:=size_pos h1;refine wpAny_pyIter_range (IsRange.new ..) ?_ ?_
 ·obtain⟨g1,g2,g3,g4⟩:=h1;unfold Builtin.Range.small;simp only[Builtin.Range.rangeFitsLong,UJ,VZ,Vc,VO,show c > 0 from g3,Wy];refine⟨⟨⟨⟨⟨?_,?_⟩,?_,?_⟩,?_,?_⟩,?_,?_⟩,.inr ⟨?_,?_⟩⟩ <;> lia
 have I1:Inv X pins σ H {s with heap:=s.heap.push {cls:=.type "range",data:=.fields #[.int lo t,.int hi u,.int c v]},toks:=tk}:=I.kept fun b o e=>Uj _ e;refine⟨(s.heap.push {cls:=.type "range",data:=.fields #[.int lo t,.int hi u,.int c v]}).objs.size,[(s.heap.push {cls:=.type "range",data:=.fields #[.int lo t,.int hi u,.int c v]}).objs.size],_,_,H,rfl,
  I1.kept (t':=tk) fun b o e=>Uj _ e,yG _ lo c (Builtin.Range.rangeSize lo hi c).toNat,?_,fun b hb=>?_,q⟩
 ·have e1:lo+((0:Nat):Int)*c=lo:=by simp
  have e2:(((Builtin.Range.rangeSize lo hi c).toNat:Nat):Int)-((0:Nat):Int)=Builtin.Range.rangeSize lo hi c:=by lia
  show IsRangeIter _ _ (lo+((0:Nat):Int)*c) ((((Builtin.Range.rangeSize lo hi c).toNat:Nat):Int)-((0:Nat):Int)) c;rw[e1,e2];exact UD _ rfl
 ·have e:b=(s.heap.push {cls:=.type "range",data:=.fields #[.int lo t,.int hi u,.int c v]}).objs.size:=by simpa using hb
  subst e;exact I1.zZ (Us _) (I1.bj.fresh (Us _))
def Qn(ta:TA):TI:=fun σ H R=>ta σ H fun vs H1=>∃i j c:Int,vs=[.int i,.int j,.int c]∧IV i j c∧R (Lk i c (Builtin.Range.rangeSize i j c).toNat) H1
theorem Er{X:Cx}{tg a b c:Expr}{p pos:Pos}{ta:TA}(hg:Gl X "range")(hm:X.mg "range"=none)(ha:PA X [a,b,c] ta)(hs:starEach [a,b,c] X.env=[(false,eval a X.env),(false,eval b X.env),(false,eval c X.env)]:=by rfl)(hs2:starEach [b,c] X.env=[(false,eval b X.env),(false,eval c X.env)]:=by rfl):
  PI X tg (.Call (.Name "range" p) [a,b,c] [] pos) (Qn ta):=by
 intro pins s σ H R I h;refine Call_ (ip I hg hm boot_range (Vm (cq (ha pos pins s σ H _ I h) fun us s1 ⟨vs,H1,I1,r1,q1⟩=>?_) (by rw[hs,hs2]) (by rw[hs2];rfl)));obtain⟨i,j,d,e,q2,q⟩:=q1;subst e;cases r1 with
 | cons r rr=>
  cases rr with
  | cons r' rr=>
   cases rr with
   | cons r'' rr=>
    cases rr;obtain⟨t,rfl⟩:=r;obtain⟨t',rfl⟩:=r';obtain⟨t'',rfl⟩:=r'';refine call_range_3 (by have:=q2.2.2.1;lia) (Ek I1 q2 q) (.inl ?_);obtain⟨g1,g2,g3,g4⟩:=q2;exact PyProof.noPylong_small (by lia)
end L2
namespace Sm
open PySem L2 PySem.Spec PyProof.Rows
noncomputable def KJ(m:AM):IM:=fun δ h=>(m δ h).bind fun p=>match p.1 with
 | [.int i,.int j,.int c]=>if IV i j c then some ((List.range (Builtin.Range.rangeSize i j c).toNat).map fun(k:Nat)=>D.int (i+(k:Int)*c),[],p.2) else none
 | _=>none
theorem KA{K:FR}{ρ:Ad}{H:Hp}(lo c:Int)(n:Nat):OS K (Lk lo c n) ρ H [] ((List.range n).map fun(k:Nat)=>D.int (lo+(k:Int)*c)):=by
 refine xS fun ρ1 H1 h1 T S hc=>⟨(List.range n).map fun(k:Nat)=>V.int (lo+(k:Int)*c),?_,fun i hi=>?_,fun i v hv=>?_⟩
 ·have:=kR (K:=K) (ρ:=ρ1) (H:=H1) ((List.range n).map fun(k:Nat)=>lo+(k:Int)*c);rw[V8,V8] at this;exact this
 ·rw[Uh,UI] at hi;exact hi
 ·rw[Ux] at hv;obtain⟨j,e1,e2⟩:=fO hv;obtain⟨hlt,e3⟩:=Ui.mp e1;rw[UI] at hlt;rw[XY] at e3;subst e3;subst e2;exact⟨hlt,fun u H2 ⟨p,q⟩=>⟨p,q⟩⟩
theorem D1{X:Cx}{tg a b c:Expr}{p pos:Pos}{m:AM}(hg:Gl X "range")(hm:X.mg "range"=none)(ha:SA X [a,b,c] m)(hs:starEach [a,b,c] X.env=[(false,eval a X.env),(false,eval b X.env),(false,eval c X.env)]:=by ac_nf)(hs2:starEach [b,c] X.env=[(false,eval b X.env),(false,eval c X.env)]:=by ac_nf)(hl:mN m 3):
  SI X tg (.Call (.Name "range" p) [a,b,c] [] pos) (KJ m):=
 (Er hg hm ha hs hs2).imp fun σ H Q ⟨ρ,δ,h,xs,ws,h',R,S,e,k⟩=>by
  obtain⟨⟨x,h1⟩,e1,e2⟩:=bo e;refine⟨ρ,δ,h,x,h1,R,S,e1,fun vs ρ1 H1 T1 S1 r1=>?_⟩;dsimp only at e2
  split at e2
  ·rename_i _ i j d
   by_cases z:IV i j d
   ·rw[Ut z] at e2;cases e2;refine⟨i,j,d,?_,z,k _ ρ1 H1 T1 S1 (KA i d _)⟩;cases r1 with
    | cons r l=>cases l with
     | cons r' l=>cases l with
      | cons r'' l=>cases l;cases r;cases r';cases r'';rfl
   ·rw[Uu z] at e2;cases e2
  ·cases e2
abbrev v0:EM:=ay 0
abbrev v1:EM:=ay 1
abbrev v2:EM:=ay 2
abbrev v3:EM:=ay 3
abbrev v4:EM:=ay 4
abbrev v5:EM:=ay 5
abbrev v6:EM:=ay 6
abbrev v7:EM:=ay 7
abbrev v8:EM:=ay 8
abbrev v9:EM:=ay 9
abbrev v10:EM:=ay 10
abbrev v11:EM:=ay 11
abbrev Ru:EM:=ay 12
abbrev Rt:EM:=ay 13
abbrev Ti:EM:=ay 14
abbrev ki(i:Int):EM:=eK (.int i)
abbrev ks(x:Str):EM:=eK (.str x)
abbrev a1(x:EM):AM:=ae x aP
abbrev a2(x y:EM):AM:=ae x (ae y aP)
abbrev a3(x y z:EM):AM:=ae x (ae y (ae z aP))
abbrev a4(x y z u:EM):AM:=ae x (ae y (ae z (ae u aP)))
section
variable {P:Program} {w:World} {K:FR} {mg:Str->Option Value} {base:Heap} {x qual:Str} {st:Stmt} {f:Addr} {fd:FuncData} {N ps:List Str} {k:Nat}
theorem au(F:dI K x qual st f fd)(Sc:aq N ps (ag st))(hb:∀(cdv:Value)(A:Around)(outer:List Env)(s:Shared)(H:Hp)(E:XK),gL k (A.deeper (envOfC qual (ag st) s.heap.objs.size f cdv))->N.Nodup->IY (Af de P w K mg base N qual (ag st) f cdv A outer s H E).OX (g0 st) body):
  aX P w K mg base de (k+1) f fd ps (dJ K ps.length (fW N.length body)):=NX F Sc fun c A o s H E hr=>hb c A o s H E hr Sc.nd
end
theorem Pw{op:CmpOp}(ho:ow X (compareOp op) f)(ha:SE X a ma)(hb:SE X b mb)(hm:behindInMarks op b=false:=by first | exact pG _ | ac_nf):ST X (.Compare a [op] [b] pos) (aA (aj f ma mb)):=rQ ho ha hb hm
theorem Px{op:CmpOp}(ho:ow X (compareOp op) f)(ha:SE X a ma)(hb:SE X b mb)(hm:behindInMarks op b=false:=by first | exact pG _ | ac_nf):SE X (.Compare a [op] [b] pos) (aj f ma mb):=AR ho ha hb hm
theorem RN{x1}(h:SA X es aP):SE X (.Tuple es x1 pos) (ao aD aP):=cU h aC
theorem RM{x1}(h:SA X es (ae m0 aP)):SE X (.Tuple es x1 pos) (ao aD (ae m0 aP)):=cU h (af aC)
theorem RL{x1}(h:SA X es (ae m0 (ae m1 aP))):SE X (.Tuple es x1 pos) (ao aD (ae m0 (ae m1 aP))):=cU h (af (af aC))
theorem RK{x1}(h:SA X es (ae m0 (ae m1 (ae m2 aP)))):SE X (.Tuple es x1 pos) (ao aD (ae m0 (ae m1 (ae m2 aP)))):=cU h (af (af (af aC)))
theorem RJ{x1}(h:SA X es (ae m0 (ae m1 (ae m2 (ae m3 (ae m4 (ae m5 aP))))))):SE X (.Tuple es x1 pos) (ao aD (ae m0 (ae m1 (ae m2 (ae m3 (ae m4 (ae m5 aP))))))):=cU h (af (af (af (af (af (af aC))))))
theorem RS(h:SA X es aP):t6 X (.List es pos) aP:=iS h aC
theorem RQ(h:SA X es (ae m0 aP)):t6 X (.List es pos) (ae m0 aP):=iS h (af aC)
theorem RP(h:SA X es (ae m0 (ae m1 aP))):t6 X (.List es pos) (ae m0 (ae m1 aP)):=iS h (af (af aC))
theorem RO(h:SA X es (ae m0 (ae m1 (ae m2 (ae m3 (ae m4 (ae m5 (ae m6 (ae m7 aP))))))))):t6 X (.List es pos) (ae m0 (ae m1 (ae m2 (ae m3 (ae m4 (ae m5 (ae m6 (ae m7 aP)))))))):=iS h (af (af (af (af (af (af (af (af aC))))))))
end Sm
namespace Pg
open PySem Sm L2
abbrev Term:=Str×Int
abbrev Lock:=Str×Term
inductive Row where
 | say (w:Str)
 | call (d:Str) (ts:List Term)
 | within (l:Lock) (b:List Row)
 | all (ls:List Lock) (b:List Row)
 | ask (l:Lock) (b e:List Row)
 | tQ (s t:Term) (a b c:List Row)
 | either (a b:List Row)
 | again (a:List Row)
noncomputable def aV(t:Term):D:=.tup [.str t.1,.int t.2]
noncomputable def aL(l:Lock):D:=.tup [.str l.1,aV l.2]
mutual
noncomputable def aQ:Row->D
 | .say w=>.tup [.str "say",.str w]
 | .call d ts=>.tup [.str "call",.str d,.tup (ts.map aV)]
 | .within l b=>.tup [.str "within",aL l,.tup (cu b)]
 | .all ls b=>.tup [.str "all",.tup (ls.map aL),.tup (cu b)]
 | .ask l b e=>.tup [.str "ask",aL l,.tup (cu b),.tup (cu e)]
 | .tQ s t a b c=>.tup [.str "by",aV s,aV t,.tup (cu a),.tup (cu b),.tup (cu c)]
 | .either a b=>.tup [.str "either",.tup (cu a),.tup (cu b)]
 | .again a=>.tup [.str "again",.tup (cu a)]
noncomputable def cu:List Row->List D
 | []=>[]
 | r::rs=>aQ r::cu rs
end
theorem gG:∀l:List Row,cu l=l.map aQ
 | []=>by simp[cu]
 | r::rs=>by simp[cu,gG rs]
mutual
noncomputable def cnt:Row->Nat
 | .say _=>1
 | .call _ _=>1
 | .within _ b=>1+cv b
 | .all _ b=>1+cv b
 | .ask _ b e=>1+cv b+cv e
 | .tQ _ _ a b c=>1+cv a+cv b+cv c
 | .either a b=>1+cv a+cv b
 | .again a=>1+cv a
noncomputable def cv:List Row->Nat
 | []=>0
 | r::rs=>cnt r+cv rs
end
theorem Ah:∀a b:List Row,cv (a++b)=cv a+cv b
 | [],b=>by simp[cv]
 | r::a,b=>by simp[cv,Ah a b];lia
structure Wd where
 names:List Str
 ak:List Str
 params:List (List Str)
def fb(ps:List Str)(t:Term):Prop:=(t.1=Str.ofString ""∨t.1∈ps)∧-99≤t.2∧t.2≤99
def fJ(W:Wd)(ps:List Str)(l:Lock):Prop:=l.1∈W.names∧fb ps l.2
mutual
def bh(W:Wd)(ps:List Str):Nat->Row->Prop
 | _,.say w=>w∈W.names++W.ak
 | _,.call d ts=>(∃(j:Nat)(qs:List Str),W.ak[j]?=some d∧W.params[j]?=some qs∧ts.length=qs.length)∧∀t∈ts,fb ps t
 | n,.within l b=>fJ W ps l∧n < 5∧b.length≤12∧bD W ps (n+1) b
 | n,.all ls b=>(2≤ls.length∧ls.length≤4∧ls.Nodup∧∀l∈ls,fJ W ps l)∧n < 5∧b.length≤12∧bD W ps (n+1) b
 | n,.ask l b e=>fJ W ps l∧n < 5∧b.length≤12∧e.length≤12∧bD W ps (n+1) b∧bD W ps (n+1) e
 | n,.tQ s t a b c=>fb ps s∧fb ps t∧n < 5∧a.length≤12∧b.length≤12∧c.length≤12∧bD W ps (n+1) a∧bD W ps (n+1) b∧bD W ps (n+1) c
 | n,.either a b=>n < 5∧a.length≤12∧b.length≤12∧bD W ps (n+1) a∧bD W ps (n+1) b
 | n,.again a=>n < 5∧a.length≤12∧bD W ps (n+1) a
def bD(W:Wd)(ps:List Str):Nat->List Row->Prop
 | _,[]=>True
 | n,r::rs=>bh W ps n r∧bD W ps n rs
end
theorem vz{W:Wd}{ps:List Str}{n:Nat}:∀{a b:List Row},bD W ps n a->bD W ps n b->bD W ps n (a++b)
 | [],b,_,h=>h
 | r::a,b,h,h'=>by
  unfold bD at h;show bD W ps n (r::(a++b));unfold bD;exact⟨h.1,vz h.2 h'⟩
theorem pF{W:Wd}{ps:List Str}{n:Nat}:∀{a:List Row},bD W ps n a->∀r∈a,bh W ps n r
 | [],_,_,z=>by cases z
 | r::a,h,x,hx=>by
  unfold bD at h;rcases UE.mp hx with rfl | hx
  ·exact h.1
  ·exact pF h.2 x hx
end Pg
set_option hygiene false in
local macro_rules | `(tactic| ac_rfl) => do {let t ← (("|Sm.sv _|Sm.bt|Sm.av|Sm.aa ? ?|Sm.ab ? ?|Sm.aI ?|Sm.br ?|Sm.sset _ @ ?|Sm.dR ? ? ?|Sm.cz|Sm.six hr ? ?|Sm.gR @ hr ?|Sm.cN|Sm.Gb|Sm.Lw|Sm.RL ?|Sm.RM ?|Sm.RK ?|Sm.RN ?|Sm.stp4 ?|Sm.stp5 ?|Sm.RJ ?|Sm.Pw ? ? ?|Sm.bZ ? ? ?|Sm.eB|Sm.Nm hr.units|Sm.Bu hr.units|Sm.LD|Sm.Qd|Sm.LF|Sm.LG|Sm.Nk|Sm.Kf|Sm.Hb hr.units|Sm.Ha hr.units|Sm.G7|Sm.sQ|Sm.Lv Sm.FJ ?|Sm.Ga ? ? ?|Sm.CC|Sm.CB ?|Sm.iP ? ?|Sm.oE rfl ?|Sm.cb ? ?|Sm.kQ|Sm.sgn _ @|Sm.IT Sm.Ob B.QL Sm.Oz ?|Sm.Js Sm.fy B.f7 Sm.eI ?|Sm.AK ?|Sm.Mh ?|Sm.PD ? ? ?|Sm.kN ?|Sm.AQ Sm.jL PySem.F.plainAttrs_list PySem.F.slot_list_append PySem.F.type_list_append Sm.kT ? ?|Sm.PB Sm.jL PySem.F.plainAttrs_list PySem.F.slot_list_pop PySem.F.type_list_pop Sm.NC ?|Sm.t6.lv ?|Sm.t6.ob ?|Sm.RS ?|Sm.RQ ?|Sm.RP ?|Sm.sfl3 ?|Sm.sfl4 ?|Sm.sfl5 ?|Sm.sfl6 ?|Sm.sfl7 ?|Sm.RO ?|Sm.FW ? ?|Sm.FV ? ?|Sm.Cv ?|Sm.FU ?|Sm.en PassesOwn.never rfl ? ? ?|Sm.ib ?|Sm.FZ|Sm.IT Sm.Oa~rfl B.QK Sm.Oy ?|Sm.IT Sm.N9~rfl B.QJ Sm.Ox ?|Sm.Js Sm.Oc B.LO Sm.Iu ?|Sm.IT Sm.Oe B.QN Sm.OB ?|Sm.Px ? ? ?|Sm.SW.st ?".splitOn "|").drop 1).toArray.mapM (fun l => do {let x ← (l.splitOn " ").toArray.mapM (fun z => if z == "?" then `(?_) else if z == "_" then `(_) else if z == "@" then `(‹_›) else(let y := (z.splitOn "~").toArray.map (fun w => (Lean.mkIdent w.toName : Lean.TSyntax `term));pure (Lean.Syntax.mkApp y[0]! (y.extract 1 y.size))));`(Lean.Parser.Tactic.tacticSeq| refine $(Lean.Syntax.mkApp x[0]! (x.extract 1 x.size)) <;> ac_rfl)});`(tactic| with_reducible first $[| $t]*)}
local macro_rules | `(tactic| walk_at "v") => `(tactic|(conv => arg 2;whnf))
local macro_rules | `(tactic| walk_at "u") => `(tactic|(walk_at "v";ac_rfl))
namespace Mi
open PySem L2 Sm PySem.Spec PyProof.Rows
structure Bs(P:Program)(w:World)(K:FR)(mg:Str->Option Value):Prop where
 QN:mg "abs"=none
 QM:mg "any"=none
 OE:mg "bool"=none
 OD:mg "dict"=none
 dW:mg "enumerate"=none
 LO:mg "int"=none
 jo:mg "isinstance"=none
 QL:mg "len"=none
 Cf:mg "list"=none
 QK:mg "max"=none
 QJ:mg "min"=none
 dw:mg "range"=none
 tS:mg "sorted"=none
 f7:mg "tuple"=none
 QI:mg "zip"=none
 IH:Tab P w K mg "SHAPES" kM
abbrev i0:Stmt:=top 44
abbrev jg:List Str:=["_law_script"]
theorem uq:aq ["_law_script"] jg (ag i0):=by walk_at "s"
noncomputable def eQ:Fn:=fW 1
  (aG (Dw (a3 (ki 0) (Dw (DL (a1 (kA v0 zr (zt (ki 63)))))) (ki 0))))
abbrev jV:Stmt:=top 45
abbrev kh:List Str:=["_law_state"]
theorem iT:aq ["_law_state","_law_cells","_law_tour","_law_cell","_law_mixed"] kh (ag jV):=by walk_at "s"
noncomputable def hW:Fn:=fW 5
  (ah (aJ 1 (aj aE v0 (ki 1)))
  (ah (aJ 2 (aj aE v0 (ki 2)))
  (ah (eU (aj aN v2 (ki 1)) (uQ v0 (ki 2)))
  (ah (aJ 3 (ki 0))
  (ah (fw (aA (aj lu v1 (iB aP))) (aJ 3 (aj aE v1 (aj tx v2 (ao cX (a1 v1))))) bG)
  (fw (lj (aA (aj IX v2 (ao cX (a1 v1)))) (aA (aj Qv (ao N5 (a1 v3)) (aj KP (ki 10) (ki 18))))) (eU (ao N5 (a1 v3)) (uQ v0 (ki 0))) (ah (aJ 4 (aj tx (aj kr (aj aN (aj aN (aj tx v3 (ki 2305843009213693951)) (aj kr (aj kr (ki 7919) v2) v2)) (ki 11)) (ki 48271)) (ki 2305843009213693951)))
  (ah (aJ 4 (aj tx (aj kr v4 v4) (ki 2305843009213693921)))
  (eU (aj aN (aj tx (aj aN (aj aN (aj kr v4 (ki 69621)) v2) (ki 104729)) (ki 2305843009213693951)) (aj KP (ki 10) (ki 9))) (uQ v0 (ki 0)))))))))))
abbrev jT:Stmt:=top 46
abbrev ke:List Str:=["_law_state","_law_many"]
theorem wQ:aq ["_law_state","_law_many","_law_found"] ke (ag jT):=by walk_at "s"
noncomputable def aH:Fn:=fW 3
  (ah (fw (aA (aj IX (aj aE v0 (ki 0)) v1)) (gw (ao hW (a1 v0))) bG)
  (ah (aJ 2 (aj tx (aj aE v0 (ki 0)) v1))
  (ah (eU (aj HP (aj aE v0 (ki 0)) v1) (uQ v0 (ki 0)))
  (aG v2))))
abbrev oQ:Stmt:=top 47
abbrev pC:List Str:=["_law_state","_law_some"]
theorem AZ:aq ["_law_state","_law_some"] pC (ag oQ):=by walk_at "s"
noncomputable def aB:Fn:=fW 2
  (aG (aj aE v1 (ao aH (a2 v0 (ao cX (a1 v1))))))
abbrev iZ:Stmt:=top 48
abbrev jf:List Str:=["_law_state","_law_many"]
theorem lG:aq ["_law_state","_law_many","_law_letters","_law_stem","_law_k","_law_at","_law_first","_law_stride"] jf (ag iZ):=by walk_at "s"
noncomputable def dB:Fn:=fW 8
  (ah (aJ 2 (ks "abcdefghijklmnopqrstuvwxyz"))
  (ah (aJ 3 (ks ""))
  (ah (jY (mG (a1 (ao aB (a2 v0 (eK (.lv [.int 0,.int 1,.int 1,.int 2,.int 3,.int 6])))))) (gN 4) (aJ 3 (aj aN v3 (aj aE v2 (ao aH (a2 v0 (ki 26)))))))
  (ah (aJ 5 (ao aH (a2 v0 (aj aN (ao cX (a1 v3)) (ki 1)))))
  (ah (aJ 6 (ao aH (a2 v0 (ki 26))))
  (ah (aJ 7 (ao aB (a2 v0 (eK (.lv [.int 1,.int 3,.int 5,.int 7,.int 9,.int 11])))))
  (aG (iB (dE [none,some 5,some 6,some 2,some 3,some 7] (mG (a1 v1)) (gN 0) bU (aj aN (aj aN (kA v4 zr (zt v1)) (aj aE v3 (aj tx (aj aN v2 (aj kr v5 v0)) (ki 26)))) (kA v4 (zt v1) zr)))))))))))
abbrev iY:Stmt:=top 49
abbrev je:List Str:=["_law_state","_law_most","_law_odd"]
theorem cI:aq ["_law_state","_law_most","_law_odd","_law_names","_law_deeds","_law_params","_law_many","_law_floors"] je (ag iY):=by walk_at "s"
noncomputable def gc:Fn:=fW 8
  (ah (aJ 3 (ao dB (a2 v0 (ao aB (a2 v0 (eK (.lv [.int 1,.int 2,.int 2,.int 3,.int 4,.int 6])))))))
  (ah (aJ 4 (ao dB (a2 v0 (ao aB (a2 v0 (eK (.lv [.int 1,.int 1,.int 2,.int 2,.int 3,.int 4,.int 6])))))))
  (ah (aJ 5 (ao dB (a2 v0 (ki 3))))
  (ah (aJ 6 (iB (dE [none,some 0] (iq v4) (gN 0) bU (ao aB (a2 v1 (eK (.lv [.int 0,.int 1,.int 1,.int 2,.int 2,.int 3])))))))
  (ah (aJ 7 (ao HI (a1 (iB (dE [none,some 3,some 0] (iq v4) (gN 0) bU (ao aH (a2 v2 (ao cX (a1 v1)))))))))
  (ah (aJ 5 (iB (dE [none,some 5] (iq v6) (gN 0) bU (kA v1 zr (zt v0)))))
  (aG (BY (iG (ks "names") v3 (iG (ks "deeds") v4 (iG (ks "params") v5 (iG (ks "floors") v7 (iG (ks "left") v1 (iG (ks "odd") v2 Ni))))))))))))))
abbrev ig:Stmt:=top 50
abbrev ik:List Str:=["_law_state","_law_world_here"]
theorem rW:aq ["_law_state","_law_world_here"] ik (ag ig):=by walk_at "s"
noncomputable def cM:Fn:=fW 2
  (aG (yb (aj HN (aj aE v1 (ks "odd")) (ki 0)) (aj cj (ao aH (a2 v0 (aj aE v1 (ks "odd")))) (ki 0))))
abbrev jS:Stmt:=top 51
abbrev kd:List Str:=["_law_state","_law_params"]
theorem wO:aq ["_law_state","_law_params","_law_far"] kd (ag jS):=by walk_at "s"
noncomputable def bE:Fn:=fW 3
  (ah (aJ 2 (aj xY (ao aH (a2 v0 (ki 81))) (ki 40)))
  (ah (fw (lj (aA (aj HN (ao cX (a1 v1)) (ki 0))) (aA (aj HN (ao aH (a2 v0 (ki 5))) (ki 0)))) (aG (ao aD (a2 (ao aB (a2 v0 v1)) (ao aB (a2 v0 (iB (ae (ki 0) (ae (ki 0) (ae (ki 0) (ae (ki 0) (ae (ki 1) (a4 (ki 1) (jG cS (ki 1)) (ki 2) v2)))))))))))) bG)
  (aG (ao aD (a2 (ks "") (ao aB (a2 v0 (iB (ae (ki 0) (ae (ki 0) (ae (ki 1) (ae (ki 1) (a4 (ki 2) (ki 3) (jG cS (ki 1)) v2)))))))))))))
abbrev jW:Stmt:=top 53
abbrev kj:List Str:=["_law_state","_law_world_here","_law_deed","_law_top"]
theorem fU:aq ["_law_state","_law_world_here","_law_deed","_law_top","_law_some","_law_other","_law_terms"] kj (ag jW):=by walk_at "s"
noncomputable def fC:Fn:=fW 7
  (ah (aJ 4 (iB (dE [none,some 2,some 3,some 1] (mG (a1 (ao cX (a1 (aj aE v1 (ks "deeds")))))) (gN 0) (lj (aA (aj HN (aj aE (aj aE v3 (ks "floors")) v0) v2)) (aA (aj Qv v0 v1))) v0)))
  (ah (fw (ia (ao cM (a2 v0 v1))) (aJ 4 (iB (OG (a1 (ao cX (a1 (aj aE v1 (ks "deeds")))))))) bG)
  (ah (fw (aA (aj cj v4 (iB aP))) (aG (ao aD (a2 (ks "say") (aj aE (aj aE v1 (ks "deeds")) v2)))) bG)
  (ah (aJ 5 (ao aB (a2 v0 v4)))
  (ah (aJ 6 (iB (dE [none,some 2,some 0,some 1] (iq (aj aE (aj aE v1 (ks "params")) v5)) (gN 0) bU (ao bE (a2 v2 (aj aE (aj aE v3 (ks "params")) v1))))))
  (aG (ao aD (a3 (ks "call") (aj aE (aj aE v1 (ks "deeds")) v5) (ao bL (a1 v6))))))))))
abbrev jU:Stmt:=top 52
abbrev kg:List Str:=["_law_state","_law_world_here","_law_deed","_law_top","_law_held"]
theorem mS:aq ["_law_state","_law_world_here","_law_deed","_law_top","_law_held","_law_low","_law_at","_law_name","_law_same","_law_word","_law_more"] kg (ag jU):=by walk_at "s"
noncomputable def dX:Fn:=fW 11
  (ah (aJ 5 (ao uT (a2 v3 (aj aE (aj aE v1 (ks "floors")) v2))))
  (ah (fw (aA (aj cj v5 (ao cX (a1 (aj aE v1 (ks "names")))))) (aG (ao aD (a2 (eK .bz) (eK .bz)))) bG)
  (ah (aJ 6 (aj aN v5 (ao aH (a2 v0 (aj xY (ao cX (a1 (aj aE v1 (ks "names")))) v5)))))
  (ah (fw (ia (ao cM (a2 v0 v1))) (aJ 6 (ao aH (a2 v0 (ao cX (a1 (aj aE v1 (ks "names"))))))) bG)
  (ah (aJ 7 (aj aE (aj aE v1 (ks "names")) v6))
  (ah (aJ 8 (iB (dE [none,some 7] (iq v4) (gN 0) (aA (aj cj (aj aE v0 (ki 0)) v1)) (aj aE v0 (ki 1)))))
  (ah (fw (lj (aA (aj lu v8 (iB aP))) (rO (ia (ao cM (a2 v0 v1))))) (ah (eU (aj aE v8 (jG cS (ki 1))) (gT 2 (ai (gN 9) (ai (gN 10) bA))))
  (aG (ao aD (a2 v6 (ao aD (a2 v7 (ao aD (a2 v9 (ao E9 (a2 (ki 99) (aj aN (aj aN v10 (ki 1)) (ao aH (a2 v0 (ki 2)))))))))))))) bG)
  (aG (ao aD (a2 v6 (ao aD (a2 v7 (ao bE (a2 v0 (aj aE (aj aE v1 (ks "params")) v2)))))))))))))))
abbrev lZ:Stmt:=top 57
abbrev eZ:List Str:=["_law_state","_law_world_here","_law_deed","_law_deep","_law_top","_law_held","_law_most"]
theorem yX:aq ["_law_state","_law_world_here","_law_deed","_law_deep","_law_top","_law_held","_law_most","_law_rows","_law_k"] eZ (ag lZ):=by walk_at "s"
abbrev lY:Stmt:=top 56
abbrev eY:List Str:=["_law_state","_law_world_here","_law_deed","_law_deep","_law_top","_law_held"]
theorem cV:aq ["_law_state","_law_world_here","_law_deed","_law_deep","_law_top","_law_held","_law_way","_law_one","_law_other","_law_lots","_law_sort"] eY (ag lY):=by walk_at "s"
abbrev ie:Stmt:=top 55
abbrev cJ:List Str:=["_law_state","_law_world_here","_law_deed","_law_deep","_law_top","_law_held","_law_way"]
theorem cW:aq ["_law_state","_law_world_here","_law_deed","_law_deep","_law_top","_law_held","_law_way","_law_at","_law_lock_here","_law_some","_law_high","_law_turn","_law_low","_law_other","_law_lot_here"] cJ (ag ie):=by walk_at "s"
abbrev fF:Stmt:=top 54
abbrev bR:List Str:=["_law_state","_law_world_here","_law_deed","_law_deep","_law_top","_law_held"]
theorem di:aq ["_law_state","_law_world_here","_law_deed","_law_deep","_law_top","_law_held","_law_low","_law_name","_law_one","_law_other","_law_lots","_law_first","_law_second","_law_inner"] bR (ag fF):=by walk_at "s"
mutual
noncomputable def bx:Nat->Fn
 | 0=>fun _ _=>none
 | n+1=>Hq 9
  (ah (aJ 7 (Dw aP))
  (ah (jY (mG (a1 (ao aH (a2 v0 (aj aN (ao aB (a2 v0 (aj aN (aj KO (iB (a1 v6)) (ki 15)) (iB (a1 (ki 12)))))) (ki 1)))))) (gN 8) (fw (aA (aj HN (aj aE v1 (ks "left")) (ki 0))) (ah (eU (aj xY (aj aE v1 (ks "left")) (ki 1)) (uQ v1 (ks "left")))
  (gw (eM cR du v7 (a1 (ao (fk n) (ae v0 (ae v1 (a4 v2 v3 v4 v5)))))))) bG))
  (aG (ao bL (a1 v7)))))
noncomputable def fk:Nat->Fn
 | 0=>fun _ _=>none
 | n+1=>fW 11
  (ah (aJ 6 (ao aH (a2 v0 (ki 16))))
  (ah (fw (Cu (aA (aj IX v6 (ki 2))) (lj (aA (aj cj v3 (ki 5))) (aA (aj IX v6 (ki 11))))) (aG (ao aD (a2 (ks "say") (ao aB (a2 v0 (aj aN (aj aE v1 (ks "names")) (aj aE v1 (ks "deeds")))))))) bG)
  (ah (fw (Cu (aA (aj HN v6 (ki 12))) (aA (aj cj v3 (ki 5)))) (aG (ao fC (a4 v0 v1 v2 v4))) bG)
  (ah (fw (lj (aA (aj cj v6 (ki 12))) (lj (aA (aj IX v3 (ki 3))) (aA (aj HN (aj aE v1 (ks "left")) (ki 5))))) (aG (ao (bT n) (ae v0 (ae v1 (a4 v2 v3 v4 v5))))) bG)
  (ah (fw (Cu (aA (aj cj v6 (ki 11))) (aA (aj cj v6 (ki 12)))) (ah (wZ 7 8 (a2 (ao bE (a2 v0 (aj aE (aj aE v1 (ks "params")) v2))) (ao bE (a2 v0 (aj aE (aj aE v1 (ks "params")) v2)))))
  (ah (aJ 9 (iB (dE [none,some 2,some 3,some 5,some 0,some 4,some 1] (mG (a1 (ki 3))) (gN 0) bU (ao (bx n) (ae v4 (ae v6 (ae v1 (a4 (aj aN v2 (ki 1)) v5 v3 (ki 2)))))))))
  (aG (aj aN (ao aD (a3 (ks "by") v7 v8)) (ao bL (a1 v9)))))) bG)
  (ah (fw (aA (aj cj v6 (ki 10))) (ah (aJ 9 (iB (dE [none,some 2,some 3,some 5,some 0,some 4,some 1] (mG (a1 (ki 2))) (gN 0) bU (ao (bx n) (ae v4 (ae v6 (ae v1 (a4 (aj aN v2 (ki 1)) v5 v3 (ki 2)))))))))
  (aG (aj aN (ao aD (a1 (ks "either"))) (ao bL (a1 v9))))) bG)
  (ah (fw (aA (aj cj v6 (ki 9))) (aG (ao aD (a2 (ks "again") (ao (bx n) (ae v0 (ae v1 (ae v2 (a4 (aj aN v3 (ki 1)) v4 v5 (ki 2))))))))) bG)
  (ah (aJ 10 (ao aB (a2 v0 (eK (.lv [.str "within",.str "within",.str "within",.str "within",.str "ask",.str "all"])))))
  (aG (ao (cL n) (ae v0 (ae v1 (ae v2 (a4 v3 v4 v5 v10))))))))))))))
noncomputable def cL:Nat->Fn
 | 0=>fun _ _=>none
 | n+1=>Hq 15
  (ah (eU (ao dX (ae v0 (a4 v1 v2 v4 v5))) (gT 2 (ai (gN 7) (ai (gN 8) bA))))
  (ah (fw (aA (aj nP v7 (eK .bz))) (aG (ao aD (a2 (ks "say") (aj aE (aj aE v1 (ks "deeds")) v2)))) bG)
  (ah (fw (aA (aj cj v6 (ks "all"))) (ah (wZ 9 10 (a2 (Dw (a1 v8)) v7))
  (ah (jY (mG (a1 (ao aB (a2 v0 (eK (.lv [.int 1,.int 1,.int 2,.int 3])))))) (gN 11) (ah (eU (ao dX (ae v0 (a4 v1 v2 v4 v5))) (gT 2 (ai (gN 12) (ai (gN 13) bA))))
  (ah (aJ 10 (ao uT (a2 v10 Ru)))
  (aJ 9 (Dw (OH v9 (aj KO (iB (a1 Rt)) (ao z8 (a1 (aj jl Rt v9))))))))))
  (ah (fw (aA (aj cj (ao cX (a1 v9)) (ki 1))) (gw (eM cR du v9 (a1 (ao aD (a2 (aj aE v8 (ki 0)) (ao aD (a2 (aj aE (aj aE v8 (ki 1)) (ki 0)) (aj xY (aj aN (aj aE (aj aE v8 (ki 1)) (ki 1)) (ki 1)) (aj kr (ki 2) (ao z8 (a1 (aj HN (aj aE (aj aE v8 (ki 1)) (ki 1)) (ki 90))))))))))))) bG)
  (ah (aJ 10 (aj aN v10 (ao z8 (a1 (aj cj (aj aE v1 (ks "odd")) (ki 0))))))
  (aG (ao aD (a3 (ks "all") (ao bL (a1 v9)) (ao (bx n) (ae v0 (ae v1 (ae v2 (a4 (aj aN v3 (ki 1)) (ao uT (a2 v4 v10)) (aj aN v5 v9) (ki 3))))))))))))) bG)
  (ah (aJ 14 (ao (bx n) (ae v0 (ae v1 (ae v2 (a4 (aj aN v3 (ki 1)) (ao uT (a2 v4 v7)) (aj aN v5 (iB (a1 v8))) (ki 3)))))))
  (ah (fw (aA (aj cj v6 (ks "ask"))) (aG (ao aD (a4 (ks "ask") v8 Ti (ao (bx n) (ae v0 (ae v1 (ae v2 (a4 (aj aN v3 (ki 1)) v4 v5 (ki 2))))))))) bG)
  (aG (ao aD (a3 (ks "within") v8 Ti))))))))
noncomputable def bT:Nat->Fn
 | 0=>fun _ _=>none
 | n+1=>Hq 14
  (ah (aJ 6 (ao uT (a2 v4 (aj aE (aj aE v1 (ks "floors")) v2))))
  (ah (fw (aA (aj cj v6 (ao cX (a1 (aj aE v1 (ks "names")))))) (aG (ao aD (a2 (ks "say") (aj aE (aj aE v1 (ks "deeds")) v2)))) bG)
  (ah (fw (aA (aj lu (iB (dE [none,some 6,some 1] (iq v5) (gN 0) (aA (aj cj (aj aE v0 (ki 0)) (aj aE (aj aE v2 (ks "names")) v1))) v0)) (iB aP))) (aG (ao aD (a2 (ks "say") (aj aE (aj aE v1 (ks "deeds")) v2)))) bG)
  (ah (aJ 7 (aj aE (aj aE v1 (ks "names")) v6))
  (ah (eU (aj xY (aj aE v1 (ks "left")) (ki 5)) (uQ v1 (ks "left")))
  (ah (wZ 8 9 (a2 (ao bE (a2 v0 (aj aE (aj aE v1 (ks "params")) v2))) (ao bE (a2 v0 (aj aE (aj aE v1 (ks "params")) v2)))))
  (ah (aJ 10 (Dw aP))
  (ah (jY (iq (iB (a2 (ao aD (a2 v8 v9)) (ao aD (a2 v9 v8))))) (gT 2 (ai (gN 11) (ai (gN 12) bA))) (ah (aJ 13 (ao (bx n) (ae v0 (ae v1 (ae v2 (a4 (aj aN v3 (ki 3)) v6 (aj aN v5 (iB (a2 (ao aD (a2 v7 v11)) (ao aD (a2 v7 Ru))))) (ki 2)))))))
  (gw (eM cR du v10 (a1 (ao aD (a1 (ao aD (a3 (ks "within") (ao aD (a2 v7 v11)) (ao aD (a1 (ao aD (a3 (ks "within") (ao aD (a2 v7 Ru)) Rt)))))))))))))
  (aG (ao aD (ae (ks "by") (ae v8 (a4 v9 (aj aE v10 (ki 0)) (ao aD (a1 (ao aD (a3 (ks "within") (ao aD (a2 v7 v8)) (ao aD aP))))) (aj aE v10 (ki 1)))))))))))))))
end
abbrev gv:Stmt:=top 58
abbrev gF:List Str:=["_law_state","_law_most","_law_odd"]
theorem jx:aq ["_law_state","_law_most","_law_odd","_law_world_here","_law_deeds","_law_k","_law_deed","_law_rows"] gF (ag gv):=by walk_at "s"
noncomputable def eP:Fn:=Hq 8
  (ah (aJ 3 (ao gc (a3 v0 v1 v2)))
  (ah (aJ 4 (Dw aP))
  (ah (jY (qk (a1 (aj aE v3 (ks "deeds")))) (gT 2 (ai (gN 5) (ai (gN 6) bA))) (ah (aJ 7 (ao (bx 20) (ae v0 (ae v3 (ae v5 (a4 (ki 1) (jG cS (ki 1)) (iB aP) (ao aB (a2 v0 (eK (.lv [.int 1,.int 2,.int 3,.int 4,.int 12]))))))))))
  (gw (eM cR du v4 (a1 (ao aD (a3 v6 (ao bL (a1 (aj aE (aj aE v3 (ks "params")) v5))) v7)))))))
  (aG (ao aD (a2 (ao bL (a1 (ao HH (a1 (aj aE v3 (ks "names")))))) (ao bL (a1 v4))))))))
abbrev jR:Stmt:=top 59
abbrev kc:List Str:=["_law_state","_law_program_here","_law_most"]
theorem wN:aq ["_law_state","_law_program_here","_law_most","_law_town_here","_law_k","_law_deed","_law_params","_law_rows","_law_far"] kc (ag jR):=by walk_at "s"
noncomputable def fB:Fn:=Hq 9
  (ah (aJ 3 (Dw aP))
  (ah (jY (mG (a1 (aj aN (ki 1) (ao aH (a2 v0 v2))))) (gN 4) (ah (eU (ao aB (a2 v0 (aj aE v1 (ki 1)))) (gT 3 (ai (gN 5) (ai (gN 6) (ai (gN 7) bA)))))
  (ah (aJ 8 (aj xY (ao aH (a2 v0 (ki 199))) (ki 99)))
  (gw (eM cR du v3 (a1 (ao aD (a2 v5 (ao bL (a1 (iB (dE [none,some 8,some 0] (iq v6) (gN 0) bU (ao aB (a2 v2 (iB (ae (jG cS (ki 2)) (ae (jG cS (ki 1)) (ae (ki 0) (ae (ki 0) (ae (ki 1) (a4 (ki 1) (ki 2) (ki 3) v1)))))))))))))))))))))
  (aG (ao bL (a1 v3)))))
abbrev gu:Stmt:=top 14
abbrev gE:List Str:=["program"]
theorem qE:aq ["program"] gE (ag gu):=by walk_at "s"
noncomputable def cp:Fn:=fW 1
  (aG (KU [none,none] (qk (a1 (aj aE v0 (ki 1)))) (gT 2 (ai (gN 0) (ai (gN 1) bA))) bU (mD (aj aE v1 (ki 0)) v0) [] .dv))
abbrev oN:Stmt:=top 9
abbrev pv:List Str:=["row"]
theorem AW:aq ["row"] pv (ag oN):=by walk_at "s"
noncomputable def gh:Fn:=fW 1
  (aG (kA v0 (zt (aj aE (jG (NY kM) (aj aE v0 (ki 0))) (ki 0))) zr))
abbrev rZ:Stmt:=top 18
abbrev sN:List Str:=["rows","path"]
theorem D8:aq ["rows","path","lot","at"] sN (ag rZ):=by walk_at "s"
noncomputable def kH:Fn:=fW 4
  (ah (aJ 2 v0)
  (ah (jY (KJ (a3 (ki 1) (ao cX (a1 v1)) (ki 2))) (gN 3) (aJ 2 (aj aE (ao gh (a1 (aj aE v2 (aj aE v1 (aj xY v3 (ki 1)))))) (aj aE v1 v3))))
  (aG v2)))
abbrev rX:Stmt:=top 19
abbrev sL:List Str:=["rows","path"]
theorem D7:aq ["rows","path","lot"] sL (ag rX):=by walk_at "s"
noncomputable def gM:Fn:=fW 3
  (ah (aJ 2 (ao kH (a2 v0 v1)))
  (aG (BX (aA (aj IX (aj aE v1 (jG cS (ki 1))) (ao cX (a1 v2)))) (aj aE v2 (aj aE v1 (jG cS (ki 1)))) (eK .bz))))
abbrev fE:Stmt:=top 23
abbrev fH:List Str:=["row","lot"]
theorem oG:aq ["row","lot"] fH (ag fE):=by walk_at "s"
noncomputable def cG:Fn:=fW 2
  (aG (SJ (aj x5 (aj aE v0 (ki 0)) (ao aD (a2 (ks "within") (ks "all")))) (yb (aj cj (aj aE v0 (ki 0)) (ks "ask")) (aj cj v1 (ki 0)))))
abbrev se:Stmt:=top 22
abbrev sP:List Str:=["path"]
theorem Ea:aq ["path"] sP (ag se):=by walk_at "s"
noncomputable def fA:Fn:=fW 1
  (aG (aj aN (kA v0 zr (zt (jG cS (ki 1)))) (ao aD (a1 (aj aN (aj aE v0 (jG cS (ki 1))) (ki 1))))))
abbrev iU:Stmt:=top 24
abbrev i9:List Str:=["rows","path"]
theorem ug:aq ["rows","path","around","row"] i9 (ag iU):=by walk_at "s"
noncomputable def eO:Fn:=fW 4
  (ah (hZ (aA (aj nP (ao gM (a2 v0 v1)) (eK .bz))) (ah (fw (aA (aj cj (ao cX (a1 v1)) (ki 1))) (aG (eK .bz)) bG)
  (ah (aJ 2 (kA v1 zr (zt (jG cS (ki 2)))))
  (ah (aJ 3 (ao gM (a2 v0 v2)))
  (ah (fw (ia (ao cG (a2 v3 (aj aE v1 (jG cS (ki 2)))))) (aG v1) bG)
  (aJ 1 (BX (aA (aj cj (aj aE v3 (ki 0)) (ks "again"))) v2 (ao fA (a1 v2)))))))) 1000000)
  (aG v1))
abbrev oM:Stmt:=top 16
abbrev pj:List Str:=["program","deed"]
theorem AV:aq ["program","deed"] pj (ag oM):=by walk_at "s"
noncomputable def gg:Fn:=fW 2
  (aG (aj aE (aj aE (aj aE v0 (ki 1)) v1) (ki 2)))
abbrev gq:Stmt:=top 25
abbrev gC:List Str:=["program","frames"]
theorem jw:aq ["program","frames","left","deed","numbers","path"] gC (ag gq):=by walk_at "s"
noncomputable def cn:Fn:=Hq 6
  (ah (aJ 2 (Dw (DL (a1 v1))))
  (ah (hZ (ia v2) (ah (eU (eM cR EJ v2 aP) (gT 3 (ai (gN 3) (ai (gN 4) (ai (gN 5) bA)))))
  (ah (aJ 5 (ao eO (a2 (ao gg (a2 v0 v3)) v5)))
  (ah (fw (aA (aj lI v5 (eK .bz))) (ah (gw (eM cR du v2 (a1 (ao aD (a3 v3 v4 v5)))))
  Jt) bG)
  (fw (ia v2) (ah (eU (eM cR EJ v2 aP) (gT 3 (ai (gN 3) (ai (gN 4) (ai (gN 5) bA)))))
  (gw (eM cR du v2 (a1 (ao aD (a3 v3 v4 (ao fA (a1 v5)))))))) bG)))) 1000000)
  (aG (ao bL (a1 v2)))))
abbrev wY:Stmt:=top 26
abbrev xB:List Str:=["program","town"]
theorem Gp:aq ["program","town","numbers_of","scene","deed","numbers","frame"] xB (ag wY):=by walk_at "s"
noncomputable def lh:Fn:=Hq 7
  (ah (aJ 2 (ao cp (a1 v0)))
  (ah (aJ 3 (Dw aP))
  (ah (jY (iq v1) (gT 2 (ai (gN 4) (ai (gN 5) bA))) (ah (aJ 6 (ao aD (a3 (aj aE v2 v4) v5 (ao aD (a1 (ki 0))))))
  (gw (eM cR du v3 (a1 (ao aD (a2 (ao cn (a2 v0 (ao aD (a1 v6)))) (ao aD aP))))))))
  (aG (ao bL (a1 v3))))))
abbrev lR:Stmt:=top 20
abbrev mn:List Str:=["program","frame"]
theorem yR:aq ["program","frame","deed","numbers","path"] mn (ag lR):=by walk_at "s"
noncomputable def bJ:Fn:=fW 5
  (ah (eU v1 (gT 3 (ai (gN 2) (ai (gN 3) (ai (gN 4) bA)))))
  (aG (ao gM (a2 (ao gg (a2 v0 v2)) v4))))
abbrev gp:Stmt:=top 21
abbrev gA:List Str:=["program","scene","hand"]
theorem qC:aq ["program","scene","hand","frames"] gA (ag gp):=by walk_at "s"
noncomputable def cZ:Fn:=fW 4
  (ah (aJ 3 (aj aE (aj aE v1 v2) (ki 0)))
  (aG (BX (ia v3) (ao bJ (a2 v0 (aj aE v3 (jG cS (ki 1))))) (eK .bz))))
abbrev lV:Stmt:=top 10
abbrev mw:List Str:=["row"]
theorem yU:aq ["row"] mw (ag lV):=by walk_at "s"
noncomputable def gP:Fn:=fW 1
  (ah (fw (aA (aj cj (aj aE v0 (ki 0)) (ks "all"))) (aG (aj aE v0 (ki 1))) bG)
  (aG (BX (aA (aj x5 (aj aE v0 (ki 0)) (ao aD (a2 (ks "within") (ks "ask"))))) (ao aD (a1 (aj aE v0 (ki 1)))) (ao aD aP))))
abbrev iV:Stmt:=top 17
abbrev ja:List Str:=["program","frame"]
theorem uh:aq ["program","frame","deed","numbers","path"] ja (ag iV):=by walk_at "s"
noncomputable def cE:Fn:=fW 5
  (ah (eU v1 (gT 3 (ai (gN 2) (ai (gN 3) (ai (gN 4) bA)))))
  (aG (BZ (a2 (aj aE (aj aE (aj aE v0 (ki 1)) v2) (ki 1)) v3))))
abbrev lQ:Stmt:=top 6
abbrev mm:List Str:=["term","numbers"]
theorem yQ:aq ["term","numbers","word","figure"] mm (ag lQ):=by walk_at "s"
noncomputable def bC:Fn:=fW 4
  (ah (eU v0 (gT 2 (ai (gN 2) (ai (gN 3) bA))))
  (aG (BX (aA (aj cj v2 (ks ""))) v3 (aj aN (aj aE v1 v2) v3))))
abbrev iW:Stmt:=top 29
abbrev jb:List Str:=["program","frame"]
theorem um:aq ["program","frame","locks","numbers"] jb (ag iW):=by walk_at "s"
noncomputable def cF:Fn:=fW 4
  (ah (aJ 2 (ao gP (a1 (ao bJ (a2 v0 v1)))))
  (ah (aJ 3 (ao cE (a2 v0 v1)))
  (aG (ao bL (a1 (BW [none,none,some 3] (iq v2) (gT 2 (ai (gN 0) (ai (gN 1) bA))) bU (mP (ao aD (a2 v0 (ao bC (a2 v1 v2)))))))))))
abbrev oO:Stmt:=top 27
abbrev pA:List Str:=["scene","lock"]
theorem AX:aq ["scene","lock","hand","frames","held"] pA (ag oO):=by walk_at "s"
noncomputable def fh:Fn:=fW 5
  (ah (jY (qk (a1 v0)) (gT 2 (ai (gN 2) (ai (gT 2 (ai (gN 3) (ai (gN 4) bA))) bA))) (fw (ia (ao N4 (a1 (iB (dE [none,some 1] (iq v4) (gN 0) bU (aj x5 v1 v0)))))) (aG v2) bG))
  (aG (eK .bz)))
abbrev wV:Stmt:=top 30
abbrev xx:List Str:=["program","scene","hand"]
theorem Gk:aq ["program","scene","hand","row"] xx (ag wV):=by walk_at "s"
noncomputable def k9:Fn:=fW 4
  (ah (aJ 3 (ao cZ (a3 v0 v1 v2)))
  (ah (fw (Cu (aA (aj nP v3 (eK .bz))) (aA (aj jl (aj aE v3 (ki 0)) (ao aD (a2 (ks "within") (ks "all")))))) (aG (ao aD aP)) bG)
  (aG (ao bL (a1 (iB (dE [none,some 1] (iq (ao cF (a2 v0 (aj aE (aj aE (aj aE v1 v2) (ki 0)) (jG cS (ki 1)))))) (gN 0) (aA (aj lI (ao fh (a2 v1 v0)) (eK .bz))) v0)))))))
abbrev iX:Stmt:=top 32
abbrev jc:List Str:=["program","scene","hand"]
theorem uo:aq ["program","scene","hand","frames","row"] jc (ag iX):=by walk_at "s"
noncomputable def a8:Fn:=fW 5
  (ah (aJ 3 (aj aE (aj aE v1 v2) (ki 0)))
  (ah (fw (rO (ia v3)) (aG (ao aD aP)) bG)
  (ah (aJ 4 (ao bJ (a2 v0 (aj aE v3 (jG cS (ki 1))))))
  (ah (fw (lj (aA (aj lI v4 (eK .bz))) (aA (aj x5 (aj aE v4 (ki 0)) (ao aD (a2 (ks "either") (ks "again")))))) (aG (ao aD (a2 (ki 0) (ki 1)))) bG)
  (aG (BX (ia (ao k9 (a3 v0 v1 v2))) (ao aD aP) (ao aD (a1 (ki 0)))))))))
abbrev wX:Stmt:=top 33
abbrev xA:List Str:=["program","scene"]
theorem Gn:aq ["program","scene"] xA (ag wX):=by walk_at "s"
noncomputable def hV:Fn:=fW 2
  (aG (ao bL (a1 (KU [none,none,some 0,some 1] (mG (a1 (ao cX (a1 v1)))) (gN 0) bU (zK (iq (ao a8 (a3 v2 v3 v0))) (gN 1) bU (mL (ao aD (a2 v0 v1)))) [] .lv))))
abbrev lS:Stmt:=top 11
abbrev gB:List Str:=["lot","ahead"]
theorem yS:aq ["lot","ahead","found","number","row","path","at","inner"] gB (ag lS):=by walk_at "s"
noncomputable def c8:Nat->Fn
 | 0=>fun _ _=>none
 | n+1=>Hq 8
  (ah (aJ 2 (Dw aP))
  (ah (jY (qk (a1 v0)) (gT 2 (ai (gN 3) (ai (gN 4) bA))) (ah (aJ 5 (aj aN v1 (ao aD (a1 v3))))
  (ah (gw (eM cR du v2 (a1 (ao aD (a2 v5 v4)))))
  (jY (qk (a1 (ao gh (a1 v4)))) (gT 2 (ai (gN 6) (ai (gN 7) bA))) (gw (eM cR kU v2 (a1 (ao (c8 n) (a2 v7 (aj aN v5 (ao aD (a1 v6))))))))))))
  (aG v2)))
abbrev jQ:Stmt:=top 12
abbrev j9:List Str:=["program"]
theorem wM:aq ["program","found","deed","name","params","rows"] j9 (ag jQ):=by walk_at "s"
noncomputable def c7:Fn:=Hq 6
  (ah (aJ 1 (Dw aP))
  (ah (jY (qk (a1 (aj aE v0 (ki 1)))) (gT 2 (ai (gN 2) (ai (gT 3 (ai (gN 3) (ai (gN 4) (ai (gN 5) bA)))) bA))) (gw (eM cR kU v1 (a1 (iB (dE [none,none,some 2] (iq (ao (c8 10) (a2 v5 (ao aD aP)))) (gT 2 (ai (gN 0) (ai (gN 1) bA))) bU (ao aD (a3 v2 v0 v1))))))))
  (aG v1)))
abbrev rY:Stmt:=top 28
abbrev sM:List Str:=["program","scene","hand"]
theorem vh:aq ["program","scene","hand","frames","deed","numbers","path","places"] sM (ag rY):=by walk_at "s"
noncomputable def oy:Fn:=fW 8
  (ah (aJ 3 (aj aE (aj aE v1 v2) (ki 0)))
  (ah (fw (rO (ia v3)) (aG (eK .bz)) bG)
  (ah (eU (aj aE v3 (jG cS (ki 1))) (gT 3 (ai (gN 4) (ai (gN 5) (ai (gN 6) bA)))))
  (ah (fw (aA (aj nP (ao bJ (a2 v0 (aj aE v3 (jG cS (ki 1))))) (eK .bz))) (aJ 6 (kA v6 zr (zt (jG cS (ki 2))))) bG)
  (ah (aJ 7 (iB (dE [none,none,none] (iq (ao c7 (a1 v0))) (gT 3 (ai (gN 0) (ai (gN 1) (ai (gN 2) bA)))) bU (ao aD (a2 v0 v1)))))
  (aG (eM cR nz v7 (a1 (ao aD (a2 v4 v6))))))))))
abbrev oK:Stmt:=top 13
abbrev ph:List Str:=["program"]
theorem AU:aq ["program"] ph (ag oK):=by walk_at "s"
noncomputable def iN:Fn:=fW 1
  (aG (ao bL (a1 (iB (dE [none,none,none] (iq (ao c7 (a1 v0))) (gT 3 (ai (gN 0) (ai (gN 1) (ai (gN 2) bA)))) bU (ao aD (a2 v0 v2)))))))
abbrev fG:Stmt:=top 60
abbrev fI:List Str:=["_law_program_here","_law_scene","_law_hand"]
theorem oI:aq ["_law_program_here","_law_scene","_law_hand","_law_number"] fI (ag fG):=by walk_at "s"
noncomputable def cH:Fn:=fW 4
  (ah (aJ 3 (ao oy (a3 v0 v1 v2)))
  (aG (yb (aj lI v3 (eK .bz)) (aj x5 (aj aE (aj aE (aj aE (ao iN (a1 v0)) v3) (ki 1)) (ki 0)) (eK (.tup [.str "say",.str "call",.str "by",.str "either",.str "again"]))))))
abbrev lW:Stmt:=top 4
abbrev mx:List Str:=["thing"]
theorem yV:aq ["thing"] mx (ag lW):=by walk_at "s"
noncomputable def ju:Fn:=fW 1
  (aG (yb (ao Fc (a2 v0 (eK (.ty "int")))) (Qw (ao Fc (a2 v0 (eK (.ty "bool")))))))
abbrev ic:Stmt:=top 5
abbrev ij:List Str:=["thing","many"]
theorem rV:aq ["thing","many"] ij (ag ic):=by walk_at "s"
noncomputable def iz:Fn:=fW 2
  (aG (yb (ao Fc (a2 v0 (eK (.ty "tuple")))) (aj cj (ao cX (a1 v0)) v1)))
abbrev r8:Stmt:=top 34
abbrev sO:List Str:=["program","scene","move"]
theorem D9:aq ["program","scene","move","hand","choice"] sO (ag r8):=by walk_at "s"
noncomputable def kI:Fn:=fW 5
  (ah (fw (Cu (rO (ia (ao iz (a2 v2 (ki 2))))) (Cu (rO (ia (ao ju (a1 (aj aE v2 (ki 0)))))) (rO (ia (ao ju (a1 (aj aE v2 (ki 1)))))))) (aG (eK (.bl false))) bG)
  (ah (eU v2 (gT 2 (ai (gN 3) (ai (gN 4) bA))))
  (aG (yb (x9 To IX (ki 0) v3 (ao cX (a1 v1))) (aj x5 v4 (ao a8 (a3 v0 v1 v3)))))))
abbrev lX:Stmt:=top 40
abbrev my:List Str:=["program","scene","hand"]
theorem yW:aq ["program","scene","hand","row"] my (ag lX):=by walk_at "s"
noncomputable def gQ:Fn:=fW 4
  (ah (aJ 3 (ao bJ (a2 v0 (aj aE (aj aE (aj aE v1 v2) (ki 0)) (jG cS (ki 1))))))
  (aG (BX (lj (aA (aj lI v3 (eK .bz))) (aA (aj cj (aj aE v3 (ki 0)) (ks "say")))) (ao aD (a2 v2 (aj aE v3 (ki 1)))) (eK .bz))))
abbrev gr:Stmt:=top 35
abbrev gD:List Str:=["program","frame"]
theorem qD:aq ["program","frame","sort","deed","terms","numbers"] gD (ag gr):=by walk_at "s"
noncomputable def c9:Fn:=fW 6
  (ah (eU (ao bJ (a2 v0 v1)) (gT 3 (ai (gN 2) (ai (gN 3) (ai (gN 4) bA)))))
  (ah (aJ 5 (ao cE (a2 v0 v1)))
  (aG (ao aD (a3 (aj aE (ao cp (a1 v0)) v3) (ao bL (a1 (iB (dE [none,some 5] (iq v4) (gN 0) bU (ao bC (a2 v0 v1)))))) (ao aD (a1 (ki 0))))))))
abbrev eT:Stmt:=top 36
abbrev eX:List Str:=["row","numbers"]
theorem et:aq ["row","numbers","one","other"] eX (ag eT):=by walk_at "s"
noncomputable def ck:Fn:=fW 4
  (ah (wZ 2 3 (a2 (ao bC (a2 (aj aE v0 (ki 1)) v1)) (ao bC (a2 (aj aE v0 (ki 2)) v1))))
  (ah (fw (aA (aj IX v2 v3)) (aG (ki 0)) bG)
  (aG (BX (aA (aj cj v2 v3)) (ki 1) (ki 2)))))
abbrev lT:Stmt:=top 37
abbrev mr:List Str:=["program","scene","frame","choice"]
theorem yT:aq ["program","scene","frame","choice","row","sort","lock"] mr (ag lT):=by walk_at "s"
noncomputable def gO:Fn:=fW 7
  (ah (aJ 4 (ao bJ (a2 v0 v2)))
  (ah (aJ 5 (aj aE v4 (ki 0)))
  (ah (fw (aA (aj cj v5 (ks "by"))) (aG (ao ck (a2 v4 (ao cE (a2 v0 v2))))) bG)
  (ah (fw (aA (aj cj v5 (ks "either"))) (aG v3) bG)
  (ah (fw (aA (aj cj v5 (ks "again"))) (aG (BX (aA (aj cj v3 (ki 1))) (ki 0) (eK .bz))) bG)
  (ah (fw (aA (aj cj v5 (ks "ask"))) (ah (aJ 6 (aj aE (ao cF (a2 v0 v2)) (ki 0)))
  (aG (BX (aA (aj nP (ao fh (a2 v1 v6)) (eK .bz))) (ki 0) (ki 1)))) bG)
  (aG (BX (aA (aj x5 v5 (ao aD (a2 (ks "within") (ks "all"))))) (ki 0) (eK .bz)))))))))
abbrev wW:Stmt:=top 38
abbrev xy:List Str:=["sort","lot"]
theorem Gm:aq ["sort","lot"] xy (ag wW):=by walk_at "s"
noncomputable def ox:Fn:=fW 2
  (aG (yb (aj x5 v0 (eK (.tup [.str "within",.str "all",.str "ask"]))) (aj cj v1 (ki 0))))
abbrev oP:Stmt:=top 39
abbrev pB:List Str:=["program","scene","hand","choice"]
theorem AY:aq ["program","scene","hand","choice","frames","held","deed","numbers","path","row","lot"] pB (ag oP):=by walk_at "s"
noncomputable def bS:Fn:=fW 11
  (ah (eU (aj aE v1 v2) (gT 2 (ai (gN 4) (ai (gN 5) bA))))
  (ah (eU (aj aE v4 (jG cS (ki 1))) (gT 3 (ai (gN 6) (ai (gN 7) (ai (gN 8) bA)))))
  (ah (aJ 9 (ao bJ (a2 v0 (aj aE v4 (jG cS (ki 1))))))
  (ah (fw (aA (aj nP v9 (eK .bz))) (aG (ao aD (a2 (aj aN (kA v4 zr (zt (jG cS (ki 1)))) (ao aD (a1 (ao aD (a3 v6 v7 (ao fA (a1 (kA v8 zr (zt (jG cS (ki 2))))))))))) (kA v5 zr (zt (jG cS (ki 1))))))) bG)
  (ah (fw (aA (aj cj (aj aE v9 (ki 0)) (ks "call"))) (aG (ao aD (a2 (aj aN v4 (ao aD (a1 (ao c9 (a2 v0 (aj aE v4 (jG cS (ki 1)))))))) v5))) bG)
  (ah (aJ 10 (ao gO (a4 v0 v1 (aj aE v4 (jG cS (ki 1))) v3)))
  (ah (aJ 8 (BX (aA (aj nP v10 (eK .bz))) (ao fA (a1 v8)) (aj aN v8 (ao aD (a2 v10 (ki 0))))))
  (ah (fw (ia (ao ox (a2 (aj aE v9 (ki 0)) v10))) (aJ 5 (aj aN v5 (ao aD (a1 (ao cF (a2 v0 (aj aE v4 (jG cS (ki 1))))))))) bG)
  (aG (ao aD (a2 (aj aN (kA v4 zr (zt (jG cS (ki 1)))) (ao aD (a1 (ao aD (a3 v6 v7 v8))))) v5)))))))))))
abbrev gn:Stmt:=top 41
abbrev gz:List Str:=["program","scene","move"]
theorem qB:aq ["program","scene","move","hand","choice","frames","held"] gz (ag gn):=by walk_at "s"
noncomputable def cY:Fn:=fW 7
  (ah (eU v2 (gT 2 (ai (gN 3) (ai (gN 4) bA))))
  (ah (eU (ao bS (a4 v0 v1 v3 v4)) (gT 2 (ai (gN 5) (ai (gN 6) bA))))
  (aG (aj aN (aj aN (kA v1 zr (zt v3)) (ao aD (a1 (ao aD (a2 (ao cn (a2 v0 v5)) v6))))) (kA v1 (zt (aj aN v3 (ki 1))) zr)))))
abbrev oJ:Stmt:=top 42
abbrev pf:List Str:=["program","scene","move"]
theorem AS:aq ["program","scene","move"] pf (ag oJ):=by walk_at "s"
noncomputable def cK:Fn:=fW 3
  (ah (fw (rO (ia (ao kI (a3 v0 v1 v2)))) Gq bG)
  (aG (ao aD (a2 (ao cY (a3 v0 v1 v2)) (ao gQ (a3 v0 v1 (aj aE v2 (ki 0))))))))
abbrev jX:Stmt:=top 61
abbrev kl:List Str:=["_law_program_here","_law_scene","_law_one","_law_other"]
theorem wR:aq ["_law_program_here","_law_scene","_law_one","_law_other","_law_here","_law_event","_law_later"] kl (ag jX):=by walk_at "s"
noncomputable def dc:Fn:=fW 7
  (ah (eU (ao cK (a3 v0 v1 v2)) (gT 2 (ai (gN 4) (ai (gN 5) bA))))
  (ah (fw (aA (aj jl v3 (ao hV (a2 v0 v4)))) (aG (eK .bz)) bG)
  (ah (eU (ao cK (a3 v0 v4 v3)) (gT 2 (ai (gN 4) (ai (gN 6) bA))))
  (aG (ao aD (a2 v4 (iB (a2 v5 v6))))))))
abbrev p7:Stmt:=top 62
abbrev LC:List Str:=["_law_script"]
theorem oH:aq ["_law_script","_law_state","_law_k","_law_program_here","_law_town_here","_law_scene","_law_turn","_law_some","_law_one","_law_other","_law_ahead","_law_behind"] LC (ag p7):=by walk_at "s"
noncomputable def DQ:Fn:=fW 12
  (ah (aJ 1 (ao eQ (a1 v0)))
  (ah (jY (mG (a1 (ao uT (a2 (ki 2) (ao E9 (a2 (ki 6) (ao cX (a1 v0)))))))) (gN 2) (ah (aJ 3 (ao eP (a3 v1 (ao aB (a2 v1 (eK (.lv [.int 6,.int 15,.int 25,.int 40])))) (ao aB (a2 v1 (eK (.lv [.int 0,.int 4,.int 12])))))))
  (ah (aJ 4 (aj aN (ao fB (a3 v1 v3 (ki 3))) (ao fB (a3 v1 v3 (ki 1)))))
  (ah (aJ 5 (ao lh (a2 v3 v4)))
  (jY (mG (a1 (ao aB (a2 v1 (iB (a2 (ki 10) (ki 40))))))) (gN 6) (ah (aJ 7 (ao hV (a2 v3 v5)))
  (ah (fw (aA (aj N0 v7 (ao aD aP))) Jt bG)
  (ah (wZ 8 9 (a2 (ao aB (a2 v1 v7)) (ao aB (a2 v1 v7))))
  (ah (fw (lj (aA (aj lu (aj aE v8 (ki 0)) (aj aE v9 (ki 0)))) (ia (ao cH (a3 v3 v5 (aj aE v8 (ki 0)))))) (ah (wZ 10 11 (a2 (ao dc (a4 v3 v5 v8 v9)) (ao dc (a4 v3 v5 v9 v8))))
  (fw (Cu (aA (aj nP v10 (eK .bz))) (Cu (aA (aj nP v11 (eK .bz))) (aA (aj lu v10 (ao aD (a2 (aj aE v11 (ki 0)) (Dv (aj aE v11 (ki 1)) (jG cS (ki 1))))))))) (aG (eK (.bl false))) bG)) bG)
  (aJ 5 (aj aE (ao cK (a3 v3 v5 v8)) (ki 0))))))))))))
  (aG (eK (.bl true)))))
section
variable (P:Program) (w:World) (K:FR) (mg:Str->Option Value) (base:Heap)
abbrev oq:Prop:=Df P w K mg base "_law_drawn" 1 jg 1 eQ
abbrev qw:Prop:=Df P w K mg base "_law_load" 1 kh 1 hW
abbrev bY:Prop:=Df P w K mg base "_law_next" 2 ke 2 aH
abbrev dz:Prop:=Df P w K mg base "_law_of" 3 pC 2 aB
abbrev oo:Prop:=Df P w K mg base "_law_words" 4 jf 2 dB
abbrev om:Prop:=Df P w K mg base "_law_world" 5 je 3 gc
abbrev iy:Prop:=Df P w K mg base "_law_is_odd" 3 ik 2 cM
abbrev g9:Prop:=Df P w K mg base "_law_term" 4 kd 2 bE
abbrev qx:Prop:=Df P w K mg base "_law_call" 5 kj 4 fC
abbrev qv:Prop:=Df P w K mg base "_law_lock" 5 kg 5 dX
abbrev t5:Prop:=Df P w K mg base "_law_lot" 26 eZ 7 (bx 20)
abbrev Cn:Prop:=Df P w K mg base "_law_row" 26 eY 6 (fk 20)
abbrev uV:Prop:=Df P w K mg base "_law_locked" 26 cJ 7 (cL 20)
abbrev qY:Prop:=Df P w K mg base "_law_two_ways" 26 bR 6 (bT 20)
abbrev kG:Prop:=Df P w K mg base "_law_program" 27 gF 3 eP
abbrev qu:Prop:=Df P w K mg base "_law_town" 4 kc 3 fB
abbrev gK:Prop:=Df P w K mg base "deed_numbers" 1 gE 1 cp
abbrev p4:Prop:=Df P w K mg base "lots_of" 1 pv 1 gh
abbrev Au:Prop:=Df P w K mg base "lot_on" 2 sN 2 kH
abbrev tU:Prop:=Df P w K mg base "row_on" 3 sL 2 gM
abbrev jB:Prop:=Df P w K mg base "stands_at_end" 1 fH 2 cG
abbrev oj:Prop:=Df P w K mg base "behind" 1 sP 1 fA
abbrev oh:Prop:=Df P w K mg base "path_stood" 4 i9 2 eO
abbrev pZ:Prop:=Df P w K mg base "rows_in" 1 pj 2 gg
abbrev gJ:Prop:=Df P w K mg base "frames_stood" 5 gC 2 cn
abbrev DO:Prop:=Df P w K mg base "begun" 6 xB 2 lh
abbrev cD:Prop:=Df P w K mg base "row_here" 4 mn 2 bJ
abbrev kC:Prop:=Df P w K mg base "row_stood_at" 5 gA 3 cZ
abbrev tX:Prop:=Df P w K mg base "locks_of" 1 mw 1 gP
abbrev f9:Prop:=Df P w K mg base "numbers_in" 1 ja 2 cE
abbrev jq:Prop:=Df P w K mg base "value_of" 1 mm 2 bC
abbrev gb:Prop:=Df P w K mg base "locks_told" 5 jb 2 cF
abbrev p5:Prop:=Df P w K mg base "held_by" 1 pA 2 fh
abbrev DM:Prop:=Df P w K mg base "waits" 6 xx 3 k9
abbrev jr:Prop:=Df P w K mg base "choices_of" 7 jc 3 a8
abbrev yA:Prop:=Df P w K mg base "moves" 8 xA 2 hV
abbrev tV:Prop:=Df P w K mg base "paths_in" 12 gB 2 (c8 10)
abbrev kE:Prop:=Df P w K mg base "places_of" 13 j9 1 c7
abbrev As:Prop:=Df P w K mg base "row_at" 14 sM 3 oy
abbrev wt:Prop:=Df P w K mg base "rows_of" 14 ph 1 iN
abbrev jC:Prop:=Df P w K mg base "_law_is_quiet" 15 fI 3 cH
abbrev tY:Prop:=Df P w K mg base "is_whole" 1 mx 1 ju
abbrev lL:Prop:=Df P w K mg base "is_tuple_of" 1 ij 2 iz
abbrev Av:Prop:=Df P w K mg base "can_be" 8 sO 3 kI
abbrev tZ:Prop:=Df P w K mg base "event_of" 5 my 3 gQ
abbrev kF:Prop:=Df P w K mg base "frame_called" 5 gD 2 c9
abbrev iL:Prop:=Df P w K mg base "lot_by_numbers" 2 eX 2 ck
abbrev tW:Prop:=Df P w K mg base "lot_done" 6 mr 4 gO
abbrev DN:Prop:=Df P w K mg base "takes" 1 xy 2 ox
abbrev wu:Prop:=Df P w K mg base "gone_on" 7 pB 4 bS
abbrev kB:Prop:=Df P w K mg base "scene_behind" 8 gz 3 cY
abbrev pY:Prop:=Df P w K mg base "stepped" 9 pf 3 cK
abbrev qy:Prop:=Df P w K mg base "_law_both" 10 kl 4 dc
end
section
variable {P:Program} {w:World} {K:FR} {mg:Str->Option Value} {base:Heap}
theorem uL(F:dI K "_law_drawn" "_law_drawn" i0 f fd)(B:Bs P w K mg):aX P w K mg base de 1 f fd jg (dJ K 1 eQ):=
 (au F uq fun _ _ _ _ _ _ hr _=>by walk_at "v";with_reducible exact(aI (br (t6.ob (iS (aa bt (aa (t6.ob (CH (by unfold Gl;ac_nf) B.Cf yr (by ac_rfl) (af aC))) (by ac_rfl))) (af (af (af aC))))))))
theorem xI(F:dI K "_law_load" "_law_load" jV f fd)(B:Bs P w K mg):aX P w K mg base de 1 f fd kh (dJ K 1 hW):=
 (au F iT fun _ _ _ _ _ _ hr _=>by walk_at "v";with_reducible exact(ab (by ac_rfl)
   (ab (by ac_rfl)
   (ab (iP (by ac_rfl) (oF hr.units (sv 0) bt))
   (ab (by ac_rfl)
   (ab (by ac_rfl)
   (aI (dR (SW.st (FW (by ac_rfl) (Cv (rQ LG (by ac_rfl) (bZ G9 bt bt) (pG _))))) (aI (iP (by ac_rfl) (oF hr.units (sv 0) bt))) (ab (sset 4 iT.nd (bZ sQ (bZ jh (bZ eB (bZ eB (by ac_rfl) (bZ jh (bZ jh bt (sv 2)) (sv 2))) bt) bt) bt))
   (ab (sset 4 iT.nd (bZ sQ (bZ jh (sv 4) (sv 4)) bt))
   (aI (iP (bZ eB (bZ sQ (bZ eB (bZ eB (bZ jh (sv 4) bt) (sv 2)) bt) bt) (bZ G9 bt bt)) (oF hr.units (sv 0) bt)))))))))))))
theorem xG(F:dI K "_law_next" "_law_next" jT f fd)(B:Bs P w K mg)(d36:qw P w K mg base):aX P w K mg base de 2 f fd ke (dJ K 2 aH):=
 (au F wQ fun _ _ _ _ _ _ hr _=>by walk_at "v";with_reducible exact(ab (by ac_rfl)
   (ab (by ac_rfl)
   (ab (iP (bZ Nn (by ac_rfl) (sv 1)) (oF hr.units (sv 0) bt))
   (by ac_rfl)))))
theorem BC(F:dI K "_law_of" "_law_of" oQ f fd)(B:Bs P w K mg)(d37:bY P w K mg base):aX P w K mg base de 3 f fd pC (dJ K 2 aB):=
 (au F AZ fun _ _ _ _ _ _ hr _=>by walk_at "u")
theorem uK(F:dI K "_law_words" "_law_words" iZ f fd)(B:Bs P w K mg)(d38:dz P w K mg base)(d37:bY P w K mg base):aX P w K mg base de 4 f fd jf (dJ K 2 dB):=
 (au F lG fun _ _ _ _ _ _ hr _=>by walk_at "v";with_reducible exact(ab (by ac_rfl)
   (ab (by ac_rfl)
   (ab (en Vl rfl (b9 (by unfold Gl;ac_nf) B.dw (aa (gR d38 hr (aa (sv 0) (aa (cO 9 (by ac_nf)) av))) av) (hl:=(af aC))) (by ac_rfl) (by ac_rfl))
   (ab (by ac_rfl)
   (ab (by ac_rfl)
   (ab (sset 7 lG.nd (gR d38 hr (aa (sv 0) (aa (cO 9 (by ac_nf)) av))))
   (aI (br (fq (N':=["_law_k","_law_at","_law_first","_law_letters","_law_stem","_law_stride"]) (caps:=[none,some 5,some 6,some 2,some 3,some 7]) (aY (by ac_nf)) rfl (b9 (by unfold Gl;ac_nf) B.dw (by ac_rfl) (hl:=(af aC))) (fun _ _ _ _ _=>(sgn 0 (by show(["_law_k","_law_at","_law_first","_law_letters","_law_stem","_law_stride"]:List Str).Nodup;decide+kernel))) (fun _ _ _ _ _=>bV) (fun _ _ _ _ _=>(bZ eB (bZ eB (by ac_rfl) (six hr (sv 3) (bZ sQ (bZ eB (sv 2) (bZ jh (sv 5) (sv 0))) bt))) (by ac_rfl)))))))))))))
theorem uJ(F:dI K "_law_world" "_law_world" iY f fd)(B:Bs P w K mg)(d39:oo P w K mg base)(d38:dz P w K mg base)(d37:bY P w K mg base):aX P w K mg base de 5 f fd je (dJ K 3 gc):=
 (au F cI fun _ _ _ _ _ _ hr _=>by walk_at "v";with_reducible exact(ab (sset 3 cI.nd (gR d39 hr (aa (sv 0) (aa (gR d38 hr (aa (sv 0) (aa (cO 9 (by ac_nf)) av))) av))))
   (ab (sset 4 cI.nd (gR d39 hr (aa (sv 0) (aa (gR d38 hr (aa (sv 0) (aa (cO 9 (by ac_nf)) av))) av))))
   (ab (by ac_rfl)
   (ab (iO (i:=6) cI.nd (by ac_nf) (by ac_nf) (N':=["_law_deed","_law_state"]) (caps:=[none,some 0]) (aY (by ac_nf)) rfl (ib (sv 4)) (fun _ _ _ _ _=>(sgn 0 (by show(["_law_deed","_law_state"]:List Str).Nodup;decide+kernel))) (fun _ _ _ _ _=>bV) (fun _ _ _ _ _=>(gR d38 hr (aa (sv 1) (aa (cO 9 (by ac_nf)) av)))))
   (ab (sset 7 cI.nd (IT Ig B.tS wb (aa (fq (N':=["_law_deed","_law_names","_law_state"]) (caps:=[none,some 3,some 0]) (aY (by ac_nf)) rfl (ib (sv 4)) (fun _ _ _ _ _=>(sgn 0 (by show(["_law_deed","_law_names","_law_state"]:List Str).Nodup;decide+kernel))) (fun _ _ _ _ _=>bV) (fun _ _ _ _ _=>(by ac_rfl))) av)))
   (ab (sset 5 cI.nd (fq (N':=["_law_k","_law_params"]) (caps:=[none,some 5]) (aY (by ac_nf)) rfl (ib (sv 6)) (fun _ _ _ _ _=>(sgn 0 (by show(["_law_k","_law_params"]:List Str).Nodup;decide+kernel))) (fun _ _ _ _ _=>bV) (fun _ _ _ _ _=>(by ac_rfl))))
   (aI (br (Gd (kO cN (sv 3) (kO cN (sv 4) (kO cN (sv 5) (kO cN (sv 7) (kO cN (sv 1) (kO cN (sv 2) Ml)))))) (by ac_nf) (by ac_nf) (by simp) fun trs h=>Ka h (by ac_nf) (by ac_nf) (by simp) (by decide)))))))))))
theorem sS(F:dI K "_law_is_odd" "_law_is_odd" ig f fd)(B:Bs P w K mg)(d37:bY P w K mg base):aX P w K mg base de 3 f fd ik (dJ K 2 cM):=
 (au F rW fun _ _ _ _ _ _ hr _=>by walk_at "v";with_reducible exact(aI (br (lP (by ac_rfl) (jO (by ac_rfl))))))
theorem xF(F:dI K "_law_term" "_law_term" jS f fd)(B:Bs P w K mg)(d37:bY P w K mg base)(d38:dz P w K mg base):aX P w K mg base de 4 f fd kd (dJ K 2 bE):=
 (au F wO fun _ _ _ _ _ _ hr _=>by walk_at "v";with_reducible exact(ab (by ac_rfl)
   (ab (dR (by ac_rfl) (aI (br (cU (aa (by ac_rfl) (aa (gR d38 hr (aa (sv 0) (aa (t6.lv (iS (by ac_rfl) (af (af (af (af (af (af (af (af (af aC))))))))))) av))) av)) (af (af aC))))) cz)
   (by ac_rfl))))
theorem xJ(F:dI K "_law_call" "_law_call" jW f fd)(B:Bs P w K mg)(d41:iy P w K mg base)(d38:dz P w K mg base)(d42:g9 P w K mg base):aX P w K mg base de 5 f fd kj (dJ K 4 fC):=
 (au F fU fun _ _ _ _ _ _ hr _=>by walk_at "v";with_reducible exact(ab (iO (i:=4) fU.nd (by ac_nf) (by ac_nf) (N':=["_law_k","_law_deed","_law_top","_law_world_here"]) (caps:=[none,some 2,some 3,some 1]) (aY (by ac_nf)) rfl (b9 (by unfold Gl;ac_nf) B.dw (by ac_rfl) (hl:=(af aC))) (fun _ _ _ _ _=>(sgn 0 (by show(["_law_k","_law_deed","_law_top","_law_world_here"]:List Str).Nodup;decide+kernel))) (fun _ _ _ _ _=>(q9 (by ac_rfl))) (fun _ _ _ _ _=>(sv 0)))
   (ab (dR (by ac_rfl) (aI (sset 4 fU.nd (t6.lv (D2 rfl (by unfold Gl;ac_nf) B.Cf (by unfold Gl;ac_nf) B.dw yr (by ac_rfl))))) cz)
   (ab (by ac_rfl)
   (ab (by ac_rfl)
   (ab (iO (i:=6) fU.nd (by ac_nf) (by ac_nf) (N':=["_law_one","_law_deed","_law_state","_law_world_here"]) (caps:=[none,some 2,some 0,some 1]) (aY (by ac_nf)) rfl (by ac_rfl) (fun _ _ _ _ _=>(sgn 0 (by show(["_law_one","_law_deed","_law_state","_law_world_here"]:List Str).Nodup;decide+kernel))) (fun _ _ _ _ _=>bV) (fun _ _ _ _ _=>(by ac_rfl)))
   (by ac_rfl)))))))
theorem xH(F:dI K "_law_lock" "_law_lock" jU f fd)(B:Bs P w K mg)(d37:bY P w K mg base)(d41:iy P w K mg base)(d42:g9 P w K mg base):aX P w K mg base de 5 f fd kg (dJ K 5 dX):=
 (au F mS fun _ _ _ _ _ _ hr _=>by walk_at "v";with_reducible exact(ab (by ac_rfl)
   (ab (by ac_rfl)
   (ab (by ac_rfl)
   (ab (by ac_rfl)
   (ab (by ac_rfl)
   (ab (iO (i:=8) mS.nd (by ac_nf) (by ac_nf) (N':=["_law_lock_here","_law_name"]) (caps:=[none,some 7]) (aY (by ac_nf)) rfl (ib (sv 4)) (fun _ _ _ _ _=>(sgn 0 (by show(["_law_lock_here","_law_name"]:List Str).Nodup;decide+kernel))) (fun _ _ _ _ _=>(q9 (by ac_rfl))) (fun _ _ _ _ _=>(by ac_rfl)))
   (by ac_rfl))))))))
theorem CY{f1:Addr}{fd1:FuncData}(F1:dI K "_law_lot" "_law_lot" lZ f1 fd1)(kf1:PySem.W.keepIn K (.ref f1)=true)(bf1:Binds K fd1 eZ [])(mf1:mg "_law_lot"=some (.ref f1)){f2:Addr}{fd2:FuncData}(F2:dI K "_law_row" "_law_row" lY f2 fd2)(kf2:PySem.W.keepIn K (.ref f2)=true)(bf2:Binds K fd2 eY [])(mf2:mg "_law_row"=some (.ref f2)){f3:Addr}{fd3:FuncData}(F3:dI K "_law_locked" "_law_locked" ie f3 fd3)(kf3:PySem.W.keepIn K (.ref f3)=true)(bf3:Binds K fd3 cJ [])(mf3:mg "_law_locked"=some (.ref f3)){f4:Addr}{fd4:FuncData}(F4:dI K "_law_two_ways" "_law_two_ways" fF f4 fd4)(kf4:PySem.W.keepIn K (.ref f4)=true)(bf4:Binds K fd4 bR [])(mf4:mg "_law_two_ways"=some (.ref f4))(B:Bs P w K mg)(d37:bY P w K mg base)(d38:dz P w K mg base)(d44:qx P w K mg base)(d42:g9 P w K mg base)(d43:qv P w K mg base):∀n,aX P w K mg base de (6+n) f1 fd1 eZ (dJ K 7 (bx n))∧aX P w K mg base de (6+n) f2 fd2 eY (dJ K 6 (fk n))∧aX P w K mg base de (6+n) f3 fd3 cJ (dJ K 7 (cL n))∧aX P w K mg base de (6+n) f4 fd4 bR (dJ K 6 (bT n))
 | 0=>⟨nr,nr,nr,nr⟩
 | n+1=>by
  obtain⟨i1,i2,i3,i4⟩:=CY F1 kf1 bf1 mf1 F2 kf2 bf2 mf2 F3 kf3 bf3 mf3 F4 kf4 bf4 mf4 B d37 d38 d44 d42 d43 n;have d48:Df P w K mg base "_law_lot" (6+n) eZ 7 (bx n):=⟨f1,fd1,i1,kf1,bf1,mf1⟩;have d47:Df P w K mg base "_law_row" (6+n) eY 6 (fk n):=⟨f2,fd2,i2,kf2,bf2,mf2⟩;have d46:Df P w K mg base "_law_locked" (6+n) cJ 7 (cL n):=⟨f3,fd3,i3,kf3,bf3,mf3⟩;have d45:Df P w K mg base "_law_two_ways" (6+n) bR 6 (bT n):=⟨f4,fd4,i4,kf4,bf4,mf4⟩;refine⟨?_,?_,?_,?_⟩
  ·exact eD (au F1 yX fun _ _ _ _ _ _ hr _=>by walk_at "v";with_reducible exact(ab (by ac_rfl)
   (ab (en Vl rfl (b9 (by unfold Gl;ac_nf) B.dw (aa (gR d37 hr (aa (sv 0) (aa (bZ eB (gR d38 hr (aa (sv 0) (aa (bZ eB (bZ G8 (by ac_rfl) bt) (by ac_rfl)) av)) (UL (by decide) (Vd _ _))) bt) av)) (UL (by decide) (Vd _ _))) av) (hl:=(af aC))) (by ac_rfl) (aI (dR (by ac_rfl) (ab (iP (by ac_rfl) (oF hr.units (sv 1) cN))
   (aI (kN (AQ (isT:=cR) jL VU WL Xc kT (sv 7) (aa (gR d47 hr (by ac_rfl) (Us _)) av))))) cz)))
   (by ac_rfl))))
  ·exact(au F2 cV fun _ _ _ _ _ _ hr _=>by walk_at "v";with_reducible exact(ab (sset 6 cV.nd (gR d37 hr (by ac_rfl) (UL (by decide) (Vd _ _))))
   (ab (dR (by ac_rfl) (aI (br (cU (aa cN (aa (gR d38 hr (by ac_rfl) (UL (by decide) (Vd _ _))) av)) (af (af aC))))) cz)
   (ab (dR (by ac_rfl) (aI (br (gR d44 hr (by ac_rfl) (UL (by decide) (Vd _ _))))) cz)
   (ab (dR (by ac_rfl) (aI (br (gR d45 hr (by ac_rfl) (Us _)))) cz)
   (ab (dR (by ac_rfl) (ab (D0 7 8 cV.nd (af (af aC)) rfl (by decide) (by with_unfolding_all exact(o6 rfl cV.nd rfl rfl (by decide) rfl rfl (aa (gR d42 hr (aa (sv 0) (aa (six hr (six hr (sv 1) cN) (sv 2)) av)) (UL (by decide) (Vd _ _))) (aa (gR d42 hr (aa (sv 0) (aa (six hr (six hr (sv 1) cN) (sv 2)) av)) (UL (by decide) (Vd _ _))) av)) rfl)))
   (ab (iO (i:=9) cV.nd (by ac_nf) (by ac_nf) (N':=["_law_k","_law_deed","_law_deep","_law_held","_law_state","_law_top","_law_world_here"]) (caps:=[none,some 2,some 3,some 5,some 0,some 4,some 1]) (aY (by ac_nf)) rfl (b9 (by unfold Gl;ac_nf) B.dw (by ac_rfl) (hl:=(af aC))) (fun _ _ _ _ _=>(sgn 0 (by show(["_law_k","_law_deed","_law_deep","_law_held","_law_state","_law_top","_law_world_here"]:List Str).Nodup;decide+kernel))) (fun _ _ _ _ _=>bV) (fun _ _ _ _ _=>(gR d48 hr (by ac_rfl) (Us _))))
   (by ac_rfl))) cz)
   (ab (dR (by ac_rfl) (ab (iO (i:=9) cV.nd (by ac_nf) (by ac_nf) (N':=["_law_k","_law_deed","_law_deep","_law_held","_law_state","_law_top","_law_world_here"]) (caps:=[none,some 2,some 3,some 5,some 0,some 4,some 1]) (aY (by ac_nf)) rfl (b9 (by unfold Gl;ac_nf) B.dw (by ac_rfl) (hl:=(af aC))) (fun _ _ _ _ _=>(sgn 0 (by show(["_law_k","_law_deed","_law_deep","_law_held","_law_state","_law_top","_law_world_here"]:List Str).Nodup;decide+kernel))) (fun _ _ _ _ _=>bV) (fun _ _ _ _ _=>(gR d48 hr (by ac_rfl) (Us _))))
   (by ac_rfl)) cz)
   (ab (dR (by ac_rfl) (aI (br (cU (aa cN (aa (gR d48 hr (by ac_rfl) (Us _)) av)) (af (af aC))))) cz)
   (ab (sset 10 cV.nd (gR d38 hr (aa (sv 0) (aa (cO 9 (by ac_nf)) av)) (UL (by decide) (Vd _ _))))
   (aI (br (gR d46 hr (by ac_rfl) (Us _)))))))))))))
  ·exact eD (au F3 cW fun _ _ _ _ _ _ hr _=>by walk_at "v";with_reducible exact(ab (iP (gR d43 hr (by ac_rfl) (UL (by decide) (Vd _ _))) (by ac_rfl))
   (ab (by ac_rfl)
   (ab (dR (by ac_rfl) (ab (D0 9 10 cW.nd (af (af aC)) rfl (by decide) (by with_unfolding_all exact(o6 rfl cW.nd rfl rfl (by decide) rfl rfl (aa (t6.ob (iS (aa (sv 8) av) (af aC))) (aa (sv 7) av)) rfl)))
   (ab (en Vl rfl (b9 (by unfold Gl;ac_nf) B.dw (aa (gR d38 hr (aa (sv 0) (aa (cO 9 (by ac_nf)) av)) (UL (by decide) (Vd _ _))) av) (hl:=(af aC))) (by ac_rfl) (ab (iP (gR d43 hr (by ac_rfl) (UL (by decide) (Vd _ _))) (by ac_rfl))
   (ab (by ac_rfl)
   (aI (sset 9 cW.nd (t6.ob (Mo (sv 9) (bZ G8 (by ac_rfl) (by ac_rfl)))))))))
   (ab (dR (by ac_rfl) (aI (kN (AQ (isT:=cR) jL VU WL Xc kT (sv 9) (aa (cU (aa (by ac_rfl) (aa (cU (aa (by ac_rfl) (aa (bZ G7 (by ac_rfl) (bZ jh bt (by ac_rfl))) av)) (af (af aC))) av)) (af (af aC))) av)))) cz)
   (ab (by ac_rfl)
   (aI (br (cU (aa cN (aa (by ac_rfl) (aa (gR d48 hr (by ac_rfl) (Us _)) av))) (af (af (af aC)))))))))) cz)
   (ab (sset 14 cW.nd (gR d48 hr (by ac_rfl) (Us _)))
   (ab (dR (by ac_rfl) (aI (br (cU (aa cN (aa (sv 8) (aa (sv 14) (aa (gR d48 hr (by ac_rfl) (Us _)) av)))) (af (af (af (af aC))))))) cz)
   (by ac_rfl)))))))
  ·exact eD (au F4 di fun _ _ _ _ _ _ hr _=>by walk_at "v";with_reducible exact(ab (by ac_rfl)
   (ab (by ac_rfl)
   (ab (dR (rQ (Bu hr.units) (fq (N':=["_law_lock_here","_law_low","_law_world_here"]) (caps:=[none,some 6,some 1]) (aY (by ac_nf)) rfl (ib (sv 5)) (fun _ _ _ _ _=>(sgn 0 (by show(["_law_lock_here","_law_low","_law_world_here"]:List Str).Nodup;decide+kernel))) (fun _ _ _ _ _=>(q9 (by ac_rfl))) (fun _ _ _ _ _=>(sv 0))) (by ac_rfl) (pG _)) (by ac_rfl) cz)
   (ab (by ac_rfl)
   (ab (iP (by ac_rfl) (oF hr.units (sv 1) cN))
   (ab (D0 8 9 di.nd (af (af aC)) rfl (by decide) (by with_unfolding_all exact(o6 rfl di.nd rfl rfl (by decide) rfl rfl (aa (gR d42 hr (aa (sv 0) (aa (six hr (six hr (sv 1) cN) (sv 2)) av)) (UL (by decide) (Vd _ _))) (aa (gR d42 hr (aa (sv 0) (aa (six hr (six hr (sv 1) cN) (sv 2)) av)) (UL (by decide) (Vd _ _))) av)) rfl)))
   (ab (by ac_rfl)
   (ab (en Vl rfl (by ac_rfl) (by ac_rfl) (ab (sset 13 di.nd (gR d48 hr (by ac_rfl) (Us _)))
   (by ac_rfl)))
   (by ac_rfl))))))))))
theorem qQ(F:dI K "_law_program" "_law_program" gv f fd)(B:Bs P w K mg)(d40:om P w K mg base)(d48:t5 P w K mg base)(d38:dz P w K mg base):aX P w K mg base de 27 f fd gF (dJ K 3 eP):=
 eD (au F jx fun _ _ _ _ _ _ hr _=>by walk_at "v";with_reducible exact(ab (by ac_rfl)
   (ab (by ac_rfl)
   (ab (en Vl rfl (kP (by unfold Gl;ac_nf) B.dW (by ac_rfl) (af aC)) (by ac_rfl) (ab (sset 7 jx.nd (gR d48 hr (aa (sv 0) (aa (sv 3) (aa (sv 5) (aa bt (aa (by ac_rfl) (aa (by ac_rfl) (aa (gR d38 hr (aa (sv 0) (aa (cO 9 (by ac_nf)) av))) av)))))))))
   (by ac_rfl)))
   (aI (br (cU (aa (Js fy B.f7 eI (aa (IT Ie B.tS wb (by ac_rfl)) av)) (by ac_rfl)) (af (af aC)))))))))
theorem xE(F:dI K "_law_town" "_law_town" jR f fd)(B:Bs P w K mg)(d37:bY P w K mg base)(d38:dz P w K mg base):aX P w K mg base de 4 f fd kc (dJ K 3 fB):=
 eD (au F wN fun _ _ _ _ _ _ hr _=>by walk_at "v";with_reducible exact(ab (by ac_rfl)
   (ab (en Vl rfl (b9 (by unfold Gl;ac_nf) B.dw (by ac_rfl) (hl:=(af aC))) (by ac_rfl) (ab (by ac_rfl)
   (ab (by ac_rfl)
   (aI (kN (AQ (isT:=cR) jL VU WL Xc kT (sv 3) (aa (cU (aa (sv 5) (aa (Js fy B.f7 eI (aa (fq (N':=["_law_one","_law_far","_law_state"]) (caps:=[none,some 8,some 0]) (aY (by ac_nf)) rfl (ib (sv 6)) (fun _ _ _ _ _=>(sgn 0 (by show(["_law_one","_law_far","_law_state"]:List Str).Nodup;decide+kernel))) (fun _ _ _ _ _=>bV) (fun _ _ _ _ _=>(gR d38 hr (aa (sv 2) (aa (t6.lv (iS (by ac_rfl) (af (af (af (af (af (af (af (af (af aC))))))))))) av))))) av)) av)) (af (af aC))) av)))))))
   (by ac_rfl))))
theorem qP(F:dI K "deed_numbers" "deed_numbers" gu f fd)(B:Bs P w K mg):aX P w K mg base de 1 f fd gE (dJ K 1 cp):=
 (au F qE fun _ _ _ _ _ _ hr _=>by walk_at "v";with_reducible exact(aI (br (Gf (N':=["number","deed"]) (caps:=[none,none]) (aY (by ac_nf)) rfl (kP (by unfold Gl;ac_nf) B.dW (by ac_rfl) (af aC)) (fun _ _ _ _ _=>(oE rfl (cb (sgn 0 (by show(["number","deed"]:List Str).Nodup;decide+kernel)) (cb (sgn 1 (by show(["number","deed"]:List Str).Nodup;decide+kernel)) kQ)))) (fun _ _ _ _ _=>bV) (fun _ _ _ _ _=>(by ac_rfl)) (fun _ _ _ _ _=>(sv 0))))))
theorem Bz(F:dI K "lots_of" "lots_of" oN f fd)(B:Bs P w K mg):aX P w K mg base de 1 f fd pv (dJ K 1 gh):=
 (au F AW fun _ _ _ _ _ _ hr _=>by walk_at "v";with_reducible exact(aI (br (Ga (sv 0) (CB (six hr (Mq B.IH (by ac_rfl)) bt)) CC))))
theorem EC(F:dI K "lot_on" "lot_on" rZ f fd)(B:Bs P w K mg)(d3:p4 P w K mg base):aX P w K mg base de 2 f fd sN (dJ K 2 kH):=
 (au F D8 fun _ _ _ _ _ _ hr _=>by walk_at "v";with_reducible exact(ab (by ac_rfl)
   (ab (en Vl rfl (D1 (by unfold Gl;ac_nf) B.dw (by ac_rfl) (hl:=(af (af (af aC))))) (by ac_rfl) (by ac_rfl))
   (by ac_rfl))))
theorem EA(F:dI K "row_on" "row_on" rX f fd)(B:Bs P w K mg)(d11:Au P w K mg base):aX P w K mg base de 3 f fd sL (dJ K 2 gM):=
 (au F D7 fun _ _ _ _ _ _ hr _=>by walk_at "u")
theorem pD(F:dI K "stands_at_end" "stands_at_end" fE f fd)(B:Bs P w K mg):aX P w K mg base de 1 f fd fH (dJ K 2 cG):=
 (au F oG fun _ _ _ _ _ _ hr _=>by walk_at "v";with_reducible exact(aI (br (Pz (by ac_rfl) (jO (lP (by ac_rfl) (jO (by ac_rfl))))))))
theorem EE(F:dI K "behind" "behind" se f fd)(B:Bs P w K mg):aX P w K mg base de 1 f fd sP (dJ K 1 fA):=
 (au F Ea fun _ _ _ _ _ _ hr _=>by walk_at "u")
theorem uF(F:dI K "path_stood" "path_stood" iU f fd)(B:Bs P w K mg)(d12:tU P w K mg base)(d16:jB P w K mg base)(d15:oj P w K mg base):aX P w K mg base de 4 f fd i9 (dJ K 2 eO):=
 (au F ug fun _ _ _ _ _ _ hr _=>by walk_at "v";with_reducible exact(ab (yM (n:=1000000) Vl (by ac_rfl) (by ac_rfl))
   (by ac_rfl)))
theorem By(F:dI K "rows_in" "rows_in" oM f fd)(B:Bs P w K mg):aX P w K mg base de 1 f fd pj (dJ K 2 gg):=
 (au F AV fun _ _ _ _ _ _ hr _=>by walk_at "u")
theorem qN(F:dI K "frames_stood" "frames_stood" gq f fd)(B:Bs P w K mg)(d17:oh P w K mg base)(d9:pZ P w K mg base)(d15:oj P w K mg base):aX P w K mg base de 5 f fd gC (dJ K 2 cn):=
 eD (au F jw fun _ _ _ _ _ _ hr _=>by walk_at "v";with_reducible exact(ab (sset 2 jw.nd (t6.ob (CH (by unfold Gl;ac_nf) B.Cf yr (by ac_rfl) (af aC))))
   (ab (yM (n:=1000000) Vl (AK (sv 2)) (by ac_rfl))
   (by ac_rfl))))
theorem Hk(F:dI K "begun" "begun" wY f fd)(B:Bs P w K mg)(d8:gK P w K mg base)(d18:gJ P w K mg base):aX P w K mg base de 6 f fd xB (dJ K 2 lh):=
 eD (au F Gp fun _ _ _ _ _ _ hr _=>by walk_at "u")
theorem zv(F:dI K "row_here" "row_here" lR f fd)(B:Bs P w K mg)(d12:tU P w K mg base)(d9:pZ P w K mg base):aX P w K mg base de 4 f fd mn (dJ K 2 bJ):=
 (au F yR fun _ _ _ _ _ _ hr _=>by walk_at "u")
theorem qM(F:dI K "row_stood_at" "row_stood_at" gp f fd)(B:Bs P w K mg)(d13:cD P w K mg base):aX P w K mg base de 5 f fd gA (dJ K 3 cZ):=
 (au F qC fun _ _ _ _ _ _ hr _=>by walk_at "u")
theorem zx(F:dI K "locks_of" "locks_of" lV f fd)(B:Bs P w K mg):aX P w K mg base de 1 f fd mw (dJ K 1 gP):=
 (au F yU fun _ _ _ _ _ _ hr _=>by walk_at "u")
theorem uG(F:dI K "numbers_in" "numbers_in" iV f fd)(B:Bs P w K mg):aX P w K mg base de 1 f fd ja (dJ K 2 cE):=
 (au F uh fun _ _ _ _ _ _ hr _=>by walk_at "v";with_reducible exact(ab (by ac_rfl)
   (aI (br (Ge rfl (by unfold Gl;ac_nf) B.OD K8 (by unfold Gl;ac_nf) B.QI (by ac_rfl) (af (af aC)))))))
theorem zu(F:dI K "value_of" "value_of" lQ f fd)(B:Bs P w K mg):aX P w K mg base de 1 f fd mm (dJ K 2 bC):=
 (au F yQ fun _ _ _ _ _ _ hr _=>by walk_at "u")
theorem uH(F:dI K "locks_told" "locks_told" iW f fd)(B:Bs P w K mg)(d4:tX P w K mg base)(d13:cD P w K mg base)(d10:f9 P w K mg base)(d2:jq P w K mg base):aX P w K mg base de 5 f fd jb (dJ K 2 cF):=
 (au F um fun _ _ _ _ _ _ hr _=>by walk_at "v";with_reducible exact(ab (by ac_rfl)
   (ab (by ac_rfl)
   (aI (br (Js fy B.f7 eI (aa (D4 (N':=["name","term","numbers"]) (caps:=[none,none,some 3]) (aY (by ac_nf)) rfl (by unfold Gl;ac_nf) B.tS hr.units (ib (sv 2)) (fun _ _ _ _ _=>(oE rfl (cb (sgn 0 (by show(["name","term","numbers"]:List Str).Nodup;decide+kernel)) (cb (sgn 1 (by show(["name","term","numbers"]:List Str).Nodup;decide+kernel)) kQ)))) (fun _ _ _ _ _=>bV) (fun _ _ _ _ _=>(by ac_rfl))) av)))))))
theorem BA(F:dI K "held_by" "held_by" oO f fd)(B:Bs P w K mg):aX P w K mg base de 1 f fd pA (dJ K 2 fh):=
 (au F AX fun _ _ _ _ _ _ hr _=>by walk_at "v";with_reducible exact(ab (en Vl rfl (kP (by unfold Gl;ac_nf) B.dW (by ac_rfl) (af aC)) (by ac_rfl) (aI (dR (AK (IT (Od rfl) B.QM OA (aa (fq (N':=["block","lock"]) (caps:=[none,some 1]) (aY (by ac_nf)) rfl (ib (sv 4)) (fun _ _ _ _ _=>(sgn 0 (by show(["block","lock"]:List Str).Nodup;decide+kernel))) (fun _ _ _ _ _=>bV) (fun _ _ _ _ _=>(by ac_rfl))) av))) (by ac_rfl) cz)))
   (by ac_rfl)))
theorem Hh(F:dI K "waits" "waits" wV f fd)(B:Bs P w K mg)(d14:kC P w K mg base)(d22:gb P w K mg base)(d20:p5 P w K mg base):aX P w K mg base de 6 f fd xx (dJ K 3 k9):=
 (au F Gk fun _ _ _ _ _ _ hr _=>by walk_at "v";with_reducible exact(ab (by ac_rfl)
   (ab (by ac_rfl)
   (aI (br (Js fy B.f7 eI (aa (fq (N':=["lock","scene"]) (caps:=[none,some 1]) (aY (by ac_nf)) rfl (by ac_rfl) (fun _ _ _ _ _=>(sgn 0 (by show(["lock","scene"]:List Str).Nodup;decide+kernel))) (fun _ _ _ _ _=>(q9 (by ac_rfl))) (fun _ _ _ _ _=>(sv 0))) av)))))))
theorem uI(F:dI K "choices_of" "choices_of" iX f fd)(B:Bs P w K mg)(d13:cD P w K mg base)(d23:DM P w K mg base):aX P w K mg base de 7 f fd jc (dJ K 3 a8):=
 (au F uo fun _ _ _ _ _ _ hr _=>by walk_at "u")
theorem Hj(F:dI K "moves" "moves" wX f fd)(B:Bs P w K mg)(d24:jr P w K mg base):aX P w K mg base de 8 f fd xA (dJ K 2 hV):=
 (au F Gn fun _ _ _ _ _ _ hr _=>by walk_at "v";with_reducible exact(aI (br (Js fy B.f7 eI (aa (D5 (N':=["hand","choice","program","scene"]) (caps:=[none,none,some 0,some 1]) (aY (by ac_nf)) rfl (b9 (by unfold Gl;ac_nf) B.dw (by ac_rfl) (hl:=(af aC))) (fun _ _ _ _ _=>(sgn 0 (by show(["hand","choice","program","scene"]:List Str).Nodup;decide+kernel))) (fun _ _ _ _ _=>bV) (fun _ _ _ _ _=>(by ac_rfl)) (fun _ _ _ _ _=>(sgn 1 (by show(["hand","choice","program","scene"]:List Str).Nodup;decide+kernel))) (fun _ _ _ _ _=>bV) (fun _ _ _ _ _=>(by ac_rfl))) av)))))
theorem qg(F:dI K "paths_in" "paths_in" lS f fd)(B:Bs P w K mg)(kf:PySem.W.keepIn K (.ref f)=true)(bf:Binds K fd gB [])(mf:mg "paths_in"=some (.ref f))(d3:p4 P w K mg base):∀n,aX P w K mg base de (2+n) f fd gB (dJ K 2 (c8 n))
 | 0=>nr
 | n+1=>by
  have d5:Df P w K mg base "paths_in" (2+n) gB 2 (c8 n):=⟨f,fd,qg F B kf bf mf d3 n,kf,bf,mf⟩;exact eD (au F yS fun _ _ _ _ _ _ hr _=>by walk_at "v";with_reducible exact(ab (by ac_rfl)
   (ab (en Vl rfl (kP (by unfold Gl;ac_nf) B.dW (by ac_rfl) (af aC)) (by ac_rfl) (ab (by ac_rfl)
   (ab (by ac_rfl)
   (aI (en Vl rfl (kP (by unfold Gl;ac_nf) B.dW (aa (gR d3 hr (by ac_rfl) (UL (by decide) (Vd _ _))) av) (af aC)) (by ac_rfl) (aI (kN (AQ (isT:=cR) jL VU XC YA vF (sv 2) (aa (gR d5 hr (by ac_rfl) (Us _)) av)))))))))
   (by ac_rfl))))
theorem xD(F:dI K "places_of" "places_of" jQ f fd)(B:Bs P w K mg)(d5:tV P w K mg base):aX P w K mg base de 13 f fd j9 (dJ K 1 c7):=
 eD (au F wM fun _ _ _ _ _ _ hr _=>by walk_at "v";with_reducible exact(ab (by ac_rfl)
   (ab (en Vl rfl (kP (by unfold Gl;ac_nf) B.dW (by ac_rfl) (af aC)) (by ac_rfl) (aI (kN (AQ (isT:=cR) jL VU XC YA vF (sv 1) (aa (fq (N':=["path","row","deed"]) (caps:=[none,none,some 2]) (aY (by ac_nf)) rfl (by ac_rfl) (fun _ _ _ _ _=>(oE rfl (cb (sgn 0 (by show(["path","row","deed"]:List Str).Nodup;decide+kernel)) (cb (sgn 1 (by show(["path","row","deed"]:List Str).Nodup;decide+kernel)) kQ)))) (fun _ _ _ _ _=>bV) (fun _ _ _ _ _=>(by ac_rfl))) av)))))
   (by ac_rfl))))
theorem EB(F:dI K "row_at" "row_at" rY f fd)(B:Bs P w K mg)(d13:cD P w K mg base)(d6:kE P w K mg base):aX P w K mg base de 14 f fd sM (dJ K 3 oy):=
 (au F vh fun _ _ _ _ _ _ hr _=>by walk_at "v";with_reducible exact(ab (by ac_rfl)
   (ab (by ac_rfl)
   (ab (by ac_rfl)
   (ab (by ac_rfl)
   (ab (iO (i:=7) vh.nd (by ac_nf) (by ac_nf) (N':=["other","along","row"]) (caps:=[none,none,none]) (aY (by ac_nf)) rfl (by ac_rfl) (fun _ _ _ _ _=>(oE rfl (cb (sgn 0 (by show(["other","along","row"]:List Str).Nodup;decide+kernel)) (cb (sgn 1 (by show(["other","along","row"]:List Str).Nodup;decide+kernel)) (cb (sgn 2 (by show(["other","along","row"]:List Str).Nodup;decide+kernel)) kQ))))) (fun _ _ _ _ _=>bV) (fun _ _ _ _ _=>(by ac_rfl)))
   (aI (br (AQ (isT:=cR) jL VU YH PySem.F.type_list_index (EI hr.units) (sv 7) (by ac_rfl))))))))))
theorem Bx(F:dI K "rows_of" "rows_of" oK f fd)(B:Bs P w K mg)(d6:kE P w K mg base):aX P w K mg base de 14 f fd ph (dJ K 1 iN):=
 (au F AU fun _ _ _ _ _ _ hr _=>by walk_at "v";with_reducible exact(aI (br (Js fy B.f7 eI (aa (fq (N':=["deed","path","row"]) (caps:=[none,none,none]) (aY (by ac_nf)) rfl (by ac_rfl) (fun _ _ _ _ _=>(oE rfl (cb (sgn 0 (by show(["deed","path","row"]:List Str).Nodup;decide+kernel)) (cb (sgn 1 (by show(["deed","path","row"]:List Str).Nodup;decide+kernel)) (cb (sgn 2 (by show(["deed","path","row"]:List Str).Nodup;decide+kernel)) kQ))))) (fun _ _ _ _ _=>bV) (fun _ _ _ _ _=>(by ac_rfl))) av)))))
theorem pE(F:dI K "_law_is_quiet" "_law_is_quiet" fG f fd)(B:Bs P w K mg)(d21:As P w K mg base)(d7:wt P w K mg base):aX P w K mg base de 15 f fd fI (dJ K 3 cH):=
 (au F oI fun _ _ _ _ _ _ hr _=>by walk_at "v";with_reducible exact(ab (by ac_rfl)
   (aI (br (lP (by ac_rfl) (jO (AR (Hb hr.units) (by ac_rfl) (cO 9 (by ac_nf)) (by ac_nf))))))))
theorem zy(F:dI K "is_whole" "is_whole" lW f fd)(B:Bs P w K mg):aX P w K mg base de 1 f fd mx (dJ K 1 ju):=
 (au F yV fun _ _ _ _ _ _ hr _=>by walk_at "v";with_reducible exact(aI (br (lP (IT B3 B.jo ix (aa (sv 0) (aa (RI B.LO Iu) av))) (jO (Mr (IT B3 B.jo ix (aa (sv 0) (aa (RI B.OE K9) av)))))))))
theorem sR(F:dI K "is_tuple_of" "is_tuple_of" ic f fd)(B:Bs P w K mg):aX P w K mg base de 1 f fd ij (dJ K 2 iz):=
 (au F rV fun _ _ _ _ _ _ hr _=>by walk_at "v";with_reducible exact(aI (br (lP (IT B3 B.jo ix (aa (sv 0) (aa (RI B.f7 eI) av))) (jO (by ac_rfl))))))
theorem ED(F:dI K "can_be" "can_be" r8 f fd)(B:Bs P w K mg)(d0:tY P w K mg base)(d1:lL P w K mg base)(d24:jr P w K mg base):aX P w K mg base de 8 f fd sO (dJ K 3 kI):=
 (au F D9 fun _ _ _ _ _ _ hr _=>by walk_at "v";with_reducible exact(ab (by ac_rfl)
   (ab (by ac_rfl)
   (aI (br (lP (Gg LF LD bt (sv 3) (by ac_rfl)) (jO (by ac_rfl))))))))
theorem zA(F:dI K "event_of" "event_of" lX f fd)(B:Bs P w K mg)(d13:cD P w K mg base):aX P w K mg base de 5 f fd my (dJ K 3 gQ):=
 (au F yW fun _ _ _ _ _ _ hr _=>by walk_at "u")
theorem qO(F:dI K "frame_called" "frame_called" gr f fd)(B:Bs P w K mg)(d13:cD P w K mg base)(d10:f9 P w K mg base)(d2:jq P w K mg base)(d8:gK P w K mg base):aX P w K mg base de 5 f fd gD (dJ K 2 c9):=
 (au F qD fun _ _ _ _ _ _ hr _=>by walk_at "v";with_reducible exact(ab (by ac_rfl)
   (ab (by ac_rfl)
   (aI (br (cU (aa (by ac_rfl) (aa (Js fy B.f7 eI (aa (fq (N':=["term","numbers"]) (caps:=[none,some 5]) (aY (by ac_nf)) rfl (ib (sv 4)) (fun _ _ _ _ _=>(sgn 0 (by show(["term","numbers"]:List Str).Nodup;decide+kernel))) (fun _ _ _ _ _=>bV) (fun _ _ _ _ _=>(by ac_rfl))) av)) (by ac_rfl))) (af (af (af aC)))))))))
theorem nj(F:dI K "lot_by_numbers" "lot_by_numbers" eT f fd)(B:Bs P w K mg)(d2:jq P w K mg base):aX P w K mg base de 2 f fd eX (dJ K 2 ck):=
 (au F et fun _ _ _ _ _ _ hr _=>by walk_at "v";with_reducible exact(ab (D0 2 3 et.nd (af (af aC)) rfl (by decide) (by with_unfolding_all exact(o6 rfl et.nd rfl rfl (by decide) rfl rfl (aa (gR d2 hr (aa (six hr (sv 0) bt) (aa (sv 1) av))) (aa (gR d2 hr (aa (six hr (sv 0) bt) (aa (sv 1) av))) av)) rfl)))
   (by ac_rfl)))
theorem zw(F:dI K "lot_done" "lot_done" lT f fd)(B:Bs P w K mg)(d13:cD P w K mg base)(d28:iL P w K mg base)(d10:f9 P w K mg base)(d22:gb P w K mg base)(d20:p5 P w K mg base):aX P w K mg base de 6 f fd mr (dJ K 4 gO):=
 (au F yT fun _ _ _ _ _ _ hr _=>by walk_at "u")
theorem Hi(F:dI K "takes" "takes" wW f fd)(B:Bs P w K mg):aX P w K mg base de 1 f fd xy (dJ K 2 ox):=
 (au F Gm fun _ _ _ _ _ _ hr _=>by walk_at "v";with_reducible exact(aI (br (lP (AR (Hb hr.units) (sv 0) (cO 9 (by ac_nf)) (by ac_nf)) (jO (by ac_rfl))))))
theorem BB(F:dI K "gone_on" "gone_on" oP f fd)(B:Bs P w K mg)(d13:cD P w K mg base)(d15:oj P w K mg base)(d27:kF P w K mg base)(d29:tW P w K mg base)(d30:DN P w K mg base)(d22:gb P w K mg base):aX P w K mg base de 7 f fd pB (dJ K 4 bS):=
 (au F AY fun _ _ _ _ _ _ hr _=>by walk_at "u")
theorem qL(F:dI K "scene_behind" "scene_behind" gn f fd)(B:Bs P w K mg)(d31:wu P w K mg base)(d18:gJ P w K mg base):aX P w K mg base de 8 f fd gz (dJ K 3 cY):=
 (au F qB fun _ _ _ _ _ _ hr _=>by walk_at "u")
theorem Bw(F:dI K "stepped" "stepped" oJ f fd)(B:Bs P w K mg)(d26:Av P w K mg base)(d32:tZ P w K mg base)(d33:kB P w K mg base):aX P w K mg base de 9 f fd pf (dJ K 3 cK):=
 (au F AS fun _ _ _ _ _ _ hr _=>by walk_at "v";with_reducible exact(ab (dR (by ac_rfl) (aI FY) cz)
   (by ac_rfl)))
theorem xK(F:dI K "_law_both" "_law_both" jX f fd)(B:Bs P w K mg)(d34:pY P w K mg base)(d25:yA P w K mg base):aX P w K mg base de 10 f fd kl (dJ K 4 dc):=
 (au F wR fun _ _ _ _ _ _ hr _=>by walk_at "u")
theorem Nz(F:dI K "law" "law" p7 f fd)(B:Bs P w K mg)(d35:oq P w K mg base)(d49:kG P w K mg base)(d38:dz P w K mg base)(d50:qu P w K mg base)(d19:DO P w K mg base)(d25:yA P w K mg base)(d51:jC P w K mg base)(d52:qy P w K mg base)(d34:pY P w K mg base):aX P w K mg base de 28 f fd LC (dJ K 1 DQ):=
 (au F oH fun _ _ _ _ _ _ hr _=>by walk_at "v";with_reducible exact(ab (by ac_rfl)
   (ab (en Vl rfl (b9 (by unfold Gl;ac_nf) B.dw (by ac_rfl) (hl:=(af aC))) (by ac_rfl) (ab (sset 3 oH.nd (gR d49 hr (aa (sv 1) (aa (gR d38 hr (aa (sv 1) (aa (cO 9 (by ac_nf)) av))) (aa (gR d38 hr (aa (sv 1) (aa (cO 9 (by ac_nf)) av))) av)))))
   (ab (by ac_rfl)
   (ab (by ac_rfl)
   (aI (en Vl rfl (b9 (by unfold Gl;ac_nf) B.dw (by ac_rfl) (hl:=(af aC))) (by ac_rfl) (ab (by ac_rfl)
   (ab (dR (rQ (Nl hr.units) (sv 7) (by ac_rfl) (pG _)) (aI FZ) cz)
   (ab (D0 8 9 oH.nd (af (af aC)) rfl (by decide) (by with_unfolding_all exact(o6 rfl oH.nd rfl rfl (by decide) rfl rfl (aa (gR d38 hr (aa (sv 1) (aa (sv 7) av))) (aa (gR d38 hr (aa (sv 1) (aa (sv 7) av))) av)) rfl)))
   (ab (dR (by ac_rfl) (ab (D0 10 11 oH.nd (af (af aC)) rfl (by decide) (by with_unfolding_all exact(o6 rfl oH.nd rfl rfl (by decide) rfl rfl (aa (gR d52 hr (aa (sv 3) (aa (sv 5) (aa (sv 8) (aa (sv 9) av))))) (aa (gR d52 hr (aa (sv 3) (aa (sv 5) (aa (sv 9) (aa (sv 8) av))))) av)) rfl)))
   (aI (dR (SW.st (FV (by ac_rfl) (FV (by ac_rfl) (FU (rQ (Bu hr.units) (sv 10) (cU (aa (by ac_rfl) (aa (Jq (by ac_rfl) (by ac_rfl)) av)) (af (af aC))) (pG _)))))) (by ac_rfl) cz))) cz)
   (by ac_rfl)))))))))))
   (by ac_rfl))))
end
theorem gH:Hd.freeOk view (["SHAPES"]:List Str) ["abs","any","bool","dict","enumerate","int","isinstance","len","list","max","min","range","sorted","tuple","zip"]=true:=by decide+kernel
abbrev Rc(x:Str)(s:Stmt):Prop:=(recsOf view).find? (fun e=>e.name==x)=some (Hd.vn x s)
theorem sF:Rc "_law_drawn" i0:=by ac_nf
theorem uA:Rc "_law_load" jV:=by ac_nf
theorem uy:Rc "_law_next" jT:=by ac_nf
theorem zf:Rc "_law_of" oQ:=by ac_nf
theorem sE:Rc "_law_words" iZ:=by ac_nf
theorem sD:Rc "_law_world" iY:=by ac_nf
theorem qH:Rc "_law_is_odd" ig:=by ac_nf
theorem ux:Rc "_law_term" jS:=by ac_nf
theorem uB:Rc "_law_call" jW:=by ac_nf
theorem uz:Rc "_law_lock" jU:=by ac_nf
theorem xm:Rc "_law_lot" lZ:=by ac_nf
theorem xl:Rc "_law_row" lY:=by ac_nf
theorem qG:Rc "_law_locked" ie:=by ac_nf
theorem mY:Rc "_law_two_ways" fF:=by ac_nf
theorem oZ:Rc "_law_program" gv:=by ac_nf
theorem uw:Rc "_law_town" jR:=by ac_nf
theorem oY:Rc "deed_numbers" gu:=by ac_nf
theorem zc:Rc "lots_of" oN:=by ac_nf
theorem Bg:Rc "lot_on" rZ:=by ac_nf
theorem Be:Rc "row_on" rX:=by ac_nf
theorem mX:Rc "stands_at_end" fE:=by ac_nf
theorem Bi:Rc "behind" se:=by ac_nf
theorem sx:Rc "path_stood" iU:=by ac_nf
theorem zb:Rc "rows_in" oM:=by ac_nf
theorem oW:Rc "frames_stood" gq:=by ac_nf
theorem Eh:Rc "begun" wY:=by ac_nf
theorem xf:Rc "row_here" lR:=by ac_nf
theorem oV:Rc "row_stood_at" gp:=by ac_nf
theorem xi:Rc "locks_of" lV:=by ac_nf
theorem sy:Rc "numbers_in" iV:=by ac_nf
theorem xc:Rc "value_of" lQ:=by ac_nf
theorem sA:Rc "locks_told" iW:=by ac_nf
theorem zd:Rc "held_by" oO:=by ac_nf
theorem Ee:Rc "waits" wV:=by ac_nf
theorem sC:Rc "choices_of" iX:=by ac_nf
theorem Eg:Rc "moves" wX:=by ac_nf
theorem xg:Rc "paths_in" lS:=by ac_nf
theorem uv:Rc "places_of" jQ:=by ac_nf
theorem Bf:Rc "row_at" rY:=by ac_nf
theorem za:Rc "rows_of" oK:=by ac_nf
theorem mZ:Rc "_law_is_quiet" fG:=by ac_nf
theorem xj:Rc "is_whole" lW:=by ac_nf
theorem qF:Rc "is_tuple_of" ic:=by ac_nf
theorem Bh:Rc "can_be" r8:=by ac_nf
theorem xk:Rc "event_of" lX:=by ac_nf
theorem oX:Rc "frame_called" gr:=by ac_nf
theorem mh:Rc "lot_by_numbers" eT:=by ac_nf
theorem xh:Rc "lot_done" lT:=by ac_nf
theorem Ef:Rc "takes" wW:=by ac_nf
theorem ze:Rc "gone_on" oP:=by ac_nf
theorem oU:Rc "scene_behind" gn:=by ac_nf
theorem y9:Rc "stepped" oJ:=by ac_nf
theorem uC:Rc "_law_both" jX:=by ac_nf
theorem Jw:Rc "law" p7:=by ac_nf
theorem all_mk{l:PySem.W.OpenLaw}{w:World}{h:Heap}{mg mb:Str->Option Value}{mean:ExcName->Option Value}(T:Top view (PySem.W.looseW view (["SHAPES"]:List Str)) mean mg mb h)
  (Y_SHAPES:Hd.tabAt h "SHAPES"=some (kM.map fun x=>(x.1,hashStr w x.1,x.2)))
  (hF:∀ns:List Int,ns.length≤63->∃h',DQ [.ro (ns.map D.int)] []=some (.bl true,h')):
  ∃(fa:Addr)(fd:FuncData),mg "law"=some (.ref fa)∧(∀(s:Shared)(v:Value),BindsTo s fd ⟨[v],[]⟩ [("_law_script",v)])∧∀base:Heap,(Hd.aU h).In base->base.Ns mainGlobals mg->aX l.prog w (Hd.aU h) mg base de 28 fa fd ["_law_script"] (spT (Hd.aU h)):=by
 have B:Bs l.prog w (Hd.aU h) mg:=⟨Hd.cB T gH (Ul (i:=0) rfl),Hd.cB T gH (Ul (i:=1) rfl),Hd.cB T gH (Ul (i:=2) rfl),Hd.cB T gH (Ul (i:=3) rfl),Hd.cB T gH (Ul (i:=4) rfl),Hd.cB T gH (Ul (i:=5) rfl),Hd.cB T gH (Ul (i:=6) rfl),Hd.cB T gH (Ul (i:=7) rfl),Hd.cB T gH (Ul (i:=8) rfl),Hd.cB T gH (Ul (i:=9) rfl),Hd.cB T gH (Ul (i:=10) rfl),Hd.cB T gH (Ul (i:=11) rfl),Hd.cB T gH (Ul (i:=12) rfl),Hd.cB T gH (Ul (i:=13) rfl),Hd.cB T gH (Ul (i:=14) rfl),Hd.tab_of Y_SHAPES T.g (by decide+kernel)⟩;obtain⟨f11,fd11,m11,F11⟩:=Hd.vS T xm;have k11:=F11.kp;have b11:=F11.binds (ps:=eZ) fun _ _ _ _ _ _=>Hd.u7 (fun _ _ _ _ _ _ _=>rfl);obtain⟨f12,fd12,m12,F12⟩:=Hd.vS T xl;have k12:=F12.kp;have b12:=F12.binds (ps:=eY) fun _ _ _ _ _ _=>Hd.u6 (fun _ _ _ _ _ _=>rfl);obtain⟨f13,fd13,m13,F13⟩:=Hd.vS T qG;have k13:=F13.kp;have b13:=F13.binds (ps:=cJ) fun _ _ _ _ _ _=>Hd.u7 (fun _ _ _ _ _ _ _=>rfl);obtain⟨f14,fd14,m14,F14⟩:=Hd.vS T mY;have k14:=F14.kp;have b14:=F14.binds (ps:=bR) fun _ _ _ _ _ _=>Hd.u6 (fun _ _ _ _ _ _=>rfl);obtain⟨f54,fd54,m54,F54⟩:=Hd.vS T Jw;refine⟨f54,fd54,m54,F54.one fun _ _ _ _ _ _ _=>rfl,fun base _ _=>?_⟩;have d35:oq l.prog w (Hd.aU h) mg base:=Hd.aW T sF (fun F=>F.binds fun _ _ _ _ _ _=>Hd.u1 (fun _=>rfl)) fun F _ _ _=>uL F B;have d36:qw l.prog w (Hd.aU h) mg base:=Hd.aW T uA (fun F=>F.binds fun _ _ _ _ _ _=>Hd.u1 (fun _=>rfl)) fun F _ _ _=>xI F B;have d37:bY l.prog w (Hd.aU h) mg base:=Hd.aW T uy (fun F=>F.binds fun _ _ _ _ _ _=>Hd.u2 (fun _ _=>rfl)) fun F _ _ _=>xG F B d36;have d38:dz l.prog w (Hd.aU h) mg base:=Hd.aW T zf (fun F=>F.binds fun _ _ _ _ _ _=>Hd.u2 (fun _ _=>rfl)) fun F _ _ _=>BC F B d37;have d39:oo l.prog w (Hd.aU h) mg base:=Hd.aW T sE (fun F=>F.binds fun _ _ _ _ _ _=>Hd.u2 (fun _ _=>rfl)) fun F _ _ _=>uK F B d38 d37;have d40:om l.prog w (Hd.aU h) mg base:=Hd.aW T sD (fun F=>F.binds fun _ _ _ _ _ _=>Hd.u3 (fun _ _ _=>rfl)) fun F _ _ _=>uJ F B d39 d38 d37;have d41:iy l.prog w (Hd.aU h) mg base:=Hd.aW T qH (fun F=>F.binds fun _ _ _ _ _ _=>Hd.u2 (fun _ _=>rfl)) fun F _ _ _=>sS F B d37;have d42:g9 l.prog w (Hd.aU h) mg base:=Hd.aW T ux (fun F=>F.binds fun _ _ _ _ _ _=>Hd.u2 (fun _ _=>rfl)) fun F _ _ _=>xF F B d37 d38;have d44:qx l.prog w (Hd.aU h) mg base:=Hd.aW T uB (fun F=>F.binds fun _ _ _ _ _ _=>Hd.u4 (fun _ _ _ _=>rfl)) fun F _ _ _=>xJ F B d41 d38 d42;have d43:qv l.prog w (Hd.aU h) mg base:=Hd.aW T uz (fun F=>F.binds fun _ _ _ _ _ _=>Hd.u5 (fun _ _ _ _ _=>rfl)) fun F _ _ _=>xH F B d37 d41 d42;have okr:=CY (P:=l.prog) (w:=w) (base:=base) F11 k11 b11 m11 F12 k12 b12 m12 F13 k13 b13 m13 F14 k14 b14 m14 B d37 d38 d44 d42 d43 20;have d48:t5 l.prog w (Hd.aU h) mg base:=⟨f11,_,okr.1,k11,b11,m11⟩;have d47:Cn l.prog w (Hd.aU h) mg base:=⟨f12,_,okr.2.1,k12,b12,m12⟩;have d46:uV l.prog w (Hd.aU h) mg base:=⟨f13,_,okr.2.2.1,k13,b13,m13⟩;have d45:qY l.prog w (Hd.aU h) mg base:=⟨f14,_,okr.2.2.2,k14,b14,m14⟩;have d49:kG l.prog w (Hd.aU h) mg base:=Hd.aW T oZ (fun F=>F.binds fun _ _ _ _ _ _=>Hd.u3 (fun _ _ _=>rfl)) fun F _ _ _=>qQ F B d40 d48 d38;have d50:qu l.prog w (Hd.aU h) mg base:=Hd.aW T uw (fun F=>F.binds fun _ _ _ _ _ _=>Hd.u3 (fun _ _ _=>rfl)) fun F _ _ _=>xE F B d37 d38;have d8:gK l.prog w (Hd.aU h) mg base:=Hd.aW T oY (fun F=>F.binds fun _ _ _ _ _ _=>Hd.u1 (fun _=>rfl)) fun F _ _ _=>qP F B;have d3:p4 l.prog w (Hd.aU h) mg base:=Hd.aW T zc (fun F=>F.binds fun _ _ _ _ _ _=>Hd.u1 (fun _=>rfl)) fun F _ _ _=>Bz F B;have d11:Au l.prog w (Hd.aU h) mg base:=Hd.aW T Bg (fun F=>F.binds fun _ _ _ _ _ _=>Hd.u2 (fun _ _=>rfl)) fun F _ _ _=>EC F B d3;have d12:tU l.prog w (Hd.aU h) mg base:=Hd.aW T Be (fun F=>F.binds fun _ _ _ _ _ _=>Hd.u2 (fun _ _=>rfl)) fun F _ _ _=>EA F B d11;have d16:jB l.prog w (Hd.aU h) mg base:=Hd.aW T mX (fun F=>F.binds fun _ _ _ _ _ _=>Hd.u2 (fun _ _=>rfl)) fun F _ _ _=>pD F B;have d15:oj l.prog w (Hd.aU h) mg base:=Hd.aW T Bi (fun F=>F.binds fun _ _ _ _ _ _=>Hd.u1 (fun _=>rfl)) fun F _ _ _=>EE F B;have d17:oh l.prog w (Hd.aU h) mg base:=Hd.aW T sx (fun F=>F.binds fun _ _ _ _ _ _=>Hd.u2 (fun _ _=>rfl)) fun F _ _ _=>uF F B d12 d16 d15;have d9:pZ l.prog w (Hd.aU h) mg base:=Hd.aW T zb (fun F=>F.binds fun _ _ _ _ _ _=>Hd.u2 (fun _ _=>rfl)) fun F _ _ _=>By F B;have d18:gJ l.prog w (Hd.aU h) mg base:=Hd.aW T oW (fun F=>F.binds fun _ _ _ _ _ _=>Hd.u2 (fun _ _=>rfl)) fun F _ _ _=>qN F B d17 d9 d15;have d19:DO l.prog w (Hd.aU h) mg base:=Hd.aW T Eh (fun F=>F.binds fun _ _ _ _ _ _=>Hd.u2 (fun _ _=>rfl)) fun F _ _ _=>Hk F B d8 d18;have d13:cD l.prog w (Hd.aU h) mg base:=Hd.aW T xf (fun F=>F.binds fun _ _ _ _ _ _=>Hd.u2 (fun _ _=>rfl)) fun F _ _ _=>zv F B d12 d9;have d14:kC l.prog w (Hd.aU h) mg base:=Hd.aW T oV (fun F=>F.binds fun _ _ _ _ _ _=>Hd.u3 (fun _ _ _=>rfl)) fun F _ _ _=>qM F B d13;have d4:tX l.prog w (Hd.aU h) mg base:=Hd.aW T xi (fun F=>F.binds fun _ _ _ _ _ _=>Hd.u1 (fun _=>rfl)) fun F _ _ _=>zx F B;have d10:f9 l.prog w (Hd.aU h) mg base:=Hd.aW T sy (fun F=>F.binds fun _ _ _ _ _ _=>Hd.u2 (fun _ _=>rfl)) fun F _ _ _=>uG F B;have d2:jq l.prog w (Hd.aU h) mg base:=Hd.aW T xc (fun F=>F.binds fun _ _ _ _ _ _=>Hd.u2 (fun _ _=>rfl)) fun F _ _ _=>zu F B;have d22:gb l.prog w (Hd.aU h) mg base:=Hd.aW T sA (fun F=>F.binds fun _ _ _ _ _ _=>Hd.u2 (fun _ _=>rfl)) fun F _ _ _=>uH F B d4 d13 d10 d2;have d20:p5 l.prog w (Hd.aU h) mg base:=Hd.aW T zd (fun F=>F.binds fun _ _ _ _ _ _=>Hd.u2 (fun _ _=>rfl)) fun F _ _ _=>BA F B;have d23:DM l.prog w (Hd.aU h) mg base:=Hd.aW T Ee (fun F=>F.binds fun _ _ _ _ _ _=>Hd.u3 (fun _ _ _=>rfl)) fun F _ _ _=>Hh F B d14 d22 d20;have d24:jr l.prog w (Hd.aU h) mg base:=Hd.aW T sC (fun F=>F.binds fun _ _ _ _ _ _=>Hd.u3 (fun _ _ _=>rfl)) fun F _ _ _=>uI F B d13 d23;have d25:yA l.prog w (Hd.aU h) mg base:=Hd.aW T Eg (fun F=>F.binds fun _ _ _ _ _ _=>Hd.u2 (fun _ _=>rfl)) fun F _ _ _=>Hj F B d24;have d5:tV l.prog w (Hd.aU h) mg base:=Hd.aW T xg (fun F=>F.binds fun _ _ _ _ _ _=>Hd.u2 (fun _ _=>rfl)) fun F k b m=>qg F B k b m d3 10;have d6:kE l.prog w (Hd.aU h) mg base:=Hd.aW T uv (fun F=>F.binds fun _ _ _ _ _ _=>Hd.u1 (fun _=>rfl)) fun F _ _ _=>xD F B d5;have d21:As l.prog w (Hd.aU h) mg base:=Hd.aW T Bf (fun F=>F.binds fun _ _ _ _ _ _=>Hd.u3 (fun _ _ _=>rfl)) fun F _ _ _=>EB F B d13 d6;have d7:wt l.prog w (Hd.aU h) mg base:=Hd.aW T za (fun F=>F.binds fun _ _ _ _ _ _=>Hd.u1 (fun _=>rfl)) fun F _ _ _=>Bx F B d6;have d51:jC l.prog w (Hd.aU h) mg base:=Hd.aW T mZ (fun F=>F.binds fun _ _ _ _ _ _=>Hd.u3 (fun _ _ _=>rfl)) fun F _ _ _=>pE F B d21 d7;have d0:tY l.prog w (Hd.aU h) mg base:=Hd.aW T xj (fun F=>F.binds fun _ _ _ _ _ _=>Hd.u1 (fun _=>rfl)) fun F _ _ _=>zy F B;have d1:lL l.prog w (Hd.aU h) mg base:=Hd.aW T qF (fun F=>F.binds fun _ _ _ _ _ _=>Hd.u2 (fun _ _=>rfl)) fun F _ _ _=>sR F B;have d26:Av l.prog w (Hd.aU h) mg base:=Hd.aW T Bh (fun F=>F.binds fun _ _ _ _ _ _=>Hd.u3 (fun _ _ _=>rfl)) fun F _ _ _=>ED F B d0 d1 d24;have d32:tZ l.prog w (Hd.aU h) mg base:=Hd.aW T xk (fun F=>F.binds fun _ _ _ _ _ _=>Hd.u3 (fun _ _ _=>rfl)) fun F _ _ _=>zA F B d13;have d27:kF l.prog w (Hd.aU h) mg base:=Hd.aW T oX (fun F=>F.binds fun _ _ _ _ _ _=>Hd.u2 (fun _ _=>rfl)) fun F _ _ _=>qO F B d13 d10 d2 d8;have d28:iL l.prog w (Hd.aU h) mg base:=Hd.aW T mh (fun F=>F.binds fun _ _ _ _ _ _=>Hd.u2 (fun _ _=>rfl)) fun F _ _ _=>nj F B d2;have d29:tW l.prog w (Hd.aU h) mg base:=Hd.aW T xh (fun F=>F.binds fun _ _ _ _ _ _=>Hd.u4 (fun _ _ _ _=>rfl)) fun F _ _ _=>zw F B d13 d28 d10 d22 d20;have d30:DN l.prog w (Hd.aU h) mg base:=Hd.aW T Ef (fun F=>F.binds fun _ _ _ _ _ _=>Hd.u2 (fun _ _=>rfl)) fun F _ _ _=>Hi F B;have d31:wu l.prog w (Hd.aU h) mg base:=Hd.aW T ze (fun F=>F.binds fun _ _ _ _ _ _=>Hd.u4 (fun _ _ _ _=>rfl)) fun F _ _ _=>BB F B d13 d15 d27 d29 d30 d22;have d33:kB l.prog w (Hd.aU h) mg base:=Hd.aW T oU (fun F=>F.binds fun _ _ _ _ _ _=>Hd.u3 (fun _ _ _=>rfl)) fun F _ _ _=>qL F B d31 d18;have d34:pY l.prog w (Hd.aU h) mg base:=Hd.aW T y9 (fun F=>F.binds fun _ _ _ _ _ _=>Hd.u3 (fun _ _ _=>rfl)) fun F _ _ _=>Bw F B d26 d32 d33;have d52:qy l.prog w (Hd.aU h) mg base:=Hd.aW T uC (fun F=>F.binds fun _ _ _ _ _ _=>Hd.u4 (fun _ _ _ _=>rfl)) fun F _ _ _=>xK F B d34 d25;exact Kw (Nz F54 B d35 d49 d38 d50 d19 d25 d51 d52 d34) hF
end Mi
local macro_rules | `(tactic| walk_at $s:str) => let k := s.getString.front;let a := "|Sm.QC|Sm.QH|Sm.Ov|Sm.QE|Sm.QD|Sm.SO|Sm.SN|Sm.SV|Sm.SU|Sm.SR|Sm.Ub|Sm.Uc|Sm.QG|Sm.QF|Sm.Oq|Sm.Ot|Sm.lH|Sm.FN|Sm.GF|Sm.LA|Sm.GJ|Sm.GG|Sm.Lz|Sm.MJ|Sm.PU|Sm.ML|Sm.r_scont|Sm.Bj|Sm.RV|Sm.PV|Sm.Jx|Sm.i7|Sm.CN|Sm.R3|Sm.RZ|Sm.RX|Sm.r_dv|Sm.r_do|Sm.MR|Sm.MF|Sm.MG|Sm.MI|Sm.PN|Sm.P1|Sm.RW|Sm.r_not|Sm.r_sl|Sm.PQ|Sm.PR|Sm.El|Sm.MP|Sm.iF|Sm.xo|Sm.PZ|Sm.MQ|Sm.Sl|Sm.Sn|Sm.Rw|Sm.Rx|Sm.t_ct|Sm.Su|Sm.l_ct|Sm.Sv|Sm.Ss|Sm.ME|Sm.PY";if k != 'o' && k != 'g' && k != 'r' then Lean.Macro.throwUnsupported else do {let t ← (((if k == 'r' then a ++ "|Sm.O5|Sm.O7|Sm.w_add|Sm.w_sub|Sm.w_lt|Sm.w_le|Sm.Rq|Sm.Rr|Sm.Pc|Sm.w_neI|Sm.Pb|Sm.w_neS|Sm.Pa|Sm.O9|Sm.O8|Sm.w_lenT|Sm.L0|Sm.xp" else a).splitOn "|").drop 1).toArray.mapM (fun n => `(Lean.Parser.Tactic.tacticSeq| refine $(Lean.mkIdent n.toName) ?_));if k == 'o' then `(tactic| with_reducible first $[| $t]*) else `(tactic|((repeat with_reducible first $[| $t]*);(try dsimp only)))}
namespace Mi
open PySem Sm
theorem md(hb:0 < b)(q:Q (.int (a % b),h)):Rn (tx (.int a) (.int b) h) Q:=⟨_,by unfold tx;dsimp only;rw[Ut hb],q⟩
theorem My(hb:0 < b)(hb2:b≤10^40)(q:Q (.int (a / b),h)):Rn (HP (.int a) (.int b) h) Q:=⟨_,by unfold HP;dsimp only;rw[Ut ⟨hb,hb2⟩],q⟩
theorem oR(hb:nv a b=true)(q:Q (.int (a*b),h)):Rn (kr (.int a) (.int b) h) Q:=⟨_,by show(if nv a b then _ else _)=_;rw[Ut hb],q⟩
theorem mul_r(h1:-(2^64) < b)(h2:b < 2^64):nv a b=true:=by unfold nv;simp only[VZ,UJ,Vc];exact .inr ⟨h1,h2⟩
theorem Ho(h1:-(2^64) < a)(h2:a < 2^64):nv a b=true:=by unfold nv;simp only[VZ,UJ,Vc];exact .inl ⟨h1,h2⟩
theorem EN{h:MH}{s c:Nat}{cs:List Int}{n t:Int}(hs:h[s]?=some (.lst [.int n,.ob c,.int t]))(hc:h[c]?=some (.lst (cs.map D.int)))(ne:c≠s)(t0:0≤t)(tB:t < 2^60):
  Rn (hW [.ob s] h) fun p=>∃n',0≤n'∧p=(.bz,h.set s (.lst [.int n',.ob c,.int (t+1)])):=by
 have hl:s < h.length:=(Ui.mp hs).1;generalize hH:h.set s (.lst [.int n,.ob c,.int (t+1)])=H;have Hs:H[s]?=some (.lst [.int n,.ob c,.int (t+1)]):=by rw[←hH];exact Vs hl
 have Hc:H[c]?=some (.lst (cs.map D.int)):=by rw[←hH,Vf (VA ne)];exact hc
 have set0:∀v:Int,uS (.ob s) (.int 0) (.int v) H=some (h.set s (.lst [.int v,.ob c,.int (t+1)])):=fun v=>by
  rw[xZ (p:=0) Hs rfl,←hH,List.set_set];rfl
 have e3:uS (.ob s) (.int 2) (.int (t+1)) h=some H:=by rw[xZ (p:=2) hs rfl,←hH];rfl
 have e4:cX [.ob c] H=some (.int cs.length,H):=by rw[Ds Hc,Uh]
 refine aZ ?_;walk_at "g";refine rv (kz hs rfl) ?_;walk_at "g";refine rv (kz hs rfl) ?_;walk_at "g";refine rv rfl ?_;walk_at "g";refine rv e3 ?_;walk_at "g";refine rv (E8 Hc) ⟨_,rfl,fun hne=>?pos,fun hne=>?neg⟩
 case' pos=>
  have hpos:0 < cs.length:=by cases cs with | nil=>simp at hne | cons _ _=>simp
  walk_at "g";refine rv e4 (md (by lia) ?_);obtain⟨z,hz⟩:=IC cs (t % (cs.length:Int)) (VF _ (by lia)) (VP _ (by lia));refine rv (kz Hc hz) ?_
 all_goals
  walk_at "g";refine rv e4 (rv rfl ⟨_,rfl,?_⟩);refine(fun mix=>⟨fun c1=>?thenA,fun _=>⟨fun z=>(nomatch z),fun _=>mix⟩⟩) ?thenB
  case thenA=>
   walk_at "g";refine rv rfl ?_;walk_at "g";refine rv rfl (rv rfl ⟨_,rfl,fun c2=>?_,fun _=>mix⟩);walk_at "g";refine rv rfl ?_;walk_at "g";refine rv (set0 _) ?_;walk_at "g";exact⟨_,by split <;> lia,rfl⟩
  case thenB=>
   walk_at "g";refine md (by decide) ?_;walk_at "g";refine oR (Ho (by decide) (by decide)) ?_;walk_at "g";refine oR (mul_r (by lia) (by lia)) (rv rfl ?_);walk_at "g";refine rv rfl ?_;walk_at "g";refine oR (mul_r (by decide) (by decide)) ?_;walk_at "g";refine md (by decide) ?_;walk_at "g";refine oR (Ho (Int.lt_of_lt_of_le (by decide) (VF _ (by decide))) (Int.lt_trans (VP _ (by decide)) (by decide))) ?_;walk_at "g";refine md (by decide) ?_;walk_at "g";refine oR (mul_r (by decide) (by decide)) ?_;walk_at "g";refine rv rfl ?_;walk_at "g";refine rv rfl ?_;walk_at "g";refine md (by decide) ?_;walk_at "g";refine rv rfl (rv rfl ?_);walk_at "g";refine rv (set0 _) ?_;walk_at "g";exact⟨_,Int.add_nonneg (VF _ (by decide)) (by decide),rfl⟩
structure St(s c:Nat)(cs:List Int)(R:Nat)(h:MH):Prop where
 st:∃n t:Int,h[s]?=some (.lst [.int n,.ob c,.int t])∧0≤n∧0≤t∧t+R≤2^60
 ce:h[c]?=some (.lst (cs.map D.int))
 ne:c≠s
def uc(s:Nat)(h h':MH):Prop:=h'.length=h.length∧∀k,k≠s->h'[k]?=h[k]?
theorem uc.refl(s:Nat)(h:MH):uc s h h:=⟨rfl,fun _ _=>rfl⟩
theorem uc.trans(a:uc s h h1)(b:uc s h1 h2):uc s h h2:=⟨b.1.trans a.1,fun k n=>(b.2 k n).trans (a.2 k n)⟩
theorem uc.set:uc s h (h.set s o):=⟨VY,fun k n=>Vf (VA n)⟩
section
variable {s c R:Nat} {cs:List Int} {h:MH}
theorem St.le(S:St s c cs R h)(hB:R'≤R):St s c cs R' h:=by
 obtain⟨n,t,e,a,b,d⟩:=S.st;exact⟨⟨n,t,e,a,b,by lia⟩,S.ce,S.ne⟩
theorem St.dn(k:Nat)(S:St s c cs (R+k) h):St s c cs R h:=S.le (Vd _ _)
theorem St.set{R':Nat}{n t:Int}(S:St s c cs R h)(h1:0≤n)(h2:0≤t)(h3:t+R'≤2^60):St s c cs R' (h.set s (.lst [.int n,.ob c,.int t])):=by
 obtain⟨n0,t0,e,_⟩:=S.st;exact⟨⟨n,t,Vs (Ui.mp e).1,h1,h2,h3⟩,by rw[Vf (VA S.ne)];exact S.ce,S.ne⟩
theorem St.more(S:St s c cs R h)(g:MH):St s c cs R (h++g):=by
 obtain⟨n,t,e,r⟩:=S.st;exact⟨⟨n,t,by rw[UG (Ui.mp e).1];exact e,r⟩,by rw[UG (Ui.mp S.ce).1];exact S.ce,S.ne⟩
theorem St.off(S:St s c cs R h)(h1:k≠s)(h2:k≠c):St s c cs R (h.set k o):=by
 obtain⟨n,t,e,r⟩:=S.st;exact⟨⟨n,t,by rw[Vf h1];exact e,r⟩,by rw[Vf h2];exact S.ce,S.ne⟩
theorem St.lt(S:St s c cs R h):s < h.length∧c < h.length:=by
 obtain⟨n,t,e,r⟩:=S.st;exact⟨(Ui.mp e).1,(Ui.mp S.ce).1⟩
structure Sb(s c:Nat)(cs:List Int)(h0:MH)(R:Nat)(h:MH):Prop where
 S:St s c cs R h
 b:uc s h0 h
theorem St.sb(S:St s c cs R h):Sb s c cs h R h:=⟨S,uc.refl _ _⟩
theorem Sb.dn(k:Nat)(A:Sb s c cs h0 (R+k) h):Sb s c cs h0 R h:=⟨A.S.dn k,A.b⟩
theorem Sb.le(A:Sb s c cs h0 R h)(hR:R'≤R):Sb s c cs h0 R' h:=⟨A.S.le hR,A.b⟩
theorem Sb.at_(A:Sb s c cs h0 R h)(e:h0[k]?=some o)(n:k≠s):h[k]?=some o:=(A.b.2 k n).trans e
variable {h0:MH}
theorem eG{m:Int}{Q:D×MH->Prop}(A:Sb s c cs h0 (R+1) h)(m0:0 < m)(m1:m≤10^40)(k:∀(r:Int)(h1:MH),0≤r->r < m->Sb s c cs h0 R h1->Q (.int r,h1)):Rn (aH [.ob s,.int m] h) Q:=by
 have S:=A.S;obtain⟨n,t,hs,n0,t0,tB⟩:=S.st;refine aZ ?_;walk_at "g";refine rv (kz hs rfl) ?_;walk_at "g";refine rv rfl ⟨_,rfl,fun _=>?pos,fun _=>?neg⟩
 case' pos=>
  walk_at "g";obtain⟨p,ep,n',n0',rfl⟩:=EN hs S.ce S.ne t0 (by lia);refine rv ep ?_;have S1:St s c cs R (h.set s (.lst [.int n',.ob c,.int (t+1)])):=S.set n0' (by lia) (by lia);have b1:uc s h (h.set s (.lst [.int n',.ob c,.int (t+1)])):=uc.set
 case' neg=>
  have S1:St s c cs R h:=S.dn 1;have b1:uc s h h:=uc.refl s h
 all_goals
  generalize h.set s (MO.lst [D.int _,D.ob c,D.int (t+1)])=h1 at*;obtain⟨n2,t2,hs2,n02,t02,tB2⟩:=S1.st;walk_at "g";refine rv (kz hs2 rfl) ?_;walk_at "g";refine md m0 ?_;walk_at "g";refine rv (kz hs2 rfl) ?_;walk_at "g";refine My m0 m1 ?_;walk_at "g";refine rv (xZ (p:=0) hs2 rfl) ?_;walk_at "g";exact k _ _ (VF _ (by lia)) (VP _ m0) ⟨S1.set (Int.ediv_nonneg n02 (by lia)) t02 tB2,A.b.trans (b1.trans uc.set)⟩
theorem Cc(A:Sb s c cs h0 (R+1) h)(hd:d=.lv xs∨d=.tup xs)(l0:0 < xs.length)(l1:xs.length≤1000000)(k:∀(x:D)(h1:MH),x∈xs->Sb s c cs h0 R h1->Q (x,h1)):Rn (aB [.ob s,d] h) Q:=by
 refine aZ ?_;walk_at "g";have e1:cX [d] h=some (.int xs.length,h):=by rcases hd with rfl | rfl <;> rfl
 refine rv e1 ?_;walk_at "g";refine eG A (by lia) (by lia) fun r h' r0 r1 A1=>?_;obtain⟨v,e3,hv⟩:=IB r0 r1;have e4:aE d (.int r) h'=some (v,h'):=by rcases hd with rfl | rfl <;> simp only[aE,dY,cT,UT,e3,U4]
 refine rv e4 ?_;walk_at "g";exact k v h' hv A1
theorem jA{is:List Int}{Q:D×MH->Prop}(P:Int->Prop)(hP:∀i∈is,P i)(A:Sb s c cs h0 (R+1) h)(k:∀(i:Int)(h1:MH),P i->i∈is->Sb s c cs h0 R h1->Q (.int i,h1))(l0:0 < is.length:=by simp)(l1:is.length≤1000:=by simp):Rn (aB [.ob s,.lv (is.map D.int)] h) Q:=
 Cc A (.inl rfl) (by rw[Uh];exact l0) (by rw[Uh];lia) fun x h1 hx A1=>by
  obtain⟨i,hi,rfl⟩:=UR.mp hx;exact k i h1 (hP i hi) hi A1
end
theorem B1(ns:List Int)(hn:ns.length≤63)(R:Nat)(hR:R≤2^60):∃cs:List Int,eQ [.ro (ns.map D.int)] []=some (.ob 1,[.lst (cs.map D.int),.lst [.int 0,.ob 0,.int 0]])∧St 1 0 cs R [.lst (cs.map D.int),.lst [.int 0,.ob 0,.int 0]]:=by
 refine⟨(ns.drop (HT.b8 ns.length 0 none)).take (HT.b8 ns.length ns.length (some 63)-HT.b8 ns.length 0 none),?_,⟨⟨0,0,rfl,by decide,by decide,by lia⟩,rfl,by decide⟩⟩;have e:Rn (eQ [.ro (ns.map D.int)] []) fun p=>p=(.ob 1,[.lst (((ns.drop (HT.b8 ns.length 0 none)).take (HT.b8 ns.length ns.length (some 63)-HT.b8 ns.length 0 none)).map D.int),.lst [.int 0,.ob 0,.int 0]]):=by
  refine aZ ?_;walk_at "g";refine GI ?_;walk_at "g";refine⟨_,rfl,rv rfl ?_⟩;walk_at "g";refine⟨_,_,_,rfl,rfl,?_⟩;walk_at "g";simp only[cutD,Uh,YD,XW,Vx,Yi,List.cons_append,Uw]
 obtain⟨p,ep,rfl⟩:=e;exact ep
end Mi
namespace Mi
open PySem Sm L2
theorem pS(hl:a.length+b.length≤10000):aN (.str a) (.str b) h=some (.str (a++b),h):=by
 show(if a.length+b.length≤sizeLine then some (D.str (a++b),h) else none)=_;rw[Ut (by rw[show sizeLine=16777216 from rfl];lia)]
theorem HK(hl:a.length≤10000):cX [.str a] h=some (.int a.length,h):=by
 show(if a.length≤sizeLine then some (D.int a.length,h) else none)=_;rw[Ut (by rw[show sizeLine=16777216 from rfl];lia)]
theorem z7(hl:a.length≤10000):pR (.str a) lo hi h=some (.str (Txt.slice a lo hi),h):=by
 show(if a.length≤sizeLine then some (D.str (Txt.slice a lo hi),h) else none)=_;rw[Ut (by rw[show sizeLine=16777216 from rfl];lia)]
noncomputable def tO(z:Str)(i:Int):Str:=match g8 z.cps.toList i with
 | some c=>⟨#[c]⟩
 | none=>""
theorem KQ(hl:z.length≤10000)(h0:0≤i)(h1:i < z.cps.toList.length):(tO z i).length=1∧aE (.str z) (.int i) h=some (.str (tO z i),h):=by
 obtain⟨v,e,_⟩:=IB (xs:=z.cps.toList) h0 h1;have e1:tO z i=⟨#[v]⟩:=by unfold tO;rw[e]
 rw[e1];refine⟨rfl,?_⟩;show(if z.length≤sizeLine then(g8 z.cps.toList i).map fun c=>(D.str ⟨#[c]⟩,h) else none)=_;rw[Ut (by rw[show sizeLine=16777216 from rfl];lia),e];rfl
noncomputable def ft:Str:="abcdefghijklmnopqrstuvwxyz"
theorem mF(h0:0≤i)(h1:i < 26):(tO ft i).length=1∧aE (.str "abcdefghijklmnopqrstuvwxyz") (.int i) h=some (.str (tO ft i),h):=
 KQ (z:=ft) (by decide) h0 (by rw[show(ft.cps.toList.length:Int)=26 by decide];exact h1)
def low(w:Str):Prop:=∀c∈w.cps,97≤c∧c≤122
theorem Ko:low "":=fun c hc=>absurd (show c∈(#[]:Array Nat) from hc) (by simp)
theorem xQ(ha:low a)(hb:low b):low (a++b):=by
 intro c hc;have hc':c∈a.cps++b.cps:=hc;rcases Array.mem_append.mp hc' with z | z
 ·exact ha c z
 ·exact hb c z
theorem vH(l u:Option Int)(h:low x):low (Txt.slice x l u):=by
 unfold Txt.slice
 split
 ·exact h
 ·intro c hc;have hc':c∈(List.filterMap (x.cps[·]?) (Builtin.Str.strSliceIndices l u 1 x.length)).toArray:=hc;rw[List.mem_toArray] at hc';obtain⟨i,_,e⟩:=W4.mp hc';exact h c (XF e)
theorem BM:ft.cps.toList=(List.range 26).map (97+·):=by decide+kernel
theorem yl(h0:0≤i)(h1:i < 26):tO ft i=⟨#[97+i.toNat]⟩:=by
 obtain⟨n,rfl⟩:=VX h0;have:g8 ft.cps.toList (n:Int)=some (97+n):=by
  rw[BM];exact rE (by rw[Ux,WZ (by lia)];rfl)
 unfold tO;rw[this];rfl
theorem Am(h0:0≤i)(h1:i < 26):low (tO ft i):=by
 rw[yl h0 h1];intro c hc;have:c=97+i.toNat:=by simpa using hc
 lia
theorem yP(h0:0≤j):(Txt.slice x none (some j)).length≤j.toNat:=by
 have key:(Builtin.Str.strSliceIndices none (some j) 1 x.length).length≤j.toNat:=by
  unfold Builtin.Str.strSliceIndices sliceRange;simp only[show(1:Int) > 0 by decide,Wy,Uh,UI]
  (split <;> (try split) <;> (try split) <;> (try simp only[YW]) <;> lia)
 unfold Txt.slice
 split
 ·next z=>simp at z;have:x.cps.size=x.length:=rfl;lia
 ·show(List.filterMap _ (Builtin.Str.strSliceIndices none (some j) 1 x.length)).toArray.size≤_;rw[UA];exact UL (Xe _ _) key
theorem yO(h0:0≤j):(Txt.slice x (some j) none).length≤x.length-j.toNat:=by
 have key:(Builtin.Str.strSliceIndices (some j) none 1 x.length).length≤x.length-j.toNat:=by
  unfold Builtin.Str.strSliceIndices sliceRange;simp only[show(1:Int) > 0 by decide,Wy,Uh,UI]
  (split <;> (try split) <;> (try split) <;> (try simp only[YW]) <;> lia)
 unfold Txt.slice
 split
 ·next z=>simp at z;have:x.cps.size=x.length:=rfl;lia
 ·show(List.filterMap _ (Builtin.Str.strSliceIndices (some j) none 1 x.length)).toArray.size≤_;rw[UA];exact UL (Xe _ _) key
theorem Cg{a b x y:Str}(e:a++x++b=a++y++b):x=y:=by
 have e1:(a.cps++x.cps)++b.cps=(a.cps++y.cps)++b.cps:=congrArg Str.cps e;have e2:=congrArg Array.toList e1;simp only[Array.toList_append] at e2;have e3:=List.append_cancel_left (List.append_cancel_right e2);cases x;cases y;exact congrArg Str.mk (WT.mp e3)
noncomputable def wordAt(stem:Str)(at_ first stride:Int)(k:Int):Str:=Txt.slice stem none (some at_)++tO ft ((first+stride*k) % 26)++Txt.slice stem (some at_) none
theorem FF{stem:Str}{at_ first stride:Int}{k j:Nat}(hs:stride∈[1,3,5,7,9,11])(hk:k < 6)(hj:j < 6)(e:wordAt stem at_ first stride k=wordAt stem at_ first stride j):k=j:=by
 have e1:=Cg (show Txt.slice stem none (some at_)++_++Txt.slice stem (some at_) none=Txt.slice stem none (some at_)++_++_ from e);rw[yl (VF _ (by decide)) (VP _ (by decide)),yl (VF _ (by decide)) (VP _ (by decide))] at e1;have e2:97+((first+stride*k) % 26).toNat=97+((first+stride*j) % 26).toNat:=by injection e1 with e1;injection e1 with e1;injection e1
 have e3:(first+stride*k) % 26=(first+stride*j) % 26:=by
  have a1:=VF (first+stride*k) (show(26:Int)≠0 by decide);have a2:=VF (first+stride*j) (show(26:Int)≠0 by decide);rw[←W0 a1,←W0 a2,Nat.add_left_cancel e2]
 have e4:=Int.emod_eq_emod_iff_emod_sub_eq_zero.mp e3;rw[show first+stride*(k:Int)-(first+stride*(j:Int))=stride*((k:Int)-(j:Int)) by rw[Int.mul_sub,Int.add_sub_add_left]] at e4;exact(by decide:∀s∈([1,3,5,7,9,11]:List Int),∀k:Nat,k < 6->∀j:Nat,j < 6->(s*((k:Int)-(j:Int))) % 26=0->k=j) stride hs k hk j hj e4
theorem yp{h:MH}{s c R:Nat}{cs:List Int}{m:Int}{h0:MH}{Q:D×MH->Prop}(A:Sb s c cs h0 (R+20) h)(m0:0≤m)(m1:m≤6)
  (kk:∀(ws:List Str)(h1:MH),ws.length=m.toNat->(∀w∈ws,1≤w.length∧w.length≤7∧low w)->ws.Nodup->Sb s c cs h0 R h1->Q (.lv (ws.map D.str),h1)):Rn (dB [.ob s,.int m] h) Q:=by
 refine aZ ?_;walk_at "g";refine gx ?_;walk_at "g";refine jA (is:=[0,1,1,2,3,6]) (fun i=>0≤i∧i≤6) (by decide) A fun k h1 hk _ A1=>?_;walk_at "g";refine⟨k,rfl,by lia,by lia,?_⟩;refine dO (fun i δ h'=>∃stem d4,δ=[some (.ob s),some (.int m),some (.str "abcdefghijklmnopqrstuvwxyz"),some (.str stem),d4,none,none,none]∧stem.length≤i∧low stem∧Sb s c cs h0 (R+19-i) h')
  ⟨"",_,rfl,Us _,Ko,A1⟩ (fun _ _ _ _ _=>rfl) ?_ ?_
 ·rintro i x δ h2 hx ⟨stem,d4,rfl,hst,bj,A2⟩;have hi:i < k.toNat:=by
   have:=(Ui.mp hx).1
   simpa using this
  rw[show R+19-i=R+19-(i+1)+1 by lia] at A2;walk_at "g";refine eG A2 (by decide) (by decide) fun r h3 r0 r1 A3=>?_;walk_at "g";obtain⟨hc,e4⟩:=mF (h:=h3) r0 r1;refine rv e4 ?_;walk_at "g";refine rv (pS (by lia)) ?_;walk_at "g";exact⟨stem++tO ft r,_,rfl,by rw[WI];lia,xQ bj (Am r0 r1),A3⟩
 ·rintro δ h2 ⟨stem,d4,rfl,hst,bj,A2⟩;rw[Uh,UI] at hst A2;have A2:Sb s c cs h0 (R+3) h2:=A2.le (by lia);walk_at "g";refine rv (HK (by lia)) ?_;walk_at "g";refine rv (a:=(.int ((stem.length:Int)+1),h2)) rfl ?_;walk_at "g";refine eG A2 (by lia) (by lia) fun at_ h3 a0 a1 A3=>?_
  walk_at "g";refine eG A3 (by decide) (by decide) fun first h4 f0 f1 A4=>?_
  walk_at "g";refine jA (is:=[1,3,5,7,9,11]) (fun i=>0≤i∧i≤11) (by decide) A4 fun stride h5 ht tm A5=>?_;obtain⟨t0,t1⟩:=ht;walk_at "g";refine gx ?_;walk_at "g";refine⟨m,rfl,by lia,by lia,?_⟩;have hw:∀k:Int,1≤(wordAt stem at_ first stride k).length∧(wordAt stem at_ first stride k).length≤7∧low (wordAt stem at_ first stride k):=by
   intro k;have c0:=VF (first+stride*k) (show(26:Int)≠0 by decide);have c1:=VP (first+stride*k) (show(0:Int) < 26 by decide);obtain⟨hc,e⟩:=mF (i:=(first+stride*k) % 26) (h:=[]) c0 c1;have s1:=yP (x:=stem) a0;have s2:=yO (x:=stem) a0;have s3:low (wordAt stem at_ first stride k):=xQ (xQ (vH _ _ bj) (Am c0 c1)) (vH _ _ bj);refine(fun(z:_∧_)=>⟨z.1,z.2,s3⟩) ?_;unfold wordAt;rw[WI,WI]
   lia
  refine rv (xq rfl (fun x=>match x with | .int k=>some (.str (wordAt stem at_ first stride k)) | _=>none) (fun δ=>∃d0,δ=[d0,some (.int at_),some (.int first),some (.str "abcdefghijklmnopqrstuvwxyz"),some (.str stem),some (.int stride)]) ⟨_,rfl⟩ ?_) ⟨?_,?_⟩
  ·rintro x hx δ ⟨d0,rfl⟩;obtain⟨k,hk,rfl⟩:=UR.mp hx;refine rv rfl ⟨rfl,rv rfl ⟨rfl,⟨_,rfl⟩,fun _=>⟨_,rfl,?_⟩,fun z=>(nomatch z)⟩⟩;refine Bj (Bj (xp ?_));walk_at "g";refine⟨_,rfl,rv (z7 (a:=stem) (by lia)) ?_⟩;walk_at "g";refine oR (Ho (by lia) (by lia)) ?_;refine rv (a:=(.int (first+stride*(k:Int)),h5)) rfl ?_;walk_at "g";refine md (by decide) ?_;obtain⟨hc,e⟩:=mF (i:=(first+stride*(k:Int)) % 26) (h:=h5) (VF _ (by decide)) (VP _ (by decide));have s1:=Txt.slice_le stem none (some at_);have s2:=Txt.slice_le stem (some at_) none;refine rv e (rv (pS (by lia)) ?_);refine xp ?_;walk_at "g";refine⟨_,rfl,?_⟩;walk_at "g";refine rv (z7 (a:=stem) (by lia)) (rv (pS (by rw[WI];lia)) ?_);rfl
  ·rw[Wm];exact UL (Xe _ _) (by rw[UI,show sizeLine=16777216 from rfl];lia)
  ·walk_at "g";rw[show List.filterMap (fun x=>match x with | D.int k=>some (D.str (wordAt stem at_ first stride k)) | _=>none) ((List.range m.toNat).map fun(k:Nat)=>D.int k)=((List.range m.toNat).map fun(k:Nat)=>wordAt stem at_ first stride (k:Int)).map D.str by
    rw[Wm,V8];exact congrFun (Y1 (f:=D.str∘fun(k:Nat)=>wordAt stem at_ first stride (k:Int))) _]
   refine kk _ h5 (by simp) (fun w hw'=>?_) ?_ A5
   ·obtain⟨k,_,rfl⟩:=UR.mp hw';exact hw k
   ·rw[Yt,Xa];refine(Yc (n:=m.toNat)).imp_of_mem fun {a b} ha hb hab e=>hab ?_;have:=Vg.mp ha;have:=Vg.mp hb;exact FF tm (by lia) (by lia) e
theorem uc.app{s:Nat}{hb h2:MH}{o:MO}(b:uc s (hb++[o]) h2)(hs:s < hb.length):∃hb',h2=hb'++[o]∧uc s hb hb':=by
 have hl:h2.length=hb.length+1:=by rw[b.1];simp
 refine⟨h2.take hb.length,?_,by rw[UM];lia,fun k hk=>?_⟩
 ·refine WM fun k=>?_
  by_cases z:k < hb.length
  ·rw[UG (by rw[UM];lia),U7 z]
  ·by_cases z2:k=hb.length
   ·subst z2;rw[b.2 _ (by lia),US (Us _),US (by rw[UM];lia),UM];rw[show min hb.length h2.length=hb.length by lia]
   ·rw[UY (by lia),UY (by rw[Uy,UM];simp;lia)]
 ·by_cases z:k < hb.length
  ·rw[U7 z,b.2 k hk,UG z]
  ·rw[UY (by rw[UM];lia),UY (by lia)]
theorem St.cut{s c:Nat}{cs:List Int}{B:Nat}{hb g:MH}(S:Mi.St s c cs B (hb++g))(h1:s < hb.length)(h2:c < hb.length):Mi.St s c cs B hb:=by
 obtain⟨n,t,e,r⟩:=S.st;have e2:=S.ce;rw[UG h1] at e;rw[UG h2] at e2;exact⟨⟨n,t,e,r⟩,e2,S.ne⟩
def Cl(h:MH):Prop:=∀o∈h,Az h.length o=true
theorem DD(n:Nat):∀js:List Int,dH n (js.map D.int)=true
 | []=>rfl
 | j::r=>by rw[Uv];show(g6 n (.int _)&&dH n _)=true;rw[DD n r];rfl
theorem Cl.but{s c:Nat}{cs:List Int}{B:Nat}{h h':MH}(C:Cl h)(S:Mi.St s c cs B h')(b:uc s h h'):Cl h':=by
 intro o ho;obtain⟨k,hk⟩:=VD.mp ho
 by_cases z:k=s
 ·subst z;obtain⟨n,t,e,_⟩:=S.st;rw[e] at hk;cases hk;show(true&&(decide (c < h'.length)&&(true&&true)))=true;rw[Ve S.lt.2];rfl
 ·rw[b.2 k z] at hk;rw[b.1];exact C o (Ul hk)
theorem nC{h hb g:MH}{d:D}(hl:hb.length=h.length)(C:Cl hb)(h1:∀n,d≠.ob n)(h2:g6 h.length d=true):leave h d (hb++g)=some (d,hb):=by
 have h3:AG h.length (hb++g) d=d:=by
  cases d with
  | ob n=>exact absurd rfl (h1 n)
  | _=>rfl
 unfold leave;rw[h3,←hl,WV (Us _),VB,hl,h2];have:(hb.all (Az h.length))=true:=by
  rw[V2];intro o ho;rw[←hl];exact C o ho
 rw[this,Bool.or_true];rfl
theorem Cl.add{h:MH}(C:Cl h){o:MO}(ho:Az (h.length+1) o=true)(up:∀o∈h,Az h.length o=true->Az (h.length+1) o=true):Cl (h++[o]):=by
 intro x hx;rw[Uy,Wr];rcases U5.mp hx with z | z
 ·exact up x z (C x z)
 ·rw[UC.mp z];exact ho
mutual
theorem Ij{n m:Nat}(hm:n≤m):∀d:D,g6 n d=true->g6 m d=true
 | .bz,_=>rfl
 | .bl _,_=>rfl
 | .int _,_=>rfl
 | .str _,_=>rfl
 | .ty _,_=>rfl
 | .ob k,h=>by simp only[g6,Vc] at h ⊢;lia
 | .tup xs,h=>by simp only[g6] at h ⊢;exact mK hm xs h
 | .lv xs,h=>by simp only[g6] at h ⊢;exact mK hm xs h
 | .ro xs,h=>by simp only[g6] at h ⊢;exact mK hm xs h
 | .dv xs,h=>by simp only[g6] at h ⊢;exact B5 hm xs h
theorem mK{n m:Nat}(hm:n≤m):∀d:List D,dH n d=true->dH m d=true
 | [],_=>rfl
 | x::r,h=>by
  simp only[dH,UJ] at h ⊢;exact⟨Ij hm x h.1,mK hm r h.2⟩
theorem B5{n m:Nat}(hm:n≤m):∀d:List (Key×D),K2 n d=true->K2 m d=true
 | [],_=>rfl
 |(_,x)::r,h=>by
  simp only[K2,UJ] at h ⊢;exact⟨Ij hm x h.1,B5 hm r h.2⟩
end
theorem Oi{n m:Nat}(hm:n≤m)(o:MO)(h:Az n o=true):Az m o=true:=by
 cases o with
 | lst xs=>exact mK hm xs h
 | dct xs=>exact B5 hm xs h
 | dcH xs=>have h:=UP.mp h;exact UP.mpr ⟨mK hm _ h.1,mK hm _ h.2⟩
theorem Cl.snoc{h:MH}(C:Cl h){o:MO}(ho:Az (h.length+1) o=true):Cl (h++[o]):=C.add ho fun x _ z=>Oi (Wi _) x z
theorem Cl.set{h:MH}(C:Cl h){n:Nat}{o:MO}(ho:Az h.length o=true):Cl (h.set n o):=by
 intro x hx;rw[VY];rcases Yx hx with z | z
 ·exact C x z
 ·rw[z];exact ho
end Mi
namespace Sm
open PySem L2
theorem Dx{e:EM}{h:MH}{t:DS}(f:D->D):∀(xs:List D)(o:Option D),(∀x∈xs,e (some x::t) h=some (f x,h))->bB [] (gN 0) bU e xs (o::t) h=some (xs.map f,h)
 | [],o,_=>rfl
 | x::r,o,hx=>by
  have e1:e (some x::t) h=some (f x,h):=hx x Uo;have e2:=Dx f r (some x) fun y hy=>hx y (Ur _ hy);show((some ((o::t).set 0 (some x),h)).bind fun q=>(bU q.1 q.2).bind fun t=>if t.1=true then(e q.1 t.2).bind fun y=>(bB [] (gN 0) bU e r q.1 y.2).map fun z=>(y.1::z.1,z.2) else bB [] (gN 0) bU e r q.1 t.2)=_;show((e (some x::t) h).bind fun y=>(bB [] (gN 0) bU e r (some x::t) y.2).map fun z=>(y.1::z.1,z.2))=_;rw[e1];show((bB [] (gN 0) bU e r (some x::t) h).map fun z=>(f x::z.1,z.2))=_;rw[e2];rfl
theorem DG{α:Type}(f:α->Bool):∀(l:List α),Fs (l.map fun x=>D.bl (f x))=some (l.map f)
 | []=>rfl
 | x::r=>by show(Fs (r.map fun x=>D.bl (f x))).map _=_;rw[DG f r];rfl
theorem y4{α:Type}{o:Option α}{a:α}(r:Rn o fun p=>p=a):o=some a:=let⟨_,e,q⟩:=r;by rw[e,q]
theorem tt(a:A):(true=true->A)∧(true=false->B):=⟨fun _=>a,fun z=>(nomatch z)⟩
theorem ff(b:B):(false=true->A)∧(false=false->B):=⟨fun z=>(nomatch z),fun _=>b⟩
end Sm
namespace Mi
open PySem Sm L2 Pg
noncomputable def oz(W:Wd)(fl:List Int)(left odd:Int):MO:=.dct [(.inr (Str.ofString "names"),.lv (W.names.map D.str)),(.inr (Str.ofString "deeds"),.lv (W.ak.map D.str)),(.inr (Str.ofString "params"),.lv (W.params.map fun ps=>.lv (ps.map D.str))),(.inr (Str.ofString "floors"),.lv (fl.map D.int)),(.inr (Str.ofString "left"),.int left),(.inr (Str.ofString "odd"),.int odd)]
structure Cj(W:Wd)(fl:List Int)(odd:Int):Prop where
 n1:1≤W.names.length
 n2:W.names.length≤6
 d1:1≤W.ak.length
 d2:W.ak.length≤6
 pl:W.params.length=W.ak.length
 p3:∀ps∈W.params,ps.length≤3
 SF:fl.length=W.ak.length
 f0:∀f∈fl,0≤f∧f < W.names.length
 o0:0≤odd
 o1:odd≤1000
 sn:∀w∈W.names,1≤w.length∧w.length≤7∧low w
 sd:∀w∈W.ak,1≤w.length∧w.length≤7∧low w
 sp:∀ps∈W.params,∀w∈ps,1≤w.length∧w.length≤7∧low w
 nn:W.names.Nodup
 nd:W.ak.Nodup
 np:∀ps∈W.params,ps.Nodup
section
variable {h:MH} {wd:Nat} {W:Wd} {fl:List Int} {left odd:Int}
theorem dZ(hw:h[wd]?=some (oz W fl left odd)):aE (.ob wd) (.str (Str.ofString "names")) h=some (.lv (W.names.map D.str),h):=by simp only[aE,dY,hw,oz];rfl
theorem eg(hw:h[wd]?=some (oz W fl left odd)):aE (.ob wd) (.str (Str.ofString "deeds")) h=some (.lv (W.ak.map D.str),h):=by simp only[aE,dY,hw,oz];rfl
theorem df(hw:h[wd]?=some (oz W fl left odd)):aE (.ob wd) (.str (Str.ofString "params")) h=some (.lv (W.params.map fun ps=>.lv (ps.map D.str)),h):=by simp only[aE,dY,hw,oz];rfl
theorem oB(hw:h[wd]?=some (oz W fl left odd)):aE (.ob wd) (.str (Str.ofString "floors")) h=some (.lv (fl.map D.int),h):=by simp only[aE,dY,hw,oz];rfl
theorem q0(hw:h[wd]?=some (oz W fl left odd)):aE (.ob wd) (.str (Str.ofString "left")) h=some (.int left,h):=by simp only[aE,dY,hw,oz];rfl
theorem AA(hw:h[wd]?=some (oz W fl left odd)):aE (.ob wd) (.str (Str.ofString "odd")) h=some (.int odd,h):=by simp only[aE,dY,hw,oz];rfl
theorem FG(hw:h[wd]?=some (oz W fl left odd))(v:Int):uS (.ob wd) (.str (Str.ofString "left")) (.int v) h=some (h.set wd (oz W fl v odd)):=by
 have h1:(6:Nat) < sizeLine:=by decide
 simp only[uS,hw,oz,qS,UT,Uw,Vx];rw[Ut h1];rfl
end
section
variable {h h0:MH} {s c wd R:Nat} {cs:List Int} {W:Wd} {fl:List Int} {left odd:Int} {Q:D×MH->Prop}
theorem Ir(A:Sb s c cs h0 (R+1) h)(hw:h[wd]?=some (oz W fl left odd))(ok:Cj W fl odd)(k:∀(b:Bool)(h1:MH),Sb s c cs h0 R h1->Q (.bl b,h1)):Rn (cM [.ob s,.ob wd] h) Q:=by
 refine aZ ?_;nofun;refine rv (AA hw) ?_;nofun;refine⟨_,rfl,fun z=>?_,fun z=>?_⟩
 ·nofun;refine rv (AA hw) ?_;nofun;refine eG A (Vk z) (by have:=ok.o1;lia) fun m h1 _ _ A1=>?_;nofun;exact k _ _ A1
 ·nofun;exact k _ _ (A.dn 1)
theorem yq{ps:List Str}(A:Sb s c cs h0 (R+4) h)(hp:ps.length≤3)(k:∀(t:Term)(h1:MH),fb ps t->t.2≤40->Sb s c cs h0 R h1->Q (aV t,h1)):Rn (bE [.ob s,.lv (ps.map D.str)] h) Q:=by
 refine aZ ?_;nofun;refine eG A (by decide) (by decide) fun m h1 m0 m1 A1=>?_;nofun;have plain:∀{h2:MH} {P:D×MH->Prop},Sb s c cs h0 (R+1) h2->(∀(i:Int)(h3:MH),-40≤i∧i≤40->Sb s c cs h0 R h3->P (.int i,h3))->Rn (aB [.ob s,.lv [.int 0,.int 0,.int 1,.int 1,.int 2,.int 3,.int (-1),.int (m-40)]] h2) P:=fun A2 kk=>
  jA (is:=[0,0,1,1,2,3,-1,m-40]) (fun i=>-40≤i∧i≤40) (by intro x hx;simp at hx;lia) A2 fun i h3 hi _ A3=>kk i h3 hi A3
 refine⟨_,rfl,fun z=>?_,fun z=>⟨fun z=>(nomatch z),fun _=>?_⟩⟩
 ·have z:0 < ps.length:=by simpa using z
  nofun;refine eG A1 (by decide) (by decide) fun m2 h2 _ _ A2=>?_;nofun;refine⟨_,rfl,fun _=>?_,fun _=>?_⟩
  ·nofun;refine Cc A2 (.inl rfl) (by simpa using z) (by simp;lia) fun d3 h3 hd3 A3=>?_;obtain⟨w,hw,rfl⟩:=UR.mp hd3;nofun;refine jA (is:=[0,0,0,0,1,1,-1,2,m-40]) (fun i=>-40≤i∧i≤40) (by intro x hx;simp at hx;lia) A3 fun i h4 hi _ A4=>?_;nofun;exact k (w,i) h4 ⟨.inr hw,by dsimp only;lia,by dsimp only;lia⟩ hi.2 A4
  ·nofun;refine plain (A2.dn 1) fun i h3 hi A3=>?_;nofun;exact k (Str.ofString "",i) h3 ⟨.inl rfl,by dsimp only;lia,by dsimp only;lia⟩ hi.2 A3
 ·nofun;refine plain (A1.dn 2) fun i h3 hi A3=>?_;nofun;exact k (Str.ofString "",i) h3 ⟨.inl rfl,by dsimp only;lia,by dsimp only;lia⟩ hi.2 A3
end
theorem cg{α:Type}{xs:List α}{f:α->D}{h:MH}{j:Nat}{x:α}(e:xs[j]?=some x):aE (.lv (xs.map f)) (.int j) h=some (f x,h):=by
 have hj:j < xs.length:=by
  rcases Wj j xs.length with z | z
  ·exact z
  ·rw[UY z] at e;cases e
 show((g8 (xs.map f) j).map fun z=>(z,h))=_;have:g8 (xs.map f) j=some (f x):=by
  unfold g8;rw[show uO (xs.map f).length j=some j by unfold uO;simp;lia];show(xs.map f)[j]?=_;rw[Ux,e];rfl
 rw[this];rfl
theorem k6(i j:Int)(h:MH):uT [.int i,.int j] h=some (.int (max i j),h):=by
 show some (D.int (if j > i then j else i),h)=_;rw[show(if j > i then j else i)=max i j by split <;> lia]
theorem Dq(i j:Int)(h:MH):E9 [.int i,.int j] h=some (.int (min i j),h):=by
 show some (D.int (if j < i then j else i),h)=_;rw[show(if j < i then j else i)=min i j by split <;> lia]
theorem Dd{α:Type}{o:Option Bool}{x y:Option α}{X Y:α->Prop}(r:∃c,o=some c∧(c=true->Rn x Y)∧(c=false->Rn y Y))(f:∀p,Y p->X p):∃c,o=some c∧(c=true->Rn x X)∧(c=false->Rn y X):=
 let⟨c,e,a,b⟩:=r
 ⟨c,e,fun z=>(a z).imp f,fun z=>(b z).imp f⟩
noncomputable def rL(t:Term):PyData:=.tuple [.str t.1,.int t.2]
theorem vo:∀ts:List Term,iA (ts.map aV)=some (ts.map rL)
 | []=>rfl
 | c::r=>by simp only[Uv,iA,vo r,aV,qa,UT,U4];rfl
theorem qo:∀ts:List Term,PyData.depthAll (ts.map rL)≤1
 | []=>by simp[PyData.depthAll]
 | c::r=>by
  have:=qo r;simp only[Uv,PyData.depthAll,rL,PyData.depth]
  lia
theorem BP(ts:List Term)(h:MH):lu (.lv (ts.map aV)) (.lv []) h=some (.bl (!ts.isEmpty),h):=by
 have:=qo ts;simp only[lu,LK,dY,LJ,Ej,vo,qa,iA,U4,UT];rw[Ut ⟨show PyData.depthAll _+1≤64 by lia,by decide⟩];cases ts <;> rfl
section
variable {h h0:MH} {s c wd R:Nat} {cs:List Int} {W:Wd} {fl:List Int} {left odd:Int} {Q:D×MH->Prop}
theorem Ou{ps:List Str}{j:Nat}{top:Int}{held:List Lock}(A:Sb s c cs h0 (R+10) h)(hw0:h0[wd]?=some (oz W fl left odd))(hne:wd≠s)(ok:Cj W fl odd)(hp:W.params[j]?=some ps)(hj:j < W.ak.length)(ht:top≤W.names.length)(hh:∀l∈held,fJ W ps l)(hl:held.length≤1000)
  (k1:∀(k:Int)(l:Lock)(h1:MH),max top (fl[j]?.getD 0) < W.names.length->0≤k->k < W.names.length->fJ W ps l->Sb s c cs h0 R h1->Q (.tup [.int k,aL l],h1))
  (k2:∀(h1:MH),max top (fl[j]?.getD 0)=W.names.length->Sb s c cs h0 R h1->Q (.tup [.bz,.bz],h1)):Rn (dX [.ob s,.ob wd,.int j,.int top,.lv (held.map aL)] h) Q:=by
 have hw:=A.at_ hw0 hne;obtain⟨f,hf⟩:∃f,fl[j]?=some f:=⟨_,Um (by rw[ok.SF];exact hj)⟩;have hfm:=ok.f0 f (Ul hf);have n2:=ok.n2;rw[hf] at k1 k2;dsimp only[Option.getD_some] at k1 k2;refine aZ ?_;nofun;refine rv (oB hw) ?_;nofun;refine rv (cg hf) ?_;nofun;refine rv (k6 top f h) ?_;have lo0:0≤max top f:=by lia
 have lo1:max top f≤W.names.length:=by lia
 generalize max top f=lo at lo0 lo1 k1 k2 ⊢;nofun;refine rv (dZ hw) ?_;nofun;refine⟨_,rfl,fun z=>?_,fun z=>?_⟩
 ·have z:lo=W.names.length:=by simpa using z
  nofun;exact k2 h z (A.dn 10)
 have z:lo≠W.names.length:=by simpa using z
 have z0:lo < W.names.length:=by lia
 have k1:=fun k l h1=>k1 k l h1 z0;clear k2;nofun;refine rv (dZ hw) ?_;nofun;simp only[Uh];refine eG A (by lia) (by lia) fun m h1 m0 m1 A1=>?_;nofun;refine Ir A1 (A1.at_ hw0 hne) ok fun b h2 A2=>?_;nofun;refine Dd (Y:=fun r=>∃(k:Int)(h3:MH),r=(Fl.nx,[some (.ob s),some (.ob wd),some (.int j),some (.int top),some (.lv (held.map aL)),some (.int lo),some (.int k),none,none,none,none],h3)∧0≤k∧k < W.names.length∧Sb s c cs h0 (R+7) h3) ?_ ?_
 ·refine⟨b,rfl,fun _=>?_,fun _=>?_⟩
  ·nofun;refine rv (dZ (A2.at_ hw0 hne)) ?_;nofun;simp only[Uh];refine eG A2 (by lia) (by lia) fun k h3 k0 k1 A3=>?_;exact⟨k,h3,rfl,k0,k1,A3⟩
  ·nofun;exact⟨lo+m,h2,rfl,by lia,by lia,A2.dn 1⟩
 rintro _ ⟨k,h3,rfl,k0,kL,A3⟩;have hw3:=A3.at_ hw0 hne;have k1:=fun l h1=>k1 k l h1 k0 kL;obtain⟨kn,rfl⟩:=VX k0;obtain⟨nm,hnm⟩:∃f,W.names[kn]?=some f:=⟨_,Um (by lia)⟩;show Rn _ _;nofun;refine rv (dZ hw3) ?_;nofun;refine rv (cg hnm) ?_;nofun;refine eV ?_;nofun;refine⟨_,_,rfl,?_⟩;obtain⟨⟨ys,h4⟩,e4,hyl,hym,δ4,hh4,_⟩:=rm (ws:=[]) (g:=gN 0) (c:=aA (aj cj (aj aE (ay 0) (eK (D.int 0))) (ay 1))) (e:=aj aE (ay 0) (eK (D.int 1))) (fun x y=>∃l∈held,x=aL l∧y=aV l.2)
  (xs:=held.map aL) (δ:=[none,some (.str nm)]) (h:=h3) (fun j δ h'=>h'=h3∧∃d0,δ=[d0,some (.str nm)]) ⟨rfl,_,rfl⟩ (fun _ _ _ _ _=>rfl) (by
   rintro i x δ h' hx ⟨rfl,d0,rfl⟩;obtain⟨l,hl,rfl⟩:=UR.mp (Ul hx);nofun;refine rv (a:=(.str l.1,_)) rfl ?_;nofun;refine⟨_,rfl,fun _=>?_,fun _=>⟨rfl,_,rfl⟩⟩;nofun;exact rv (a:=(aV l.2,_)) rfl ⟨⟨l,hl,rfl,rfl⟩,rfl,_,rfl⟩)
 dsimp only at hh4;subst hh4;refine rv e4 ⟨UL hyl (by rw[Uh,show sizeLine=16777216 from rfl];lia),?_⟩;obtain⟨ts,rfl,htm⟩:∃ts:List Term,ys=ts.map aV∧∀t∈ts,fb ps t:=by
  clear e4 hyl
  induction ys with
  | nil=>exact⟨[],rfl,fun _ z=>(nomatch z)⟩
  | cons y r ih=>
   obtain⟨js,rfl,h1⟩:=ih fun z hz=>hym z (Ur _ hz);obtain⟨x,hx,l,hl,rfl,rfl⟩:=hym y Uo;exact⟨l.2::js,rfl,List.forall_mem_cons.mpr ⟨(hh l hl).2,h1⟩⟩
 nofun;have pl:=ok.p3 ps (Ul hp);refine rv (BP ts _) ⟨_,rfl,fun z=>?_,fun z=>⟨fun z=>(nomatch z),fun _=>?_⟩⟩
 ·nofun;refine Ir A3 hw3 ok fun b' h5 A5=>⟨_,rfl,fun _=>?_,fun _=>?_⟩
  ·have hts:ts≠[]:=by rintro rfl;cases z
   obtain⟨us,last,rfl⟩:∃us last,ts=us++[last]:=⟨ts.dropLast,ts.getLast hts,(Yk hts).symm⟩;have hlast:=htm last (by simp);nofun;refine rv (a:=(aV last,_)) (by
    show((g8 ((us++[last]).map aV) (-1)).map fun z=>(z,h5))=_;rw[UH];show((g8 (us.map aV++[aV last]) (-1)).map fun z=>(z,h5))=_;rw[tT];rfl) ?_
   nofun;refine rv (a:=_) rfl ?_;nofun;refine eG A5 (by decide) (by decide) fun m6 h6 m60 m61 A6=>?_;nofun;refine rv (Dq _ _ _) ?_;nofun;exact k1 (nm,(last.1,min 99 (last.2+1+m6))) h6 ⟨Ul hnm,hlast.1,by dsimp only;have:=hlast.2;lia,by dsimp only;lia⟩ (A6.dn 5)
  ·nofun;refine rv (df (A5.at_ hw0 hne)) ?_;nofun;refine rv (cg hp) ?_;nofun;refine yq (A5.dn 2) pl fun t h6 tk _ A6=>?_;nofun;exact k1 (nm,t) h6 ⟨Ul hnm,tk⟩ A6
 ·nofun;refine rv (df hw3) ?_;nofun;refine rv (cg hp) ?_;nofun;refine yq (A3.dn 3) pl fun t h6 tk _ A6=>?_;nofun;exact k1 (nm,t) h6 ⟨Ul hnm,tk⟩ A6
end
theorem z9(cs:List Int)(h:MH):cj (.lv (cs.map D.int)) (.lv []) h=some (.bl cs.isEmpty,h):=by
 simp only[cj,LK,dY,LJ,Ej,sG,qa,iA,U4,UT,PyData.depth,mI];cases cs <;> rfl
theorem MS(r:Rn (m δ h) fun p=>∃j:Int,p.1=[.int j]∧0≤j∧j≤1000∧Q ((List.range j.toNat).map fun(k:Nat)=>D.int (k:Int),p.2)):Rn (OG m δ h) Q:=aT (r.imp fun p ⟨j,e,h1,h2,q⟩=>by
 rw[e];dsimp only;rw[Ut ⟨h1,h2⟩];exact⟨_,rfl,q⟩)
section
variable {h h0:MH} {s c wd R:Nat} {cs:List Int} {W:Wd} {fl:List Int} {left odd:Int} {Q:D×MH->Prop}
theorem Ow{top:Int}(A:Sb s c cs h0 (R+14) h)(hw0:h0[wd]?=some (oz W fl left odd))(hne:wd≠s)(ok:Cj W fl odd)(hp:W.params[j]?=some ps)(hj:j < W.ak.length)
  (kk:∀(r:Row)(h1:MH),(∀n,bh W ps n r)->cnt r=1->Sb s c cs h0 R h1->Q (aQ r,h1)):Rn (fC [.ob s,.ob wd,.int j,.int top] h) Q:=by
 have hw:=A.at_ hw0 hne;have d2:=ok.d2;have pl:=ok.p3 ps (Ul hp);obtain⟨dj,hdj⟩:∃f,W.ak[j]?=some f:=⟨_,Um hj⟩;refine aZ ?_;nofun;refine gx ?_;nofun;refine rv (eg hw) ?_;nofun;refine⟨(W.ak.map D.str).length,rfl,by rw[Uh];lia,by rw[Uh];lia,?_⟩;rw[Uh,UO];obtain⟨⟨ys,h1⟩,e1,hyl,hym,δ1,hh1,_⟩:=rm (ws:=[]) (g:=gN 0) (c:=lj (aA (aj HN (aj aE (aj aE (ay 3) (eK (.str "floors"))) (ay 0)) (ay 2))) (aA (aj Qv (ay 0) (ay 1)))) (e:=ay 0) (fun x y=>y=x)
  (xs:=(List.range W.ak.length).map fun(k:Nat)=>D.int (k:Int)) (δ:=[none,some (.int j),some (.int top),some (.ob wd)]) (h:=h) (fun i δ h'=>h'=h∧∃d0,δ=[d0,some (.int j),some (.int top),some (.ob wd)]) ⟨rfl,_,rfl⟩ (fun _ _ _ _ _=>rfl) (by
   rintro i x δ h' hx ⟨rfl,d0,rfl⟩;rw[Ux] at hx;obtain⟨k,hk,hk2⟩:=Vh.mp hx;subst hk2;have hkl:k < fl.length:=by rw[ok.SF];exact Vg.mp (Ul hk)
   obtain⟨f,hf⟩:∃f,fl[k]?=some f:=⟨_,Um hkl⟩;nofun;refine rv (oB hw) ?_;nofun;refine rv (cg hf) ?_;nofun;refine⟨_,rfl,fun _=>?_,fun _=>⟨fun z=>(nomatch z),fun _=>⟨rfl,_,rfl⟩⟩⟩;nofun;refine⟨_,rfl,fun _=>?_,fun _=>⟨rfl,_,rfl⟩⟩;nofun;exact⟨rfl,rfl,_,rfl⟩)
 dsimp only at hh1;subst hh1;refine rv e1 ⟨UL hyl (by rw[Uh,UI,show sizeLine=16777216 from rfl];lia),?_⟩;have hint:∀zs:List D,(∀y∈zs,∃x,x∈(List.range W.ak.length).map (fun(k:Nat)=>D.int (k:Int))∧y=x)->∃js:List Int,zs=js.map D.int∧∀k∈js,0≤k∧k < W.ak.length:=by
  intro zs hz
  induction zs with
  | nil=>exact⟨[],rfl,fun _ z=>(nomatch z)⟩
  | cons y r ih=>
   obtain⟨js,rfl,q⟩:=ih fun z hz'=>hz z (Ur _ hz');obtain⟨x,hx,rfl⟩:=hz y Uo;obtain⟨k,hk,rfl⟩:=UR.mp hx;exact⟨k::js,rfl,fun i hi=>by
    rcases UE.mp hi with rfl | hi
    ·have:=Vg.mp hk;lia
    ·exact q i hi⟩
 have hyn:ys.length≤6:=by
  have h9:ys.length≤_:=hyl;rw[Uh,UI] at h9
  lia
 obtain⟨js,rfl,hjs⟩:=hint ys hym;rw[Uh] at hyn;nofun;refine Ir A hw ok fun b h2 A2=>?_;have hw2:=A2.at_ hw0 hne;nofun;refine Dd (Y:=fun r=>∃(ks:List Int),r=(Fl.nx,[some (.ob s),some (.ob wd),some (.int j),some (.int top),some (.lv (ks.map D.int)),none,none],h2)∧ks.length≤6∧∀k∈ks,0≤k∧k < W.ak.length) ?_ ?_
 ·refine⟨b,rfl,fun _=>?_,fun _=>?_⟩
  ·nofun;refine MS ?_;nofun;refine rv (eg hw2) ?_;nofun;refine⟨(W.ak.map D.str).length,rfl,by rw[Uh];lia,by rw[Uh];lia,?_⟩;rw[Uh,UO];obtain⟨ks,hk1,hk2⟩:=hint _ fun y hy=>⟨y,hy,rfl⟩;refine⟨ks,?_,?_,hk2⟩
   ·show _=_;rw[←hk1];rfl
   ·have:=congrArg List.length hk1;rw[Uh,Uh,UI] at this
    lia
  ·nofun;exact⟨js,rfl,hyn,hjs⟩
 rintro _ ⟨ks,rfl,kn,hks⟩;show Rn _ _;nofun;refine rv (z9 ks _) ⟨_,rfl,fun z=>?_,fun z=>?_⟩
 ·nofun;refine rv (eg hw2) ?_;nofun;refine rv (cg hdj) ?_;nofun;have:=kk (.say dj) h2 (fun n=>by unfold bh;exact UU _ (Ul hdj)) (by rw[cnt]) (A2.dn 13);rw[aQ] at this;exact this
 have z0:0 < ks.length:=by cases ks with | nil=>cases z | cons _ _=>simp
 nofun;refine Cc A2 (.inl rfl) (by simpa using z0) (by simp;lia) fun d3 h3 hd3 A3=>?_;have hw3:=A3.at_ hw0 hne;obtain⟨k,hk,rfl⟩:=UR.mp hd3;obtain⟨k0,k1⟩:=hks k hk;obtain⟨kn',rfl⟩:=VX k0;have hkl:kn' < W.ak.length:=by lia
 obtain⟨dk,hdk⟩:∃f,W.ak[kn']?=some f:=⟨_,Um hkl⟩;obtain⟨qs,hqs⟩:∃f,W.params[kn']?=some f:=⟨_,Um (by rw[ok.pl];exact hkl)⟩;have ql:=ok.p3 qs (Ul hqs);nofun;refine eV ?_;nofun;refine rv (df hw3) ?_;nofun;refine rv (cg hqs) ?_;refine⟨_,_,rfl,?_⟩;obtain⟨⟨zs,h4⟩,e4,hzs,δ4,_,A4⟩:=ng (ws:=[]) (g:=gN 0) (e:=ao bE (ae (ay 2) (ae (aj aE (aj aE (ay 3) (eK (.str "params"))) (ay 1)) aP))) (fun _ y=>∃t:Term,y=aV t∧fb ps t)
  (xs:=qs.map D.str) (δ:=[none,some (.int j),some (.ob s),some (.ob wd)]) (h:=h3) (fun i δ h'=>(∃d0,δ=[d0,some (.int j),some (.ob s),some (.ob wd)])∧Sb s c cs h0 (R+4*(3-i)) h') ⟨⟨_,rfl⟩,A3⟩ (fun _ _ _ _ _=>rfl) (by
   rintro i x δ h' hx ⟨⟨d0,rfl⟩,Ai⟩;have hi:i < 3:=by
    have:=(Ui.mp hx).1;rw[Uh] at this
    lia
   rw[show R+4*(3-i)=R+4*(3-(i+1))+4 by lia] at Ai;have hwi:=Ai.at_ hw0 hne;nofun;refine rv (df hwi) ?_;nofun;refine rv (cg hp) ?_;nofun;exact yq Ai pl fun t h6 tk _ A6=>⟨⟨t,rfl,tk⟩,⟨_,rfl⟩,A6⟩)
 obtain⟨ts,rfl,htm⟩:∃ts:List Term,zs=ts.map aV∧∀t∈ts,fb ps t:=by
  have hr:=hzs.right;clear e4 hzs A4;dsimp only at hr
  induction zs with
  | nil=>exact⟨[],rfl,fun _ z=>(nomatch z)⟩
  | cons y r ih=>
   obtain⟨js,rfl,h1⟩:=ih fun z hz=>hr z (Ur _ hz);obtain⟨x,hx,t,rfl,tk⟩:=hr y Uo;exact⟨t::js,rfl,fun j hj=>by
    rcases UE.mp hj with rfl | hj
    ·exact tk
    ·exact h1 j hj⟩
 have hzl:=hzs.length;dsimp only at hzl;rw[Uh,Uh] at hzl;refine rv e4 ⟨by dsimp only;rw[Uh,show sizeLine=16777216 from rfl];lia,?_⟩;have A4:Sb s c cs h0 R h4:=A4.le (Vd _ _);have hw4:=A4.at_ hw0 hne;nofun;refine rv (eg hw4) ?_;nofun;refine rv (cg hdk) ?_;nofun;refine rv (a:=(.tup (ts.map aV),_)) rfl ?_;nofun;have:=kk (.call dk ts) h4 (fun n=>by unfold bh;exact⟨⟨kn',qs,hdk,hqs,hzl⟩,htm⟩) (by rw[cnt]) A4;rw[aQ] at this;exact this
end
def gU(s wd:Nat)(h h':MH):Prop:=h'.length=h.length∧∀k,k≠s->k≠wd->h'[k]?=h[k]?
theorem gU.refl(s wd:Nat)(h:MH):gU s wd h h:=⟨rfl,fun _ _ _=>rfl⟩
theorem gU.trans(a:gU s wd h h1)(b:gU s wd h1 h2):gU s wd h h2:=⟨b.1.trans a.1,fun k n m=>(b.2 k n m).trans (a.2 k n m)⟩
theorem uc.two(a:uc s h h1):gU s wd h h1:=⟨a.1,fun k n _=>a.2 k n⟩
theorem gU.set:gU s wd h (h.set wd o):=⟨VY,fun k _ n=>Vf (VA n)⟩
theorem gU.SY(b:gU s wd (hb++g) h2)(hs:s < hb.length)(hw:wd < hb.length):∃hb',h2=hb'++g∧gU s wd hb hb':=by
 have hl:h2.length=hb.length+g.length:=by rw[b.1];simp
 refine⟨h2.take hb.length,?_,by rw[UM];lia,fun k hk hk'=>?_⟩
 ·refine WM fun k=>?_
  by_cases z:k < hb.length
  ·rw[UG (by rw[UM];lia),U7 z]
  ·rw[b.2 _ (by lia) (by lia),US (by lia),US (by rw[UM];lia),UM];rw[show min hb.length h2.length=hb.length by lia]
 ·by_cases z:k < hb.length
  ·rw[U7 z,b.2 k hk hk',UG z]
  ·rw[UY (by rw[UM];lia),UY (by lia)]
theorem iJ(n:Nat):∀js:List Str,dH n (js.map D.str)=true
 | []=>rfl
 | j::r=>by rw[Uv];show(g6 n (.str _)&&dH n _)=true;rw[iJ n r];rfl
theorem vZ(n:Nat):∀js:List (List Str),dH n (js.map fun ps=>.lv (ps.map D.str))=true
 | []=>rfl
 | j::r=>by rw[Uv];show(dH n (j.map D.str)&&dH n _)=true;rw[iJ n j,vZ n r];rfl
theorem B4(n:Nat)(W:Wd)(fl:List Int)(l odd:Int):Az n (oz W fl l odd)=true:=by
 show(dH n _&&(dH n _&&(dH n _&&(dH n _&&(true&&(true&&true))))))=true;rw[iJ,iJ,vZ,DD];rfl
structure En where
 s:Nat
 c:Nat
 wd:Nat
 cs:List Int
 W:Wd
 fl:List Int
 odd:Int
 ok:Cj W fl odd
 ne:wd≠s
 nc:wd≠c
structure Wb(E:En)(h0:MH)(R l:Nat)(h:MH):Prop where
 S:St E.s E.c E.cs R h
 w:h[E.wd]?=some (oz E.W E.fl l E.odd)
 C:Cl h
 b:gU E.s E.wd h0 h
section
variable {E:En} {h0 h h1 h' g:MH} {R R' l l' k:Nat} {Q:D×MH->Prop}
theorem Wb.lt(A:Wb E h0 R l h):E.s < h.length∧E.c < h.length∧E.wd < h.length:=⟨A.S.lt.1,A.S.lt.2,(Ui.mp A.w).1⟩
theorem Wb.by(A:Wb E h0 R l h)(B:Sb E.s E.c E.cs h R' h1):Wb E h0 R' l h1:=⟨B.S,(B.b.2 _ E.ne).trans A.w,A.C.but B.S B.b,A.b.trans B.b.two⟩
theorem Wb.le(A:Wb E h0 R l h)(hR:R'≤R):Wb E h0 R' l h:=⟨A.S.le hR,A.w,A.C,A.b⟩
theorem Wb.here(A:Wb E h0 R l h):Wb E h R l h:=⟨A.S,A.w,A.C,gU.refl _ _ _⟩
theorem Wb.tr(A:Wb E h1 R l h)(b:gU E.s E.wd h0 h1):Wb E h0 R l h:=⟨A.S,A.w,A.C,b.trans A.b⟩
theorem Wb.set(A:Wb E h0 R l h)(v:Nat):Wb E h0 R v (h.set E.wd (oz E.W E.fl v E.odd)):=
 ⟨A.S.off E.ne E.nc,Vs A.lt.2.2,A.C.set (B4 _ _ _ _ _),A.b.trans gU.set⟩
theorem Wb.push(A:Wb E h0 R l h)(ho:Az (h.length+1) o=true):Wb E (h++[o]) R l (h++[o]):=⟨A.S.more _,by rw[UG A.lt.2.2];exact A.w,A.C.snoc ho,gU.refl _ _ _⟩
theorem Oh(C:Cl h)(S:St E.s E.c E.cs R h')(w:h'[E.wd]?=some (oz E.W E.fl l E.odd))(b:gU E.s E.wd h h'):Cl h':=by
 intro o ho;obtain⟨k,hk⟩:=VD.mp ho
 by_cases z:k=E.s
 ·subst z;obtain⟨n,t,e,_⟩:=S.st;rw[e] at hk;cases hk;show(true&&(decide (E.c < h'.length)&&(true&&true)))=true;rw[Ve S.lt.2];rfl
 ·by_cases z2:k=E.wd
  ·subst z2;rw[w] at hk;cases hk;exact B4 _ _ _ _ _
  ·rw[b.2 k z z2] at hk;rw[b.1];exact C o (Ul hk)
theorem Wb.pop(A0:Wb E h0 R0 l0 h)(A:Wb E (h++g) R l h'):∃hb,h'=hb++g∧hb.length=h.length∧Wb E h0 R l hb:=by
 obtain⟨h1,h2,h3⟩:=A0.lt;obtain⟨hb,rfl,b⟩:=A.b.SY h1 h3;have e:=b.1;have S:=A.S.cut (by lia) (by lia);have w:=A.w;rw[UG (by lia)] at w;exact⟨hb,rfl,e,S,w,Oh A0.C S w b,A0.b.trans b⟩
theorem w_next(A:Wb E h0 (R+1) l h)(m0:0 < m)(m1:m≤10^40)(k:∀(r:Int)(h1:MH),0≤r->r < m->Wb E h0 R l h1->Q (.int r,h1)):Rn (aH [.ob E.s,.int m] h) Q:=
 eG A.S.sb m0 m1 fun r h1 r0 r1 S1=>k r h1 r0 r1 (A.by S1)
theorem O6(A:Wb E h0 (R+1) l h)(hd:d=.lv xs∨d=.tup xs)(l0:0 < xs.length)(l1:xs.length≤1000000)(k:∀(x:D)(h1:MH),x∈xs->Wb E h0 R l h1->Q (x,h1)):Rn (aB [.ob E.s,d] h) Q:=
 Cc A.S.sb hd l0 l1 fun x h1 hx S1=>k x h1 hx (A.by S1)
theorem FH{is:List Int}(P:Int->Prop)(hP:∀i∈is,P i)(A:Wb E h0 (R+1) l h)(k:∀(i:Int)(h1:MH),P i->Wb E h0 R l h1->Q (.int i,h1))(l0:0 < is.length:=by simp)(l1:is.length≤1000:=by simp):Rn (aB [.ob E.s,.lv (is.map D.int)] h) Q:=
 jA P hP A.S.sb (fun i h1 hi _ S1=>k i h1 hi (A.by S1)) l0 l1
theorem wz(A:Wb E h0 (R+4) l h)(hp:ps.length≤3)(k:∀(t:Term)(h1:MH),fb ps t->Wb E h0 R l h1->Q (aV t,h1)):Rn (bE [.ob E.s,.lv (ps.map D.str)] h) Q:=
 yq A.S.sb hp fun t h1 ht _ S1=>k t h1 ht (A.by S1)
structure Cd(W:Wd)(j:Nat)(ps:List Str)(d:Nat)(top:Int)(held:List Lock):Prop where
 hp:W.params[j]?=some ps
 hj:j < W.ak.length
 d1:1≤d
 ht:top≤W.names.length
 hh:∀x∈held,fJ W ps x
 hl:held.length≤4*d
variable {j d f:Nat} {ps:List Str} {top:Int} {held:List Lock}
theorem Cd.more{W:Wd}{n:Nat}{top':Int}{ls:List Lock}(G:Cd W j ps d top held)(ht:top'≤W.names.length)(hl:ls.length≤4*n)(ho:∀x∈ls,fJ W ps x):Cd W j ps (d+n) top' (held++ls):=
 ⟨G.hp,G.hj,UL G.d1 (Vd _ _),ht,fun x hx=>(U5.mp hx).elim (G.hh x) (ho x),by have:=G.hl;rw[Uy];lia⟩
theorem Cd.deep{W:Wd}(G:Cd W j ps d top held):Cd W j ps (d+1) top held:=⟨G.hp,G.hj,Vt G.d1,G.ht,G.hh,by have:=G.hl;lia⟩
theorem Cd.pl(G:Cd E.W j ps d top held):ps.length≤3:=E.ok.p3 ps (Ul G.hp)
theorem FI(A:Wb E h0 (R+10) l h)(G:Cd E.W j ps d top held)(hd:d≤5)(k1:∀(k:Int)(x:Lock)(h1:MH),max top (E.fl[j]?.getD 0) < E.W.names.length->0≤k->k < E.W.names.length->fJ E.W ps x->Wb E h0 R l h1->Q (.tup [.int k,aL x],h1))
  (k2:∀(h1:MH),max top (E.fl[j]?.getD 0)=E.W.names.length->Wb E h0 R l h1->Q (.tup [.bz,.bz],h1)):Rn (dX [.ob E.s,.ob E.wd,.int j,.int top,.lv (held.map aL)] h) Q:=
 Ou A.S.sb A.w E.ne E.ok G.hp G.hj G.ht G.hh (by have:=G.hl;lia) (fun k x h1 a b c e S1=>k1 k x h1 a b c e (A.by S1)) fun h1 a S1=>k2 h1 a (A.by S1)
theorem L3(A:Wb E h0 (R+14) l h)(G:Cd E.W j ps d top held)(k:∀(r:Row)(h1:MH),(∀n,bh E.W ps n r)->cnt r=1->Wb E h0 R l h1->Q (aQ r,h1)):Rn (fC [.ob E.s,.ob E.wd,.int j,.int top] h) Q:=
 Ow A.S.sb A.w E.ne E.ok G.hp G.hj fun r h1 a b S1=>k r h1 a b (A.by S1)
abbrev IQ(E:En)(h0:MH)(R l:Nat)(ps:List Str)(d:Nat)(Q:D×MH->Prop):Prop:=∀(r:Row)(l':Nat)(h':MH),bh E.W ps d r->l'+cnt r=l+1->Wb E h0 (R+100*l') l' h'->Q (aQ r,h')
abbrev Tc(E:En)(h0:MH)(R l:Nat)(ps:List Str)(d:Nat)(Q:D×MH->Prop):Prop:=∀(t:List Row)(l':Nat)(h':MH),bD E.W ps d t->t.length≤12->l'+cv t=l->Wb E h0 (R+100*l') l' h'->Q (.tup (cu t),h')
def Fx(E:En)(f:Nat):Prop:=∀{h0 h:MH} {R l j:Nat} {ps:List Str} {d:Nat} {top:Int} {held:List Lock} {most:Int} {Q:D×MH->Prop},Wb E h0 (R+100*l+4) l h->Cd E.W j ps d top held->d≤5->3*(5-d)+2≤f->1≤most->most≤12->Tc E h0 R l ps d Q->
 Rn (bx f [.ob E.s,.ob E.wd,.int j,.int d,.int top,.lv (held.map aL),.int most] h) Q
def ON(E:En)(f:Nat):Prop:=∀{h0 h:MH} {R l j:Nat} {ps:List Str} {d:Nat} {top:Int} {held:List Lock} {Q:D×MH->Prop},Wb E h0 (R+100*l+100) l h->Cd E.W j ps d top held->d≤5->3*(5-d)+1≤f->IQ E h0 R l ps d Q->
 Rn (fk f [.ob E.s,.ob E.wd,.int j,.int d,.int top,.lv (held.map aL)] h) Q
def IP(E:En)(f:Nat):Prop:=∀{h0 h:MH} {R l j:Nat} {ps:List Str} {d:Nat} {top:Int} {held:List Lock} {way:Str} {Q:D×MH->Prop},Wb E h0 (R+100*l+95) l h->Cd E.W j ps d top held->d < 5->3*(5-d)≤f->way∈[Str.ofString "within",Str.ofString "ask",Str.ofString "all"]->IQ E h0 R l ps d Q->
 Rn (cL f [.ob E.s,.ob E.wd,.int j,.int d,.int top,.lv (held.map aL),.str way] h) Q
def OI(E:En)(f:Nat):Prop:=∀{h0 h:MH} {R l j:Nat} {ps:List Str} {d:Nat} {top:Int} {held:List Lock} {Q:D×MH->Prop},Wb E h0 (R+100*l+95) l h->Cd E.W j ps d top held->d < 3->5 < l->3*(5-d)≤f->IQ E h0 R l ps d Q->
 Rn (bT f [.ob E.s,.ob E.wd,.int j,.int d,.int top,.lv (held.map aL)] h) Q
end
theorem m8(r:Rn (b (entry len ds) h) (Bc fun p=>Rn (leave h p.1 p.2) Q)):Rn (Hq len b ds h) Q:=by
 obtain⟨p,e,q⟩:=aZ r;obtain⟨z,e2,k⟩:=q;refine⟨z,?_,k⟩;have e:((b (entry len ds) h).bind Jv)=some p:=e;show((b (entry len ds) h).bind Jv).bind _=_;rw[e];exact e2
theorem m9{isT:D->MH->Bool}{f:IZ}{o:EM}{m:AM}{δ:DS}{h:MH}{Q:D×MH->Prop}(r:Rn (o δ h) fun p=>isT p.1 p.2=true∧Rn (m δ p.2) fun q=>Rn (f p.1 q.1 q.2) Q):Rn (eM isT f o m δ h) Q:=
 aT (r.imp fun p ⟨e,r⟩=>by rw[Ut e];exact aT r)
theorem cc(e:h[n]?=some (.lst xs)):cR (.ob n) h=true:=by unfold cR fY;dsimp only;rw[e];rfl
theorem cA(e:h[n]?=some (.lst xs))(hl:xs.length < sizeLine):du (.ob n) [y] h=some (.bz,h.set n (.lst (xs++[y]))):=by unfold du;dsimp only;rw[e];dsimp only;rw[Ut hl]
theorem yg(n:Nat)(t:Term):g6 n (aV t)=true:=rfl
theorem rD(n:Nat)(t:Lock):g6 n (aL t)=true:=rfl
theorem fe(n:Nat)(f:α->D)(hf:∀x,g6 n (f x)=true):∀xs:List α,dH n (xs.map f)=true
 | []=>rfl
 | x::r=>by rw[Uv];show(g6 n (f x)&&dH n _)=true;rw[hf x,fe n f hf r];rfl
mutual
theorem tL(n:Nat):∀r:Row,g6 n (aQ r)=true
 | .say w=>by rw[aQ];rfl
 | .call d ts=>by rw[aQ];show(true&&(true&&(dH n _&&true)))=true;rw[fe n _ (yg n)];rfl
 | .within l b=>by rw[aQ];show(true&&(g6 n (aL l)&&(dH n _&&true)))=true;rw[rD,eF n b];rfl
 | .all ls b=>by rw[aQ];show(true&&(dH n _&&(dH n _&&true)))=true;rw[fe n _ (rD n),eF n b];rfl
 | .ask l b e=>by rw[aQ];show(true&&(g6 n (aL l)&&(dH n _&&(dH n _&&true))))=true;rw[rD,eF n b,eF n e];rfl
 | .tQ s t a b c=>by rw[aQ];show(true&&(g6 n (aV s)&&(g6 n (aV t)&&(dH n _&&(dH n _&&(dH n _&&true))))))=true;rw[yg,yg,eF n a,eF n b,eF n c];rfl
 | .either a b=>by rw[aQ];show(true&&(dH n _&&(dH n _&&true)))=true;rw[eF n a,eF n b];rfl
 | .again a=>by rw[aQ];show(true&&(dH n _&&true))=true;rw[eF n a];rfl
theorem eF(n:Nat):∀r:List Row,dH n (cu r)=true
 | []=>by rw[cu];rfl
 | r::rs=>by rw[cu];show(g6 n _&&dH n _)=true;rw[tL n r,eF n rs];rfl
end
theorem nF(e:H.length=n):(H++[a])[n]?=some a:=by rw[←e];simp
theorem Jp(e:H.length=n):(H++[a]).set n b=H++[b]:=by rw[←e];simp
section
variable {E:En} {f:Nat}
theorem BL(hr:ON E f):Fx E (f+1):=by
 intro h0 h R l j ps d top held most Q A G d5 hf m0 m1 k;unfold bx;refine m8 ?_;nofun;refine gx ?_;nofun;refine rv (a:=(.lv (List.replicate 15 (D.int most)),_)) rfl ?_;nofun;refine rv (a:=(.lv ((List.replicate 15 most++[12]).map D.int),_)) rfl ?_;nofun;refine FH (fun i=>1≤i∧i≤12) (by intro x hx;simp at hx;lia) (A.push (o:=.lst []) rfl) fun i h2 hi A2=>?_;nofun;refine w_next (m:=i+1) A2 (by lia) (by lia) fun m h3 n0 n1 A3=>?_;nofun;refine⟨m,rfl,by lia,by lia,?_⟩;obtain⟨hb,rfl,hbl,A3⟩:=A.pop A3;refine dO (fun i δ h'=>∃(t:List Row)(l':Nat)(d8:Option D)(hb:MH),δ=[some (.ob E.s),some (.ob E.wd),some (.int j),some (.int d),some (.int top),some (.lv (held.map aL)),some (.int most),some (.ob h.length),d8]∧h'=hb++[.lst (cu t)]∧hb.length=h.length∧bD E.W ps d t∧t.length≤i∧l'+cv t=l∧Wb E h0 (R+100*l'+2) l' hb)
  ⟨[],l,_,hb,rfl,by rw[cu],hbl,by unfold bD;trivial,Us _,by simp[cv],A3⟩ (fun _ _ _ _ _=>rfl) ?_ ?_
 ·rintro q x δ h' hx ⟨t,l',d8,hb,rfl,rfl,hbl,okl,hll,hc,A4⟩;have hq:q < 12:=by
   have:=(Ui.mp hx).1;simp at this
   lia
  have A5:=A4.push (o:=.lst (cu t)) (eF _ t);nofun;refine rv (q0 A5.w) ?_;nofun;refine⟨_,rfl,fun z=>?_,fun z=>?_⟩
  ·obtain⟨l1,rfl⟩:∃n,l'=n+1:=⟨l'-1,by have:=Vk z;lia⟩;nofun;refine rv (q0 A5.w) ?_;nofun;refine rv (FG A5.w _) ?_;rw[show((l1+1:Nat):Int)-1=(l1:Int) by lia];have A6:=A5.set l1;nofun;refine m9 ?_;nofun;refine⟨cc (xs:=cu t) (by rw[Vf (by have:=A4.lt;lia)];exact nF hbl),?_⟩;nofun;refine hr (R:=R+2) (A6.le (by lia)) G d5 (by lia) fun r l6 h6 okr cr A7=>?_;obtain⟨hb6,rfl,hbl6,A8⟩:=A4.pop A7;nofun;have hl6:=hbl6.trans hbl;refine rv (cA (nF hl6) (by rw[gG,Uh,show sizeLine=16777216 from rfl];lia)) ?_;rw[Jp hl6];nofun;have hcn:cv (t++[r])=cv t+cnt r:=by rw[Ah];simp[cv]
   exact⟨t++[r],l6,_,hb6,rfl,by rw[gG,gG,UH];rfl,hl6,vz okl (by unfold bD;exact⟨okr,by unfold bD;trivial⟩),by simp;lia,by lia,A8.le (by lia)⟩
  ·nofun;exact⟨t,l',_,hb,rfl,rfl,hbl,okl,by lia,hc,A4⟩
 ·rintro δ h' ⟨t,l',d8,hb,rfl,rfl,hbl,okl,hll,hc,A4⟩;rw[Uh,UI] at hll;nofun;refine rv (a:=(.tup (cu t),hb++[.lst (cu t)])) (by simp only[bL,cT,nF hbl,U4]) ?_;nofun;exact rv (nC hbl A4.C (fun n z=>(nomatch z)) (eF _ t)) (k t l' hb okl (by lia) hc (A4.le (by lia)))
end
theorem CO:∀{xs:List D} {δ:DS} {h:MH} (J:List D->DS->MH->Prop),J [] δ h->(∀ys δ h,J ys δ h->lC ws h=true)->
  (∀x ys δ h,x∈xs->ys.length < xs.length->J ys δ h->Rn (g x δ h) fun q=>Rn (e q.1 q.2) fun y=>J (ys++[y.1]) q.1 y.2)->Rn (bB ws g bU e xs δ h) fun p=>p.1.length=xs.length∧∃δ',J p.1 δ' p.2
 | [],δ,h,J,hJ,hc,_=>by
  unfold bB;rw[Ut (hc [] δ h hJ)];exact⟨_,rfl,rfl,δ,hJ⟩
 | x::xs,δ,h,J,hJ,hc,ht=>by
  unfold bB;rw[Ut (hc [] δ h hJ)];obtain⟨⟨δ1,h1⟩,e1,⟨y,h2⟩,e2,J1⟩:=ht x [] δ h Uo (W3 _) hJ;obtain⟨⟨ys,h3⟩,e3,a,δ',J2⟩:=CO (ws:=ws) (g:=g) (e:=e) (xs:=xs) (fun ys=>J (y::ys)) J1 (fun ys δ h=>hc (y::ys) δ h) fun x ys δ h hx hl=>ht x (y::ys) δ h (Ur _ hx) (Nat.succ_lt_succ hl);refine⟨(y::ys,h3),?_,congrArg Nat.succ a,δ',J2⟩;rw[e1];dsimp only[Option.bind_some];show((some (true,h1)).bind _)=_;dsimp only[Option.bind_some] at e2 e3 ⊢;rw[Ut rfl,e2];dsimp only[Option.bind_some];rw[e3];rfl
theorem tF(f:α->D)(xs ys:List α)(h:MH)(hl:xs.length+ys.length≤1000):aN (.lv (xs.map f)) (.lv (ys.map f)) h=some (.lv ((xs++ys).map f),h):=by
 rw[UH];simp only[aN,BS,fY,UT,Uh];rw[Ut (by rw[show sizeLine=16777216 from rfl];lia)]
theorem PX(P:Prop)[Decidable P](e:Rn (t δ h) fun p=>p=(decide P,h))(q1:P->Rn (x δ h) Q)(q2:¬P->Rn (y δ h) Q):Rn (fw t x y δ h) Q:=by
 refine Lz (e.imp ?_);rintro _ rfl;exact⟨fun z=>q1 (Vk z),fun z=>q2 (Y9 z)⟩
theorem fV(P:Prop)[Decidable P](e:Rn (t δ h) fun p=>p=(decide P,h))(q1:P->Rn (x δ h) (vb b Q))(q2:¬P->Rn (b δ h) Q):Rn (ah (fw t x bG) b δ h) Q:=
 lH (PX P e q1 fun z=>⟨_,rfl,q2 z⟩)
theorem dT [Decidable P](p:P)(h:MH):(true,h)=(decide P,h):=by rw[Ve p]
theorem dF [Decidable P](p:¬P)(h:MH):(false,h)=(decide P,h):=by rw[UX p]
section
variable {E:En} {f:Nat}
theorem vJ{n:Nat}(hlot:Fx E f){h0 h:MH}{R l j:Nat}{ps:List Str}{d:Nat}{top:Int}{held:List Lock}{Q:List D×MH->Prop}
  (A:Wb E h0 (R+100*l+12) l h) (hn:n≤3) (G:Cd E.W j ps d top held) (d5:d < 5) (hf:3*(5-d)≤f) (k:∀(lots:List (List Row)) (l':Nat) (h':MH),lots.length=n->(∀t∈lots,t.length≤12∧bD E.W ps (d+1) t)->l'+(lots.map cv).sum=l->Wb E h0 (R+100*l') l' h'->Q (lots.map (fun t=>D.tup (cu t)),h')):
  Rn (bB [] (gN 0) Sm.bU (ao (bx f) (ae (ay 4) (ae (ay 6) (ae (ay 1) (ae (aj aN (ay 2) (eK (.int 1))) (ae (ay 5) (ae (ay 3) (ae (eK (.int 2)) aP)))))))) ((List.range n).map fun(k:Nat)=>D.int k) [none,some (.int j),some (.int d),some (.lv (held.map aL)),some (.ob E.s),some (.int top),some (.ob E.wd)] h) Q:=by
 refine(CO (ws:=[]) (fun ys δ h'=>∃(d0:Option D)(lots:List (List Row)) (l':Nat),δ=[d0,some (.int j),some (.int d),some (.lv (held.map aL)),some (.ob E.s),some (.int top),some (.ob E.wd)]∧ys=lots.map (fun t=>D.tup (cu t))∧(∀t∈lots,t.length≤12∧bD E.W ps (d+1) t)∧l'+(lots.map cv).sum=l∧Wb E h0 (R+100*l'+(12-4*lots.length)) l' h') ⟨none,[],l,rfl,rfl,fun _ z=>(nomatch z),by simp,A⟩ (fun _ _ _ _=>rfl) ?_).imp ?_
 ·rintro x _ δ h' hx hys ⟨d0,lots,l',rfl,rfl,bj,hc,A1⟩;rw[Uh,Uh,UI] at hys;nofun;refine hlot (R:=R+(8-4*lots.length)) (d:=d+1) (A1.le (by lia)) G.deep (by lia) (by lia) (by decide) (by decide) fun t l2 h2 okl hll cr A2=>?_;refine⟨_,lots++[t],l2,rfl,by rw[UH];rfl,fun u z=>?_,by simp;lia,A2.le (by rw[Uy,Wr];lia)⟩;rcases U5.mp z with z | z
  ·exact bj u z
  ·rw[UC.mp z];exact⟨hll,okl⟩
 ·rintro⟨ys,h2⟩ ⟨hy,_,d0,lots,l',_,he,bj,hc,A1⟩;dsimp only at hy he;subst he;rw[Uh,Uh,UI] at hy;exact k lots l' h2 hy bj hc (A1.le (by lia))
theorem Mv(hlot:Fx E f)(hlk:IP E f)(htw:OI E f):ON E (f+1):=by
 intro h0 h R l j ps d top held Q A G d5 hf k;have pl:=G.pl;have n1:=E.ok.n1;have n2:=E.ok.n2;have d2:=E.ok.d2;unfold fk;refine aZ ?_;nofun;refine w_next (m:=16) A (by decide) (by decide) fun w h1 w0 w1 A1=>?_;refine fV (w < 2∨(d=5∧w < 11)) ?_ (fun z=>?_) (fun z=>?_)
 ·nofun;refine⟨_,rfl,fun z=>?_,fun z=>?_⟩
  ·have z:w < 2:=by simpa using z
   exact dT (.inl z) _
  ·have z:¬w < 2:=by simpa using z
   nofun;refine⟨_,rfl,fun y=>?_,fun y=>?_⟩
   ·have y0:(d:Int)=5:=by simpa using y
    have y:d=5:=by lia
    nofun;refine⟨_,rfl,?_⟩;rw[show decide (w < 11)=decide (w < 2∨(d=5∧w < 11)) from decide_eq_decide.mpr (by lia)]
   ·have y0:(d:Int)≠5:=by simpa using y
    have y:d≠5:=by lia
    exact dF (by lia) _
 ·nofun;refine rv (dZ A1.w) ?_;nofun;refine rv (eg A1.w) ?_;nofun;refine rv (tF D.str E.W.names E.W.ak _ (by lia)) ?_;nofun;refine O6 (xs:=(E.W.names++E.W.ak).map D.str) A1 (.inl rfl) (by simp;lia) (by simp;lia) fun x h2 hx A2=>?_;obtain⟨w',hw',rfl⟩:=UR.mp hx;nofun;rw[show D.tup [.str "say",.str w']=aQ (.say w') by rw[aQ]];exact k (.say w') l h2 (by unfold bh;exact hw') (by rw[cnt]) (A2.le (by lia))
 have nd:d=5->11≤w:=by lia
 have w2:2≤w:=by lia
 refine fV (12 < w∨d=5) ?_ (fun z=>?_) (fun z=>?_)
 ·nofun;refine⟨_,rfl,fun y=>?_,fun y=>?_⟩
  ·have y:12 < w:=by simpa using y
   exact dT (.inl y) _
  ·have y:¬12 < w:=by simpa using y
   nofun;refine⟨_,rfl,?_⟩;rw[show((d:Int)==5)=decide (12 < w∨d=5) by
    rw[Vz];simp only[VO,Vc];lia]
 ·nofun;refine L3 (R:=R+100*l) (A1.le (by lia)) G fun r h2 okr cr A2=>?_;nofun;exact k r l h2 (okr d) (by rw[cr]) A2
 have d4:d < 5:=by lia
 refine fV (w=12∧d < 3∧5 < (l:Int)) ?_ (fun z=>?_) (fun z=>?_)
 ·nofun;refine⟨_,rfl,fun y=>?_,fun y=>?_⟩
  ·have y:w=12:=by simpa using y
   nofun;refine⟨_,rfl,fun x=>?_,fun x=>?_⟩
   ·have x0:(d:Int) < 3:=by simpa using x
    have x:d < 3:=by lia
    nofun;refine rv (q0 A1.w) ?_;nofun;refine⟨_,rfl,?_⟩;rw[show decide (5 < (l:Int))=decide (w=12∧d < 3∧5 < (l:Int)) from decide_eq_decide.mpr (by lia)]
   ·have x0:¬(d:Int) < 3:=by simpa using x
    have x:¬d < 3:=by lia
    exact dF (by lia) _
  ·have y:w≠12:=by simpa using y
   exact dF (by lia) _
 ·nofun;refine htw (R:=R) (A1.le (by lia)) G z.2.1 (by lia) (by lia) fun r l2 h2 okr cr A2=>?_;nofun;exact k r l2 h2 okr cr A2
 refine fV (w=11∨w=12) ?_ (fun z=>?_) (fun z=>?_)
 ·nofun;refine⟨_,rfl,fun y=>?_,fun y=>?_⟩
  ·have y:w=11:=by simpa using y
   exact dT (.inl y) _
  ·have y:w≠11:=by simpa using y
   nofun;refine⟨_,rfl,?_⟩;rw[show(w==12)=decide (w=11∨w=12) by rw[Vz];simp only[VO,Vc];lia]
 ·show Rn (ah _ _ _ _) _;nofun;refine rv (df A1.w) ?_;nofun;refine rv (cg G.hp) ?_;nofun;refine wz A1 pl fun t1 h2 tk1 A2=>?_;nofun;refine rv (df A2.w) ?_;nofun;refine rv (cg G.hp) ?_;nofun;refine wz A2 pl fun t2 h3 tk2 A3=>?_;nofun;refine⟨_,_,rfl,?_⟩;nofun;refine gx ?_;nofun;refine⟨3,rfl,by lia,by lia,?_⟩;refine vJ (n:=3) (R:=R) hlot (A3.le (by lia)) (by lia) G d4 (by lia) fun lots l4 h4 hn bj cr A4=>?_
  match lots,hn with
  | [x,y,v],_=>
   refine⟨by show 3≤sizeLine;decide,?_⟩;nofun;refine rv (a:=(.tup [.tup (cu x),.tup (cu y),.tup (cu v)],_)) rfl ?_;nofun;refine rv (a:=(aQ (.tQ t1 t2 x y v),_)) (by rw[aQ];rfl) ?_;nofun;simp only[Uv,VQ,YC,List.sum_nil] at cr;have hx:=bj x (by simp);have hy:=bj y (by simp);have hv:=bj v (by simp);exact k (.tQ t1 t2 x y v) l4 h4 (by unfold bh;exact⟨tk1,tk2,d4,hx.1,hy.1,hv.1,hx.2,hy.2,hv.2⟩) (by rw[cnt];lia) A4
 refine fV (w=10) ?_ (fun z=>?_) (fun z=>?_)
 ·nofun;refine⟨_,rfl,?_⟩;rw[show(w==10)=decide (w=10) by rw[Vz];simp only[VO,Vc]]
 ·nofun;refine gx ?_;nofun;refine⟨2,rfl,by lia,by lia,?_⟩;refine vJ (n:=2) (R:=R) hlot (A1.le (by lia)) (by lia) G d4 (by lia) fun lots l2 h2 hn bj cr A2=>?_
  match lots,hn with
  | [x,y],_=>
   refine⟨by show 2≤sizeLine;decide,?_⟩;nofun;refine rv (a:=(.tup [.tup (cu x),.tup (cu y)],_)) rfl ?_;nofun;refine rv (a:=(aQ (.either x y),_)) (by rw[aQ];rfl) ?_;nofun;simp only[Uv,VQ,YC,List.sum_nil] at cr;have hx:=bj x (by simp);have hy:=bj y (by simp);exact k (.either x y) l2 h2 (by unfold bh;exact⟨d4,hx.1,hy.1,hx.2,hy.2⟩) (by rw[cnt];lia) A2
 refine fV (w=9) ?_ (fun z=>?_) (fun z=>?_)
 ·nofun;refine⟨_,rfl,?_⟩;rw[show(w==9)=decide (w=9) by rw[Vz];simp only[VO,Vc]]
 ·nofun;refine hlot (R:=R) (d:=d+1) (A1.le (by lia)) G.deep (by lia) (by lia) (by decide) (by decide) fun t l2 h2 okl hll cr A2=>?_;nofun;rw[show D.tup [.str "again",.tup (cu t)]=aQ (.again t) by rw[aQ]];exact k (.again t) l2 h2 (by unfold bh;exact⟨d4,hll,okl⟩) (by rw[cnt];lia) A2
 nofun;refine O6 (xs:=[Str.ofString "within",Str.ofString "within",Str.ofString "within",Str.ofString "within",Str.ofString "ask",Str.ofString "all"].map D.str) A1 (.inl rfl) (by simp) (by simp) fun x h2 hx A2=>?_;obtain⟨w',hw',rfl⟩:=UR.mp hx;nofun;refine hlk (R:=R) (A2.le (by lia)) G d4 (by lia) (by simp at hw' ⊢;lia) fun r l3 h3 okr cr A3=>?_;nofun;exact k r l3 h3 okr cr A3
end
noncomputable def fQ(t:Lock):PyData:=.tuple [.str t.1,rL t.2]
theorem GL(t:Term):qa (aV t)=some (rL t):=by simp only[aV,qa,iA,UT,U4];rfl
theorem zk(t:Lock):qa (aL t)=some (fQ t):=by simp only[aL,qa,iA,GL,UT,U4];rfl
theorem o5:∀ts:List Lock,iA (ts.map aL)=some (ts.map fQ)
 | []=>rfl
 | c::r=>by simp only[Uv,iA,o5 r,zk,UT,U4]
theorem gZ:∀ts:List Lock,PyData.depthAll (ts.map fQ)≤2
 | []=>by simp[PyData.depthAll]
 | c::r=>by
  have:=gZ r;simp only[Uv,PyData.depthAll,fQ,rL,PyData.depth]
  lia
theorem x3{h:MH}{n:Nat}{ls:List Lock}(x:Lock)(e:h[n]?=some (.lst (ls.map aL))):jl (aL x) (.ob n) h=some (.bl (!(ls.map fQ).any fun b=>PyData.eqv b (fQ x)),h):=by
 have h1:=gZ ls;have h2:=gZ [x];have h3:(fQ x).depth≤60:=by
  simp only[Uv,VQ,PyData.depthAll] at h2
  lia
 unfold jl inD;simp only[dY,e];show((cT (.ob n) h).bind _).map _=_;simp only[cT,e,UT,o5];show(((Ej h (aL x)).bind _).map _)=_;rw[show Ej h (aL x)=some (fQ x) from zk x];dsimp only[Option.bind_some];rw[Ut ⟨h3,by lia⟩];rfl
theorem MT(r:Rn (ma δ h) fun p=>Rn (mb δ p.2) fun q=>∃xs ys,fY p.1 q.2=some xs∧fY q.1 q.2=some ys∧xs.length+ys.length≤sizeLine∧Q (xs++ys,q.2)):Rn (OH ma mb δ h) Q:=
 aT (r.imp fun p r=>aT (r.imp fun q ⟨xs,ys,e1,e2,hl,hq⟩=>⟨_,by rw[e1];dsimp only[Option.bind_some];rw[e2];dsimp only[Option.bind_some];rw[Ut hl],hq⟩))
theorem HV(x:Lock):PyData.eqv (fQ x) (fQ x)=true:=by
 simp[fQ,rL,PyData.eqv,PyData.eqvAll]
theorem Ju(r:Row)(n:Nat):aQ r≠.ob n:=by cases r <;> rw[aQ] <;> exact fun z=>(nomatch z)
theorem Wb.ext(A:Wb E h0 R l h)(C:Cl (h++g)):Wb E (h++g) R l (h++g):=⟨A.S.more _,by rw[UG A.lt.2.2];exact A.w,C,gU.refl _ _ _⟩
theorem GH(b:gU E.s E.wd h0 h)(k:IQ E h0 R l ps d Q)(r:Row)(ok:bh E.W ps d r)(hc:l'+cnt r=l+1)(A:Wb E h (R+100*l') l' hb)(e:aQ r=x):Rn (leave h x (hb++g)) Q:=
 ⟨_,e ▸ nC A.b.1 A.C (Ju r) (tL _ r),k r l' hb ok hc (A.tr b)⟩
theorem xn(b:gU E.s E.wd h0 h)(k:IQ E h0 R l ps d Q)(r:Row)(ok:bh E.W ps d r)(hc:l'+cnt r=l+1)(A:Wb E h (R+100*l') l' hb)(e:aQ r=x):Rn (leave h x hb) Q:=by
 have:=GH (g:=[]) b k r ok hc A e
 rwa [Vy] at this
section
variable {E:En} {f:Nat}
theorem EL(hlot:Fx E f):IP E (f+1):=by
 intro h0 h R l j ps d top held way Q A G d5 hf hw k;obtain⟨dj,hdj⟩:∃f,E.W.ak[j]?=some f:=⟨_,Um G.hj⟩;have hl:=G.hl;have ht:=G.ht;have b0:=A.b;replace A:=A.here;unfold cL;refine m8 ?_;nofun;refine FI A G (by lia) (fun k1 lk h1 hmx k0 k2 okk A1=>?_) fun h1 _ A1=>?_
 ·nofun;refine rv (a:=(.bl false,_)) rfl ⟨_,rfl,fun z=>(nomatch z),fun _=>?_⟩;refine⟨_,rfl,?_⟩;show Rn (ah _ _ _ _) _;refine fV (way=Str.ofString "all") ?_ (fun z=>?_) (fun z=>?_)
  ·nofun;refine⟨_,rfl,?_⟩;rw[show(way==Str.ofString "all")=decide (way=Str.ofString "all") by rw[Vz];simp only[VO,Vc]]
  ·show Rn (ah _ _ _ _) _;nofun;refine⟨_,_,rfl,?_⟩;nofun;refine gx ?_;nofun;refine FH (is:=[1,1,2,3]) (fun i=>1≤i∧i≤3) (by decide) (A1.push (o:=.lst [aL lk]) rfl) fun i h2 hi A2=>?_;obtain⟨hb2,rfl,e2,A2'⟩:=A1.pop A2;nofun;refine⟨i,rfl,by lia,by lia,?_⟩;refine dO (fun i δ h'=>∃(ls:List Lock)(hi:Int)(n:Nat)(d11 d12 d13:Option D)(hb g:MH),δ=[some (.ob E.s),some (.ob E.wd),some (.int j),some (.int d),some (.int top),some (.lv (held.map aL)),some (.str way),some (.int k1),some (aL lk),some (.ob n),some (.int hi),d11,d12,d13,none]∧h'=hb++g∧h'[n]?=some (.lst (ls.map aL))∧h.length≤n∧lk∈ls∧ls.Nodup∧(∀x∈ls,fJ E.W ps x)∧ls.length≤i+1∧0≤hi∧hi < E.W.names.length∧Wb E h (R+100*l+(80-10*i)) l hb∧Cl (hb++g))
    ⟨[lk],k1,h1.length,none,none,none,hb2,[.lst [aL lk]],rfl,rfl,nF e2,by rw[A1.b.1];exact Us _,by simp,by simp,by simpa using okk,Us _,k0,k2,A2'.le (by lia),A2.C⟩ (fun _ _ _ _ _=>rfl) ?_ ?_
   ·rintro q x δ h' hx ⟨ls,hi',n,d11,d12,d13,hb,g,rfl,rfl,hn,hnl,hlk,nd,bj,hll,hi0,hi1,A3,C3⟩;have hq:q < 3:=by
     have:=(Ui.mp hx).1;simp at this
     lia
    nofun;refine FI (R:=R+100*l+(80-10*(q+1))) ((A3.ext C3).le (by lia)) G (by lia) (fun k4 lk4 h4 _ k40 k41 okk4 A4=>?_) fun h1 z4 _=>absurd z4 (by lia)
    ·have hn4:h4[n]?=some (.lst (ls.map aL)):=by
      have:=A.lt;rw[A4.b.2 n (by lia) (by lia)];exact hn
     obtain⟨hb4,rfl,e4,A4'⟩:=A3.pop A4;nofun;refine rv (k6 _ _ _) ?_;nofun;refine MT ?_;nofun;refine rv (x3 lk4 hn4) ?_;obtain⟨us,v,hv,hus,husl,qW,hokk⟩:∃(us:List Lock)(v:Int),z8 [.bl (!(ls.map fQ).any fun b=>PyData.eqv b (fQ lk4))] (hb4++g)=some (.int v,hb4++g)∧KO (.lv [aL lk4]) (.int v) (hb4++g)=some (.lv (us.map aL),hb4++g)∧us.length≤1∧(ls++us).Nodup∧∀x∈ls++us,fJ E.W ps x:=by
      cases hb0:((ls.map fQ).any fun b=>PyData.eqv b (fQ lk4)) with
      | true=>exact⟨[],0,rfl,rfl,by simp,by simpa using nd,by simpa using bj⟩
      | false=>
       have hnot:lk4∉ls:=fun z=>by
        rw[Zs] at hb0;exact hb0 (fQ lk4) (List.mem_map_of_mem z) (HV lk4)
       refine⟨[lk4],1,rfl,rfl,by simp,?_,?_⟩
       ·rw[Xb];refine⟨nd,by simp,fun x hx y hy z=>hnot ?_⟩;rw[UC.mp hy] at z;rw[←z];exact hx
       ·intro x hx;rcases U5.mp hx with z | z
        ·exact bj x z
        ·rw[UC.mp z];exact okk4
     nofun;refine rv hv ?_;nofun;refine rv hus ?_;refine⟨ls.map aL,us.map aL,by simp only[fY,hn4],rfl,by rw[Uh,Uh,show sizeLine=16777216 from rfl];lia,?_⟩;refine⟨ls++us,max hi' k4,(hb4++g).length,_,_,_,hb4,g++[.lst ((ls++us).map aL)],rfl,by rw[UH];exact VW _ _ _,by rw[UH];simp,?_,XM _ hlk,qW,hokk,by simp;lia,by lia,by lia,A4',?_⟩
     ·have:=A4'.b.1;rw[Uy];lia
     ·rw[←VW];exact A4.C.snoc (o:=.lst _) (fe _ _ (rD _) _)
   ·rintro δ h' ⟨ls,hi',n,d11,d12,d13,hb,g,rfl,rfl,hn,hnl,hlk,nd,bj,hll,hi0,hi1,A3,C3⟩;rw[Uh,UI] at hll A3;replace A3:=A3.le (R':=R+100*l+10) (by lia);show Rn (ah _ _ _ _) _;refine lH ?_;refine Rn.imp (Q:=fun r=>∃(ls:List Lock)(g:MH),r=(Fl.nx,[some (.ob E.s),some (.ob E.wd),some (.int j),some (.int d),some (.int top),some (.lv (held.map aL)),some (.str way),some (.int k1),some (aL lk),some (.ob n),some (.int hi'),d11,d12,d13,none],hb++g)∧(hb++g)[n]?=some (.lst (ls.map aL))∧2≤ls.length∧ls.length≤4∧ls.Nodup∧(∀x∈ls,fJ E.W ps x)∧Cl (hb++g)) ?_ ?_
    ·nofun;refine rv (Ds hn) ?_;nofun;refine⟨_,rfl,fun z=>?_,fun z=>?_⟩
     ·have z:ls.length=1:=by
       have:((ls.map aL).length:Int)=1:=by simpa using z
       rw[Uh] at this
       lia
      obtain⟨x0,rfl⟩:∃x0,ls=[x0]:=List.length_eq_one_iff.mp z;obtain rfl:lk=x0:=UC.mp hlk;obtain⟨nm,wo,fi⟩:=lk;have hok0:=bj _ (UC.mpr rfl);nofun;refine m9 ?_;nofun;refine⟨cc hn,?_⟩;nofun;refine rv (a:=(.str nm,_)) rfl ?_;nofun;refine rv (a:=(aV (wo,fi),_)) rfl ?_;nofun;refine rv (a:=(.str wo,_)) rfl ?_;nofun;refine rv (a:=(aV (wo,fi),_)) rfl ?_;nofun;refine rv (a:=(.int fi,_)) rfl ?_;nofun;refine rv (a:=(aV (wo,fi),_)) rfl ?_;nofun;refine rv (a:=(.int fi,_)) rfl ?_;nofun;obtain⟨v,hv,hm,v1,v0⟩:∃v:Int,z8 [.bl (decide (90 < fi))] (hb++g)=some (.int v,hb++g)∧kr (.int 2) (.int v) (hb++g)=some (.int (2*v),hb++g)∧(90 < fi->v=1)∧(¬90 < fi->v=0):=by
       by_cases z:90 < fi
       ·exact⟨1,by rw[Ve z];rfl,rfl,fun _=>rfl,fun y=>absurd z y⟩
       ·exact⟨0,by rw[UX z];rfl,rfl,fun y=>absurd y z,fun _=>rfl⟩
      refine rv hv ?_;nofun;refine rv hm ?_;nofun;refine rv (cA hn (by rw[Uh,show sizeLine=16777216 from rfl];simp)) ?_;nofun;have hlen:=A3.b.1;rw[XD _ _ (by lia)];have okf:=hok0.2;have okn:=hok0.1;dsimp only at okn;unfold fb at okf;dsimp only at okf;have hvv:v=0∨v=1:=by by_cases z:90 < fi <;> lia
      refine⟨[(nm,wo,fi),(nm,wo,fi+1-2*v)],_,rfl,?_,by simp,by simp,?_,?_,?_⟩
      ·rw[US (by lia),Vs]
       ·rfl
       ·have:=(Ui.mp hn).1;rw[Uy] at this
        lia
      ·simp;lia
      ·intro x hx;rcases UE.mp hx with rfl | hx
       ·exact hok0
       ·rw[UC.mp hx];exact⟨okn,okf.1,by dsimp only;lia,by dsimp only;lia⟩
      ·rw[←XD _ _ (by lia)];exact C3.set (o:=.lst _) rfl
     ·have z:ls.length≠1:=by
       have:((ls.map aL).length:Int)≠1:=by simpa using z
       rw[Uh] at this
       lia
      have:0 < ls.length:=YT hlk;exact⟨_,rfl,ls,g,rfl,hn,by lia,by lia,nd,bj,C3⟩
    rintro _ ⟨ls,g,rfl,hn,l2,l4,nd,bj,C4⟩;have A4:=A3.ext C4;show Rn (ah _ _ _ _) _;nofun;refine rv (AA A4.w) ?_;nofun;obtain⟨v,hv,v0,v1⟩:∃v:Int,z8 [.bl (E.odd==0)] (hb++g)=some (.int v,hb++g)∧0≤v∧v≤1:=by
     cases E.odd==0
     ·exact⟨0,rfl,by lia,by lia⟩
     ·exact⟨1,rfl,by lia,by lia⟩
    refine rv hv ?_;nofun;refine rv (a:=(.tup (ls.map aL),_)) (by simp only[bL,cT,hn,U4];rfl) ?_;nofun;refine rv (k6 _ _ _) ?_;nofun;refine rv (a:=(.lv ((held++ls).map aL),_)) (by
     rw[UH];simp only[aN,BS,fY,hn,UT,Uh];rw[Ut (by rw[show sizeLine=16777216 from rfl];lia)]) ?_
    nofun;refine hlot (R:=R) (d:=d+1) (A4.le (by lia)) (G.more (n:=1) (by lia) (by lia) bj) (by lia) (by lia) (by decide) (by decide) fun t l5 h5 okl hll5 cr A5=>?_;obtain⟨hb5,rfl,_,A5'⟩:=A3.pop A5;nofun;exact GH b0 k (.all ls t) (by unfold bh;exact⟨⟨l2,l4,nd,bj⟩,d5,hll5,okl⟩) (by rw[cnt];lia) A5' (by rw[aQ])
  refine lH ?_;nofun;refine rv (k6 _ _ _) ?_;nofun;refine rv (tF aL held [lk] _ (by simp;lia)) ?_;nofun;refine hlot (R:=R+10) (d:=d+1) (A1.le (by lia)) (G.more (n:=1) (ls:=[lk]) (by lia) (by simp) (by simpa using okk)) (by lia) (by lia) (by decide) (by decide) fun t l2 h2 okl hll cr A2=>?_;refine Rn.imp (Q:=_) (fV (way=Str.ofString "ask") ?_ (fun z=>?_) (fun z=>?_)) fun _ z=>z
  ·nofun;refine⟨_,rfl,?_⟩;rw[show(way==Str.ofString "ask")=decide (way=Str.ofString "ask") by rw[Vz];simp only[VO,Vc]]
  ·nofun;refine hlot (R:=R) (d:=d+1) (A2.le (by lia)) G.deep (by lia) (by lia) (by decide) (by decide) fun t3 l3 h3 okl3 hll3 cr3 A3=>?_;nofun;exact xn b0 k (.ask lk t t3) (by unfold bh;exact⟨okk,d5,hll,hll3,okl,okl3⟩) (by rw[cnt];lia) A3 (by rw[aQ])
  ·nofun;exact xn b0 k (.within lk t) (by unfold bh;exact⟨okk,d5,hll,okl⟩) (by rw[cnt];lia) (A2.le (by lia)) (by rw[aQ])
 ·nofun;refine rv (a:=(.bl true,_)) rfl ⟨_,rfl,fun _=>?_,fun z=>(nomatch z)⟩;nofun;refine rv (eg A1.w) ?_;nofun;refine rv (cg hdj) ?_;nofun;exact xn b0 k (.say dj) (by unfold bh;exact UU _ (Ul hdj)) (by rw[cnt]) (A1.le (by lia)) (by rw[aQ])
end
theorem BQ(ts:List Lock)(h:MH):lu (.lv (ts.map aL)) (.lv []) h=some (.bl (!ts.isEmpty),h):=by
 have:=gZ ts;simp only[lu,LK,dY,LJ,Ej,o5,qa,iA,U4,UT];rw[Ut ⟨show PyData.depthAll _+1≤64 by lia,by decide⟩];cases ts <;> rfl
section
variable {E:En}
theorem L8{f:Nat}(hlot:Fx E f):OI E (f+1):=by
 intro h0 h R l j ps d top held Q A G d3 l5 hf k;have pl:=G.pl;have hl:=G.hl;have ht:=G.ht;have b0:=A.b;replace A:=A.here;obtain⟨dj,hdj⟩:∃f,E.W.ak[j]?=some f:=⟨_,Um G.hj⟩;obtain⟨fj,hfj⟩:∃f,E.fl[j]?=some f:=⟨_,Um (by rw[E.ok.SF];exact G.hj)⟩;have hfm:=E.ok.f0 fj (Ul hfj);have hsay:Rn (leave h (.tup [.str "say",.str dj]) h) Q:=xn b0 k (.say dj) (by unfold bh;exact UU _ (Ul hdj)) (by rw[cnt]) (A.le (by lia)) (by rw[aQ]);unfold bT;refine m8 ?_;nofun;refine rv (oB A.w) ?_;nofun;refine rv (cg hfj) ?_;nofun;refine rv (k6 top fj h) ?_;have lo0:0≤max top fj:=by lia
 have lo1:max top fj≤E.W.names.length:=by lia
 generalize max top fj=lo at lo0 lo1 ⊢;refine fV (lo=E.W.names.length) ?_ (fun z=>?_) (fun z=>?_)
 ·nofun;refine rv (dZ A.w) ?_;nofun;refine⟨_,rfl,?_⟩;rw[Uh,show(lo==(E.W.names.length:Int))=decide (lo=E.W.names.length) by rw[Vz];simp only[VO,Vc]]
 ·nofun;refine rv (eg A.w) ?_;nofun;refine rv (cg hdj) ?_;nofun;exact hsay
 obtain⟨kn,rfl⟩:=VX lo0;have hkn:kn < E.W.names.length:=by lia
 obtain⟨nm,hnm⟩:∃f,E.W.names[kn]?=some f:=⟨_,Um hkn⟩;refine lH ?_;nofun;refine eV ?_;nofun;refine⟨_,_,rfl,?_⟩;obtain⟨⟨ys,h4⟩,e4,hyl,hym,δ4,hh4,_⟩:=rm (ws:=[]) (g:=gN 0) (c:=aA (aj cj (aj aE (ay 0) (eK (.int 0))) (aj aE (aj aE (ay 2) (eK (.str "names"))) (ay 1)))) (e:=ay 0) (fun x y=>∃l∈held,y=aL l)
  (xs:=held.map aL) (δ:=[none,some (.int kn),some (.ob E.wd)]) (h:=h) (fun j δ h'=>h'=h∧∃d0,δ=[d0,some (.int kn),some (.ob E.wd)]) ⟨rfl,_,rfl⟩ (fun _ _ _ _ _=>rfl) (by
   rintro i x δ h' hx ⟨rfl,d0,rfl⟩;obtain⟨l,hl,rfl⟩:=UR.mp (Ul hx);nofun;refine rv (a:=(.str l.1,_)) rfl ?_;nofun;refine rv (dZ A.w) ?_;nofun;refine rv (cg hnm) ?_;nofun;refine⟨_,rfl,fun _=>?_,fun _=>⟨rfl,_,rfl⟩⟩;nofun;exact⟨⟨l,hl,rfl⟩,rfl,_,rfl⟩)
 dsimp only at hh4;subst hh4;refine rv e4 ⟨UL hyl (by rw[Uh,show sizeLine=16777216 from rfl];lia),?_⟩;obtain⟨ts,rfl⟩:∃ts:List Lock,ys=ts.map aL:=by
  clear e4 hyl
  induction ys with
  | nil=>exact⟨[],rfl⟩
  | cons y r ih=>
   obtain⟨js,rfl⟩:=ih fun z hz=>hym z (Ur _ hz);obtain⟨x,hx,l,hl,rfl⟩:=hym y Uo;exact⟨l::js,rfl⟩
 nofun;refine rv (BQ ts _) ⟨_,rfl,fun z=>?_,fun z=>?_⟩
 ·nofun;refine rv (eg A.w) ?_;nofun;refine rv (cg hdj) ?_;nofun;exact hsay
 nofun;refine rv (dZ A.w) ?_;nofun;refine rv (cg hnm) ?_;nofun;refine rv (q0 A.w) ?_;nofun;refine rv (FG A.w _) ?_;rw[show(l:Int)-5=((l-5:Nat):Int) by lia];have A1:=A.set (l-5);generalize h4.set E.wd (oz E.W E.fl ((l-5:Nat):Int) E.odd)=h5 at A1 ⊢;nofun;refine rv (df A1.w) ?_;nofun;refine rv (cg G.hp) ?_;nofun;refine wz A1 pl fun t1 h2 tk1 A2=>?_;nofun;refine rv (df A2.w) ?_;nofun;refine rv (cg G.hp) ?_;nofun;refine wz A2 pl fun t2 h3 tk2 A3=>?_;nofun;refine⟨_,_,rfl,?_⟩;nofun;refine eV ?_;nofun;refine⟨_,_,rfl,?_⟩;have hlen3:=A3.b.1;have okn:=Ul hnm;refine dO (fun i δ h'=>∃(rows:List Row)(l':Nat)(d11 d12 d13:Option D)(hb:MH),δ=[some (.ob E.s),some (.ob E.wd),some (.int j),some (.int d),some (.int top),some (.lv (held.map aL)),some (.int kn),some (.str nm),some (aV t1),some (aV t2),some (.ob h3.length),d11,d12,d13]∧h'=hb++[.lst (rows.map fun r=>.tup [aQ r])]∧rows.length=i∧(∀r∈rows,bh E.W ps (d+1) r)∧l'+(rows.map cnt).sum+5=l+2*i∧Wb E h4 (R+100*l'+(8-4*i)) l' hb)
  ⟨[],l-5,_,_,_,h3,rfl,rfl,rfl,fun _ z=>(nomatch z),by simp;lia,A3.le (by lia)⟩ (fun _ _ _ _ _=>rfl) ?_ ?_
 ·rintro i x δ h' hx ⟨rows,l',d11,d12,d13,hb,rfl,rfl,hrl,hro,hc,A6⟩;have hi:i < 2:=(Ui.mp hx).1;obtain⟨u,v,rfl,uk,vk⟩:∃u v:Term,x=.tup [aV u,aV v]∧fb ps u∧fb ps v:=by
   rcases UE.mp (Ul hx) with rfl | hx
   ·exact⟨t1,t2,rfl,tk1,tk2⟩
   ·rw[UC.mp hx];exact⟨t2,t1,rfl,tk2,tk1⟩
  have hlb:hb.length=h3.length:=A6.b.1.trans hlen3.symm;generalize hrs:rows.map (fun r=>D.tup [aQ r])=rs;have hcl:dH (hb.length+1) rs=true:=by rw[←hrs];exact fe _ _ (fun r=>by show(g6 _ (aQ r)&&true)=true;rw[tL];rfl) rows
  nofun;refine rv (tF aL held [(nm,u),(nm,v)] _ (by simp;lia)) ?_;nofun;refine hlot (R:=R+(8-4*(i+1))) (d:=d+3) ((A6.push (o:=.lst rs) hcl).le (by lia)) (G.more (n:=3) (ls:=[(nm,u),(nm,v)]) lo1 (by simp) (by
   intro x hx;rcases UE.mp hx with rfl | z
   ·exact⟨okn,uk⟩
   ·rw[UC.mp z];exact⟨okn,vk⟩)) (by lia) (by lia) (by decide) (by decide) fun t l7 h7 okl hll cr A7=>?_
  obtain⟨hb7,rfl,e7,A7'⟩:=A6.pop A7;have hl7:=e7.trans hlb;nofun;refine m9 ?_;nofun;refine⟨cc (nF hl7),?_⟩;nofun;refine rv (cA (nF hl7) (by rw[←hrs,Uh,show sizeLine=16777216 from rfl];lia)) ?_;rw[Jp hl7];nofun;have hcn:((rows++[Row.within (nm,u) [Row.within (nm,v) t]]).map cnt).sum=(rows.map cnt).sum+(2+cv t):=by
   rw[UH,List.sum_append];simp[cnt,cv]
   lia
  refine⟨rows++[.within (nm,u) [.within (nm,v) t]],l7,_,_,_,hb7,rfl,?_,by simp[hrl],?_,by rw[hcn];lia,A7'.le (by lia)⟩
  ·rw[UH,hrs];simp[aQ,cu,aL]
  ·intro r hr;rcases U5.mp hr with z | z
   ·exact hro r z
   ·rw[UC.mp z];simp only[bh,bD];exact⟨⟨okn,uk⟩,by lia,by simp,⟨⟨okn,vk⟩,by lia,hll,okl⟩,trivial⟩
 ·rintro δ h' ⟨rows,l',d11,d12,d13,hb,rfl,rfl,hrl,hro,hc,A6⟩
  match rows,hrl with
  | [r0,r1],_=>
   have hc:l'+(([r0,r1]:List Row).map cnt).sum+5=l+2*2:=hc;have hat:(hb++[MO.lst [.tup [aQ r0],.tup [aQ r1]]])[h3.length]?=some (.lst [.tup [aQ r0],.tup [aQ r1]]):=nF (A6.b.1.trans hlen3.symm);show Rn _ _;nofun;refine rv (kz hat (d:=.tup [aQ r0]) rfl) ?_;nofun;refine rv (kz hat (d:=.tup [aQ r1]) rfl) ?_;nofun;refine GH b0 k (.tQ t1 t2 [r0] [.within (nm,t1) []] [r1]) ?_ ?_ (A6.le (by lia)) (by simp[aQ,cu,aL])
   ·simp only[bh,bD];exact⟨tk1,tk2,by lia,by simp,by simp,by simp,⟨hro r0 (by simp),trivial⟩,⟨⟨⟨okn,tk1⟩,by lia,by simp,trivial⟩,trivial⟩,⟨hro r1 (by simp),trivial⟩⟩
   ·simp[cnt,cv] at hc ⊢;lia
theorem ring:∀f,Fx E f∧ON E f∧IP E f∧OI E f
 | 0=>⟨fun _ _ _ z=>absurd z (by lia),fun _ _ _ z=>absurd z (by lia),fun _ _ z1 z=>absurd z (by lia),fun _ _ z1 _ z=>absurd z (by lia)⟩
 | f+1=>let⟨a,b,c,d⟩:=ring f;⟨BL b,Mv a c d,EL a,L8 a⟩
end
theorem rq{P:Int->Prop}:∀{zs:List D},(∀y∈zs,∃i,y=.int i∧P i)->∃js:List Int,zs=js.map D.int∧∀j∈js,P j
 | [],_=>⟨[],rfl,fun _ z=>(nomatch z)⟩
 | y::r,h=>by
  obtain⟨js,rfl,q⟩:=rq (zs:=r) fun z hz=>h z (Ur _ hz);obtain⟨i,rfl,p⟩:=h y Uo;exact⟨i::js,rfl,fun j hj=>by
   rcases UE.mp hj with rfl | hj
   ·exact p
   ·exact q j hj⟩
theorem E6(f:α->D)(xs:List α)(k:Nat)(h:MH):pR (.lv (xs.map f)) none (some (k:Int)) h=some (.lv ((xs.take k).map f),h):=by
 show some (D.lv (cutD (xs.map f) none (some (k:Int))),h)=_;unfold cutD;rw[HT.mT,HT.w5,W5,YS,Uh,←XW]
 by_cases z:k≤xs.length
 ·rw[WH z]
 ·rw[Nat.min_eq_right (by lia),Wk (Us _),Wk (by lia)]
theorem K6{h h0:MH}{s c R:Nat}{cs:List Int}{most odd:Int}{Q:D×MH->Prop}(A:Sb s c cs h0 (R+80) h)(o0:0≤odd)(o1:odd≤1000)(k:∀(W:Wd)(fl:List Int)(hb:MH),Cj W fl odd->Sb s c cs h0 R hb->Q (.ob hb.length,hb++[oz W fl most odd])):Rn (gc [.ob s,.int most,.int odd] h) Q:=by
 refine aZ ?_;nofun;refine jA (is:=[1,2,2,3,4,6]) (fun i=>1≤i∧i≤6) (by decide) A fun n1 h1 hn1 _ A1=>?_;nofun;refine yp A1 (by lia) (by lia) fun ns h2 nl nk nnd A2=>?_;nofun;refine jA (is:=[1,1,2,2,3,4,6]) (fun i=>1≤i∧i≤6) (by decide) A2 fun n2 h3 hn2 _ A3=>?_;nofun;refine yp A3 (by lia) (by lia) fun ds h4 dl dk dnd A4=>?_;nofun;refine yp A4 (by lia) (by lia) fun ps h5 pl pk pnd A5=>?_;nofun;refine eV ?_;nofun;refine⟨_,_,rfl,?_⟩;obtain⟨⟨ys,h6⟩,e6,a6,δ6,_,A6⟩:=ng (ws:=[]) (g:=gN 0) (e:=ao aB (ae (ay 1) (ae (eK (.lv [.int 0,.int 1,.int 1,.int 2,.int 2,.int 3])) aP))) (fun _ y=>∃i,y=.int i∧0≤i∧i≤3)
  (xs:=ds.map D.str) (δ:=[none,some (.ob s)]) (h:=h5) (fun i δ h'=>(∃d0,δ=[d0,some (.ob s)])∧Sb s c cs h0 (R+18-i) h') ⟨⟨_,rfl⟩,A5⟩ (fun _ _ _ _ _=>rfl) (by
   rintro i x δ h' hx ⟨⟨d0,rfl⟩,A6⟩;have hi:i < 6:=by
    have:=(Ui.mp hx).1;rw[Uh] at this
    lia
   nofun;exact jA (R:=R+18-(i+1)) (is:=[0,1,1,2,2,3]) (fun i=>0≤i∧i≤3) (by decide) (A6.le (by lia)) fun i h7 hi _ A7=>⟨⟨i,rfl,hi⟩,⟨_,rfl⟩,A7⟩)
 have l6:=a6.length;obtain⟨many,rfl,hmany⟩:=rq (P:=fun i=>0≤i∧i≤3) fun y hy=>(let⟨_,_,r⟩:=a6.right y hy;r);dsimp only at l6;rw[Uh,Uh] at l6;rw[Uh] at A6;refine rv e6 ⟨by dsimp only;rw[Uh,show sizeLine=16777216 from rfl];lia,?_⟩;nofun;refine eV ?_;nofun;refine⟨_,_,rfl,?_⟩;obtain⟨⟨ys,h7⟩,e7,a7,δ7,_,A7⟩:=ng (ws:=[]) (g:=gN 0) (e:=ao aH (ae (ay 2) (ae (ao cX (ae (ay 1) aP)) aP))) (fun _ y=>∃i,y=.int i∧0≤i∧i < ns.length)
  (xs:=ds.map D.str) (δ:=[none,some (.lv (ns.map D.str)),some (.ob s)]) (h:=h6) (fun i δ h'=>(∃d0,δ=[d0,some (.lv (ns.map D.str)),some (.ob s)])∧Sb s c cs h0 (R+12-i) h') ⟨⟨_,rfl⟩,A6.le (by lia)⟩ (fun _ _ _ _ _=>rfl) (by
   rintro i x δ h' hx ⟨⟨d0,rfl⟩,A7⟩;have hi:i < 6:=by
    have:=(Ui.mp hx).1;rw[Uh] at this
    lia
   nofun;rw[Uh];exact eG (R:=R+12-(i+1)) (A7.le (by lia)) (by lia) (by lia) fun r h8 r0 r1 A8=>⟨⟨r,rfl,r0,r1⟩,⟨_,rfl⟩,A8⟩)
 have l7:=a7.length;obtain⟨fls,rfl,hfls⟩:=rq (P:=fun i=>0≤i∧i < ns.length) fun y hy=>(let⟨_,_,r⟩:=a7.right y hy;r);dsimp only at l7;rw[Uh,Uh] at l7;rw[Uh] at A7;refine rv e7 ⟨by dsimp only;rw[Uh,show sizeLine=16777216 from rfl];lia,?_⟩;nofun;refine rv (a:=(.lv ((lF fls).map D.int),h7)) (by
  show(tf (fls.map D.int)).bind _=_;rw[vP];show(if fls.length < 64 then _ else _)=_;rw[Ut (by lia)]) ?_
 nofun;refine eV ?_;nofun;refine⟨_,_,rfl,?_⟩;have e8:bB [] (gN 0) bU (kA (ay 1) zr (zt (ay 0))) (many.map D.int) [none,some (.lv (ps.map D.str))] h7=some ((many.map D.int).filterMap fun d=>match d with | .int k=>some (.lv ((ps.take k.toNat).map D.str)) | _=>none,h7):=
  xq rfl _ (fun δ=>∃d0,δ=[d0,some (.lv (ps.map D.str))]) ⟨_,rfl⟩ (by
   rintro x hx δ ⟨d0,rfl⟩;obtain⟨k,hk,rfl⟩:=UR.mp hx;refine rv rfl ⟨rfl,rv rfl ⟨rfl,⟨_,rfl⟩,fun _=>⟨_,rfl,?_⟩,fun z=>(nomatch z)⟩⟩;obtain⟨n,rfl⟩:=VX (hmany k hk).1;nofun;refine⟨_,rfl,rv (E6 D.str ps n _) ?_⟩;rfl)
 have e9:((many.map D.int).filterMap fun d=>match d with | .int k=>some (D.lv ((ps.take k.toNat).map D.str)) | _=>none)=(many.map fun k=>ps.take k.toNat).map fun ps=>D.lv (ps.map D.str):=by
  rw[Wm,V8];exact congrFun (Y1 (f:=(fun ps:List Str=>D.lv (ps.map D.str))∘fun k:Int=>ps.take k.toNat)) _
 rw[e9] at e8;refine rv e8 ⟨by dsimp only;rw[Uh,Uh,show sizeLine=16777216 from rfl];lia,?_⟩;nofun;have hfin:∀(a b c d e f:D),Rn (BY (iG (eK (.str "names")) (ay 3) (iG (eK (.str "deeds")) (ay 4) (iG (eK (.str "params")) (ay 5) (iG (eK (.str "floors")) (ay 7) (iG (eK (.str "left")) (ay 1) (iG (eK (.str "odd")) (ay 2) Ni)))))) [some (.ob s),some (.int most),some (.int odd),some a,some b,some c,some d,some e] h7) fun p=>p=(.ob h7.length,h7++[.dct [(.inr (Str.ofString "names"),a),(.inr (Str.ofString "deeds"),b),(.inr (Str.ofString "params"),c),(.inr (Str.ofString "floors"),e),(.inr (Str.ofString "left"),.int most),(.inr (Str.ofString "odd"),.int odd)]]):=fun a b c d e f=>⟨_,rfl,rfl⟩;refine(hfin _ _ _ _ _ .bz).imp ?_;rintro _ rfl;nofun;refine k ⟨ns,ds,many.map fun k=>ps.take k.toNat⟩ (lF fls) h7 ⟨?_,?_,?_,?_,?_,?_,?_,?_,o0,o1,nk,dk,?_,nnd,dnd,?_⟩ (A7.le (by lia))
 ·show 1≤ns.length;lia
 ·show ns.length≤6;lia
 ·show 1≤ds.length;lia
 ·show ds.length≤6;lia
 ·show(many.map _).length=ds.length;rw[Uh];lia
 ·intro q hq;obtain⟨k,hk,rfl⟩:=UR.mp hq;rw[UM];have:=pl
  lia
 ·show(lF fls).length=ds.length;rw[(iQ fls).length_eq];lia
 ·intro f hf;exact hfls f ((iQ fls).mem_iff.mp hf)
 ·intro q hq w hw;obtain⟨k,hk,rfl⟩:=UR.mp hq;exact pk w (XJ hw)
 ·intro q hq;obtain⟨k,hk,rfl⟩:=UR.mp hq;exact pnd.sublist (X7 _ _)
end Mi
namespace Pg
open PySem Sm L2
abbrev fD:=Str×List Str×List Row
structure Prog where
 names:List Str
 ak:List fD
noncomputable def gI(d:fD):D:=.tup [.str d.1,.tup (d.2.1.map D.str),.tup (cu d.2.2)]
noncomputable def aw(P:Prog):D:=.tup [.tup (P.names.map D.str),.tup (P.ak.map gI)]
structure Q7(W:Wd)(most:Nat)(P:Prog):Prop where
 nm:P.names=jv W.names
 dl:P.ak.length=W.ak.length
 dd:∀(j:Nat)(d:fD),P.ak[j]?=some d->W.ak[j]?=some d.1∧W.params[j]?=some d.2.1∧bD W d.2.1 1 d.2.2∧d.2.2.length≤12
 ct:(P.ak.map fun d=>cv d.2.2).sum≤most
end Pg
namespace Mi
open PySem Sm L2 Pg
theorem yj(n:Nat)(d:fD):g6 n (gI d)=true:=by
 show(true&&(dH n (d.2.1.map D.str)&&(dH n (cu d.2.2)&&true)))=true;rw[iJ,eF];rfl
theorem KZ(n:Nat)(P:Prog):g6 n (aw P)=true:=by
 show(dH n (P.names.map D.str)&&(dH n (P.ak.map gI)&&true))=true;rw[iJ,fe n _ (yj n)];rfl
theorem nQ{α:Type}{f:α->D}{xs:List α}{i:Nat}{x:D}(h:(jy 0 (xs.map f))[i]?=some x):∃a,xs[i]?=some a∧x=.tup [.int (i:Int),f a]:=by
 rw[pT,Ux] at h;cases e:xs[i]? with
 | none=>rw[e] at h;cases h
 | some a=>
  rw[e] at h;cases h;exact⟨a,rfl,by rw[Vr]⟩
theorem Wb.out(C:Cl h)(B:Sb E.s E.c E.cs h R' h0)(e:E.wd=h0.length)(A:Wb E (h0++[o]) R l h1):∃hb o',h1=hb++[o']∧Sb E.s E.c E.cs h R hb∧Cl hb:=by
 have b:=A.b;obtain⟨hs,hc⟩:=B.S.lt;have hl:h1.length=h0.length+1:=by rw[b.1];simp
 have hx:h0.length < h1.length:=by lia
 have ee:h1=h1.take h0.length++[h1[h0.length]'hx]:=by rw[List.take_append_getElem,Wk (by lia)]
 have bb:uc E.s h0 (h1.take h0.length):=⟨by rw[UM];lia,fun k hk=>by
  by_cases z:k < h0.length
  ·rw[U7 z,b.2 k hk (by lia),UG z]
  ·rw[UY (by rw[UM];lia),UY (by lia)]⟩
 have S:=A.S;rw[ee] at S;have S':=S.cut (by rw[bb.1];exact hs) (by rw[bb.1];exact hc);exact⟨_,_,ee,⟨S',B.b.trans bb⟩,C.but S' (B.b.trans bb)⟩
theorem Fp{h h0:MH}{s c R most:Nat}{cs:List Int}{odd:Int}{Q:D×MH->Prop}(A:Sb s c cs h0 (R+100*most+120) h)(C:Cl h)(o0:0≤odd)(o1:odd≤1000)(k:∀(W:Wd)(fl:List Int)(P:Prog)(h1:MH),Cj W fl odd->Q7 W most P->Sb s c cs h0 R h1->Cl h1->Q (aw P,h1)):Rn (eP [.ob s,.int most,.int odd] h) Q:=by
 refine m8 ?_;nofun;refine K6 (R:=R+100*most+40) A.S.sb o0 o1 fun W fl hb ok A1=>?_;obtain⟨lt1,lt2⟩:=A1.S.lt;have d2:=ok.d2;have n1:=ok.n1;have n2:=ok.n2;have hlen:=A1.b.1;let E:En:=⟨s,c,hb.length,cs,W,fl,odd,ok,by lia,by lia⟩;have B0:Wb E (hb++[oz W fl most odd]) (R+100*most+40) most (hb++[oz W fl most odd]):=⟨A1.S.more _,nF rfl,(C.but A1.S A1.b).snoc (B4 _ _ _ _ _),gU.refl _ _ _⟩;nofun;refine kS ?_;nofun;refine rv (eg (B0.push (o:=.lst []) rfl).w) ?_;nofun;refine⟨_,_,_,rfl,rfl,?_⟩;have hobl:(hb++[oz W fl most odd]).length=h.length+1:=by simp[hlen]
 rw[hobl];refine dO (fun i δ h'=>∃(dds:List fD)(l':Nat)(d5 d6 d7:Option D)(hw:MH),δ=[some (.ob s),some (.int most),some (.int odd),some (.ob hb.length),some (.ob (h.length+1)),d5,d6,d7]∧h'=hw++[.lst (dds.map gI)]∧hw.length=h.length+1∧dds.length=i∧(∀(j:Nat)(d:fD),dds[j]?=some d->W.ak[j]?=some d.1∧W.params[j]?=some d.2.1∧bD W d.2.1 1 d.2.2∧d.2.2.length≤12)∧l'+(dds.map fun d=>cv d.2.2).sum=most∧Wb E (hb++[oz W fl most odd]) (R+100*l'+(40-5*i)) l' hw)
  ⟨[],most,_,_,_,_,rfl,rfl,hobl,rfl,fun _ _ z=>by simp at z,by simp,B0⟩ (fun _ _ _ _ _=>rfl) ?_ ?_
 ·rintro i x δ h' hx ⟨dds,l',d5,d6,d7,hw,rfl,rfl,hwl,hdl,hdd,hc,A6⟩;obtain⟨dn,hdn,rfl⟩:=nQ hx;have hi:i < W.ak.length:=(Ui.mp hdn).1;obtain⟨ps,hps⟩:∃f,W.params[i]?=some f:=⟨_,Um (by rw[ok.pl];exact hi)⟩;nofun;refine FH (E:=E) (R:=R+100*l'+(39-5*i)) (is:=[1,2,3,4,12]) (fun i=>1≤i∧i≤12) (by decide) ((A6.push (o:=.lst (dds.map gI)) (fe _ _ (yj _) dds)).le (by lia)) fun mo h7 hmo A7=>?_;nofun;refine(ring (E:=E) 20).1 (R:=R+(40-5*(i+1))) (d:=1) (held:=[]) (A7.le (by lia)) ⟨hps,hi,by decide,show(-1:Int)≤W.names.length by lia,fun _ z=>(nomatch z),by simp⟩ (by decide) (by decide) hmo.1 hmo.2 fun t l8 h8 okl hll cr A8=>?_;have w8:=A8.w;obtain⟨hw8,rfl,e8,A8'⟩:=A6.pop A8;have hl8:=e8.trans hwl;nofun;refine m9 ?_;nofun;refine⟨cc (nF hl8),?_⟩;nofun;refine rv (df w8) ?_;nofun;refine rv (cg hps) ?_;nofun;refine rv (a:=(.tup (ps.map D.str),_)) rfl ?_;nofun;refine rv (cA (nF hl8) (by rw[Uh,show sizeLine=16777216 from rfl];lia)) ?_;rw[Jp hl8];nofun;have hcn:((dds++[(dn,ps,t)]).map fun d:fD=>cv d.2.2).sum=(dds.map fun d:fD=>cv d.2.2).sum+cv t:=by
   rw[UH,List.sum_append];simp
  refine⟨dds++[(dn,ps,t)],l8,_,_,_,hw8,rfl,by rw[UH];rfl,hl8,by simp[hdl],?_,by rw[hcn];lia,A8'.le (by lia)⟩;intro j d hj
  by_cases z:j < dds.length
  ·rw[UG z] at hj;exact hdd j d hj
  ·rw[US (by lia)] at hj;have hj0:j-dds.length=0:=by
    have:=(Ui.mp hj).1;simp at this
    lia
   rw[hj0] at hj;cases hj;obtain rfl:j=i:=by lia
   exact⟨hdn,hps,okl,hll⟩
 ·rintro δ h' ⟨dds,l',d5,d6,d7,hw,rfl,rfl,hwl,hdl,hdd,hc,A6⟩;rw[cC,Uh] at hdl;have w6:=(A6.push (o:=.lst (dds.map gI)) (fe _ _ (yj _) dds)).w;have hat:(hw++[MO.lst (dds.map gI)])[h.length+1]?=some (.lst (dds.map gI)):=nF hwl;obtain⟨hb',o',rfl,B9,C9⟩:=Wb.out (E:=E) C A1 rfl A6;nofun;refine rv (dZ w6) ?_;nofun;refine rv (a:=(.lv ((jv W.names).map D.str),_)) (by
   show(rP (W.names.map D.str)).bind _=_;rw[vd];show(if W.names.length < 64 then _ else _)=_;rw[Ut (by lia)]) ?_
  nofun;refine rv (a:=(.tup ((jv W.names).map D.str),_)) rfl ?_;nofun;refine rv (a:=(.tup (dds.map gI),_)) (by simp only[bL,cT,hat,U4];rfl) ?_;nofun;rw[VW];exact rv (nC B9.b.1 C9 (fun n z=>(nomatch z)) (KZ _ ⟨jv W.names,dds⟩)) (k W fl ⟨jv W.names,dds⟩ hb' ok ⟨rfl,hdl,hdd,by show _≤_;dsimp only;lia⟩ ⟨B9.S.le (by lia),A.b.trans B9.b⟩ C9)
end Mi
namespace Pg
open PySem Sm L2
noncomputable def jF(l:List Row):D:=.tup (cu l)
noncomputable def bc:Row->List (List Row)
 | .say _=>[]
 | .call _ _=>[]
 | .within _ b=>[b]
 | .all _ b=>[b]
 | .ask _ b e=>[b,e]
 | .tQ _ _ a b c=>[a,b,c]
 | .either a b=>[a,b]
 | .again a=>[a]
noncomputable def iR:Row->Str
 | .say _=>"say"
 | .call _ _=>"call"
 | .within _ _=>"within"
 | .all _ _=>"all"
 | .ask _ _ _=>"ask"
 | .tQ _ _ _ _ _=>"by"
 | .either _ _=>"either"
 | .again _=>"again"
mutual
noncomputable def eW(p:List Nat):Row->List (List Nat×Row)
 | .say _=>[]
 | .call _ _=>[]
 | .within _ b=>aM (p++[0]) 0 b
 | .all _ b=>aM (p++[0]) 0 b
 | .ask _ b e=>aM (p++[0]) 0 b++aM (p++[1]) 0 e
 | .tQ _ _ a b c=>aM (p++[0]) 0 a++(aM (p++[1]) 0 b++aM (p++[2]) 0 c)
 | .either a b=>aM (p++[0]) 0 a++aM (p++[1]) 0 b
 | .again a=>aM (p++[0]) 0 a
noncomputable def aM(a:List Nat)(k:Nat):List Row->List (List Nat×Row)
 | []=>[]
 | r::rs=>(a++[k],r)::(eW (a++[k]) r++aM a (k+1) rs)
end
noncomputable def dC(p:List Nat):Nat->List (List Row)->List (List Nat×Row)
 | _,[]=>[]
 | k,l::ls=>aM (p++[k]) 0 l++dC p (k+1) ls
theorem o7(p:List Nat)(r:Row):eW p r=dC p 0 (bc r):=by
 cases r <;> simp[eW,bc,dC]
theorem mj(a:List Nat):∀(k:Nat)(x y:List Row),aM a k (x++y)=aM a k x++aM a (k+x.length) y
 | k,[],y=>by simp[aM]
 | k,r::x,y=>by simp[aM,mj a (k+1) x y,X6,X5]
theorem pK(p:List Nat):∀(k:Nat)(x y:List (List Row)),dC p k (x++y)=dC p k x++dC p (k+x.length) y
 | k,[],y=>by simp[dC]
 | k,r::x,y=>by simp[dC,pK p (k+1) x y,X6,X5]
mutual
noncomputable def eS:Row->Nat
 | .say _=>0
 | .call _ _=>0
 | .within _ b=>cQ b
 | .all _ b=>cQ b
 | .ask _ b e=>max (cQ b) (cQ e)
 | .tQ _ _ a b c=>max (cQ a) (max (cQ b) (cQ c))
 | .either a b=>max (cQ a) (cQ b)
 | .again a=>cQ a
noncomputable def cQ:List Row->Nat
 | []=>1
 | r::rs=>max (1+eS r) (cQ rs)
end
theorem vD{lot:List Row}{r:Row}(h:r∈lot):1+eS r≤cQ lot:=by
 induction lot with
 | nil=>cases h
 | cons x xs ih=>
  rw[cQ];rcases UE.mp h with rfl | h
  ·lia
  ·have:=ih h;lia
theorem vC{r:Row}{l:List Row}(h:l∈bc r):cQ l≤eS r:=by
 cases r <;> simp[bc] at h
 case within=>subst h;simp[eS]
 case all=>subst h;simp[eS]
 case ask=>rcases h with rfl | rfl <;> rw[eS] <;> lia
 case tQ=>rcases h with rfl | rfl | rfl <;> rw[eS] <;> lia
 case either=>rcases h with rfl | rfl <;> rw[eS] <;> lia
 case again=>subst h;simp[eS]
mutual
theorem Bq(p:List Nat):∀r:Row,1+(eW p r).length=cnt r
 | .say _=>by simp[eW,cnt]
 | .call _ _=>by simp[eW,cnt]
 | .within _ b=>by simp[eW,cnt,bw (p++[0]) 0 b]
 | .all _ b=>by simp[eW,cnt,bw (p++[0]) 0 b]
 | .ask _ b e=>by simp[eW,cnt,bw (p++[0]) 0 b,bw (p++[1]) 0 e];lia
 | .tQ _ _ a b c=>by simp[eW,cnt,bw (p++[0]) 0 a,bw (p++[1]) 0 b,bw (p++[2]) 0 c];lia
 | .either a b=>by simp[eW,cnt,bw (p++[0]) 0 a,bw (p++[1]) 0 b];lia
 | .again a=>by simp[eW,cnt,bw (p++[0]) 0 a]
theorem bw(a:List Nat):∀(k:Nat)(l:List Row),(aM a k l).length=cv l
 | k,[]=>by simp[aM,cv]
 | k,r::rs=>by
  have:=Bq (a++[k]) r;have:=bw a (k+1) rs;simp[aM,cv];lia
end
mutual
theorem BD{W:Wd}{ps:List Str}:∀(n:Nat)(r:Row),bh W ps n r->n≤5->eS r≤5-n
 | n,.say _,_,_=>by simp[eS]
 | n,.call _ _,_,_=>by simp[eS]
 | n,.within _ b,h,hn=>by rw[bh] at h;have:=bH (n+1) b h.2.2.2 h.2.1;rw[eS];lia
 | n,.all _ b,h,hn=>by rw[bh] at h;have:=bH (n+1) b h.2.2.2 h.2.1;rw[eS];lia
 | n,.ask _ b e,h,hn=>by rw[bh] at h;have:=bH (n+1) b h.2.2.2.2.1 h.2.1;have:=bH (n+1) e h.2.2.2.2.2 h.2.1;rw[eS];lia
 | n,.tQ _ _ a b c,h,hn=>by
  rw[bh] at h;obtain⟨_,_,h0,_,_,_,h1,h2,h3⟩:=h;have:=bH (n+1) a h1 h0;have:=bH (n+1) b h2 h0;have:=bH (n+1) c h3 h0;rw[eS];lia
 | n,.either a b,h,hn=>by
  rw[bh] at h;obtain⟨h0,_,_,h1,h2⟩:=h;have:=bH (n+1) a h1 h0;have:=bH (n+1) b h2 h0;rw[eS];lia
 | n,.again a,h,hn=>by
  rw[bh] at h;obtain⟨h0,_,h1⟩:=h;have:=bH (n+1) a h1 h0;rw[eS];lia
theorem bH{W:Wd}{ps:List Str}:∀(n:Nat)(l:List Row),bD W ps n l->n≤5->cQ l≤6-n
 | n,[],_,hn=>by simp[cQ];lia
 | n,r::rs,h,hn=>by
  rw[bD] at h;have:=BD n r h.1 hn;have:=bH n rs h.2 hn;rw[cQ];lia
end
noncomputable def ar(n:Nat):D:=.int (n:Int)
noncomputable def cP(p:List Nat):D:=.tup (p.map ar)
noncomputable def qf(x:List Nat×Row):D:=.tup [cP x.1,aQ x.2]
end Pg
namespace Mi
open PySem Sm L2 Pg
theorem K0(n:Nat)(x:List Nat×Row):g6 n (qf x)=true:=by
 show(dH n (x.1.map ar)&&(g6 n (aQ x.2)&&true))=true;rw[fe n _ (fun _=>rfl),tL];rfl
theorem wk(h:MH):yw h h=true:=by
 induction h with
 | nil=>rfl
 | cons o r ih=>show(Iw o o&&yw r r)=true;rw[Ft,ih];rfl
theorem vL{H:MH}{xs:List D}(hc:dH H.length xs=true):leave H (.ob H.length) (H++[.lst xs])=some (.lv xs,H):=by
 have h3:AG H.length (H++[.lst xs]) (.ob H.length)=.lv xs:=by
  show(if H.length < H.length then _ else _)=_;rw[Uu (V9 _)];simp
 unfold leave;rw[h3,WV (Us _),VB,wk];show(if(dH H.length xs&&_)=true then _ else _)=_;rw[hc];rfl
theorem nA(r:Row)(h:MH):gh [aQ r] h=some (.tup ((bc r).map jF),h):=by
 have e:Rn (gh [aQ r] h) fun p=>p=(.tup ((bc r).map jF),h):=by
  refine aZ ?_;cases r <;> rw[aQ] <;> (nofun;refine rv rfl ?_;nofun;refine rv rfl ?_;dsimp only;refine⟨_,rfl,?_⟩;nofun;refine rv rfl ?_;rfl)
 obtain⟨p,e1,rfl⟩:=e;exact e1
theorem dS{xs ys:List D}{h:MH}(hl:xs.length+ys.length≤10000):aN (.tup xs) (.tup ys) h=some (.tup (xs++ys),h):=by
 cases xs with
 | nil=>rfl
 | cons x xs=>
  show(if xs.length+1+ys.length≤sizeLine then some (D.tup (x::xs++ys),h) else none)=_;rw[Ut (by rw[show sizeLine=16777216 from rfl];rw[Uw] at hl;lia)]
theorem sW{h:MH}{n:Nat}{xs ys:List D}(e:h[n]?=some (.lst xs))(hl:xs.length+ys.length≤1000000):kU (.ob n) [.lv ys] h=some (.bz,h.set n (.lst (xs++ys))):=by
 unfold kU;dsimp only;rw[e];show(if xs.length+ys.length≤sizeLine then _ else _)=_;rw[Ut (by rw[show sizeLine=16777216 from rfl];lia)]
theorem fv{H:MH}{o o':MO}:(H++[o]).set H.length o'=H++[o']:=by
 rw[XD _ _ (Us _),X2];rfl
theorem ba{H:MH}{o:MO}:(H++[o])[H.length]?=some o:=by simp
theorem vU(a:List Nat)(i:Nat)(hl:a.length≤1000)(h:MH):aN (cP a) (.tup [.int (i:Int)]) h=some (cP (a++[i]),h):=by
 show aN (.tup (a.map ar)) (.tup [ar i]) _=_;rw[dS (by rw[Uh];simp;lia)];simp[cP]
theorem sJ:∀(n:Nat)(lot:List Row)(ahead:List Nat)(h:MH),cQ lot≤n->cv lot≤1000->ahead.length+2*n≤100->c8 n [.tup (cu lot),cP ahead] h=some (.lv ((aM ahead 0 lot).map qf),h)
 | 0,lot,ahead,h,hn,hc,ha=>by
  exfalso;cases lot with
  | nil=>simp[cQ] at hn
  | cons r rs=>rw[cQ] at hn;lia
 | n+1,lot,ahead,h,hn,hc,ha=>by
  have e:Rn (c8 (n+1) [.tup (cu lot),cP ahead] h) fun p=>p=(.lv ((aM ahead 0 lot).map qf),h):=by
   unfold c8;refine m8 ?_;nofun;refine kS ?_;nofun;refine⟨_,_,_,rfl,rfl,?_⟩;rw[gG];refine dO (fun i δ h'=>∃(d3 d4 d5 d6 d7:Option D),δ=[some (.tup (lot.map aQ)),some (cP ahead),some (.ob h.length),d3,d4,d5,d6,d7]∧h'=h++[.lst ((aM ahead 0 (lot.take i)).map qf)])
    ⟨_,_,_,_,_,rfl,by simp[aM]⟩ (fun _ _ _ _ _=>rfl) ?_ ?_
   ·rintro i x δ h' hx ⟨d3,d4,d5,d6,d7,rfl,rfl⟩;obtain⟨r,hr,rfl⟩:=nQ hx;have hrm:=Ul hr;have hi:i < lot.length:=(Ui.mp hr).1;have htk:lot.take (i+1)=lot.take i++[r]:=by
     rw[Wv,hr];rfl
    have hpl:aM ahead 0 (lot.take (i+1))=aM ahead 0 (lot.take i)++((ahead++[i],r)::dC (ahead++[i]) 0 (bc r)):=by
     rw[htk,mj];simp only[aM,o7,UM,Vy,Vr];rw[WH (by lia)]
    have hlen:(aM ahead 0 lot).length≤1000:=by rw[bw];exact hc
    have hsub:(aM ahead 0 (lot.take (i+1))).length≤1000:=by
     have:aM ahead 0 lot=aM ahead 0 (lot.take (i+1))++aM ahead (0+(lot.take (i+1)).length) (lot.drop (i+1)):=by
      rw[←mj,WR]
     rw[this,Uy] at hlen
     lia
    generalize aM ahead 0 (lot.take i)=F0 at hpl ⊢;nofun;refine rv (vU ahead i (by lia) _) ?_;nofun;rw[hpl,Uy,Uw] at hsub;refine m9 ?_;nofun;refine⟨cc ba,?_⟩;nofun;refine rv (cA ba (by rw[Uh,show sizeLine=16777216 from rfl];lia)) ?_;nofun;rw[fv];refine kS ?_;nofun;refine rv (nA r _) ?_;nofun;refine⟨_,_,_,rfl,rfl,?_⟩;refine dO (fun j δ h'=>∃(d6 d7:Option D),δ=[some (.tup (lot.map aQ)),some (cP ahead),some (.ob h.length),some (.int i),some (aQ r),some (cP (ahead++[i])),d6,d7]∧h'=h++[.lst ((F0++((ahead++[i],r)::dC (ahead++[i]) 0 ((bc r).take j))).map qf)])
     ⟨_,_,rfl,by simp[dC,qf]⟩ (fun _ _ _ _ _=>rfl) ?_ ?_
    ·rintro j x δ h' hx ⟨d6,d7,rfl,rfl⟩;obtain⟨l,hl,rfl⟩:=nQ hx;have hlm:=Ul hl;have hj:j < (bc r).length:=(Ui.mp hl).1;have htk:(bc r).take (j+1)=(bc r).take j++[l]:=by
      rw[Wv,hl];rfl
     have hpj:dC (ahead++[i]) 0 ((bc r).take (j+1))=dC (ahead++[i]) 0 ((bc r).take j)++aM (ahead++[i]++[j]) 0 l:=by
      rw[htk,pK];simp only[dC,UM,Vy,Vr];rw[WH (by lia)]
     have hsub2:(dC (ahead++[i]) 0 ((bc r).take (j+1))).length≤(dC (ahead++[i]) 0 (bc r)).length:=by
      have:dC (ahead++[i]) 0 (bc r)=dC (ahead++[i]) 0 ((bc r).take (j+1))++dC (ahead++[i]) (0+((bc r).take (j+1)).length) ((bc r).drop (j+1)):=by
       rw[←pK,WR]
      rw[this,Uy]
      lia
     rw[hpj,Uy] at hsub2;have ih:=fun hh=>sJ n l (ahead++[i]++[j]) hh (by have:=vD hrm;have:=vC hlm;lia) (by rw[←bw (ahead++[i]++[j]) 0];lia) (by simp;lia);nofun;refine m9 ?_;nofun;refine⟨cc ba,?_⟩;nofun;refine rv (vU (ahead++[i]) j (by simp;lia) _) ?_;nofun;refine rv (ih _) ?_;nofun;refine rv (sW ba (by rw[Uh,Uh,Uy,Uw];lia)) ?_;nofun;rw[fv,←UH];refine⟨_,_,rfl,?_⟩;rw[hpj];simp
    ·rintro δ h' ⟨d6,d7,rfl,rfl⟩;rw[cC,Uh,VB];nofun;exact⟨_,_,_,_,_,rfl,by rw[hpl]⟩
   ·rintro δ h' ⟨d3,d4,d5,d6,d7,rfl,rfl⟩;rw[cC,Uh,VB];nofun;exact rv (vL (fe _ _ (K0 _) _)) rfl
  obtain⟨p,e1,rfl⟩:=e;exact e1
end Mi
namespace Pg
open PySem Sm L2
noncomputable def placesFrom:Nat->List fD->List (Nat×List Nat×Row)
 | _,[]=>[]
 | k,d::ds=>(aM [] 0 d.2.2).map (fun x=>(k,x.1,x.2))++placesFrom (k+1) ds
noncomputable def i8(x:Nat×List Nat×Row):D:=.tup [ar x.1,cP x.2.1,aQ x.2.2]
noncomputable def rowAt(x:Nat×List Nat×Row):D:=.tup [ar x.1,aQ x.2.2]
theorem gy:∀(k:Nat)(x y:List fD),placesFrom k (x++y)=placesFrom k x++placesFrom (k+x.length) y
 | k,[],y=>by simp[placesFrom]
 | k,d::x,y=>by simp[placesFrom,gy (k+1) x y,X6,X5]
theorem eA:∀(k:Nat)(ds:List fD),(placesFrom k ds).length=(ds.map fun d=>cv d.2.2).sum
 | _,[]=>rfl
 | k,d::ds=>by simp[placesFrom,eA (k+1) ds,bw]
theorem Cw:∀{ds:List fD} {d:fD},d∈ds->cv d.2.2≤(ds.map fun d=>cv d.2.2).sum
 | x::r,d,h=>by
  rw[Uv,YC];rcases UE.mp h with rfl | h
  ·lia
  ·have:=Cw h;lia
structure O3(P:Prog):Prop where
 nd:∀d∈P.ak,cQ d.2.2≤6
 ct:(P.ak.map fun d=>cv d.2.2).sum≤1000
 dl:P.ak.length≤1000
theorem Q7.fit{W:Wd}{m:Nat}{P:Prog}(o:Q7 W m P)(hm:m≤1000)(hd:W.ak.length≤6):O3 P:=by
 refine⟨fun d hd=>?_,UL o.ct hm,by rw[o.dl];lia⟩;obtain⟨j,hj⟩:=VD.mp hd;obtain⟨_,_,ok,_⟩:=o.dd j d hj;have:=bH 1 d.2.2 ok (by lia)
 lia
end Pg
namespace Mi
open PySem Sm L2 Pg
theorem Ii(n:Nat)(x:Nat×List Nat×Row):g6 n (i8 x)=true:=by
 show(true&&(dH n (x.2.1.map ar)&&(g6 n (aQ x.2.2)&&true)))=true;rw[fe n _ (fun _=>rfl),tL];rfl
theorem yd{α:Type}{ws:W}{g:GM}{e:EM}{h:MH}(hc:lC ws h=true)(f k:α->D)(J:DS->Prop)(xs:List α){δ:DS}(h0:J δ)(ht:∀x∈xs,∀δ,J δ->Rn (g (f x) δ h) fun q=>q.2=h∧J q.1∧Rn (e q.1 h) fun p=>p=(k x,h)):
  bB ws g bU e (xs.map f) δ h=some (xs.map k,h):=by
 induction xs generalizing δ with
 | nil=>rw[VQ];unfold bB;rw[Ut hc];rfl
 | cons x r ih=>
  rw[Uv];unfold bB;rw[Ut hc];obtain⟨⟨δ1,h1⟩,e1,rfl,J1,p,e2,rfl⟩:=ht x Uo δ h0;rw[e1];dsimp only[Option.bind_some] at e2 ⊢;show((some (true,h1)).bind _)=_;dsimp only[Option.bind_some];rw[Ut rfl,e2];dsimp only[Option.bind_some];rw[ih J1 fun y hy=>ht y (Ur _ hy)];rfl
theorem qb{P:Prog}(fit:O3 P)(h:MH):c7 [aw P] h=some (.lv ((placesFrom 0 P.ak).map i8),h):=by
 have e:Rn (c7 [aw P] h) fun p=>p=(.lv ((placesFrom 0 P.ak).map i8),h):=by
  refine m8 ?_;nofun;refine kS ?_;nofun;refine rv (a:=(.tup (P.ak.map gI),_)) rfl ?_;nofun;refine⟨_,_,_,rfl,rfl,?_⟩;refine dO (fun i δ h'=>∃(d2 d3 d4 d5:Option D),δ=[some (aw P),some (.ob h.length),d2,d3,d4,d5]∧h'=h++[.lst ((placesFrom 0 (P.ak.take i)).map i8)])
   ⟨_,_,_,_,rfl,by simp[placesFrom]⟩ (fun _ _ _ _ _=>rfl) ?_ ?_
  ·rintro i x δ h' hx ⟨d2,d3,d4,d5,rfl,rfl⟩;obtain⟨d,hd,rfl⟩:=nQ hx;have hdm:=Ul hd;have hi:i < P.ak.length:=(Ui.mp hd).1;have htk:P.ak.take (i+1)=P.ak.take i++[d]:=by rw[Wv,hd];rfl
   have hpl:placesFrom 0 (P.ak.take (i+1))=placesFrom 0 (P.ak.take i)++(aM [] 0 d.2.2).map fun x=>(i,x.1,x.2):=by
    rw[htk,gy];simp only[placesFrom,UM,Vy,Vr];rw[WH (by lia)]
   have hc:=Cw hdm;have ct:=fit.ct;have hlen:(placesFrom 0 P.ak).length≤1000:=by rw[eA];exact ct
   have hsub:(placesFrom 0 (P.ak.take (i+1))).length≤1000:=by
    have:placesFrom 0 P.ak=placesFrom 0 (P.ak.take (i+1))++placesFrom (0+(P.ak.take (i+1)).length) (P.ak.drop (i+1)):=by
     rw[←gy,WR]
    rw[this,Uy] at hlen
    lia
   rw[hpl,Uy,Uh] at hsub;unfold gI;nofun;refine m9 ?_;nofun;refine⟨cc ba,?_⟩;nofun;refine eV ?_;nofun;refine rv (sJ 10 d.2.2 [] _ (UL (fit.nd d hdm) (by decide)) (by lia) (by simp)) ?_;refine⟨_,_,rfl,?_⟩;refine rv (yd rfl qf (fun x=>i8 (i,x.1,x.2)) (fun δ=>∃a b,δ=[a,b,some (.int i)]) (aM [] 0 d.2.2) ⟨_,_,rfl⟩ ?_) ⟨?_,?_⟩
   ·rintro x hx δ ⟨a,b,rfl⟩;unfold qf;nofun;refine⟨rfl,⟨_,_,rfl⟩,?_⟩;nofun;rfl
   ·dsimp only;rw[Uh,show sizeLine=16777216 from rfl]
    lia
   ·nofun;refine rv (sW ba (by rw[Uh,Uh];lia)) ?_;nofun;rw[fv];refine⟨_,_,_,_,rfl,?_⟩;rw[hpl,UH,V8];rfl
  ·rintro δ h' ⟨d2,d3,d4,d5,rfl,rfl⟩;rw[cC,Uh,VB];nofun;exact rv (vL (fe _ _ (Ii _) _)) rfl
 obtain⟨p,e1,rfl⟩:=e;exact e1
theorem Eb{P:Prog}(fit:O3 P)(h:MH):iN [aw P] h=some (.tup ((placesFrom 0 P.ak).map rowAt),h):=by
 have e:Rn (iN [aw P] h) fun p=>p=(.tup ((placesFrom 0 P.ak).map rowAt),h):=by
  refine aZ ?_;nofun;refine eV ?_;nofun;refine rv (qb fit h) ?_;refine⟨_,_,rfl,?_⟩;refine rv (yd rfl i8 rowAt (fun δ=>∃a b c,δ=[a,b,c]) (placesFrom 0 P.ak) ⟨_,_,_,rfl⟩ ?_) ⟨?_,?_⟩
  ·rintro x hx δ ⟨a,b,c,rfl⟩;unfold i8;nofun;refine⟨rfl,⟨_,_,_,rfl⟩,?_⟩;nofun;rfl
  ·dsimp only;rw[Uh,eA,show sizeLine=16777216 from rfl];have:=fit.ct
   lia
  ·nofun;refine rv (a:=(.tup ((placesFrom 0 P.ak).map rowAt),h)) rfl ?_;nofun
 obtain⟨p,e1,rfl⟩:=e;exact e1
noncomputable def flat(st:List (Nat×Nat)):List Nat:=st.flatMap fun s=>[s.1,s.2]
noncomputable def dq(st:List (Nat×Nat))(k:Nat):D:=cP (flat st++[k])
noncomputable def LI(l:List Row)(s:Nat×Nat):Option (List Row):=(l[s.1]?).bind fun r=>(bc r)[s.2]?
noncomputable def bN(rows:List Row):List (Nat×Nat)->Option (List Row)
 | []=>some rows
 | s::r=>(LI rows s).bind fun l=>bN l r
theorem pL:∀(st:List (Nat×Nat)) (rows:List Row) (su:List (Nat×Nat)),bN rows (st++su)=(bN rows st).bind fun l=>bN l su
 | [],_,_=>rfl
 | s::r,rows,su=>by
  show((LI rows s).bind fun l=>bN l (r++su))=((LI rows s).bind fun l=>bN l r).bind _;cases LI rows s with
  | none=>rfl
  | some l=>exact pL r l su
theorem nO(st:List (Nat×Nat)):(flat st).length=2*st.length:=by
 induction st with
 | nil=>rfl
 | cons s r ih=>show([s.1,s.2]++flat r).length=_;rw[Uy,ih];simp;lia
theorem tu(a b:List (Nat×Nat)):flat (a++b)=flat a++flat b:=by unfold flat;rw[List.flatMap_append]
theorem Dn:∀{st:List (Nat×Nat)} {i:Nat} {s:Nat×Nat} (t:List Nat),st[i]?=some s->(flat st++t)[2*i]?=some s.1∧(flat st++t)[2*i+1]?=some s.2
 | x::r,0,s,t,e=>by cases e;exact⟨rfl,rfl⟩
 | x::r,i+1,s,t,e=>by
  have ⟨h1,h2⟩:=Dn (st:=r) (i:=i) t e;show(x.1::x.2::(flat r++t))[2*(i+1)]?=_∧(x.1::x.2::(flat r++t))[2*(i+1)+1]?=_;rw[show 2*(i+1)=2*i+1+1 by lia,Vo,Vo,Vo,Vo];exact⟨h1,h2⟩
theorem bP{xs:List D}{i:Nat}{d:D}{h:MH}(e:xs[i]?=some d):aE (.tup xs) (.int (i:Int)) h=some (d,h):=by
 have q:g8 xs (i:Int)=some d:=rE e;simp only[aE,dY,cT,UT,q,U4]
theorem tD{xs:List D}{i:Int}{d:D}{h:MH}(q:g8 xs i=some d):aE (.tup xs) (.int i) h=some (d,h):=by
 simp only[aE,dY,cT,UT,q,U4]
theorem HL{p:List Nat}{i x:Nat}{h:MH}(e:p[i]?=some x):aE (cP p) (.int (i:Int)) h=some (ar x,h):=
 bP (by rw[Ux,e];rfl)
theorem vT{p:List Nat}{i:Int}{j x:Nat}{h:MH}(hi:i=(j:Int))(e:p[j]?=some x):aE (cP p) (.int i) h=some (ar x,h):=by
 subst hi;exact HL e
theorem Dt{l:List Row}{i:Nat}{r:Row}{h:MH}(e:l[i]?=some r):aE (jF l) (ar i) h=some (aQ r,h):=
 bP (by rw[gG,Ux,e];rfl)
theorem F8(n:Nat):(Builtin.Range.rangeSize 1 ((2*n+1:Nat):Int) 2).toNat=n:=by
 unfold Builtin.Range.rangeSize;rw[Ut (by decide)]
 split
 ·lia
 ·lia
theorem MM{m:AM}{δ:DS}{h:MH}{Q:List D×W×MH->Prop}(r:Rn (m δ h) fun p=>∃i j c,p.1=[.int i,.int j,.int c]∧IV i j c∧Q ((List.range (Builtin.Range.rangeSize i j c).toNat).map fun(k:Nat)=>D.int (i+(k:Int)*c),[],p.2)):Rn (KJ m δ h) Q:=by
 obtain⟨⟨ds,h1⟩,e,i,j,c,rfl,ok,q⟩:=r;refine⟨_,?_,q⟩;unfold KJ;rw[e];show(if IV i j c then _ else _)=_;rw[Ut ok]
theorem zL{rows lot:List Row}{st:List (Nat×Nat)}{k:Nat}{h:MH}(e:bN rows st=some lot)(hl:st.length≤1000):kH [jF rows,dq st k] h=some (jF lot,h):=by
 have e0:Rn (kH [jF rows,dq st k] h) fun p=>p=(jF lot,h):=by
  refine aZ ?_;nofun;refine MM ?_;nofun;refine rv (a:=(.int ((2*st.length+1:Nat):Int),h)) ?_ ?_
  ·show some (D.int (((flat st++[k]).map ar).length:Int),h)=_;rw[Uh,Uy,nO];rfl
  nofun;refine⟨_,_,_,rfl,?_,?_⟩
  ·unfold IV;lia
  rw[F8];refine dO (fun i δ h'=>h'=h∧∃(l:List Row)(d3:Option D),δ=[some (jF rows),some (dq st k),some (jF l),d3]∧bN l (st.drop i)=some lot) ⟨rfl,rows,_,rfl,e⟩ (fun _ _ _ _ _=>rfl) ?_ ?_
  ·rintro i x δ h' hx ⟨rfl,l,d3,rfl,el⟩;rw[Ux] at hx;obtain⟨j,hj,ej⟩:=fO hx;obtain⟨hi,hj⟩:=Ui.mp hj;rw[XY] at hj;subst hj;rw[UI] at hi;cases ej;rw[W7 hi] at el;have hs:st[i]?=some st[i]:=Um hi;obtain⟨g1,g2⟩:=Dn [k] hs;obtain⟨l1,el1,el2⟩:=bo el;obtain⟨r,er,el3⟩:=bo el1;nofun;refine rv (vT (j:=2*i) (by lia) g1) ?_;nofun;refine rv (Dt er) ?_;nofun;refine rv (nA r _) ?_;nofun;refine rv (vT (j:=2*i+1) (by lia) g2) ?_;nofun;refine rv (bP (d:=jF l1) (by rw[Ux,el3];rfl)) ?_;nofun;exact⟨rfl,l1,_,rfl,el2⟩
  ·rintro δ h' ⟨rfl,l,d3,rfl,el⟩;rw[Uh,UI,List.drop_length] at el;cases el;nofun
 obtain⟨p,e1,rfl⟩:=e0;exact e1
end Mi
namespace Mi
open PySem Sm L2
theorem pN{H g:MH}{d:D}(h1:∀n,d≠.ob n)(h2:g6 H.length d=true):leave H d (H++g)=some (d,H):=by
 have h3:AG H.length (H++g) d=d:=by
  cases d with
  | ob n=>exact absurd rfl (h1 n)
  | _=>rfl
 unfold leave;rw[h3,WV (Us _),VB,h2,wk];rfl
theorem rj{c:TM}{b:SM}{Q:SQ}(I:Nat->DS->MH->Prop)(step:∀k δ h,I k δ h->Rn (c δ h) fun p=>(p.1=true->Rn (b δ p.2) (zM (fun δ h=>∃k',k' < k∧I k' δ h) Q))∧(p.1=false->Q (.nx,δ,p.2))):
  ∀(n k:Nat)(δ:DS)(h:MH),k < n->I k δ h->Rn (hZ c b n δ h) Q
 | 0,k,δ,h,hk,_=>absurd hk (by lia)
 | n+1,k,δ,h,hk,hI=>by
  obtain⟨p,e1,q1,q2⟩:=step k δ h hI;unfold hZ;rw[e1];dsimp only[Option.bind_some]
  by_cases z:p.1=true
  ·rw[Ut z];obtain⟨⟨f,δ',h'⟩,e2,q⟩:=q1 z;rw[e2];dsimp only[Option.bind_some];cases f with
   | nx=>obtain⟨k',hk',hI'⟩:=q;exact rj I step n k' δ' h' (by lia) hI'
   | ct=>obtain⟨k',hk',hI'⟩:=q;exact rj I step n k' δ' h' (by lia) hI'
   | bk=>exact⟨_,rfl,q⟩
   | rt d=>exact⟨_,rfl,q⟩
  ·rw[Uu z];exact⟨_,rfl,q2 (by simpa using z)⟩
end Mi
namespace Mi
open PySem Sm L2 Pg
noncomputable def uu:Option Row->D
 | none=>.bz
 | some r=>aQ r
theorem o9(st:List (Nat×Nat))(k:Nat)(h:MH):aE (dq st k) (.int (-1)) h=some (ar k,h):=by
 refine tD ?_;rw[UH];exact tT _ _
theorem Ks(l:List Row)(h:MH):cX [jF l] h=some (.int (l.length:Int),h):=by
 show some (D.int ((cu l).length:Int),h)=_;rw[gG,Uh]
theorem jZ{rows lot:List Row}{st:List (Nat×Nat)}{k:Nat}{h:MH}(e:bN rows st=some lot)(hl:st.length≤1000):gM [jF rows,dq st k] h=some (uu lot[k]?,h):=by
 have e0:Rn (gM [jF rows,dq st k] h) fun p=>p=(uu lot[k]?,h):=by
  refine aZ ?_;nofun;refine rv (zL e hl) ?_;nofun;refine rv (o9 _ _ _) ?_;nofun;refine rv (Ks _ _) ?_;nofun;refine rv (a:=(.bl (decide ((k:Int) < (lot.length:Int))),h)) rfl ⟨_,rfl,fun c=>?_,fun c=>?_⟩
  ·have hk:k < lot.length:=by have:=Vk c;lia
   have hr:lot[k]?=some lot[k]:=Um hk;rw[hr];nofun;refine rv (o9 _ _ _) ?_;nofun;refine rv (Dt hr) ?_;rfl
  ·have hk:lot.length≤k:=by have:=Y9 c;lia
   have hr:lot[k]?=none:=UY hk;rw[hr];nofun;rfl
 obtain⟨p,e1,rfl⟩:=e0;exact e1
theorem Lc(xs:List D)(u v:D):g8 (xs++[u,v]) (-2)=some u:=by
 have hl:(xs++[u,v]).length=xs.length+2:=by simp
 have e:uO (xs++[u,v]).length (-2)=some xs.length:=by
  unfold uO;rw[hl,Uu (by decide),Ut (by lia)];congr 1
  lia
 unfold g8;rw[e];simp
theorem rC{xs ys:List D}{h:MH}(hy:0 < ys.length):pR (.tup (xs++ys)) none (some (-(ys.length:Int))) h=some (.tup xs,h):=by
 have e:HT.b8 (xs++ys).length (xs++ys).length (some (-(ys.length:Int)))=xs.length:=by
  show(if(-(ys.length:Int)) < 0 then _ else _)=_;rw[Ut (by lia),Uy]
  lia
 show(if HT.b8 (xs++ys).length 0 none=0∧HT.b8 (xs++ys).length (xs++ys).length (some (-(ys.length:Int)))=(xs++ys).length then _ else _)=_;rw[e,Uu (by rw[Uy];lia)];unfold cutD;rw[e,HT.mT,W5,YS,List.take_left'];rfl
theorem Eu(st:List (Nat×Nat))(k:Nat)(h:MH):pR (dq st k) none (some (-1)) h=some (cP (flat st),h):=by
 unfold dq cP;rw[UH];exact rC (ys:=[ar k]) (W3 _)
theorem pb(st:List (Nat×Nat))(a b k:Nat)(h:MH):pR (dq (st++[(a,b)]) k) none (some (-2)) h=some (dq st a,h):=by
 unfold dq cP;rw[tu,show flat st++flat [(a,b)]++[k]=(flat st++[a])++[b,k] by simp[flat],UH];exact rC (ys:=[ar b,ar k]) (W3 _)
theorem G5(st:List (Nat×Nat))(a b k:Nat)(h:MH):aE (dq (st++[(a,b)]) k) (.int (-2)) h=some (ar b,h):=by
 refine tD ?_;rw[tu,show flat st++flat [(a,b)]++[k]=(flat st++[a])++[b,k] by simp[flat],UH];exact Lc _ _ _
theorem g7(st:List (Nat×Nat))(k:Nat)(h:MH)(hl:st.length≤1000):fA [dq st k] h=some (dq st (k+1),h):=by
 have e0:Rn (fA [dq st k] h) fun p=>p=(dq st (k+1),h):=by
  refine aZ ?_;nofun;refine⟨_,rfl,rv (Eu st k _) ?_⟩;nofun;refine rv (o9 _ _ _) ?_;nofun;refine rv (a:=(ar (k+1),h)) rfl ?_;nofun;refine rv (dS (ys:=[ar (k+1)]) (by rw[Uh,nO];simp;lia)) ?_;show(D.tup ((flat st).map ar++[ar (k+1)]),h)=(D.tup ((flat st++[k+1]).map ar),h);rw[UH];rfl
 obtain⟨p,e1,rfl⟩:=e0;exact e1
noncomputable def bq(r:Row)(l:Nat):Bool:=match r with
 | .within _ _=>true
 | .all _ _=>true
 | .ask _ _ _=>l==0
 | _=>false
theorem tE(l:Nat)(i:Int)(h:MH):cj (ar l) (.int i) h=some (.bl ((l:Int)==i),h):=rfl
theorem yL(r:Row)(l:Nat)(h:MH):cG [aQ r,ar l] h=some (.bl (bq r l),h):=by
 have e0:Rn (cG [aQ r,ar l] h) fun p=>p=(.bl (bq r l),h):=by
  refine aZ ?_;cases r with
  | within _ _=>rw[aQ];nofun;refine rv (a:=(.bl true,h)) (by ac_nf) ⟨true,rfl,tt ?_⟩;rfl
  | all _ _=>rw[aQ];nofun;refine rv (a:=(.bl true,h)) (by ac_nf) ⟨true,rfl,tt ?_⟩;rfl
  | ask _ _ _=>
   rw[aQ];nofun;refine rv (a:=(.bl false,h)) (by ac_nf) ⟨false,rfl,ff ?_⟩;nofun;refine⟨true,by ac_nf,tt ?_⟩;nofun;refine rv (tE l 0 h) ?_;show(D.bl ((l:Int)==0),h)=(D.bl (l==0),h);have:((l:Int)==0)=(l==0):=by cases l <;> rfl
   rw[this]
  | _=>
   rw[aQ];nofun;refine rv (a:=(.bl false,h)) (by ac_nf) ⟨false,rfl,ff ?_⟩;nofun;refine⟨false,by ac_nf,ff ?_⟩;rfl
 obtain⟨p,e1,rfl⟩:=e0;exact e1
noncomputable def xU:Row->Bool
 | .again _=>true
 | _=>false
noncomputable def rn(rows:List Row):List (Nat×Nat)->Nat->Option (List (Nat×Nat)×Nat)
 | rs,k=>match (bN rows rs.reverse).bind fun l=>l[k]? with
  | some _=>some (rs,k)
  | none=>match rs with
   | []=>none
   | s::rs'=>match (bN rows rs'.reverse).bind fun l=>l[s.1]? with
    | some r=>if bq r s.2 then some (s::rs',k) else rn rows rs' (if xU r then s.1 else s.1+1)
    | none=>none
noncomputable def JF:Option (List (Nat×Nat)×Nat)->D
 | none=>.bz
 | some p=>dq p.1.reverse p.2
theorem n6(r:Row):∃x,aQ r=.tup (.str (iR r)::x)∧(iR r=="again")=xU r:=by
 cases r <;> (rw[aQ];exact⟨_,rfl,by ac_nf⟩)
theorem sX{rows lot:List Row}{s:Nat×Nat}{rs:List (Nat×Nat)}(e:bN rows (s::rs).reverse=some lot):∃l r,bN rows rs.reverse=some l∧l[s.1]?=some r∧(bc r)[s.2]?=some lot:=by
 rw[UW,pL] at e;obtain⟨l,e1,e2⟩:=bo e;obtain⟨l2,e3,e4⟩:=bo e2;cases e4;obtain⟨r,e5,e6⟩:=bo e3;exact⟨l,r,e1,e5,e6⟩
theorem zQ(st:List (Nat×Nat))(k:Nat)(h:MH):cX [dq st k] h=some (.int ((2*st.length+1:Nat):Int),h):=by
 show some (D.int (((flat st++[k]).map ar).length:Int),h)=_;rw[Uh,Uy,nO];rfl
theorem kY(o:Option Row)(h:MH):nP (uu o) .bz h=some (.bl o.isNone,h):=by
 cases o with
 | none=>rfl
 | some r=>obtain⟨x,e,_⟩:=n6 r;show nP (aQ r) .bz h=_;rw[e];rfl
theorem j7{rows l:List Row}{rs:List (Nat×Nat)}{k:Nat}{r:Row}(e:bN rows rs.reverse=some l)(hr:l[k]?=some r):rn rows rs k=some (rs,k):=by
 unfold rn;rw[e];simp only[UT,hr]
theorem xt{rows l:List Row}{k:Nat}(e:bN rows []=some l)(hr:l[k]?=none):rn rows [] k=none:=by
 unfold rn;rw[show([]:List (Nat×Nat)).reverse=[] from rfl,e];simp only[UT,hr]
theorem Bm{rows lot l:List Row}{s:Nat×Nat}{rs:List (Nat×Nat)}{k:Nat}{r:Row}(e:bN rows (s::rs).reverse=some lot)(hn:lot[k]?=none)(e1:bN rows rs.reverse=some l)(hr:l[s.1]?=some r):rn rows (s::rs) k=if bq r s.2 then some (s::rs,k) else rn rows rs (if xU r then s.1 else s.1+1):=by
 rw[rn,e];simp only[UT,hn,e1,hr]
theorem qI{rows lot:List Row}{rs:List (Nat×Nat)}{k:Nat}{h:MH}(e:bN rows rs.reverse=some lot)(hl:rs.length≤1000):eO [jF rows,dq rs.reverse k] h=some (JF (rn rows rs k),h):=by
 have e0:Rn (eO [jF rows,dq rs.reverse k] h) fun p=>p=(JF (rn rows rs k),h):=by
  refine aZ ?_;refine lH ?_;refine rj (fun m δ h'=>h'=h∧∃(rs':List (Nat×Nat)) (k':Nat) (d2 d3:Option D) (lot':List Row),m=rs'.length∧rs'.length≤1000∧δ=[some (jF rows),some (dq rs'.reverse k'),d2,d3]∧bN rows rs'.reverse=some lot'∧rn rows rs' k'=rn rows rs k) ?_ _ rs.length _ _ (by lia) ⟨rfl,rs,k,_,_,lot,rfl,hl,rfl,e,rfl⟩;rintro m δ h' ⟨rfl,rs',k',d2,d3,lot',rfl,hl',rfl,e',ep⟩;nofun;refine rv (jZ e' (by rw[U8];exact hl')) ?_;nofun;refine rv (kY _ _) ⟨_,rfl,fun c=>?_,fun c=>?_⟩
  ·have hn:lot'[k']?=none:=by cases q:lot'[k']? with
    | none=>rfl
    | some r=>rw[q] at c;cases c
   cases rs' with
   | nil=>
    cases e';nofun;refine rv (zQ _ _ _) ?_;nofun;refine⟨true,rfl,tt ?_⟩;rw[←ep,xt rfl hn];nofun;rfl
   | cons s rs'=>
    obtain⟨l,r,g1,g2,g3⟩:=sX e';have hu:=Bm e' hn g1 g2;nofun;refine rv (zQ _ _ _) ?_;nofun;refine⟨false,by rw[U8,Uw];congr 1,ff ?_⟩;nofun;refine⟨_,rfl,?_⟩;rw[UW];refine rv (pb rs'.reverse s.1 s.2 k' _) ?_;nofun;refine rv (jZ g1 (by rw[U8];rw[Uw] at hl';lia)) ?_;rw[g2];nofun;refine rv (G5 rs'.reverse s.1 s.2 k' _) ?_;nofun;refine rv (yL r s.2 _) ?_;nofun;refine⟨_,rfl,fun c1=>?_,fun c1=>?_⟩
    ·rw[c1,Ut rfl] at hu;rw[←ep,hu];nofun;show(dq (rs'.reverse++[s]) k',h')=(dq (s::rs').reverse k',h');rw[UW]
    ·rw[c1,Uu U0] at hu;obtain⟨x,ex,ea⟩:=n6 r;nofun;refine rv (a:=(.str (iR r),h')) (by show aE (aQ r) _ _=_;rw[ex];exact bP (i:=0) rfl) ?_;nofun;refine⟨_,rfl,fun c2=>?_,fun c2=>?_⟩
     ·rw[←ea,c2,Ut rfl] at hu;nofun;exact⟨rs'.length,WS _,rfl,rs',s.1,_,_,l,rfl,W9 hl',rfl,g1,hu.symm.trans ep⟩
     ·rw[←ea,c2,Uu U0] at hu;nofun;refine rv (g7 rs'.reverse s.1 _ (by rw[U8];exact W9 hl')) ?_;exact⟨rs'.length,WS _,rfl,rs',s.1+1,_,_,l,rfl,W9 hl',rfl,g1,hu.symm.trans ep⟩
  ·cases q:lot'[k']? with
   | none=>rw[q] at c;cases c
   | some r=>
    rw[←ep,j7 e' q];nofun;rfl
 obtain⟨p,e1,rfl⟩:=e0;exact e1
structure bQ where
 bM:Nat
 nums:List Int
 rs:List (Nat×Nat)
 k:Nat
noncomputable def nM(f:bQ):D:=.tup [ar f.bM,.tup (f.nums.map D.int),dq f.rs.reverse f.k]
def eN(P:Prog)(f:bQ):Prop:=∃d lot,P.ak[f.bM]?=some d∧bN d.2.2 f.rs.reverse=some lot∧f.rs.length≤1000
noncomputable def cw(P:Prog)(i:Nat):List Row:=((P.ak[i]?).map fun d=>d.2.2).getD []
theorem mV{P:Prog}{i:Nat}{d:fD}{h:MH}(e:P.ak[i]?=some d):gg [aw P,ar i] h=some (jF (cw P i),h):=by
 have e0:Rn (gg [aw P,ar i] h) fun p=>p=(jF d.2.2,h):=by
  refine aZ ?_;unfold aw;nofun;refine rv (bP (by rw[Ux,e];rfl)) ?_;unfold gI;nofun;rfl
 obtain⟨p,e1,rfl⟩:=e0;rw[e1];unfold cw;rw[e];rfl
noncomputable def km(P:Prog):List bQ->bQ->List bQ
 | [],f=>match rn (cw P f.bM) f.rs f.k with
  | some p=>[{f with rs:=p.1,k:=p.2}]
  | none=>[]
 | g::gs,f=>match rn (cw P f.bM) f.rs f.k with
  | some p=>{f with rs:=p.1,k:=p.2}::g::gs
  | none=>km P gs {g with k:=g.k+1}
noncomputable def ir(P:Prog):List bQ->List bQ
 | []=>[]
 | f::fs=>km P fs f
noncomputable def jk(fs:List bQ):D:=.tup (fs.reverse.map nM)
theorem kZ{P:Prog}{f:bQ}{p:List (Nat×Nat)×Nat}:∀{fs:List bQ},rn (cw P f.bM) f.rs f.k=some p->km P fs f={f with rs:=p.1,k:=p.2}::fs
 | [],e=>by unfold km;rw[e]
 | _::_,e=>by unfold km;rw[e]
theorem nI{P:Prog}{f:bQ}(e:rn (cw P f.bM) f.rs f.k=none):km P [] f=[]:=by unfold km;rw[e]
theorem rA{P:Prog}{f g:bQ}{gs:List bQ}(e:rn (cw P f.bM) f.rs f.k=none):km P (g::gs) f=km P gs {g with k:=g.k+1}:=by rw[km,e]
theorem vG{h:MH}{n:Nat}{xs:List D}{y:D}(e:h[n]?=some (.lst (xs++[y]))):EJ (.ob n) [] h=some (y,h.set n (.lst xs)):=by
 unfold EJ;dsimp only;rw[e];dsimp only;rw[Uy,Wr,Zi,US (Us _),X2,Y5];rfl
theorem yh(n:Nat):∀js:List Int,dH n (js.map D.int)=true
 | []=>rfl
 | j::r=>yh n r
theorem DC(n:Nat):∀js:List Nat,dH n (js.map ar)=true
 | []=>rfl
 | j::r=>DC n r
theorem QA(n:Nat)(f:bQ):g6 n (nM f)=true:=by
 show(true&&(dH n (f.nums.map D.int)&&(dH n ((flat f.rs.reverse++[f.k]).map ar)&&true)))=true;rw[yh,DC];rfl
theorem yi(n:Nat):∀fs:List bQ,dH n (fs.map nM)=true
 | []=>rfl
 | f::r=>by show(g6 n (nM f)&&dH n (r.map nM))=true;rw[QA,yi n r];rfl
theorem KC(o:Option (List (Nat×Nat)×Nat))(h:MH):lI (JF o) .bz h=some (.bl o.isSome,h):=by
 cases o with
 | none=>rfl
 | some r=>rfl
theorem k5{h:MH}{n:Nat}{xs:List D}(e:h[n]?=some (.lst xs)):bL [.ob n] h=some (.tup xs,h):=by
 unfold bL cT;dsimp only;rw[e];rfl
theorem Ct{h:MH}{n:Nat}{xs:List D}(e:h[n]?=some (.lst xs)):yH (.ob n) h=some (!xs.isEmpty):=by
 unfold yH;dsimp only;rw[e]
theorem qm(f:bQ):nM f=.tup [ar f.bM,.tup (f.nums.map D.int),dq f.rs.reverse f.k]:=rfl
theorem ko{P:Prog}{fs:List bQ}{h:MH}(ok:∀f∈fs,eN P f)(hl:fs.length≤1000):cn [aw P,jk fs] h=some (jk (ir P fs),h):=by
 have e0:Rn (cn [aw P,jk fs] h) fun p=>p=(jk (ir P fs),h):=by
  refine m8 ?_;nofun;refine GI ?_;nofun;refine⟨_,fs.reverse.map nM,_,rfl,rfl,?_⟩;nofun;have fin:∀(δ:DS)(gs:List bQ)(d3 d4 d5:Option D),δ=[some (aw P),some (jk fs),some (.ob h.length),d3,d4,d5]->gs=ir P fs->vb (aG (ao bL (ae (ay 2) aP))) (Bc fun p=>Rn (leave h p.fst p.snd) fun p=>p=(jk (ir P fs),h)) (Fl.nx,δ,h++[.lst (gs.reverse.map nM)]):=by
   rintro δ gs d3 d4 d5 rfl rfl;nofun;refine rv (k5 ba) ?_;exact rv (pN (fun n z=>(nomatch z)) (yi _ _)) rfl
  refine rj (fun m δ h'=>∃(gs:List bQ)(d3 d4 d5:Option D),m=gs.length∧gs.length≤1000∧(∀f∈gs,eN P f)∧δ=[some (aw P),some (jk fs),some (.ob h.length),d3,d4,d5]∧h'=h++[.lst (gs.reverse.map nM)]∧ir P gs=ir P fs) ?_ _ fs.length _ _ (by lia) ⟨fs,_,_,_,rfl,hl,ok,rfl,rfl,rfl⟩;rintro m δ h' ⟨gs,d3,d4,d5,rfl,hl',ok',rfl,rfl,ep⟩;nofun;refine⟨_,Ct ba,fun c=>?_,fun c=>?_⟩
  ·cases gs with
   | nil=>cases c
   | cons f gs=>
    obtain⟨d,lot,f1,f2,f3⟩:=ok' f Uo;have er:cw P f.bM=d.2.2:=by unfold cw;rw[f1];rfl
    rw[UW,UH];nofun;refine m9 ?_;nofun;refine⟨cc ba,?_⟩;nofun;refine rv (vG ba) ?_;rw[fv,qm f];nofun;refine rv (mV f1) ?_;nofun;refine rv (qI (er ▸ f2) f3) ?_;nofun;refine rv (KC _ _) ?_;refine⟨_,rfl,fun c1=>?_,fun c1=>?_⟩
    ·cases q:rn (cw P f.bM) f.rs f.k with
     | none=>rw[q] at c1;cases c1
     | some p=>
      nofun;refine m9 ?_;nofun;refine⟨cc ba,?_⟩;nofun;refine rv (cA ba (by rw[Uh,U8,show sizeLine=16777216 from rfl];rw[Uw] at hl';lia)) ?_;rw[fv];nofun;have hx:List.map nM gs.reverse++[D.tup [ar f.bM,D.tup (List.map D.int f.nums),JF (some p)]]=(ir P fs).reverse.map nM:=by
       rw[←ep];show _=(km P gs f).reverse.map nM;rw[kZ q,UW,UH];rfl
      rw[hx];refine rv (k5 ba) ?_;exact rv (pN (fun n z=>(nomatch z)) (yi _ _)) rfl
    ·cases q:rn (cw P f.bM) f.rs f.k with
     | some p=>rw[q] at c1;cases c1
     | none=>
      nofun;refine⟨_,Ct ba,fun c2=>?_,fun c2=>?_⟩
      ·cases gs with
       | nil=>cases c2
       | cons g gs=>
        obtain⟨dg,lg,k1,k2,k3⟩:=ok' g (Ur _ Uo);rw[UW,UH];nofun;refine m9 ?_;nofun;refine⟨cc ba,?_⟩;nofun;refine rv (vG ba) ?_;rw[fv,qm g];nofun;refine m9 ?_;nofun;refine⟨cc ba,?_⟩;nofun;refine rv (g7 g.rs.reverse g.k _ (by rw[U8];exact k3)) ?_;nofun;refine rv (cA ba (by rw[Uh,U8,show sizeLine=16777216 from rfl];rw[Uw,Uw] at hl';lia)) ?_;rw[fv];refine⟨(g::gs).length,WS _,{g with k:=g.k+1}::gs,_,_,_,rfl,W9 hl',fun x hx=>?_,rfl,?_,?_⟩
        ·rcases UE.mp hx with rfl | hx
         ·exact⟨dg,lg,k1,k2,k3⟩
         ·exact ok' x (Ur _ (Ur _ hx))
        ·rw[UW,UH];rfl
        ·rw[←ep];show km P gs {g with k:=g.k+1}=km P (g::gs) f;rw[rA q]
      ·cases gs with
       | cons g gs=>rw[UW,UH] at c2;simp at c2
       | nil=>
        nofun;exact⟨0,Xz,[],_,_,_,rfl,Va _,fun x hx=>(nomatch hx),rfl,rfl,by rw[←ep];exact(nI q).symm⟩
  ·cases gs with
   | nil=>exact fin _ [] _ _ _ rfl (by rw[←ep];rfl)
   | cons f gs=>rw[UW,UH] at c;simp at c
 obtain⟨p,e1,rfl⟩:=e0;exact e1
def II(rows:List Row)(rs:List (Nat×Nat))(k:Nat):Prop:=∃lot,bN rows rs.reverse=some lot∧((∃r,lot[k]?=some r)∨(lot[k]?=none∧∃s rs' l r,rs=s::rs'∧bN rows rs'.reverse=some l∧l[s.1]?=some r∧bq r s.2=true))
theorem Bn{rows:List Row}:∀{rs:List (Nat×Nat)} {k:Nat} {lot:List Row} {p:List (Nat×Nat)×Nat},bN rows rs.reverse=some lot->rn rows rs k=some p->II rows p.1 p.2∧p.1.length≤rs.length
 | [],k,lot,p,e,ep=>by
  cases q:lot[k]? with
  | none=>rw[xt e q] at ep;cases ep
  | some r=>rw[j7 e q] at ep;cases ep;exact⟨⟨lot,e,.inl ⟨r,q⟩⟩,Us _⟩
 | s::rs,k,lot,p,e,ep=>by
  cases q:lot[k]? with
  | some r=>rw[j7 e q] at ep;cases ep;exact⟨⟨lot,e,.inl ⟨r,q⟩⟩,Us _⟩
  | none=>
   obtain⟨l,r,g1,g2,g3⟩:=sX e;rw[Bm e q g1 g2] at ep
   by_cases c:bq r s.2=true
   ·rw[Ut c] at ep;cases ep;exact⟨⟨lot,e,.inr ⟨q,s,rs,l,r,rfl,g1,g2,c⟩⟩,Us _⟩
   ·rw[Uu c] at ep;obtain⟨h1,h2⟩:=Bn g1 ep;exact⟨h1,Vt h2⟩
def jt(P:Prog)(f:bQ):Prop:=∃d,P.ak[f.bM]?=some d∧II d.2.2 f.rs f.k∧f.rs.length≤1000
theorem jt.ok{P:Prog}{f:bQ}(h:jt P f):eN P f:=let⟨d,h1,⟨lot,h2,_⟩,h3⟩:=h;⟨d,lot,h1,h2,h3⟩
theorem eu{P:Prog}{i:Nat}{d:fD}(h:P.ak[i]?=some d):cw P i=d.2.2:=by unfold cw;rw[h];rfl
def wx(P:Prog):List bQ->Prop
 | []=>True
 | f::fs=>jt P f∧∀g∈fs,eN P g
theorem Dk{P:Prog}:∀{fs:List bQ} {f:bQ},eN P f->(∀g∈fs,eN P g)->wx P (km P fs f)∧(km P fs f).length≤fs.length+1
 | fs,f,⟨d,lot,f1,f2,f3⟩,hs=>by
  have er:=eu f1;cases q:rn (cw P f.bM) f.rs f.k with
  | some p=>
   rw[kZ q];obtain⟨h1,h2⟩:=Bn (er ▸ f2) q;exact⟨⟨⟨d,f1,er ▸ h1,UL h2 f3⟩,hs⟩,Us _⟩
  | none=>
   cases fs with
   | nil=>rw[nI q];exact⟨True.intro,Va _⟩
   | cons g gs=>
    rw[rA q];obtain⟨dg,lg,k1,k2,k3⟩:=hs g Uo;obtain⟨h1,h2⟩:=Dk (fs:=gs) (f:={g with k:=g.k+1}) ⟨dg,lg,k1,k2,k3⟩ fun x hx=>hs x (Ur _ hx);exact⟨h1,Vt h2⟩
theorem Di{P:Prog}:∀{fs:List bQ},(∀g∈fs,eN P g)->wx P (ir P fs)∧(ir P fs).length≤fs.length
 | [],_=>⟨True.intro,Us _⟩
 | f::fs,h=>Dk (h f Uo) fun g hg=>h g (Ur _ hg)
noncomputable def bu(P:Prog)(f:bQ):Option Row:=(bN (cw P f.bM) f.rs.reverse).bind fun l=>l[f.k]?
theorem bp{P:Prog}{f:bQ}{h:MH}(ok:eN P f):bJ [aw P,nM f] h=some (uu (bu P f),h):=by
 obtain⟨d,lot,f1,f2,f3⟩:=ok;have er:=eu f1;have e0:Rn (bJ [aw P,nM f] h) fun p=>p=(uu (bu P f),h):=by
  refine aZ ?_;rw[qm f];nofun;refine rv (mV f1) ?_;nofun;refine rv (jZ (er ▸ f2) (by rw[U8];exact f3)) ?_;nofun;unfold bu;rw[er,f2];rfl
 obtain⟨p,e1,rfl⟩:=e0;exact e1
abbrev Hand:=List bQ×List (List ax)
noncomputable def f6(b:List ax):D:=.tup (b.map gV)
noncomputable def cf(x:Hand):D:=.tup [jk x.1,.tup (x.2.map f6)]
noncomputable def aS(S:List Hand):D:=.tup (S.map cf)
theorem bO(f:bQ)(fs:List bQ)(h:MH):aE (jk (f::fs)) (.int (-1)) h=some (nM f,h):=by
 refine tD ?_;rw[UW,UH];exact tT _ _
theorem jP{S:List Hand}{i:Nat}{x:Hand}{h:MH}(e:S[i]?=some x):aE (aS S) (ar i) h=some (cf x,h):=bP (by rw[Ux,e];rfl)
theorem wC(fs:List bQ)(h:MH):yH (jk fs) h=some (!fs.isEmpty):=by
 cases fs with
 | nil=>rfl
 | cons f fs=>
  show some (!((f::fs).reverse.map nM).isEmpty)=_;rw[UW,UH];simp
noncomputable def ur(P:Prog)(x:Hand):Option Row:=x.1.head?.bind fun f=>bu P f
theorem sh{P:Prog}{S:List Hand}{i:Nat}{x:Hand}{h:MH}(e:S[i]?=some x)(ok:wx P x.1):cZ [aw P,aS S,ar i] h=some (uu (ur P x),h):=by
 have e0:Rn (cZ [aw P,aS S,ar i] h) fun p=>p=(uu (ur P x),h):=by
  refine aZ ?_;nofun;refine rv (jP e) ?_;unfold cf;nofun;refine⟨_,wC _ _,fun c=>?_,fun c=>?_⟩
  ·obtain⟨fs,hs⟩:=x;cases fs with
   | nil=>cases c
   | cons f fs=>
    nofun;refine rv (bO f fs _) ?_;nofun;refine rv (bp ok.1.ok) ?_;rfl
  ·obtain⟨fs,hs⟩:=x;cases fs with
   | nil=>nofun;rfl
   | cons f fs=>cases c
 obtain⟨p,e1,rfl⟩:=e0;exact e1
noncomputable def iD:Row->List Lock
 | .within l _=>[l]
 | .all ls _=>ls
 | .ask l _ _=>[l]
 | _=>[]
theorem uN(r:Row)(h:MH):gP [aQ r] h=some (.tup ((iD r).map aL),h):=by
 have e0:Rn (gP [aQ r] h) fun p=>p=(.tup ((iD r).map aL),h):=by
  refine aZ ?_;cases r with
  | all _ _=>rw[aQ];nofun;refine⟨true,by ac_nf,tt ?_⟩;nofun;rfl
  | within _ _=>rw[aQ];nofun;refine⟨false,by ac_nf,ff ?_⟩;nofun;refine rv (a:=(.bl true,h)) (by ac_nf) ⟨true,rfl,tt ?_⟩;nofun;rfl
  | ask _ _ _=>rw[aQ];nofun;refine⟨false,by ac_nf,ff ?_⟩;nofun;refine rv (a:=(.bl true,h)) (by ac_nf) ⟨true,rfl,tt ?_⟩;nofun;rfl
  | _=>rw[aQ];nofun;refine⟨false,by ac_nf,ff ?_⟩;nofun;refine rv (a:=(.bl false,h)) (by ac_nf) ⟨false,rfl,ff ?_⟩;nofun;rfl
 obtain⟨p,e1,rfl⟩:=e0;exact e1
theorem GN{kvs:List (Key×D)}{k:Key}{v:D}(h:k∈kvs.map (·.1)):putD kvs k v=kvs.map (fun kv=>if kv.1=k then(kv.1,v) else kv):=by
 unfold putD;rw[Ut];obtain⟨p,hp,e⟩:=UR.mp h;exact WB.mpr ⟨p,hp,Ve e⟩
theorem gd{a j:Key}{b:D}{r:List (Key×D)}:dN ((a,b)::r) j=if a=j then some b else dN r j:=by
 by_cases h:a=j
 ·rw[Ut h];simp[dN,h]
 ·rw[Uu h];simp only[dN,V6,h,decide_false]
theorem rK{k j:Key}{v:D}(hj:j≠k):∀l:List (Key×D),dN (l.map (fun kv=>if kv.1=k then(kv.1,v) else kv)) j=dN l j
 | []=>rfl
 |(a,b)::r=>by
  rw[Uv]
  by_cases ha:a=k
  ·rw[Ut ha,gd,gd,Uu (fun z=>hj (z.symm.trans ha)),Uu (fun z=>hj (z.symm.trans ha))];exact rK hj r
  ·rw[Uu ha,gd,gd,rK hj r]
theorem valD_map'{k:Key}{v:D}:∀l:List (Key×D),k∈l.map (·.1)->dN (l.map (fun kv=>if kv.1=k then(kv.1,v) else kv)) k=some v
 | [],h=>(nomatch h)
 |(a,b)::r,h=>by
  rw[Uv]
  by_cases ha:a=k
  ·rw[Ut ha,gd,Ut ha]
  ·rw[Uu ha,gd,Uu ha];exact valD_map' r ((UE.mp h).resolve_left fun e=>ha e.symm)
theorem yF{kvs:List (Key×D)}{k j:Key}{v:D}:dN (putD kvs k v) j=if j=k then some v else dN kvs j:=by
 by_cases h:k∈kvs.map (·.1)
 ·rw[GN h]
  by_cases hj:j=k
  ·subst hj;rw[Ut rfl];exact valD_map' kvs h
  ·rw[Uu hj];exact rK hj kvs
 ·rw[zl h]
  by_cases hj:j=k
  ·subst hj;rw[Ut rfl];unfold dN;rw[Zr];have:kvs.find? (fun kv=>decide (kv.1=j))=none:=by
    rw[List.find?_eq_none];intro p hp e;exact h (UR.mpr ⟨p,hp,Vk e⟩)
   rw[this];simp
  ·rw[Uu hj];unfold dN;rw[Zr];cases kvs.find? (fun kv=>decide (kv.1=j)) with
   | some p=>rfl
   | none=>
    simp[VA hj]
noncomputable def CG(ps:List Str)(ns:List Int):List (Key×D):=(ps.zip ns).map fun p=>((.inr p.1:Key),D.int p.2)
theorem CF:∀(ps:List Str)(ns:List Int),vg (ps.map D.str) (ns.map D.int)=some (CG ps ns)
 | [],_=>rfl
 | _::_,[]=>rfl
 | n::ns,r::rs=>by
  rw[Uv,Uv];show(qS (.str n)).bind (fun k=>(vg (ns.map D.str) (rs.map D.int)).map fun ps=>(k,D.int r)::ps)=_;rw[CF ns rs];rfl
theorem vE{w:Str}:∀(z:List (Str×Int)) (acc:List (Key×D)),(w∈z.map (·.1)∨∃v,dN acc (.inr w)=some (.int v))->∃v,dN (mB acc (z.map fun p=>((.inr p.1:Key),D.int p.2))) (.inr w)=some (.int v)
 | [],acc,h=>h.resolve_left fun z=>(nomatch z)
 | p::z,acc,h=>by
  show ∃v,dN (mB (putD acc (.inr p.1) (.int p.2)) (z.map fun p=>((.inr p.1:Key),D.int p.2))) (.inr w)=some (.int v);refine vE z _ ?_
  by_cases e:w=p.1
  ·exact .inr ⟨p.2,by rw[yF,Ut (by rw[e])]⟩
  ·rcases h with h |⟨v,h⟩
   ·exact .inl ((UE.mp h).resolve_left e)
   ·exact .inr ⟨v,by rw[yF,Uu (fun z=>e (Sum.inr.inj z)),h]⟩
noncomputable def qJ(P:Prog)(i:Nat):List Str:=((P.ak[i]?).map fun d=>d.2.1).getD []
noncomputable def fL(P:Prog)(f:bQ):List (Key×D):=mB [] (CG (qJ P f.bM) f.nums)
theorem Hl{P:Prog}{f:bQ}{w:Str}(hw:w∈qJ P f.bM)(hl:(qJ P f.bM).length≤f.nums.length):∃v,dN (fL P f) (.inr w)=some (.int v):=
 vE _ [] (.inl (by rw[List.map_fst_zip hl];exact hw))
theorem Jz{m:AM}{δ:DS}{h:MH}{Q:D×MH->Prop}(r:Rn (m δ h) fun p=>∃d e xs ys ws ws' ps,p.1=[d,e]∧cT d p.2=some (xs,ws)∧cT e p.2=some (ys,ws')∧vg xs ys=some ps∧ps.length≤1000000∧Q (.dv (mB [] ps),p.2)):Rn (BZ m δ h) Q:=
 aT (r.imp fun p ⟨d,e,xs,ys,ws,ws',ps,e1,e2,e3,e4,e5,q⟩=>⟨_,by rw[e1];dsimp only;rw[e2];dsimp only[Option.bind_some];rw[e3];dsimp only[Option.bind_some];rw[e4];dsimp only[Option.bind_some];rw[Ut e5],q⟩)
theorem fK{P:Prog}{f:bQ}{d:fD}{h:MH}(e:P.ak[f.bM]?=some d)(hl:d.2.1.length≤1000):cE [aw P,nM f] h=some (.dv (fL P f),h):=by
 have ep:qJ P f.bM=d.2.1:=by unfold qJ;rw[e];rfl
 have e0:Rn (cE [aw P,nM f] h) fun p=>p=(.dv (fL P f),h):=by
  refine aZ ?_;rw[qm f];unfold aw;nofun;refine Jz ?_;nofun;refine rv (bP (by rw[Ux,e];rfl)) ?_;unfold gI;nofun;refine⟨_,_,_,_,_,_,CG d.2.1 f.nums,rfl,rfl,rfl,CF _ _,?_,?_⟩
  ·unfold CG;rw[Uh,List.length_zip]
   lia
  ·unfold fL;rw[ep];rfl
 obtain⟨p,e1,rfl⟩:=e0;exact e1
noncomputable def vI:Option D->Int
 | some (.int z)=>z
 | _=>0
noncomputable def gj(kvs:List (Key×D))(t:Term):Int:=if t.1="" then t.2 else vI (dN kvs (.inr t.1))+t.2
def dQ(kvs:List (Key×D))(t:Term):Prop:=t.1=""∨∃z,dN kvs (.inr t.1)=some (.int z)
theorem fm{kvs:List (Key×D)}{t:Term}{h:MH}(hw:dQ kvs t):bC [aV t,.dv kvs] h=some (.int (gj kvs t),h):=by
 have e:Rn (bC [aV t,.dv kvs] h) fun p=>p=(.int (gj kvs t),h):=by
  refine aZ ?_;unfold aV;nofun;refine⟨_,rfl,fun c=>?_,fun c=>?_⟩
  ·have c':t.1="":=by simpa using c
   nofun;unfold gj;rw[Ut c']
  ·have c':¬t.1="":=by simpa using c
   obtain⟨z,hz⟩:=hw.resolve_left c';nofun;refine rv (x4 rfl hz) ?_;nofun;unfold gj;rw[Uu c',hz];rfl
 obtain⟨p,ep,rfl⟩:=e;exact ep
noncomputable def sY:EM:=ao aD (ae (ay 0) (ae (ao bC (ae (ay 1) (ae (ay 2) aP))) aP))
noncomputable def Kr:GM:=gT 2 (ai (gN 0) (ai (gN 1) bA))
noncomputable def nB(kvs:List (Key×D))(a:List ax)(l:Lock):List ax:=IG a (l.1,gj kvs l.2)
theorem Hv{kvs:List (Key×D)}{l:Lock}{h:MH}(hw:dQ kvs l.2):sY [some (.str l.1),some (aV l.2),some (.dv kvs)] h=some (gV (l.1,gj kvs l.2),h):=by
 have e:Rn (sY [some (.str l.1),some (aV l.2),some (.dv kvs)] h) fun p=>p=(gV (l.1,gj kvs l.2),h):=by
  unfold sY;nofun;refine rv (fm hw) ?_;nofun;rfl
 obtain⟨p,ep,rfl⟩:=e;exact ep
theorem Ar(a:List ax)(k:ax):(IG a k).length≤a.length+1:=by unfold IG;split <;> simp
theorem CZ{kvs:List (Key×D)}{h:MH}:∀(ls:List Lock)(d0 d1:Option D)(acc:List ax),(∀l∈ls,dQ kvs l.2)->acc.length+ls.length≤4->
  ∃d0' d1',dD [] Kr bU (mP sY) (ls.map aL) [d0,d1,some (.dv kvs)] h acc=some ([d0',d1',some (.dv kvs)],h,ls.foldl (nB kvs) acc)
 | [],d0,d1,acc,_,_=>⟨d0,d1,rfl⟩
 | l::ls,d0,d1,acc,hw,hl=>by
  have h1:=Ar acc (l.1,gj kvs l.2);rw[Uw] at hl;obtain⟨d0',d1',e⟩:=CZ (h:=h) ls (some (.str l.1)) (some (aV l.2)) (nB kvs acc l) (fun x hx=>hw x (Ur _ hx)) (by unfold nB;lia);refine⟨d0',d1',?_⟩;have em:mP sY [some (.str l.1),some (aV l.2),some (.dv kvs)] h acc=some ([some (.str l.1),some (aV l.2),some (.dv kvs)],h,nB kvs acc l):=by
   unfold mP;rw[Hv (hw l Uo)];show(if acc.length≤3 then _ else _)=_;rw[Ut (by lia)];rfl
  rw[Uv,Yj];show(if lC [] h then(Kr (aL l) [d0,d1,some (.dv kvs)] h).bind _ else none)=_;rw[Ut (show lC [] h=true from rfl),show Kr (aL l) [d0,d1,some (.dv kvs)] h=some ([some (.str l.1),some (aV l.2),some (.dv kvs)],h) from rfl];show(mP sY [some (.str l.1),some (aV l.2),some (.dv kvs)] h acc).bind _=_;rw[em];exact e
noncomputable def yB(P:Prog)(f:bQ):List ax:=lN (((bu P f).map iD).getD [] |>.foldl (nB (fL P f)) [])
theorem pP(kvs:List (Key×D)):∀(ls:List Lock)(acc:List ax),(ls.foldl (nB kvs) acc).length≤acc.length+ls.length
 | [],_=>Us _
 | l::ls,acc=>by
  have h1:=Ar acc (l.1,gj kvs l.2);have h2:=pP kvs ls (nB kvs acc l);rw[Yj,Uw];unfold nB at h2 ⊢
  lia
theorem fM{P:Prog}{f:bQ}{d:fD}{r:Row}{h:MH}(ok:eN P f)(e:P.ak[f.bM]?=some d)(hl:d.2.1.length≤1000)(er:bu P f=some r)(hw:∀l∈iD r,dQ (fL P f) l.2)(h4:(iD r).length≤4):cF [aw P,nM f] h=some (f6 (yB P f),h):=by
 have e0:Rn (cF [aw P,nM f] h) fun p=>p=(f6 (yB P f),h):=by
  refine aZ ?_;nofun;refine rv (bp ok) ?_;rw[er];nofun;refine rv (uN r _) ?_;nofun;refine rv (fK e hl) ?_;nofun;obtain⟨d0,d1,el⟩:=CZ (h:=h) (iD r) none none [] hw (by simpa using h4);refine rv (a:=(.lv ((yB P f).map gV),h)) ?_ ?_
  ·show((dD [] Kr bU (mP sY) ((iD r).map aL) [none,none,some (.dv (fL P f))] h []).bind _)=_;rw[el];show(if((iD r).foldl (nB (fL P f)) []).length≤4 then _ else _)=_;rw[Ut (by have:=pP (fL P f) (iD r) [];simp at this;lia)];unfold yB;rw[er];rfl
  ·nofun;refine rv rfl ?_;rfl
 obtain⟨p,e1,rfl⟩:=e0;exact e1
theorem CP:∀b:List ax,iA (b.map gV)=some (b.map gW)
 | []=>rfl
 | k::r=>by
  show(qa (gV k)).bind (fun a=>(iA (r.map gV)).map fun bs=>a::bs)=_;rw[CP r];rfl
theorem vX:∀b:List ax,PyData.depthAll (b.map gW)≤2
 | []=>by simp[PyData.depthAll]
 | k::r=>by
  have:=vX r;simp only[Uv,PyData.depthAll,gW,PyData.depth];simp
  lia
theorem HS(k l:ax):PyData.eqv (gW k) (gW l)=decide (k=l):=by
 show((k.1==l.1)&&((k.2==l.2)&&true))=_;rw[Bool.and_true,Vz,UJ,VO,VO,Vv];constructor
 ·rintro⟨h1,h2⟩;exact Prod.ext h1 h2
 ·rintro rfl;exact⟨rfl,rfl⟩
theorem Du(l:ax)(b:List ax)(h:MH):x5 (gV l) (f6 b) h=some (.bl (decide (l∈b)),h):=by
 have e2:inD (gV l) (f6 b) h=some (decide (l∈b)):=by
  show((iA (b.map gV)).bind fun bs=>if(gW l).depth≤60∧PyData.depthAll bs≤60 then some (bs.any fun x=>PyData.eqv x (gW l)) else none)=_;rw[CP];show(if(gW l).depth≤60∧PyData.depthAll (b.map gW)≤60 then some ((b.map gW).any fun x=>PyData.eqv x (gW l)) else none)=_;rw[Ut ⟨by simp[gW,PyData.depth,PyData.depthAll],UL (vX b) (by decide)⟩,Xw];congr 1;rw[Vz,WB,Vv];constructor
  ·rintro⟨x,hx,e⟩;have e:PyData.eqv (gW x) (gW l)=true:=e;rw[HS] at e;exact Vk e ▸ hx
  ·intro hx;exact⟨l,hx,by show PyData.eqv (gW l) (gW l)=true;rw[HS];simp⟩
 unfold x5;rw[e2];rfl
noncomputable def zU(l:ax)(x:Hand):Bool:=x.2.any fun b=>decide (l∈b)
noncomputable def NW:Option Nat->D
 | none=>.bz
 | some i=>ar i
theorem OF{α:Type}(p:α->Bool)(l:List α)(h:MH):N4 [.lv (l.map fun w=>D.bl (p w))] h=some (.bl (l.any p),h):=by
 show(Fs (l.map fun x=>D.bl (p x))).map (fun bs=>(D.bl (bs.any id),h))=_;rw[DG];show some (D.bl ((l.map p).any id),h)=_;rw[Xw];rfl
theorem E2{l:ax}{bs:List (List ax)}{h:MH}:bB [] (gN 0) bU (aj x5 (ay 1) (ay 0)) (bs.map f6) [none,some (gV l)] h=some (bs.map (fun b=>D.bl (decide (l∈b))),h):=by
 have:=Dx (e:=aj x5 (ay 1) (ay 0)) (t:=[some (gV l)]) (h:=h) (fun d=>match x5 (gV l) d h with | some (z,_)=>z | none=>.bz) (bs.map f6) none (fun y hy=>by
  obtain⟨b,hb,rfl⟩:=UR.mp hy;show x5 (gV l) (f6 b) h=_;rw[Du])
 rw[this,V8];congr 2;refine Y8 fun b hb=>?_;show(match x5 (gV l) (f6 b) h with | some (z,_)=>z | none=>.bz)=_;rw[Du]
theorem fu(x:Hand):cf x=.tup [jk x.1,.tup (x.2.map f6)]:=rfl
theorem nE{S:List Hand}{l:ax}{h:MH}(hs:∀x∈S,x.2.length≤1000):fh [aS S,gV l] h=some (NW (S.findIdx? (zU l)),h):=by
 have e0:Rn (fh [aS S,gV l] h) fun p=>p=(NW (S.findIdx? (zU l)),h):=by
  refine aZ ?_;unfold aS;nofun;refine kS ?_;nofun;refine⟨_,_,_,rfl,rfl,?_⟩;refine dO (fun i δ h'=>h'=h∧(∃(d2 d3 d4:Option D),δ=[some (.tup (S.map cf)),some (gV l),d2,d3,d4])∧∀(j:Nat)(x:Hand),j < i->S[j]?=some x->zU l x=false) ⟨rfl,⟨_,_,_,rfl⟩,fun j x hj=>absurd hj (Wq _)⟩ (fun _ _ _ _ _=>rfl) ?_ ?_
  ·rintro i x δ h' hx ⟨rfl,⟨d2,d3,d4,rfl⟩,hno⟩;obtain⟨y,hy,rfl⟩:=nQ hx;have hym:=Ul hy;rw[fu y];nofun;refine rv (a:=(y.2.map f6,[],h')) rfl ?_;refine rv E2 ⟨by rw[Uh,show sizeLine=16777216 from rfl];have:=hs y hym;lia,?_⟩;nofun;refine rv (OF _ _ _) ⟨_,rfl,fun c=>?_,fun c=>?_⟩
   ·have hf:S.findIdx? (zU l)=some i:=by
     rw[WJ];obtain⟨hi,hye⟩:=Ui.mp hy;refine⟨hi,by rw[hye];exact c,fun j hj=>?_⟩;have:=hno j (S[j]'(by lia)) hj (Um _);rw[this];exact U0
    rw[hf];nofun;rfl
   ·nofun;refine⟨rfl,⟨_,_,_,rfl⟩,fun j x hj hxx=>?_⟩;rcases Nat.lt_succ_iff_lt_or_eq.mp hj with z | z
    ·exact hno j x z hxx
    ·subst z;rw[hy] at hxx;cases hxx;exact c
  ·rintro δ h' ⟨rfl,⟨d2,d3,d4,rfl⟩,hno⟩;rw[cC,Uh] at hno;have:S.findIdx? (zU l)=none:=by
    rw[Yy];intro x hx;obtain⟨j,hj⟩:=VD.mp hx;exact hno j x (Ui.mp hj).1 hj
   rw[this];nofun;rfl
 obtain⟨p,e1,rfl⟩:=e0;exact e1
noncomputable def fx(S:List Hand)(l:ax):Bool:=(S.findIdx? (zU l)).isSome
noncomputable def Lp:TM:=aA (aj lI (ao fh (ae (ay 1) (ae (ay 0) aP))) (eK .bz))
theorem LZ{S:List Hand}{l:ax}{h:MH}(hs:∀x∈S,x.2.length≤1000):Lp [some (gV l),some (aS S)] h=some (fx S l,h):=by
 have e:Rn (Lp [some (gV l),some (aS S)] h) fun p=>p=(fx S l,h):=by
  unfold Lp;nofun;refine rv (nE hs) ?_;nofun;unfold fx;cases S.findIdx? (zU l) with
  | none=>exact rv rfl ⟨_,rfl,rfl⟩
  | some i=>exact rv rfl ⟨_,rfl,rfl⟩
 obtain⟨p,ep,rfl⟩:=e;exact ep
theorem Co{S:List Hand}{h:MH}(hs:∀x∈S,x.2.length≤1000):∀(ls:List ax)(o:Option D),bB [] (gN 0) Lp (ay 0) (ls.map gV) [o,some (aS S)] h=some ((ls.filter (fx S)).map gV,h)
 | [],o=>rfl
 | l::ls,o=>by
  have ih:=Co hs ls (some (gV l)) (h:=h);rw[Uv];show(if lC [] h then(Lp [some (gV l),some (aS S)] h).bind (fun t=>if t.1 then(some (gV l,t.2)).bind fun y=>(bB [] (gN 0) Lp (ay 0) (ls.map gV) [some (gV l),some (aS S)] y.2).map fun z=>(y.1::z.1,z.2) else bB [] (gN 0) Lp (ay 0) (ls.map gV) [some (gV l),some (aS S)] t.2) else none)=_;rw[Ut (show lC [] h=true from rfl),LZ hs];cases c:fx S l with
  | true=>
   rw[List.filter_cons_of_pos c];show(bB [] (gN 0) Lp (ay 0) (ls.map gV) [some (gV l),some (aS S)] h).map _=_;rw[ih];rfl
  | false=>
   rw[List.filter_cons_of_neg (by rw[c];exact U0)];exact ih
noncomputable def qU:Row->Bool
 | .within _ _=>true
 | .all _ _=>true
 | _=>false
structure IJ(P:Prog)(f:bQ)(r:Row):Prop where
 Ue:∃d,P.ak[f.bM]?=some d∧d.2.1.length≤1000
 lk:∀l∈iD r,dQ (fL P f) l.2
 four:(iD r).length≤4
noncomputable def Ay(P:Prog)(S:List Hand)(x:Hand):List ax:=match x.1 with
 | []=>[]
 | f::_=>match bu P f with
  | none=>[]
  | some r=>if qU r then(yB P f).filter (fx S) else[]
theorem Mw(r:Row)(h:MH):jl (.str (iR r)) (.tup [.str "within",.str "all"]) h=some (.bl (!qU r),h):=by
 cases r <;> ac_nf
theorem zD(o:Option Row)(h:MH):lI (uu o) .bz h=some (.bl o.isSome,h):=by
 cases o with
 | none=>rfl
 | some r=>obtain⟨x,e,_⟩:=n6 r;show lI (aQ r) .bz h=_;rw[e];rfl
theorem bW(r:Row)(h:MH):aE (aQ r) (.int 0) h=some (.str (iR r),h):=by
 obtain⟨x,e,_⟩:=n6 r;rw[e];exact bP (i:=0) rfl
theorem AB{P:Prog}{S:List Hand}{i:Nat}{x:Hand}{h:MH}(e:S[i]?=some x)(ok:wx P x.1)(hs:∀x∈S,x.2.length≤1000)(hT:∀f fs r,x.1=f::fs->bu P f=some r->IJ P f r):k9 [aw P,aS S,ar i] h=some (f6 (Ay P S x),h):=by
 have e0:Rn (k9 [aw P,aS S,ar i] h) fun p=>p=(f6 (Ay P S x),h):=by
  refine aZ ?_;nofun;refine rv (sh e ok) ?_;nofun;refine rv (kY _ _) ?_;cases er:ur P x with
  | none=>
   refine⟨true,rfl,tt (tt ?_)⟩;nofun;obtain⟨fs,hd⟩:=x;cases fs with
   | nil=>rfl
   | cons f fs=>
    have er:bu P f=none:=er;show(f6 [],h)=(f6 (Ay P S (f::fs,hd)),h);unfold Ay;dsimp only;rw[er]
  | some r=>
   obtain⟨fs,hd⟩:=x;cases fs with
   | nil=>cases er
   | cons f fs=>
    have er:bu P f=some r:=er;obtain⟨⟨d,d1,d2⟩,t1,t2⟩:=hT f fs r rfl er;refine⟨false,rfl,ff ?_⟩;nofun;refine rv (bW r _) ?_;nofun;refine rv (Mw r _) ?_;cases c:qU r with
    | false=>
     refine⟨true,rfl,tt ?_⟩;nofun;show(f6 [],h)=(f6 (Ay P S (f::fs,hd)),h);unfold Ay;dsimp only;rw[er];dsimp only;rw[c];rfl
    | true=>
     refine⟨false,rfl,ff ?_⟩;nofun;refine eV ?_;nofun;refine rv (jP e) ?_;rw[fu];nofun;refine rv (bO f fs _) ?_;nofun;refine rv (fM ok.1.ok d1 d2 er t1 t2) ?_;refine⟨(yB P f).map gV,[],rfl,?_⟩;refine rv (Co hs (yB P f) none) ⟨?_,?_⟩
     ·have h1:=List.length_filter_le (fx S) (yB P f);have h2:(yB P f).length≤4:=by
       unfold yB;rw[er,(gf _).length_eq];have:=pP (fL P f) (iD r) [];simp at this ⊢
       lia
      rw[Uh,show sizeLine=16777216 from rfl]
      lia
     nofun;refine rv rfl ?_;show(f6 ((yB P f).filter (fx S)),h)=(f6 (Ay P S (f::fs,hd)),h);unfold Ay;dsimp only;rw[er];dsimp only;rw[c];rfl
 obtain⟨p,e1,rfl⟩:=e0;exact e1
noncomputable def zR:Row->Bool
 | .either _ _=>true
 | .again _=>true
 | _=>false
noncomputable def jI(P:Prog)(S:List Hand)(x:Hand):List Nat:=match x.1 with
 | []=>[]
 | f::_=>if((bu P f).map zR).getD false then[0,1] else if(Ay P S x).isEmpty then[0] else[]
theorem Mx(r:Row)(h:MH):x5 (.str (iR r)) (.tup [.str "either",.str "again"]) h=some (.bl (zR r),h):=by
 cases r <;> ac_nf
theorem yk{P:Prog}{S:List Hand}{i:Nat}{x:Hand}{h:MH}(e:S[i]?=some x)(ok:wx P x.1)(hs:∀x∈S,x.2.length≤1000)(hT:∀f fs r,x.1=f::fs->bu P f=some r->IJ P f r):a8 [aw P,aS S,ar i] h=some (.tup ((jI P S x).map ar),h):=by
 have hw:=fun h=>AB (h:=h) e ok hs hT;have e0:Rn (a8 [aw P,aS S,ar i] h) fun p=>p=(.tup ((jI P S x).map ar),h):=by
  refine aZ ?_;nofun;refine rv (jP e) ?_;rw[fu];nofun;obtain⟨fs,hd⟩:=x;cases fs with
  | nil=>
   refine⟨false,rfl,tt ?_⟩;nofun;rfl
  | cons f fs=>
   refine⟨true,wC _ _,ff ?_⟩;nofun;refine rv (bO f fs _) ?_;nofun;refine rv (bp ok.1.ok) ?_;nofun;refine rv (zD _ _) ?_;have tail:∀(δ:DS),δ=[some (aw P),some (aS S),some (ar i),some (jk (f::fs)),some (uu (bu P f))]->((bu P f).map zR).getD false=false->Rn (aG (BX (ia (ao k9 (ae (ay 0) (ae (ay 1) (ae (ay 2) aP))))) (ao aD aP) (ao aD (ae (eK (.int 0)) aP))) δ h) (Bc fun p=>p=(.tup ((jI P S (f::fs,hd)).map ar),h)):=by
    rintro δ rfl ce;nofun;refine rv (hw _) ?_;have hc:jI P S (f::fs,hd)=if(Ay P S (f::fs,hd)).isEmpty then[0] else[]:=by
     unfold jI;dsimp only;rw[ce,Uu U0]
    rw[hc];cases Ay P S (f::fs,hd) with
    | nil=>refine⟨false,rfl,ff ?_⟩;nofun;rfl
    | cons a b=>refine⟨true,rfl,tt ?_⟩;nofun;rfl
   cases er:bu P f with
   | none=>
    rw[er] at tail;refine⟨false,rfl,ff (ff (rv rfl (tail _ rfl rfl)))⟩
   | some r=>
    rw[er] at tail;refine⟨true,rfl,tt ?_⟩;nofun;refine rv (bW r _) ?_;nofun;refine rv (Mx r _) ?_;cases c:zR r with
    | false=>
     exact⟨false,rfl,ff (rv rfl (tail _ rfl c))⟩
    | true=>
     refine⟨true,rfl,tt ?_⟩;nofun;have hc:jI P S (f::fs,hd)=[0,1]:=by
      unfold jI;dsimp only;rw[er];show(if zR r=true then _ else _)=_;rw[Ut c]
     rw[hc];rfl
 obtain⟨p,e1,rfl⟩:=e0;exact e1
noncomputable def iH(m:Nat×Nat):D:=.tup [ar m.1,ar m.2]
noncomputable def Kl(P:Prog)(S:List Hand)(i:Nat):List (Nat×Nat):=(((S[i]?).map (jI P S)).getD []).map fun c=>(i,c)
noncomputable def BH(P:Prog)(S:List Hand):List (Nat×Nat):=(List.range S.length).flatMap (Kl P S)
noncomputable def zI:EM:=ao aD (ae (ay 0) (ae (ay 1) aP))
theorem LH{i:Nat}{dp ds:Option D}{h:MH}:∀(cs:List Nat)(o:Option D)(acc:List D),acc.length+cs.length≤10000->∃o',dD [] (gN 1) bU (mL zI) (cs.map ar) [some (ar i),o,dp,ds] h acc=some ([some (ar i),o',dp,ds],h,acc++cs.map fun c=>iH (i,c))
 | [],o,acc,_=>⟨o,by rw[VQ,VQ,Vy];rfl⟩
 | c::cs,o,acc,hl=>by
  rw[Uw] at hl;obtain⟨o',e⟩:=LH (i:=i) (dp:=dp) (ds:=ds) (h:=h) cs (some (ar c)) (acc++[iH (i,c)]) (by rw[Uy,Wr];lia);refine⟨o',?_⟩;have em:mL zI [some (ar i),some (ar c),dp,ds] h acc=some ([some (ar i),some (ar c),dp,ds],h,acc++[iH (i,c)]):=by
   show(if acc.length < sizeLine then _ else _)=_;rw[Ut (by rw[show sizeLine=16777216 from rfl];lia)];rfl
  rw[Uv,Uv];show(mL zI [some (ar i),some (ar c),dp,ds] h acc).bind _=_;rw[em];show dD [] (gN 1) bU (mL zI) (cs.map ar) [some (ar i),some (ar c),dp,ds] h (acc++[iH (i,c)])=_;rw[e,VW];rfl
noncomputable def Qk:MK (List D):=zK (iq (ao a8 (ae (ay 2) (ae (ay 3) (ae (ay 0) aP))))) (gN 1) bU (mL zI)
theorem DE(P:Prog)(S:List Hand)(x:Hand):(jI P S x).length≤2:=by
 unfold jI
 split
 ·exact Va _
 ·split
  ·exact Us _
  ·split <;> simp
theorem Hn{P:Prog}{S:List Hand}{h:MH}(hs:∀(i:Nat)(x:Hand),S[i]?=some x->a8 [aw P,aS S,ar i] h=some (.tup ((jI P S x).map ar),h)):∀(is:List Nat)(o0 o1:Option D)(acc:List D),(∀i∈is,i < S.length)->acc.length+2*is.length≤10000->
  ∃δ,dD [] (gN 0) bU Qk (is.map ar) [o0,o1,some (aw P),some (aS S)] h acc=some (δ,h,acc++(is.flatMap (Kl P S)).map iH)
 | [],o0,o1,acc,_,_=>⟨_,by rw[VQ,List.flatMap_nil,VQ,Vy];rfl⟩
 | i::is,o0,o1,acc,hi,hl=>by
  rw[Uw] at hl;have hil:=hi i Uo;have hx:S[i]?=some S[i]:=Um hil;have h2:=DE P S S[i];obtain⟨o',e1⟩:=LH (i:=i) (dp:=some (aw P)) (ds:=some (aS S)) (h:=h) (jI P S S[i]) o1 acc (by lia);have hf:Kl P S i=(jI P S S[i]).map fun c=>(i,c):=by unfold Kl;rw[hx];rfl
  obtain⟨δ,e2⟩:=Hn hs is (some (ar i)) o' (acc++(jI P S S[i]).map fun c=>iH (i,c)) (fun j hj=>hi j (Ur _ hj)) (by rw[Uy,Uh];lia);refine⟨δ,?_⟩;have em:Qk [some (ar i),o1,some (aw P),some (aS S)] h acc=some ([some (ar i),o',some (aw P),some (aS S)],h,acc++(jI P S S[i]).map fun c=>iH (i,c)):=by
   show((a8 [aw P,aS S,ar i] h).bind _).bind _=_;rw[hs i _ hx];exact e1
  rw[Uv,Zq,UH,hf,V8];show(Qk [some (ar i),o1,some (aw P),some (aS S)] h acc).bind _=_;rw[em];show dD [] (gN 0) bU Qk (is.map ar) [some (ar i),o',some (aw P),some (aS S)] h _=_;rw[e2,VW];rfl
theorem BI{P:Prog}{S:List Hand}{h:MH}(hl:S.length≤1000)(hs:∀(i:Nat)(x:Hand),S[i]?=some x->a8 [aw P,aS S,ar i] h=some (.tup ((jI P S x).map ar),h)):hV [aw P,aS S] h=some (.tup ((BH P S).map iH),h):=by
 have e0:Rn (hV [aw P,aS S] h) fun p=>p=(.tup ((BH P S).map iH),h):=by
  refine aZ ?_;obtain⟨δ,e⟩:=Hn hs (List.range S.length) none none [] (fun i hi=>Vg.mp hi) (by rw[UI];simp;lia);nofun;refine rv (a:=(.lv ((BH P S).map iH),h)) ?_ ?_
  ·have ei:mG (ae (ao cX (ae (ay 1) aP)) aP) (entry 2 [aw P,aS S]) h=some ((List.range S.length).map ar,[],h):=by
    have el:ae (ao cX (ae (ay 1) aP)) aP (entry 2 [aw P,aS S]) h=some ([.int (S.length:Int)],h):=by
     show some ([D.int ((S.map cf).length:Int)],h)=_;rw[Uh]
    obtain⟨p,e1,rfl⟩:Rn (mG (ae (ao cX (ae (ay 1) aP)) aP) (entry 2 [aw P,aS S]) h) fun p=>p=((List.range S.length).map ar,[],h):=gx ⟨_,el,(S.length:Int),rfl,by lia,by lia,by rw[UO];rfl⟩;exact e1
   unfold KU;rw[ei];show(dD [] (gN 0) bU Qk ((List.range S.length).map ar) [none,none,some (aw P),some (aS S)] h []).map _=_;rw[e,Yi];rfl
  ·nofun;refine rv rfl ?_;rfl
 obtain⟨p,e1,rfl⟩:=e0;exact e1
noncomputable def N6(i:Nat):Option Row->D
 | some (.say w)=>.tup [ar i,.str w]
 | _=>.bz
theorem BU{P:Prog}{S:List Hand}{i:Nat}{f:bQ}{fs:List bQ}{hd:List (List ax)}{h:MH}(e:S[i]?=some (f::fs,hd))(ok:eN P f):gQ [aw P,aS S,ar i] h=some (N6 i (bu P f),h):=by
 have e0:Rn (gQ [aw P,aS S,ar i] h) fun p=>p=(N6 i (bu P f),h):=by
  refine aZ ?_;nofun;refine rv (jP e) ?_;rw[fu];nofun;refine rv (bO f fs _) ?_;nofun;refine rv (bp ok) ?_;nofun;refine rv (zD _ _) ?_;cases er:bu P f with
  | none=>refine⟨false,rfl,ff ?_⟩;exact ff (rv rfl rfl)
  | some r=>
   refine⟨true,rfl,tt ?_⟩;nofun;refine rv (bW r _) ?_;nofun;cases r with
   | say w=>
    refine⟨true,by ac_nf,tt ?_⟩;nofun;refine rv (a:=(.str w,h)) (by show aE (aQ (.say w)) _ _=_;rw[aQ];exact bP (i:=1) rfl) ?_;nofun;rfl
   | _=>
    refine⟨false,by ac_nf,ff ?_⟩;nofun;rfl
 obtain⟨p,e1,rfl⟩:=e0;exact e1
noncomputable def O1(kvs:List (Key×D))(s t:Term):Nat:=if gj kvs s < gj kvs t then 0 else if gj kvs s=gj kvs t then 1 else 2
theorem K7{kvs:List (Key×D)}{s t:Term}{a b c:List Row}{h:MH}(h1:dQ kvs s)(h2:dQ kvs t):ck [aQ (.tQ s t a b c),.dv kvs] h=some (ar (O1 kvs s t),h):=by
 have e0:Rn (ck [aQ (.tQ s t a b c),.dv kvs] h) fun p=>p=(ar (O1 kvs s t),h):=by
  refine aZ ?_;rw[aQ];nofun;refine rv (fm h1) ?_;nofun;refine rv (fm h2) ?_;nofun;refine⟨_,_,rfl,?_⟩;nofun;unfold O1
  by_cases z:gj kvs s < gj kvs t
  ·rw[Ut z];refine⟨true,by rw[Ve z],tt ?_⟩;nofun;rfl
  ·rw[Uu z];refine⟨false,by rw[UX z],ff ?_⟩;nofun
   by_cases y:gj kvs s=gj kvs t
   ·rw[Ut y];refine⟨true,by rw[VO.mpr y],tt ?_⟩;nofun;rfl
   ·rw[Uu y];refine⟨false,by rw[WX.mpr y],ff ?_⟩;nofun;rfl
 obtain⟨p,e1,rfl⟩:=e0;exact e1
theorem rN(r:Row)(o:Option Nat)(h:MH):ox [.str (iR r),NW o] h=some (.bl ((qU r||bq r 0)&&decide (o=some 0)),h):=by
 have e0:Rn (ox [.str (iR r),NW o] h) fun p=>p=(.bl ((qU r||bq r 0)&&decide (o=some 0)),h):=by
  refine aZ ?_;nofun;refine rv (a:=(.bl (qU r||bq r 0),h)) (by cases r <;> ac_nf) ?_;cases c:(qU r||bq r 0) with
  | false=>exact⟨false,rfl,ff rfl⟩
  | true=>
   refine⟨true,rfl,tt ?_⟩;nofun;cases o with
   | none=>exact rv rfl rfl
   | some j=>
    refine rv (tE j 0 _) ?_;show(D.bl ((j:Int)==0),h)=(D.bl (true&&decide (some j=some 0)),h);cases j with
    | zero=>rfl
    | succ j=>
     rw[Xh,UX (fun z=>by cases z)];congr 2
 obtain⟨p,e1,rfl⟩:=e0;exact e1
noncomputable def fP(P:Prog)(S:List Hand)(f:bQ)(c:Nat):Row->Option Nat
 | .tQ s t _ _ _=>some (O1 (fL P f) s t)
 | .either _ _=>some c
 | .again _=>if c=1 then some 0 else none
 | .ask _ _ _=>some (if(yB P f).any (fx S) then 1 else 0)
 | .within _ _=>some 0
 | .all _ _=>some 0
 | _=>none
def SX(kvs:List (Key×D)):Row->Prop
 | .tQ s t _ _ _=>dQ kvs s∧dQ kvs t
 | _=>True
theorem C0{P:Prog}{f:bQ}{l:Lock}{a b:List Row}(er:bu P f=some (.ask l a b)):yB P f=[(l.1,gj (fL P f) l.2)]:=by
 unfold yB;rw[er];rfl
theorem uM{P:Prog}{S:List Hand}{f:bQ}{r:Row}{c:Nat}{h:MH}(ok:eN P f)(er:bu P f=some r)(T:IJ P f r)(B:SX (fL P f) r)(hs:∀x∈S,x.2.length≤1000):gO [aw P,aS S,nM f,ar c] h=some (NW (fP P S f c r),h):=by
 obtain⟨⟨d,d1,d2⟩,t1,t2⟩:=T;have e0:Rn (gO [aw P,aS S,nM f,ar c] h) fun p=>p=(NW (fP P S f c r),h):=by
  refine aZ ?_;nofun;refine rv (bp ok) ?_;rw[er];nofun;refine rv (bW r _) ?_;nofun;cases r with
  | tQ s t a b z=>
   refine⟨true,by ac_nf,tt ?_⟩;nofun;refine rv (fK d1 d2) ?_;nofun;refine rv (K7 B.1 B.2) ?_;rfl
  | either a b=>
   refine⟨false,by ac_nf,ff ?_⟩;nofun;refine⟨true,by ac_nf,tt ?_⟩;nofun;rfl
  | again a=>
   refine⟨false,by ac_nf,ff ?_⟩;nofun;refine⟨false,by ac_nf,ff ?_⟩;nofun;refine⟨true,by ac_nf,tt ?_⟩;nofun;refine rv (tE c 1 _) ?_;show ∃x,D.bl ((c:Int)==1)=D.bl x∧_
   by_cases z:c=1
   ·subst z;refine⟨true,rfl,tt ?_⟩;nofun;rfl
   ·refine⟨false,by rw[WX.mpr (fun y=>z (by lia))],ff ?_⟩;nofun;show(D.bz,h)=(NW (if c=1 then some 0 else none),h);rw[Uu z];rfl
  | ask l a b=>
   refine⟨false,by ac_nf,ff ?_⟩;nofun;refine⟨false,by ac_nf,ff ?_⟩;nofun;refine⟨false,by ac_nf,ff ?_⟩;nofun;refine⟨true,by ac_nf,tt ?_⟩;nofun;refine rv (fM ok d1 d2 er t1 t2) ?_;rw[C0 er];nofun;refine rv (bP (i:=0) (d:=gV (l.1,gj (fL P f) l.2)) rfl) ?_;nofun;refine rv (nE hs) ?_;nofun;show Rn _ _;have hl:fP P S f c (.ask l a b)=some (if fx S (l.1,gj (fL P f) l.2) then 1 else 0):=by
    unfold fP;rw[C0 er];simp
   rw[hl];unfold fx;cases S.findIdx? (zU (l.1,gj (fL P f) l.2)) with
   | none=>refine rv rfl ⟨true,rfl,tt ?_⟩;nofun;rfl
   | some j=>refine rv rfl ⟨false,rfl,ff ?_⟩;nofun;rfl
  | within l a=>
   refine⟨false,by ac_nf,ff ?_⟩;nofun;refine⟨false,by ac_nf,ff ?_⟩;nofun;refine⟨false,by ac_nf,ff ?_⟩;nofun;refine⟨false,by ac_nf,ff ?_⟩;nofun;refine rv (a:=(.bl true,h)) (by ac_nf) ⟨true,rfl,tt ?_⟩;nofun;rfl
  | all l a=>
   refine⟨false,by ac_nf,ff ?_⟩;nofun;refine⟨false,by ac_nf,ff ?_⟩;nofun;refine⟨false,by ac_nf,ff ?_⟩;nofun;refine⟨false,by ac_nf,ff ?_⟩;nofun;refine rv (a:=(.bl true,h)) (by ac_nf) ⟨true,rfl,tt ?_⟩;nofun;rfl
  | _=>
   refine⟨false,by ac_nf,ff ?_⟩;nofun;refine⟨false,by ac_nf,ff ?_⟩;nofun;refine⟨false,by ac_nf,ff ?_⟩;nofun;refine⟨false,by ac_nf,ff ?_⟩;nofun;refine rv (a:=(.bl false,h)) (by ac_nf) ⟨false,rfl,ff ?_⟩;nofun;rfl
 obtain⟨p,e1,rfl⟩:=e0;exact e1
noncomputable def nums:Nat->List Str->List (Key×D)
 | _,[]=>[]
 | k,w::r=>(.inr w,ar k)::nums (k+1) r
theorem zC:∀(k:Nat)(x y:List Str),nums k (x++y)=nums k x++nums (k+x.length) y
 | k,[],y=>by simp[nums]
 | k,w::x,y=>by simp only[List.cons_append,nums,zC (k+1) x y,Uw];congr 3;lia
theorem vA:∀(k:Nat)(x:List Str),(nums k x).map (·.1)=x.map Sum.inr
 | _,[]=>rfl
 | k,w::r=>by rw[nums,Uv,Uv,vA (k+1) r]
theorem zB:∀(k:Nat)(x:List Str),(nums k x).length=x.length
 | _,[]=>rfl
 | k,w::r=>by rw[nums,Uw,Uw,zB (k+1) r]
theorem xM:∀(k i:Nat)(x:List Str)(w:Str),x.Nodup->x[i]?=some w->dN (nums k x) (.inr w)=some (ar (k+i))
 | k,0,v::r,w,_,e=>by
  cases e;unfold dN nums;rw[List.find?_cons_of_pos (by simp)];rfl
 | k,i+1,v::r,w,hn,e=>by
  have hne:v≠w:=fun z=>(V5.mp hn).1 (z ▸ Ul (by simpa using e));have:=xM (k+1) i r w (V5.mp hn).2 (by simpa using e);unfold dN at this ⊢;rw[nums,YU (by simpa using hne),this];congr 2
  lia
theorem nW{h:MH}{a:D}{ds:List D}{ws:List Str}(hd:ds.length=ws.length)(hw:∀(i:Nat)(d:D),ds[i]?=some d->∃(w:Str)(rest:List D),ws[i]?=some w∧d=D.tup (.str w::rest))(hn:ws.Nodup)(hl:ws.length≤1000):
  cp [.tup [a,.tup ds]] h=some (.dv (nums 0 ws),h):=by
 refine y4 (aZ ?_);nofun;refine P0 (kS ?_);nofun;refine⟨_,_,_,rfl,rfl,?_⟩;refine xr (jy 0 ds) (fun r δ h' acc=>∃i v0 v1,i≤ds.length∧r=jy i (ds.drop i)∧h'=h∧δ=[v0,v1]∧acc=nums 0 (ws.take i)) _ _ _ ⟨0,_,_,Va _,by rw[W5],rfl,rfl,by rw[List.take_zero];rfl⟩ ?_ ?_
 ·rintro x r δ h' acc ⟨i,v0,v1,hi,hr,rfl,rfl,rfl⟩;have hlt:i < ds.length:=by
   rcases Wj i ds.length with z | z
   ·exact z
   ·rw[YV z] at hr;cases hr
  rw[W7 hlt] at hr;obtain⟨w,rest,e1,e2⟩:=hw i ds[i] (Um hlt);rw[e2] at hr;injection hr with hx hr
  subst hx;refine⟨rfl,?_⟩;nofun;refine⟨_,rfl,?_⟩;dsimp only;rw[Ut rfl];refine RY ?_;nofun;have hw1:w∉ws.take i:=fun m=>by
   obtain⟨j,hj⟩:=VD.mp m;rw[Zj] at hj
   by_cases z:j < i
   ·rw[Ut z] at hj;have h1:=(Ui.mp hj);have h2:=(Ui.mp e1);obtain⟨a1,b1⟩:=h1;obtain⟨a2,b2⟩:=h2;have:=(List.pairwise_iff_getElem.mp hn) j i a1 a2 z;exact this (b1.trans b2.symm)
   ·rw[Uu z] at hj;cases hj
  refine⟨.inr w,rfl,by rw[zB,UM,VH];lia,i+1,_,_,hlt,hr,rfl,rfl,?_⟩;show putD (nums 0 (ws.take i)) (.inr w) (ar i)=_;have hli:(ws.take i).length=i:=by rw[UM];lia
  rw[zl (by rw[vA];intro m;obtain⟨y,hy,e⟩:=UR.mp m;cases e;exact hw1 hy),take_snoc e1,zC,hli,Vr];rfl
 ·rintro δ h' acc ⟨i,v0,v1,hi,hr,rfl,rfl,rfl⟩;have he:i=ds.length:=by
   rcases Wj i ds.length with z | z
   ·rw[W7 z] at hr;cases hr
   ·lia
  refine⟨rfl,?_⟩;show _=_;dsimp only;rw[he,hd,VB]
theorem yD{kvs:List (Key×D)}{h:MH}:∀(ts:List Term)(o:Option D),(∀t∈ts,dQ kvs t)->bB [] (gN 0) bU (ao bC (ae (ay 0) (ae (ay 1) aP))) (ts.map aV) [o,some (.dv kvs)] h=some ((ts.map (gj kvs)).map D.int,h)
 | [],o,_=>rfl
 | t::ts,o,hw=>by
  have ih:=yD ts (some (aV t)) (fun x hx=>hw x (Ur _ hx)) (kvs:=kvs) (h:=h);rw[Uv];show(bC [aV t,.dv kvs] h).bind (fun y=>(bB [] (gN 0) bU (ao bC (ae (ay 0) (ae (ay 1) aP))) (ts.map aV) [some (aV t),some (.dv kvs)] y.2).map fun z=>(y.1::z.1,z.2))=_;rw[fm (hw t Uo)];show(bB [] (gN 0) bU (ao bC (ae (ay 0) (ae (ay 1) aP))) (ts.map aV) [some (aV t),some (.dv kvs)] h).map _=_;rw[ih];rfl
noncomputable def Ca(P:Prog)(f:bQ)(j:Nat)(ts:List Term):bQ:={bM:=j,nums:=ts.map (gj (fL P f)),rs:=[],k:=0}
theorem nq{P:Prog}{h:MH}(nd:(P.ak.map (·.1)).Nodup)(hl:P.ak.length≤1000):cp [aw P] h=some (.dv (nums 0 (P.ak.map (·.1))),h):=
 nW (by rw[Uh,Uh]) (fun i d e=>by
  rw[Ux] at e;obtain⟨x,e1,rfl⟩:=fO e;exact⟨x.1,_,by rw[Ux,e1];rfl,rfl⟩) nd (by rw[Uh];exact hl)
theorem nK{P:Prog}{f:bQ}{w:Str}{ts:List Term}{j:Nat}{d:fD}{h:MH}(ok:eN P f)(er:bu P f=some (.call w ts))(nd:(P.ak.map (·.1)).Nodup)(hl:P.ak.length≤1000)(ej:(P.ak.map (·.1))[j]?=some w)(d1:P.ak[f.bM]?=some d)(d2:d.2.1.length≤1000)(hw:∀t∈ts,dQ (fL P f) t)(ht:ts.length≤1000):c9 [aw P,nM f] h=some (nM (Ca P f j ts),h):=by
 have e0:Rn (c9 [aw P,nM f] h) fun p=>p=(nM (Ca P f j ts),h):=by
  refine aZ ?_;nofun;refine rv (bp ok) ?_;rw[er];show Rn _ _;unfold uu;dsimp only;rw[aQ];nofun;refine rv (fK d1 d2) ?_;nofun;refine rv (nq nd hl) ?_;nofun;refine rv (x4 rfl (xM 0 j _ w nd ej)) ?_;rw[Vr];nofun;refine rv (a:=(ts.map aV,[],h)) rfl ?_;refine rv (yD ts none hw) ⟨by rw[Uh,Uh,show sizeLine=16777216 from rfl];lia,?_⟩;nofun;refine rv rfl ?_;nofun;rfl
 obtain⟨p,e1,rfl⟩:=e0;exact e1
theorem rB(f:bQ)(fs:List bQ)(h:MH):pR (jk (f::fs)) none (some (-1)) h=some (jk fs,h):=by
 unfold jk;rw[UW,UH];exact rC (ys:=[nM f]) (W3 _)
theorem nJ(f:bQ)(fs:List bQ)(h:MH)(hl:fs.length≤1000):aN (jk fs) (.tup [nM f]) h=some (jk (f::fs),h):=by
 unfold jk;rw[dS (by rw[Uh,U8];simp;lia),UW,UH];rfl
noncomputable def Cr(f:bQ):bQ:=match f.rs with
 | []=>f
 | s::rs=>{f with rs:=rs,k:=s.1+1}
noncomputable def gone(P:Prog)(S:List Hand)(x:Hand)(c j:Nat):Hand:=match x.1 with
 | []=>x
 | f::fs=>match bu P f with
  | none=>(Cr f::fs,x.2.dropLast)
  | some r=>match r with
   | .call _ ts=>(Ca P f j ts::f::fs,x.2)
   | r=>match fP P S f c r with
    | none=>({f with k:=f.k+1}::fs,x.2)
    | some l=>({f with rs:=(f.k,l)::f.rs,k:=0}::fs,if(qU r||bq r 0)&&decide (l=0) then x.2++[yB P f] else x.2)
theorem gone_none{P:Prog}{S:List Hand}{i c j:Nat}{f:bQ}{fs:List bQ}{hd:List (List ax)}{h:MH}(e:S[i]?=some (f::fs,hd))(st:jt P f)(er:bu P f=none)(hl:fs.length≤1000)(b:List ax)(hb:List (List ax))(eh:hd=hb++[b]):bS [aw P,aS S,ar i,ar c] h=some (cf (gone P S (f::fs,hd) c j),h):=by
 have ok:=st.ok;obtain⟨d,d1,⟨lot,l1,l2⟩,d3⟩:=st;have e0:Rn (bS [aw P,aS S,ar i,ar c] h) fun p=>p=(cf (gone P S (f::fs,hd) c j),h):=by
  refine aZ ?_;nofun;refine rv (jP e) ?_;rw[fu];nofun;refine rv (bO f fs _) ?_;rw[qm f];nofun;refine rv (bO f fs _) ?_;nofun;refine rv (bp ok) ?_;nofun;refine rv (kY _ _) ?_;rw[er];refine⟨true,rfl,tt ?_⟩;nofun;refine⟨_,rfl,rv (rB f fs _) ?_⟩;nofun;have hnr:lot[f.k]?=none:=by
   unfold bu at er;rw[eu d1,l1] at er;exact er
  obtain⟨s,rs,l,r,q1,q2,q3,q4⟩:∃s rs' l r,f.rs=s::rs'∧bN d.2.2 rs'.reverse=some l∧l[s.1]?=some r∧bq r s.2=true:=by
   rcases l2 with⟨r,z⟩ |⟨_,z⟩
   ·rw[hnr] at z;cases z
   ·exact z
  have hup:Cr f={f with rs:=rs,k:=s.1+1}:=by unfold Cr;rw[q1]
  refine⟨_,rfl,?_⟩;rw[q1,UW];refine rv (pb rs.reverse s.1 s.2 f.k _) ?_;nofun;refine rv (g7 rs.reverse s.1 _ (by rw[U8];rw[q1,Uw] at d3;lia)) ?_;nofun;have ha:=nJ {f with rs:=rs,k:=s.1+1} fs h hl;refine rv ha ?_;nofun;refine⟨_,rfl,?_⟩;rw[eh,UH];refine rv (rC (ys:=[f6 b]) (W3 _)) ?_;nofun;show(cf ({f with rs:=rs,k:=s.1+1}::fs,hb),h)=_;unfold gone;dsimp only;rw[er];dsimp only;rw[hup,Y5]
 obtain⟨p,e1,rfl⟩:=e0;exact e1
theorem E4{P:Prog}{S:List Hand}{i c j:Nat}{f:bQ}{fs:List bQ}{hd:List (List ax)}{w:Str}{ts:List Term}{d:fD}{h:MH}(e:S[i]?=some (f::fs,hd))(ok:eN P f)(er:bu P f=some (.call w ts))(hl:fs.length < 1000)(nd:(P.ak.map (·.1)).Nodup)(hp:P.ak.length≤1000)(ej:(P.ak.map (·.1))[j]?=some w)(d1:P.ak[f.bM]?=some d)(d2:d.2.1.length≤1000)(hw:∀t∈ts,dQ (fL P f) t)(ht:ts.length≤1000):bS [aw P,aS S,ar i,ar c] h=some (cf (gone P S (f::fs,hd) c j),h):=by
 have e0:Rn (bS [aw P,aS S,ar i,ar c] h) fun p=>p=(cf (gone P S (f::fs,hd) c j),h):=by
  refine aZ ?_;nofun;refine rv (jP e) ?_;rw[fu];nofun;refine rv (bO f fs _) ?_;rw[qm f];nofun;refine rv (bO f fs _) ?_;nofun;refine rv (bp ok) ?_;nofun;refine rv (kY _ _) ?_;rw[er];refine⟨false,rfl,ff ?_⟩;nofun;refine rv (bW _ _) ?_;nofun;refine⟨true,by ac_nf,tt ?_⟩;nofun;refine rv (bO f fs _) ?_;nofun;refine rv (nK ok er nd hp ej d1 d2 hw ht) ?_;nofun;refine rv (nJ (Ca P f j ts) (f::fs) _ hl) ?_;nofun;show(cf (Ca P f j ts::f::fs,hd),h)=_;unfold gone;dsimp only;rw[er]
 obtain⟨p,e1,rfl⟩:=e0;exact e1
theorem Ke(rs:List (Nat×Nat))(k l:Nat)(h:MH)(hl:rs.length≤1000):aN (dq rs.reverse k) (.tup [ar l,.int 0]) h=some (dq ((k,l)::rs).reverse 0,h):=by
 have:dq ((k,l)::rs).reverse 0=.tup ((flat rs.reverse++[k]).map ar++[ar l,.int 0]):=by
  unfold dq cP;rw[UW,tu];simp[flat,ar]
 rw[this];exact dS (by rw[Uh,Uy,nO,U8];simp;lia)
noncomputable def xT:Row->Bool
 | .call _ _=>true
 | _=>false
theorem K5(r:Row):(iR r=="call")=xT r:=by cases r <;> ac_nf
theorem gY{P:Prog}{S:List Hand}{c j:Nat}{f:bQ}{fs:List bQ}{hd:List (List ax)}{r:Row}(er:bu P f=some r)(hc:xT r=false):gone P S (f::fs,hd) c j=match fP P S f c r with
    | none=>({f with k:=f.k+1}::fs,hd)
    | some l=>({f with rs:=(f.k,l)::f.rs,k:=0}::fs,if(qU r||bq r 0)&&decide (l=0) then hd++[yB P f] else hd):=by
 unfold gone;dsimp only;rw[er];cases r with
 | call _ _=>cases hc
 | _=>rfl
theorem HD{P:Prog}{S:List Hand}{i c j:Nat}{f:bQ}{fs:List bQ}{hd:List (List ax)}{r:Row}{h:MH}(e:S[i]?=some (f::fs,hd))(ok:eN P f)(er:bu P f=some r)(hc:xT r=false)(hl:fs.length≤1000)(hh:hd.length≤1000)(T:IJ P f r)(B:SX (fL P f) r)(hs:∀x∈S,x.2.length≤1000):bS [aw P,aS S,ar i,ar c] h=some (cf (gone P S (f::fs,hd) c j),h):=by
 have hT:=T;obtain⟨⟨d,d1,d2⟩,t1,t2⟩:=T;have f3:f.rs.length≤1000:=let⟨_,_,_,_,z⟩:=ok;z;rw[gY er hc];have e0:Rn (bS [aw P,aS S,ar i,ar c] h) fun p=>p=(cf (match fP P S f c r with
    | none=>({f with k:=f.k+1}::fs,hd)
    | some l=>({f with rs:=(f.k,l)::f.rs,k:=0}::fs,if(qU r||bq r 0)&&decide (l=0) then hd++[yB P f] else hd)),h):=by
  refine aZ ?_;nofun;refine rv (jP e) ?_;rw[fu];nofun;refine rv (bO f fs _) ?_;rw[qm f];nofun;refine rv (bO f fs _) ?_;nofun;refine rv (bp ok) ?_;nofun;refine rv (kY _ _) ?_;rw[er];refine⟨false,rfl,ff ?_⟩;nofun;refine rv (bW _ _) ?_;nofun;refine⟨false,by rw[K5,hc],ff ?_⟩;nofun;refine rv (bO f fs _) ?_;nofun;refine rv (uM ok er hT B hs) ?_;nofun;cases fP P S f c r with
  | none=>
   refine rv rfl ⟨true,rfl,tt ?_⟩;nofun;refine rv (g7 f.rs.reverse f.k _ (by rw[U8];exact f3)) ?_;nofun;refine rv (bW _ _) ?_;nofun;refine rv (rN r none _) ?_;rw[UX (fun z=>by cases z),W6];refine⟨false,rfl,ff ?_⟩;nofun;refine⟨_,rfl,rv (rB f fs _) ?_⟩;nofun;refine rv (nJ {f with k:=f.k+1} fs _ hl) ?_;nofun;rfl
  | some l=>
   refine rv rfl ⟨false,rfl,ff ?_⟩;nofun;refine rv (Ke f.rs f.k l _ f3) ?_;nofun;refine rv (bW _ _) ?_;nofun;refine rv (rN r (some l) _) ?_;have hz:decide (some l=some 0)=decide (l=0):=by simp
   rw[hz];cases ct:((qU r||bq r 0)&&decide (l=0)) with
   | false=>
    refine⟨false,rfl,ff ?_⟩;nofun;refine⟨_,rfl,rv (rB f fs _) ?_⟩;nofun;refine rv (nJ {f with rs:=(f.k,l)::f.rs,k:=0} fs _ hl) ?_;nofun;rfl
   | true=>
    refine⟨true,rfl,tt ?_⟩;nofun;refine rv (bO f fs _) ?_;nofun;refine rv (fM ok d1 d2 er t1 t2) ?_;nofun;refine rv (dS (ys:=[f6 (yB P f)]) (by rw[Uh];simp;lia)) ?_;nofun;refine⟨_,rfl,rv (rB f fs _) ?_⟩;nofun;refine rv (nJ {f with rs:=(f.k,l)::f.rs,k:=0} fs _ hl) ?_;nofun;rw[Ut rfl,fu,UH];rfl
 obtain⟨p,e1,rfl⟩:=e0;exact e1
theorem N8(xs:List D)(k:Nat)(h:MH):pR (.tup xs) none (some (k:Int)) h=some (.tup (xs.take k),h):=by
 show(if HT.b8 xs.length 0 none=0∧HT.b8 xs.length xs.length (some (k:Int))=xs.length then some (D.tup xs,h) else some (D.tup (cutD xs none (some (k:Int))),h))=_;unfold cutD;rw[HT.mT,HT.w5]
 by_cases z:k < xs.length
 ·rw[Uu (by lia),WH (by lia),W5,YS]
 ·rw[Ut (by lia),Wk (by lia)]
theorem Ib(xs:List D)(k:Nat)(h:MH):pR (.tup xs) (some (k:Int)) none h=some (.tup (xs.drop k),h):=by
 show(if HT.b8 xs.length 0 (some (k:Int))=0∧HT.b8 xs.length xs.length none=xs.length then some (D.tup xs,h) else some (D.tup (cutD xs (some (k:Int)) none),h))=_;unfold cutD;rw[HT.mT,HT.w5]
 by_cases z:min k xs.length=0
 ·rw[Ut ⟨z,rfl⟩];have:xs.drop k=xs:=by
   rcases Zg k with y | y
   ·rw[y,W5]
   ·have:xs=[]:=Xo.mp (by lia);rw[this,List.drop_nil]
  rw[this]
 ·rw[Uu (fun q=>z q.1)]
  by_cases y:k≤xs.length
  ·rw[WH y,Wk (by rw[Wh];exact Us _)]
  ·rw[Nat.min_eq_right (by lia),X2,List.take_zero,YV (by lia)]
theorem mR{P:Prog}{S:List Hand}{i c:Nat}{g:Hand}{h:MH}(hi:i < S.length)(hl:S.length≤1000)(hg:∀h,bS [aw P,aS S,ar i,ar c] h=some (cf g,h))(ok:∀f∈g.1,eN P f)(hf:g.1.length≤1000):cY [aw P,aS S,iH (i,c)] h=some (aS (S.set i (ir P g.1,g.2)),h):=by
 have e0:Rn (cY [aw P,aS S,iH (i,c)] h) fun p=>p=(aS (S.set i (ir P g.1,g.2)),h):=by
  refine aZ ?_;unfold iH;nofun;refine rv (hg _) ?_;rw[fu];nofun;refine⟨_,rfl,rv (N8 (S.map cf) i _) ?_⟩;nofun;refine rv (ko ok hf) ?_;nofun;refine rv (dS (ys:=[cf (ir P g.1,g.2)]) (by rw[UM,Uh];simp;lia)) ?_;nofun;refine rv (a:=(ar (i+1),h)) rfl ?_;refine⟨_,rfl,rv rfl (rv (Ib (S.map cf) (i+1) _) ?_)⟩;nofun;refine rv (dS (by rw[Uy,UM,Wh,Uh];simp;lia)) ?_;show(D.tup _,h)=(D.tup ((S.set i (ir P g.1,g.2)).map cf),h);rw[List.set_eq_take_append_cons_drop,Ut hi,UH,Uv,XW,YD,VW];rfl
 obtain⟨p,e1,rfl⟩:=e0;exact e1
theorem zi:∀b:List Nat,iA (b.map ar)=some (b.map fun(n:Nat)=>PyData.int (n:Int))
 | []=>rfl
 | k::r=>by
  show(qa (ar k)).bind (fun a=>(iA (r.map ar)).map fun bs=>a::bs)=_;rw[zi r];rfl
theorem tH:∀b:List Nat,PyData.depthAll (b.map fun(n:Nat)=>PyData.int (n:Int))≤2
 | []=>by simp[PyData.depthAll]
 | k::r=>by
  have:=tH r;simp only[Uv,PyData.depthAll,PyData.depth]
  lia
theorem HM(l:Nat)(b:List Nat)(h:MH):x5 (ar l) (.tup (b.map ar)) h=some (.bl (decide (l∈b)),h):=by
 have e2:inD (ar l) (.tup (b.map ar)) h=some (decide (l∈b)):=by
  show((iA (b.map ar)).bind fun bs=>if(PyData.int (l:Int)).depth≤60∧PyData.depthAll bs≤60 then some (bs.any fun x=>PyData.eqv x (.int (l:Int))) else none)=_;rw[zi];show(if(PyData.int (l:Int)).depth≤60∧PyData.depthAll (b.map fun(n:Nat)=>PyData.int (n:Int))≤60 then some ((b.map fun(n:Nat)=>PyData.int (n:Int)).any fun x=>PyData.eqv x (.int (l:Int))) else none)=_;rw[Ut ⟨by simp[PyData.depth],UL (tH b) (by decide)⟩,Xw];congr 1;rw[Vz,WB,Vv];constructor
  ·rintro⟨x,hx,e⟩;have e:((x:Int)==(l:Int))=true:=e;have:x=l:=by have:=eq_of_beq e;lia
   exact this ▸ hx
  ·intro hx;exact⟨l,hx,by show((l:Int)==(l:Int))=true;simp⟩
 unfold x5;rw[e2];rfl
theorem Ao{P:Prog}{S:List Hand}{i c:Nat}{x:Hand}{h:MH}(e:S[i]?=some x)(hl:S.length≤1000)(hc:∀h,a8 [aw P,aS S,ar i] h=some (.tup ((jI P S x).map ar),h)):kI [aw P,aS S,iH (i,c)] h=some (.bl (decide (c∈jI P S x)),h):=by
 have hi:i < S.length:=(Ui.mp e).1;have e0:Rn (kI [aw P,aS S,iH (i,c)] h) fun p=>p=(.bl (decide (c∈jI P S x)),h):=by
  refine aZ ?_;unfold iH;nofun;refine rv (a:=(.bl true,h)) rfl ⟨true,rfl,ff ?_⟩;nofun;refine rv (a:=(.bl true,h)) rfl ⟨true,rfl,ff ?_⟩;nofun;refine rv (a:=(.bl true,h)) rfl ⟨true,rfl,ff ?_⟩;nofun;refine rv (a:=(.bl true,h)) ?_ ⟨true,rfl,tt ?_⟩
  ·refine y4 (GK (rv rfl (rv rfl (rv (a:=(.bl true,h)) ?_ ⟨true,rfl,?_⟩))))
   ·show some (D.bl (decide ((0:Int)≤(i:Int))),h)=_;rw[Ve (by lia)]
   ·rw[Ut rfl];refine rv (a:=(.int (S.length:Int),h)) (by show some (D.int ((S.map cf).length:Int),h)=_;rw[Uh]) ?_;refine rv (a:=(.bl true,h)) ?_ rfl;show some (D.bl (decide ((i:Int) < (S.length:Int))),h)=_;rw[Ve (by lia)]
  nofun;refine rv (hc _) ?_;nofun;refine rv (HM _ _ _) ?_;rfl
 obtain⟨p,e1,rfl⟩:=e0;exact e1
theorem wH{P:Prog}{S:List Hand}{i c j:Nat}{f:bQ}{fs:List bQ}{hd:List (List ax)}{h:MH}(e:S[i]?=some (f::fs,hd))(hl:S.length≤1000)(fo:eN P f)(hc:∀h,a8 [aw P,aS S,ar i] h=some (.tup ((jI P S (f::fs,hd)).map ar),h))(cm:c∈jI P S (f::fs,hd)){g:Hand}(hg:∀h,bS [aw P,aS S,ar i,ar c] h=some (cf g,h))(ok:∀f∈g.1,eN P f)(hf:g.1.length≤1000):
  cK [aw P,aS S,iH (i,c)] h=some (.tup [aS (S.set i (ir P g.1,g.2)),N6 i (bu P f)],h):=by
 have hi:i < S.length:=(Ui.mp e).1;have e0:Rn (cK [aw P,aS S,iH (i,c)] h) fun p=>p=(.tup [aS (S.set i (ir P g.1,g.2)),N6 i (bu P f)],h):=by
  refine aZ ?_;nofun;refine rv (Ao e hl hc) ?_;rw[Ve cm];refine⟨true,rfl,ff ?_⟩;nofun;refine rv (mR hi hl hg ok hf) ?_;nofun;refine rv (a:=(ar i,h)) (bP (i:=0) rfl) ?_;nofun;refine rv (BU e fo) ?_;nofun
 obtain⟨p,e1,rfl⟩:=e0;exact e1
noncomputable def heldOf(S:List Hand):List (List (List ax)):=S.map (·.2)
theorem HC{S S':List Hand}(e:heldOf S=heldOf S')(l:ax):fx S l=fx S' l:=by
 have h:∀S:List Hand,fx S l=(heldOf S).any fun bs=>bs.any fun b=>decide (l∈b):=fun S=>by
  unfold fx heldOf;rw[List.findIdx?_isSome,Xw];rfl
 rw[h,h,e]
theorem vR{S S':List Hand}(e:heldOf S=heldOf S'):fx S=fx S':=funext (HC e)
theorem LY{P:Prog}{S S':List Hand}(e:heldOf S=heldOf S')(x:Hand):Ay P S x=Ay P S' x:=by
 unfold Ay;rw[vR e]
theorem Oj{P:Prog}{S S':List Hand}(e:heldOf S=heldOf S')(x:Hand):jI P S x=jI P S' x:=by
 unfold jI;rw[LY e]
theorem Ht{P:Prog}{S S':List Hand}(e:heldOf S=heldOf S')(f:bQ)(c:Nat)(r:Row):fP P S f c r=fP P S' f c r:=by
 cases r <;> simp only[fP,vR e]
theorem KN{P:Prog}{S S':List Hand}(e:heldOf S=heldOf S')(x:Hand)(c j:Nat):gone P S x c j=gone P S' x c j:=by
 obtain⟨fs,hd⟩:=x;cases fs with
 | nil=>rfl
 | cons f fs=>
  cases er:bu P f with
  | none=>unfold gone;dsimp only;rw[er]
  | some r=>
   by_cases hc:xT r=true
   ·cases r <;> first |(cases hc;done) |(unfold gone;dsimp only;rw[er])
   ·have hc:xT r=false:=by simpa using hc
    rw[gY er hc,gY er hc,Ht e]
noncomputable def quiet:Row->Bool
 | .say _=>true
 | .call _ _=>true
 | .tQ _ _ _ _ _=>true
 | .either _ _=>true
 | .again _=>true
 | _=>false
theorem Bk{P:Prog}{S:List Hand}{f:bQ}{fs:List bQ}{hd:List (List ax)}{r:Row}(er:bu P f=some r)(hq:quiet r=true)(c j:Nat):(gone P S (f::fs,hd) c j).2=hd:=by
 by_cases hc:xT r=true
 ·cases r <;> first |(cases hc;done) |(unfold gone;dsimp only;rw[er])
 ·rw[gY er (by simpa using hc)];cases fP P S f c r with
  | none=>rfl
  | some l=>cases r <;> first |(cases hq;done) | rfl
theorem HB{S:List Hand}{i:Nat}{x y:Hand}(e:S[i]?=some x)(h:y.2=x.2):heldOf (S.set i y)=heldOf S:=by
 unfold heldOf;rw[List.map_set,h];obtain⟨hi,ex⟩:=Ui.mp e;have:x.2=(S.map (·.2))[i]'(by rw[Uh];exact hi):=by rw[List.getElem_map,ex]
 rw[this,List.set_getElem_self]
theorem NG{P:Prog}{S:List Hand}{f:bQ}{c l:Nat}{r:Row}(hc:zR r=true->c≤1)(e:fP P S f c r=some l):l < (bc r).length:=by
 cases r with
 | tQ s t a b z=>
  cases e;show O1 _ _ _ < 3;unfold O1
  split
  ·decide
  ·split <;> decide
 | either a b=>cases e;exact Nat.lt_succ_of_le (hc rfl)
 | again a=>
  have e:(if c=1 then some 0 else none)=some l:=e
  split at e
  ·cases e;exact Xz
  ·cases e
 | ask k a b=>
  cases e;show(if _ then 1 else 0) < 2
  split <;> decide
 | within _ _=>cases e;exact Xz
 | all _ _=>cases e;exact Xz
 | _=>cases e
theorem KL{P:Prog}{S:List Hand}{c j:Nat}{f:bQ}{fs:List bQ}{hd:List (List ax)}{dj:fD}(st:jt P f)(os:∀g∈fs,eN P g)(hj:P.ak[j]?=some dj)(hr:f.rs.length < 1000)(hc:∀r,bu P f=some r->zR r=true->c≤1):∀g∈(gone P S (f::fs,hd) c j).1,eN P g:=by
 have ok:=st.ok;obtain⟨d,d1,⟨lot,l1,l2⟩,d3⟩:=st;have hrow:bu P f=lot[f.k]?:=by unfold bu;rw[eu d1,l1];rfl
 have two:∀{f':bQ},eN P f'->∀g∈f'::fs,eN P g:=fun {f'} h g hg=>by
  rcases UE.mp hg with rfl | hg
  ·exact h
  ·exact os g hg
 cases er:bu P f with
 | none=>
  have:gone P S (f::fs,hd) c j=(Cr f::fs,hd.dropLast):=by unfold gone;dsimp only;rw[er]
  rw[this];rw[hrow] at er;rcases l2 with⟨r,z⟩ |⟨_,s,rs,l,r,q1,q2,q3,q4⟩
  ·rw[er] at z;cases z
  ·have hup:Cr f={f with rs:=rs,k:=s.1+1}:=by unfold Cr;rw[q1]
   rw[hup];exact two ⟨d,l,d1,q2,by rw[q1,Uw] at d3;show rs.length≤1000;lia⟩
 | some r=>
  by_cases hcl:xT r=true
  ·cases r with
   | call w ts=>
    have:gone P S (f::fs,hd) c j=(Ca P f j ts::f::fs,hd):=by unfold gone;dsimp only;rw[er]
    rw[this];intro g hg;rcases UE.mp hg with rfl | hg
    ·exact⟨dj,dj.2.2,hj,rfl,Va _⟩
    ·exact two ok g hg
   | _=>cases hcl
  ·rw[gY er (by simpa using hcl)];cases el:fP P S f c r with
   | none=>exact two ⟨d,lot,d1,l1,d3⟩
   | some l=>
    have hlt:=NG (hc r er) el;refine two ⟨d,(bc r)[l],d1,?_,hr⟩;show bN d.2.2 ((f.k,l)::f.rs).reverse=_;rw[UW,pL,l1];show(LI lot (f.k,l)).bind _=_;unfold LI;rw[←hrow,er];show((bc r)[l]?).bind _=_;rw[Um hlt];rfl
abbrev Cm:=List (Str×List Int)
noncomputable def Lq(t:Cm):D:=.tup (t.map fun p=>.tup [.str p.1,.tup (p.2.map D.int)])
noncomputable def Fu(P:Prog)(num:Str->Nat)(p:Str×List Int):Hand:=(ir P [{bM:=num p.1,nums:=p.2,rs:=[],k:=0}],[])
theorem K1(n:Nat)(x:Hand):g6 n (cf x)=true:=by
 have hb:∀bs:List (List ax),dH n (bs.map f6)=true:=fun bs=>by
  induction bs with
  | nil=>rfl
  | cons b r ih=>
   have hp:∀b:List ax,dH n (b.map gV)=true:=fun b=>by
    induction b with
    | nil=>rfl
    | cons k r ih=>exact ih
   show(dH n (b.map gV)&&dH n (r.map f6))=true;rw[hp,ih];rfl
 show(dH n (x.1.reverse.map nM)&&(dH n (x.2.map f6)&&true))=true;rw[yi,hb];rfl
theorem Al(n:Nat):∀S:List Hand,dH n (S.map cf)=true
 | []=>rfl
 | x::r=>by show(g6 n (cf x)&&dH n (r.map cf))=true;rw[K1,Al n r];rfl
theorem Ce{P:Prog}{t:Cm}{num:Str->Nat}{h:MH}(nd:(P.ak.map (·.1)).Nodup)(hp:P.ak.length≤1000)(ht:t.length≤1000)(hn:∀p∈t,(P.ak.map (·.1))[num p.1]?=some p.1):lh [aw P,Lq t] h=some (aS (t.map (Fu P num)),h):=by
 have e0:Rn (lh [aw P,Lq t] h) fun p=>p=(aS (t.map (Fu P num)),h):=by
  refine m8 ?_;nofun;refine rv (nq nd hp) ?_;nofun;refine eV ?_;nofun;refine⟨_,_,rfl,?_⟩;refine dO (fun i δ h'=>∃(d4 d5 d6:Option D),δ=[some (aw P),some (Lq t),some (.dv (nums 0 (P.ak.map (·.1)))),some (.ob h.length),d4,d5,d6]∧h'=h++[.lst (((t.take i).map (Fu P num)).map cf)]) ⟨_,_,_,rfl,rfl⟩ (fun _ _ _ _ _=>rfl) ?_ ?_
  ·rintro i x δ h' hx ⟨d4,d5,d6,rfl,rfl⟩;rw[Ux] at hx;obtain⟨p,hp',rfl⟩:=fO hx;have hpm:=Ul hp';obtain⟨d,hd⟩:∃d,P.ak[num p.1]?=some d:=by
    have:=hn p hpm;rw[Ux] at this;obtain⟨d,hd,_⟩:=fO this;exact⟨d,hd⟩
   have hi:i < t.length:=(Ui.mp hp').1;have htk:t.take (i+1)=t.take i++[p]:=by rw[Wv,hp'];rfl
   nofun;refine rv (x4 rfl (xM 0 _ _ p.1 nd (hn p hpm))) ?_;rw[Vr];nofun;refine m9 ?_;nofun;refine⟨cc ba,?_⟩;nofun;refine rv (ko (P:=P) (fs:=[{bM:=num p.1,nums:=p.2,rs:=[],k:=0}]) (fun f hf=>by
    rw[UC] at hf;subst hf;exact⟨d,d.2.2,hd,rfl,Va _⟩) (by simp)) ?_
   nofun;refine rv (cA ba (by rw[Uh,Uh,UM,show sizeLine=16777216 from rfl];lia)) ?_;rw[fv];nofun;refine⟨_,_,_,rfl,?_⟩;rw[htk,UH,UH];rfl
  ·rintro δ h' ⟨d4,d5,d6,rfl,rfl⟩;rw[Uh,VB];nofun;refine rv (k5 ba) ?_;exact rv (pN (fun n z=>(nomatch z)) (Al _ _)) rfl
 obtain⟨p,e1,rfl⟩:=e0;exact e1
noncomputable def Ls(rows:List Row)(rs:List (Nat×Nat))(s:Nat×Nat):Bool:=(((bN rows rs.reverse).bind fun l=>l[s.1]?).map fun r=>bq r s.2).getD false
noncomputable def yf(rows:List Row):List (Nat×Nat)->Nat
 | []=>0
 | s::rs=>(Ls rows rs s).toNat+yf rows rs
theorem CS{rows:List Row}:∀{rs:List (Nat×Nat)} {k:Nat} {lot:List Row},bN rows rs.reverse=some lot->yf rows rs=((rn rows rs k).map fun p=>yf rows p.1).getD 0
 | [],k,lot,e=>by
  cases q:lot[k]? with
  | none=>rw[xt e q];rfl
  | some r=>rw[j7 e q];rfl
 | s::rs,k,lot,e=>by
  cases q:lot[k]? with
  | some r=>rw[j7 e q];rfl
  | none=>
   obtain⟨l,r,g1,g2,g3⟩:=sX e;rw[Bm e q g1 g2]
   by_cases c:bq r s.2=true
   ·rw[Ut c];rfl
   ·have hs:Ls rows rs s=false:=by
     unfold Ls;rw[g1,UT,g2]
     simpa using c
    rw[Uu c,←CS g1];show(Ls rows rs s).toNat+yf rows rs=_;rw[hs];exact Vr _
noncomputable def Aj(P:Prog)(f:bQ):Nat:=yf (cw P f.bM) f.rs
noncomputable def ye(P:Prog)(fs:List bQ):Nat:=(fs.map (Aj P)).sum
theorem dU(P:Prog)(f:bQ)(fs:List bQ):ye P (f::fs)=Aj P f+ye P fs:=rfl
theorem zY{P:Prog}:∀{fs:List bQ} {f:bQ},eN P f->(∀g∈fs,eN P g)->ye P (km P fs f)=Aj P f+ye P fs
 | fs,f,⟨d,lot,f1,f2,f3⟩,hs=>by
  have er:=eu f1;have hc:=CS (rows:=cw P f.bM) (k:=f.k) (er ▸ f2);cases q:rn (cw P f.bM) f.rs f.k with
  | some p=>
   rw[q] at hc;rw[kZ q,dU];show yf (cw P f.bM) p.1+_=yf (cw P f.bM) f.rs+_;rw[hc];rfl
  | none=>
   rw[q] at hc;have hc:Aj P f=0:=hc;rw[hc,Vr];cases fs with
   | nil=>rw[nI q]
   | cons g gs=>
    obtain⟨dg,lg,k1,k2,k3⟩:=hs g Uo;rw[rA q,zY (fs:=gs) (f:={g with k:=g.k+1}) ⟨dg,lg,k1,k2,k3⟩ fun x hx=>hs x (Ur _ hx)];rfl
theorem zX{P:Prog}:∀{fs:List bQ},(∀g∈fs,eN P g)->ye P (ir P fs)=ye P fs
 | [],_=>rfl
 | f::fs,h=>zY (h f Uo) fun g hg=>h g (Ur _ hg)
structure Fy(P:Prog)(n:Nat)(f:bQ):Prop where
 nm:(qJ P f.bM).length≤f.nums.length
 rs:f.rs.length≤n
theorem Dl{P:Prog}{n:Nat}:∀{fs:List bQ} {f:bQ},eN P f->(∀g∈fs,eN P g)->Fy P n f->(∀g∈fs,Fy P n g)->∀g∈km P fs f,Fy P n g
 | fs,f,⟨d,lot,f1,f2,f3⟩,hs,hf,hn,x,hx=>by
  have er:=eu f1;cases q:rn (cw P f.bM) f.rs f.k with
  | some p=>
   rw[kZ q] at hx;obtain⟨h1,h2⟩:=Bn (er ▸ f2) q;rcases UE.mp hx with rfl | hx
   ·exact⟨hf.nm,UL h2 hf.rs⟩
   ·exact hn x hx
  | none=>
   cases fs with
   | nil=>rw[nI q] at hx;cases hx
   | cons g gs=>
    rw[rA q] at hx;obtain⟨dg,lg,k1,k2,k3⟩:=hs g Uo;have hg:=hn g Uo;exact Dl (fs:=gs) (f:={g with k:=g.k+1}) ⟨dg,lg,k1,k2,k3⟩ (fun x hx=>hs x (Ur _ hx)) ⟨hg.nm,hg.rs⟩ (fun x hx=>hn x (Ur _ hx)) x hx
theorem Dj{P:Prog}{n:Nat}:∀{fs:List bQ},(∀g∈fs,eN P g)->(∀g∈fs,Fy P n g)->∀g∈ir P fs,Fy P n g
 | [],_,_=>fun _ z=>(nomatch z)
 | f::fs,h,hn=>Dl (h f Uo) (fun g hg=>h g (Ur _ hg)) (hn f Uo) fun g hg=>hn g (Ur _ hg)
theorem FL{P:Prog}{S:List Hand}{f:bQ}{c l:Nat}{r:Row}(e:fP P S f c r=some l):bq r l=((qU r||bq r 0)&&decide (l=0)):=by
 cases r with
 | within _ _=>cases e;rfl
 | all _ _=>cases e;rfl
 | ask _ _ _=>show(l==0)=(true&&decide (l=0));rw[Xh];rfl
 | _=>rfl
theorem Dy{P:Prog}{f:bQ}(st:jt P f)(er:bu P f=none):Aj P f=1+Aj P (Cr f)∧(Cr f).rs.length≤f.rs.length:=by
 obtain⟨d,d1,⟨lot,l1,l2⟩,d3⟩:=st;have hr:=eu d1;have hrow:bu P f=lot[f.k]?:=by unfold bu;rw[hr,l1];rfl
 rw[hrow] at er;rcases l2 with⟨r,z⟩ |⟨_,s,rs,l,r,q1,q2,q3,q4⟩
 ·rw[er] at z;cases z
 ·have hup:Cr f={f with rs:=rs,k:=s.1+1}:=by unfold Cr;rw[q1]
  rw[hup];refine⟨?_,by rw[q1,Uw];exact Wi _⟩;show yf (cw P f.bM) f.rs=1+yf (cw P f.bM) rs;rw[q1];show(Ls (cw P f.bM) rs s).toNat+_=_;have:Ls (cw P f.bM) rs s=true:=by
   unfold Ls;rw[hr,q2,UT,q3];exact q4
  rw[this];rfl
theorem BO{P:Prog}{S:List Hand}{n c j:Nat}{f:bQ}{fs:List bQ}{hd:List (List ax)}(st:jt P f)(hn:∀g∈f::fs,Fy P n g)(hc:ye P (f::fs)=hd.length)(hj:∀w ts,bu P f=some (.call w ts)->(qJ P j).length≤ts.length):
  (∀g∈(gone P S (f::fs,hd) c j).1,Fy P (n+1) g)∧(gone P S (f::fs,hd) c j).1.length≤fs.length+2∧(gone P S (f::fs,hd) c j).2.length≤hd.length+1∧ye P (gone P S (f::fs,hd) c j).1=(gone P S (f::fs,hd) c j).2.length:=by
 have hf:=hn f Uo;have hs:∀g∈fs,Fy P (n+1) g:=fun g hg=>let z:=hn g (Ur _ hg);⟨z.nm,Vt z.rs⟩;have two:∀{f':bQ},Fy P (n+1) f'->∀g∈f'::fs,Fy P (n+1) g:=fun {f'} h g hg=>by
  rcases UE.mp hg with rfl | hg
  ·exact h
  ·exact hs g hg
 rw[dU] at hc;cases er:bu P f with
 | none=>
  have:gone P S (f::fs,hd) c j=(Cr f::fs,hd.dropLast):=by unfold gone;dsimp only;rw[er]
  rw[this];obtain⟨h1,h2⟩:=Dy st er;have h3:=hf.rs;have h4:(Cr f).bM=f.bM∧(Cr f).nums=f.nums:=by unfold Cr;split <;> exact⟨rfl,rfl⟩
  refine⟨two ⟨by rw[h4.1,h4.2];exact hf.nm,by lia⟩,by simp,by rw[XN];lia,?_⟩;rw[dU,XN]
  lia
 | some r=>
  by_cases hcl:xT r=true
  ·cases r with
   | call w ts=>
    have:gone P S (f::fs,hd) c j=(Ca P f j ts::f::fs,hd):=by unfold gone;dsimp only;rw[er]
    rw[this];refine⟨fun g hg=>?_,by simp,Wi _,?_⟩
    ·rcases UE.mp hg with rfl | hg
     ·refine⟨?_,Va _⟩;show(qJ P j).length≤(ts.map _).length;rw[Uh];exact hj w ts er
     ·exact two ⟨hf.nm,Vt hf.rs⟩ g hg
    ·rw[dU,dU,hc];exact Vr _
   | _=>cases hcl
  ·rw[gY er (by simpa using hcl)];cases el:fP P S f c r with
   | none=>exact⟨two ⟨hf.nm,Vt hf.rs⟩,by simp,Wi _,by rw[dU];exact hc⟩
   | some l=>
    have ht:=FL el;have hst:Ls (cw P f.bM) f.rs (f.k,l)=bq r l:=by
     show((bu P f).map fun r=>bq r l).getD false=_;rw[er];rfl
    have h1:Aj P {f with rs:=(f.k,l)::f.rs,k:=0}=(bq r l).toNat+Aj P f:=by rw[←hst];rfl
    refine⟨two ⟨hf.nm,Wg hf.rs⟩,by simp,?_,?_⟩
    ·dsimp only
     split
     ·rw[Uy];exact Us _
     ·exact Wi _
    ·dsimp only;rw[dU,h1,←ht];cases bq r l with
     | true=>
      rw[Ut rfl,Uy];show 1+_+_=hd.length+1
      lia
     | false=>
      rw[Uu U0];show 0+_+_=_
      lia
structure iM(P:Prog)(n:Nat)(x:Hand):Prop where
 fr:wx P x.1
 nm:∀f∈x.1,Fy P n f
 fl:x.1.length≤n+1
 hl:x.2.length≤n
 ct:ye P x.1=x.2.length
theorem iM.up{P:Prog}{n:Nat}{x:Hand}(h:iM P n x):iM P (n+1) x:=⟨h.fr,fun f hf=>⟨(h.nm f hf).nm,Vt (h.nm f hf).rs⟩,Vt h.fl,Vt h.hl,h.ct⟩
theorem iM.next{P:Prog}{S:List Hand}{n c j:Nat}{f:bQ}{fs:List bQ}{hd:List (List ax)}{dj:fD}(h:iM P n (f::fs,hd))(hn:n≤900)(hj:∀w ts,bu P f=some (.call w ts)->(qJ P j).length≤ts.length)(dj:P.ak[j]?=some dj)(hc:∀r,bu P f=some r->zR r=true->c≤1):
  iM P (n+1) (ir P (gone P S (f::fs,hd) c j).1,(gone P S (f::fs,hd) c j).2)∧(∀g∈(gone P S (f::fs,hd) c j).1,eN P g)∧(gone P S (f::fs,hd) c j).1.length≤1000:=by
 have hl:=h.fl;have hh:=h.hl;dsimp only at hl hh;rw[Uw] at hl;have ok:=KL (S:=S) (hd:=hd) h.fr.1 h.fr.2 dj (by have:=(h.nm f Uo).rs;lia) hc;obtain⟨k1,k2,k3,k4⟩:=BO (S:=S) (c:=c) h.fr.1 h.nm h.ct hj;generalize gone P S (f::fs,hd) c j=g at ok k1 k2 k3 k4 ⊢;obtain⟨s1,s2⟩:=Di ok;exact⟨⟨s1,Dj ok k1,by dsimp only;lia,by dsimp only;lia,by dsimp only;rw[zX ok];exact k4⟩,ok,by lia⟩
theorem BE{W:Wd}{ps:List Str}{n:Nat}{r:Row}{l:List Row}(h:bh W ps n r)(hl:l∈bc r):bD W ps (n+1) l:=by
 cases r with
 | say _=>cases hl
 | call _ _=>cases hl
 | within _ b=>rw[bh] at h;rw[UC.mp hl];exact h.2.2.2
 | all _ b=>rw[bh] at h;rw[UC.mp hl];exact h.2.2.2
 | ask _ a b=>
  rw[bh] at h;obtain⟨_,_,_,_,h1,h2⟩:=h;rcases UE.mp hl with rfl | hl
  ·exact h1
  ·rw[UC.mp hl];exact h2
 | tQ _ _ a b c=>
  rw[bh] at h;obtain⟨_,_,_,_,_,_,h1,h2,h3⟩:=h;rcases UE.mp hl with rfl | hl
  ·exact h1
  ·rcases UE.mp hl with rfl | hl
   ·exact h2
   ·rw[UC.mp hl];exact h3
 | either a b=>
  rw[bh] at h;obtain⟨_,_,_,h1,h2⟩:=h;rcases UE.mp hl with rfl | hl
  ·exact h1
  ·rw[UC.mp hl];exact h2
 | again a=>rw[bh] at h;rw[UC.mp hl];exact h.2.2
theorem vK{W:Wd}{ps:List Str}:∀(st:List (Nat×Nat)) (n:Nat) (rows lot:List Row),bD W ps n rows->bN rows st=some lot->∃m,bD W ps m lot
 | [],n,rows,lot,h,e=>by cases e;exact⟨n,h⟩
 | s::st,n,rows,lot,h,e=>by
  obtain⟨l1,e1,e2⟩:=bo e;obtain⟨r,er,el⟩:=bo e1;exact vK st (n+1) l1 lot (BE (pF h r (Ul er)) (Ul el)) e2
theorem Ff{W:Wd}{m:Nat}{P:Prog}(o:Q7 W m P):P.ak.map (·.1)=W.ak:=by
 refine WM fun j=>?_;rw[Ux];cases e:P.ak[j]? with
 | some d=>rw[(o.dd j d e).1];rfl
 | none=>
  have:=List.getElem?_eq_none_iff.mp e;rw[UY (by rw[←o.dl];exact this)];rfl
theorem xw{P:Prog}{i:Nat}{d:fD}(h:P.ak[i]?=some d):qJ P i=d.2.1:=by unfold qJ;rw[h];rfl
noncomputable def qR(P:Prog)(w:Str):Nat:=(P.ak.map (·.1)).idxOf w
structure Dr(P:Prog):Prop where
 ex:∃W fl odd,Cj W fl odd∧Q7 W 60 P
section
variable {P:Prog} (D:Dr P)
include D
theorem Dr.fit:O3 P:=let⟨_,_,_,ok,o⟩:=D.ex;o.fit (by decide) ok.d2
theorem Dr.nd:(P.ak.map (·.1)).Nodup:=let⟨_,_,_,ok,o⟩:=D.ex;by rw[Ff o];exact ok.nd
theorem Dr.six:P.ak.length≤6:=let⟨_,_,_,ok,o⟩:=D.ex;by rw[o.dl];exact ok.d2
theorem Dr.pos:0 < P.ak.length:=let⟨_,_,_,ok,o⟩:=D.ex;by rw[o.dl];exact ok.d1
theorem Dr.par{i:Nat}{d:fD}(e:P.ak[i]?=some d):d.2.1.length≤3:=let⟨_,_,_,ok,o⟩:=D.ex;ok.p3 _ (Ul (o.dd i d e).2.1)
theorem Dr.num{i:Nat}{d:fD}(e:P.ak[i]?=some d):qR P d.1=i:=by
 have h1:(P.ak.map (·.1))[i]?=some d.1:=by rw[Ux,e];rfl
 obtain⟨h2,h3⟩:=Ui.mp h1;unfold qR;rw[←h3];exact D.nd.idxOf_getElem i h2
theorem Dr.row{n:Nat}{f:bQ}{d:fD}{r:Row}(e:P.ak[f.bM]?=some d)(hf:Fy P n f)(er:bu P f=some r):IJ P f r∧SX (fL P f) r∧∀w ts,r=.call w ts->(∃dj,P.ak[qR P w]?=some dj∧dj.1=w∧dj.2.1.length=ts.length)∧ts.length≤3∧∀t∈ts,dQ (fL P f) t:=by
 have h3:=D.par e;have hnum:=@Dr.num P D;obtain⟨W,fl,odd,ok,o⟩:=D.ex;have hp:=xw e;obtain⟨k,okr⟩:∃k,bh W d.2.1 k r:=by
  unfold bu at er;rw[eu e] at er;obtain⟨lot,e1,e2⟩:=bo er;obtain⟨k,hk⟩:=vK _ 1 _ _ (o.dd _ d e).2.2.1 e1;exact⟨k,pF hk r (Ul e2)⟩
 have tin:∀t:Term,fb d.2.1 t->dQ (fL P f) t:=fun t ht=>by
  rcases ht.1 with z | z
  ·exact .inl z
  ·exact .inr (Hl (by rw[hp];exact z) hf.nm)
 have lin:∀l:Lock,fJ W d.2.1 l->dQ (fL P f) l.2:=fun l hl=>tin _ hl.2;refine⟨⟨⟨d,e,by lia⟩,?_,?_⟩,?_,?_⟩
 ·intro l hl;cases r with
  | within l' b=>rw[bh] at okr;rw[UC.mp hl];exact lin _ okr.1
  | all ls b=>rw[bh] at okr;exact lin l (okr.1.2.2.2 l hl)
  | ask l' a b=>rw[bh] at okr;rw[UC.mp hl];exact lin _ okr.1
  | _=>cases hl
 ·cases r with
  | all ls b=>rw[bh] at okr;exact okr.1.2.1
  | _=>simp[iD]
 ·cases r with
  | tQ s t a b c=>rw[bh] at okr;exact⟨tin _ okr.1,tin _ okr.2.1⟩
  | _=>trivial
 ·rintro w ts rfl;rw[bh] at okr;obtain⟨⟨j,qs,j1,j2,j3⟩,j4⟩:=okr;have hj:j < P.ak.length:=by rw[o.dl];exact(Ui.mp j1).1
  have ej:P.ak[j]?=some P.ak[j]:=Um hj;obtain⟨g1,g2,_⟩:=o.dd j _ ej;rw[j1] at g1;rw[j2] at g2;have g1:w=P.ak[j].1:=Option.some.inj g1;have g2:qs=P.ak[j].2.1:=Option.some.inj g2;have hq:qs.length≤3:=ok.p3 _ (Ul j2);refine⟨⟨P.ak[j],by rw[g1,hnum ej];exact ej,g1.symm,by rw[←g2,j3]⟩,by lia,fun t ht=>tin t (j4 t ht)⟩
end
noncomputable def ET(P:Prog)(x:Hand):Nat:=match ur P x with
 | some (.call w _)=>qR P w
 | _=>0
noncomputable def qW(P:Prog)(S:List Hand)(x:Hand)(c:Nat):Hand:=(ir P (gone P S x c (ET P x)).1,(gone P S x c (ET P x)).2)
structure Lh(P:Prog)(n:Nat)(S:List Hand):Prop where
 h:∀x∈S,iM P n x
 l:S.length≤10
theorem Ol{P:Prog}{S:List Hand}{x:Hand}{c:Nat}(h:c∈jI P S x):c≤1:=by
 unfold jI at h
 split at h
 ·cases h
 ·split at h
  ·rcases UE.mp h with rfl | h
   ·exact Va _
   ·rw[UC.mp h];exact Us _
  ·split at h
   ·rw[UC.mp h];exact Va _
   ·cases h
section
variable {P:Prog} (D:Dr P) {n:Nat} {S:List Hand} (s:Lh P n S) (hn:n≤900)
include D s hn
theorem Lh.DF{i:Nat}{x:Hand}(e:S[i]?=some x)(h:MH):a8 [aw P,aS S,ar i] h=some (.tup ((jI P S x).map ar),h):=by
 have hx:=s.h x (Ul e);refine yk e hx.fr (fun y hy=>by have:=(s.h y hy).hl;lia) fun f fs r ex er=>?_;have h1:=hx.fr;have h2:=hx.nm;rw[ex] at h1 h2;obtain⟨d,hd,_⟩:=h1.1;exact(D.row hd (h2 f Uo) er).1
theorem Lh.moves(h:MH):hV [aw P,aS S] h=some (.tup ((BH P S).map iH),h):=
 BI (by have:=s.l;lia) fun i x e=>s.DF D hn e h
theorem Lh.gone{i c:Nat}{f:bQ}{fs:List bQ}{hd:List (List ax)}(e:S[i]?=some (f::fs,hd))(h:MH):bS [aw P,aS S,ar i,ar c] h=some (cf (Mi.gone P S (f::fs,hd) c (ET P (f::fs,hd))),h):=by
 have hx:=s.h _ (Ul e);have hl:=hx.fl;have hh:=hx.hl;have hc:=hx.ct;dsimp only at hl hh hc;rw[Uw] at hl;rw[dU] at hc;have hst:=hx.fr.1;obtain⟨d,hd',_⟩:=hx.fr.1;have d3:=D.par hd';cases er:bu P f with
 | none=>
  have hne:hd≠[]:=by
   rintro rfl;have:=(Dy hst er).1;rw[Vx] at hc
   lia
  exact gone_none e hst er (by lia) (hd.getLast hne) hd.dropLast (Yk hne).symm
 | some r=>
  obtain⟨T,B,C⟩:=D.row hd' (hx.nm f Uo) er
  by_cases hcl:xT r=true
  ·cases r with
   | call w ts=>
    obtain⟨⟨dj,j1,j2,j3⟩,j4,j5⟩:=C w ts rfl;have hj:ET P (f::fs,hd)=qR P w:=by
     unfold ET;rw[show ur P (f::fs,hd)=bu P f from rfl,er]
    rw[hj];exact E4 e hst.ok er (by lia) D.nd (by have:=D.six;lia) (by rw[Ux,j1,←j2];rfl) hd' (by lia) j5 (by lia)
   | _=>cases hcl
  ·exact HD e hst.ok er (by simpa using hcl) (by lia) (by lia) T B fun y hy=>by have:=(s.h y hy).hl;lia
theorem Lh.step{i c:Nat}{x:Hand}(e:S[i]?=some x)(cm:c∈jI P S x):(∀h,cK [aw P,aS S,iH (i,c)] h=some (.tup [aS (S.set i (qW P S x c)),N6 i (ur P x)],h))∧Lh P (n+1) (S.set i (qW P S x c)):=by
 have hx:=s.h _ (Ul e);obtain⟨fs,hd⟩:=x;cases fs with
 | nil=>cases cm
 | cons f fs=>
  obtain⟨d,hd',_⟩:=hx.fr.1;have hp:=D.pos;obtain⟨dj,hdj,hjl⟩:∃dj,P.ak[ET P (f::fs,hd)]?=some dj∧∀w ts,bu P f=some (.call w ts)->(qJ P (ET P (f::fs,hd))).length≤ts.length:=by
   have hr:ur P (f::fs,hd)=bu P f:=rfl;cases er:bu P f with
   | none=>exact⟨P.ak[0],by unfold ET;rw[hr,er];exact Um hp,fun _ _ z=>(nomatch z)⟩
   | some r=>
    obtain⟨T,B,C⟩:=D.row hd' (hx.nm f Uo) er;cases r with
    | call w ts=>
     obtain⟨⟨dj,j1,j2,j3⟩,j4,j5⟩:=C w ts rfl;have hj:ET P (f::fs,hd)=qR P w:=by unfold ET;rw[hr,er]
     rw[hj];exact⟨dj,j1,fun w' ts' z=>by cases z;rw[xw j1,j3];exact Us _⟩
    | _=>exact⟨P.ak[0],by unfold ET;rw[hr,er];exact Um hp,fun _ _ z=>(nomatch z)⟩
  obtain⟨k1,k2,k3⟩:=hx.next (S:=S) (c:=c) hn hjl hdj fun _ _ _=>Ol cm;refine⟨fun h=>wH (j:=0) e (by have:=s.l;lia) hx.fr.1.ok (s.DF D hn e) cm (s.gone D hn e) k2 k3,fun y hy=>?_,by rw[VY];exact s.l⟩;rcases Yx hy with z | z
  ·exact(s.h y z).up
  ·rw[z];exact k1
end
theorem ny{P:Prog}{S:List Hand}{m:Nat×Nat}:m∈BH P S↔∃x,S[m.1]?=some x∧m.2∈jI P S x:=by
 unfold BH;rw[List.mem_flatMap];constructor
 ·rintro⟨i,hi,hm⟩;have hl:=Vg.mp hi;unfold Kl at hm;rw[Um hl] at hm;obtain⟨c,hc,rfl⟩:=UR.mp hm;exact⟨S[i],Um hl,hc⟩
 ·rintro⟨x,hx,hm⟩;refine⟨m.1,Vg.mpr (Ui.mp hx).1,?_⟩;unfold Kl;rw[hx];exact UR.mpr ⟨m.2,hm,rfl⟩
theorem Em{P:Prog}{S S':List Hand}{x:Hand}{r:Row}(er:ur P x=some r)(q:quiet r=true):jI P S x=jI P S' x:=by
 obtain⟨fs,hd⟩:=x;cases fs with
 | nil=>rfl
 | cons f fs=>
  have er:bu P f=some r:=er;have hw:∀S,Ay P S (f::fs,hd)=[]:=fun S=>by
   unfold Ay;dsimp only;rw[er];cases r <;> first |(cases q;done) | rfl
  unfold jI;dsimp only;rw[hw,hw]
theorem Bl{P:Prog}{S S':List Hand}{x:Hand}{r:Row}{c j:Nat}(er:ur P x=some r)(q:quiet r=true):gone P S x c j=gone P S' x c j:=by
 obtain⟨fs,hd⟩:=x;cases fs with
 | nil=>rfl
 | cons f fs=>
  have er:bu P f=some r:=er;cases r with
  | call w ts=>unfold gone;dsimp only;rw[er]
  | within _ _=>cases q
  | all _ _=>cases q
  | ask _ _ _=>cases q
  | _=>rw[gY er rfl,gY er rfl];rfl
theorem NU{P:Prog}{S S':List Hand}(e:heldOf S=heldOf S')(x:Hand)(c:Nat):qW P S x c=qW P S' x c:=by
 unfold qW;rw[KN e]
theorem HR{P:Prog}{S:List Hand}{i k c d:Nat}{x y:Hand}{r:Row}(hik:i≠k)(ex:S[i]?=some x)(ey:S[k]?=some y)(er:ur P x=some r)(q:quiet r=true)(cm:c∈jI P S x)(dm:d∈jI P S y):
  ((S.set i (qW P S x c))[k]?=some y∧d∈jI P (S.set i (qW P S x c)) y)∧((S.set k (qW P S y d))[i]?=some x∧c∈jI P (S.set k (qW P S y d)) x)∧
  (S.set i (qW P S x c)).set k (qW P (S.set i (qW P S x c)) y d)=(S.set k (qW P S y d)).set i (qW P (S.set k (qW P S y d)) x c):=by
 have hx:(qW P S x c).2=x.2:=by
  obtain⟨fs,hd⟩:=x;cases fs with
  | nil=>cases cm
  | cons f fs=>exact Bk er q c _
 have hh:heldOf (S.set i (qW P S x c))=heldOf S:=HB ex hx;refine⟨⟨by rw[Vf hik];exact ey,by rw[Oj hh];exact dm⟩,⟨by rw[Vf (VA hik)];exact ex,by rw[Em (S':=S) er q];exact cm⟩,?_⟩;have h2:qW P (S.set k (qW P S y d)) x c=qW P S x c:=by unfold qW;rw[Bl (S:=S.set k (ir P (gone P S y d (ET P y)).1,(gone P S y d (ET P y)).2)) (S':=S) er q]
 rw[NU hh,h2];exact List.set_comm _ _ hik
def Dp(n:Nat)(d:D):Prop:=∃p,qa d=some p∧p.depth≤n∧PyData.eqv p p=true
def jH(n:Nat)(xs:List D):Prop:=∃ps,iA xs=some ps∧PyData.depthAll ps≤n∧PyData.eqvAll ps ps=true
theorem jH.nil{n:Nat}:jH n []:=⟨[],rfl,by simp[PyData.depthAll],rfl⟩
theorem jH.cons{n:Nat}{x:D}{xs:List D}(a:Dp n x)(b:jH n xs):jH n (x::xs):=by
 obtain⟨p,e1,e2,e3⟩:=a;obtain⟨ps,f1,f2,f3⟩:=b;refine⟨p::ps,?_,?_,?_⟩
 ·show(qa x).bind (fun a=>(iA xs).map fun b=>a::b)=_;rw[e1,f1];rfl
 ·rw[PyData.depthAll];exact Nat.max_le.mpr ⟨e2,f2⟩
 ·rw[PyData.eqvAll,e3,f3];rfl
theorem jH.map{α:Type}{n:Nat}{f:α->D}:∀{xs:List α},(∀x∈xs,Dp n (f x))->jH n (xs.map f)
 | [],_=>jH.nil
 | x::xs,h=>jH.cons (h x Uo) (jH.map fun y hy=>h y (Ur _ hy))
theorem Dp.tup{n:Nat}{xs:List D}(a:jH n xs):Dp (n+1) (.tup xs):=by
 obtain⟨ps,f1,f2,f3⟩:=a;refine⟨.tuple ps,?_,?_,?_⟩
 ·show(iA xs).map _=_;rw[f1];rfl
 ·rw[PyData.depth];exact Wg f2
 ·rw[PyData.eqv];exact f3
theorem Dp.lv{n:Nat}{xs:List D}(a:jH n xs):Dp (n+1) (.lv xs):=by
 obtain⟨ps,f1,f2,f3⟩:=a;refine⟨.list ps,?_,?_,?_⟩
 ·show(iA xs).map _=_;rw[f1];rfl
 ·rw[PyData.depth];exact Wg f2
 ·rw[PyData.eqv];exact f3
theorem Dp.int{n:Nat}(i:Int):Dp n (.int i):=⟨.int i,rfl,by simp[PyData.depth],by simp[PyData.eqv]⟩
theorem Dp.str{n:Nat}(w:Str):Dp n (.str w):=⟨.str w,rfl,by simp[PyData.depth],by simp[PyData.eqv]⟩
theorem Dp.bz{n:Nat}:Dp n .bz:=⟨.none,rfl,by simp[PyData.depth],rfl⟩
theorem Dp.up{n m:Nat}{d:D}(h:Dp n d)(hm:n≤m):Dp m d:=let⟨p,a,b,c⟩:=h;⟨p,a,UL b hm,c⟩
theorem E7{xs:List D}{h:MH}(a:Dp 64 (.tup xs)):lu (.tup xs) (.tup xs) h=some (.bl false,h):=by
 obtain⟨p,e1,e2,e3⟩:=a;show(LJ (.tup xs) (.tup xs) h).map _=_;unfold LJ;show(((qa (.tup xs)).bind fun a=>(qa (.tup xs)).bind _).map _)=_;rw[e1];show((if p.depth≤64∧p.depth≤64 then some (PyData.eqv p p) else none).map _)=_;rw[Ut ⟨e2,e2⟩,e3];rfl
theorem Dp.TY(S:List Hand):Dp 5 (aS S):=
 Dp.tup (jH.map fun x _=>Dp.tup (jH.cons (Dp.tup (jH.map fun f _=>Dp.tup (jH.cons (Dp.int _) (jH.cons (Dp.tup (jH.map fun i _=>Dp.int i)) (jH.cons (Dp.tup (jH.map fun i _=>Dp.int _)) jH.nil))))) (jH.cons (Dp.tup (jH.map fun b _=>Dp.tup (jH.map fun k _=>Dp.tup (jH.cons (Dp.str _) (jH.cons (Dp.int _) jH.nil))))) jH.nil)))
theorem Dp.ev(i:Nat)(o:Option Row):Dp 1 (N6 i o):=by
 unfold N6
 split
 ·exact Dp.tup (jH.cons (Dp.int _) (jH.cons (Dp.str _) jH.nil))
 ·exact Dp.bz
noncomputable def IW(m:Nat×Nat):PyData:=.tuple [.int (m.1:Int),.int (m.2:Int)]
theorem CQ:∀ms:List (Nat×Nat),iA (ms.map iH)=some (ms.map IW)
 | []=>rfl
 | k::r=>by
  show(qa (iH k)).bind (fun a=>(iA (r.map iH)).map fun bs=>a::bs)=_;rw[CQ r];rfl
theorem vY:∀ms:List (Nat×Nat),PyData.depthAll (ms.map IW)≤2
 | []=>by simp[PyData.depthAll]
 | k::r=>by
  have:=vY r;simp only[Uv,PyData.depthAll,IW,PyData.depth];simp
  lia
theorem EG{m:Nat×Nat}{ms:List (Nat×Nat)}{h:MH}(hm:m∈ms):jl (iH m) (.tup (ms.map iH)) h=some (.bl false,h):=by
 have e2:inD (iH m) (.tup (ms.map iH)) h=some true:=by
  show((iA (ms.map iH)).bind fun bs=>if(IW m).depth≤60∧PyData.depthAll bs≤60 then some (bs.any fun x=>PyData.eqv x (IW m)) else none)=_;rw[CQ];show(if(IW m).depth≤60∧PyData.depthAll (ms.map IW)≤60 then some ((ms.map IW).any fun x=>PyData.eqv x (IW m)) else none)=_;rw[Ut ⟨by simp[IW,PyData.depth,PyData.depthAll],UL (vY ms) (by decide)⟩,Xw];congr 1;rw[WB];refine⟨m,hm,?_⟩;show(((m.1:Int)==m.1)&&(((m.2:Int)==m.2)&&true))=true;simp
 unfold jl;rw[e2];rfl
theorem wa{P:Prog}{S S1 S2:List Hand}{a b:Nat×Nat}{u v:D}{h:MH}(e1:∀h,cK [aw P,aS S,iH a] h=some (.tup [aS S1,u],h))(e2:∀h,hV [aw P,aS S1] h=some (.tup ((BH P S1).map iH),h))(hb:b∈BH P S1)(e3:∀h,cK [aw P,aS S1,iH b] h=some (.tup [aS S2,v],h)):dc [aw P,aS S,iH a,iH b] h=some (.tup [aS S2,.lv [u,v]],h):=by
 refine y4 (aZ ?_);nofun;refine rv (e1 _) ?_;nofun;refine rv (e2 _) ?_;nofun;refine rv (EG hb) ⟨false,rfl,ff ?_⟩;nofun;refine rv (e3 _) ?_;nofun
theorem ji{a:List Nat}{x:List Nat×Row}:∀{lot:List Row} {k:Nat},x∈aM a k lot↔∃i r,lot[i]?=some r∧(x=(a++[k+i],r)∨x∈eW (a++[k+i]) r)
 | [],k=>by rw[aM];exact⟨fun z=>(nomatch z),fun⟨i,r,z,_⟩=>by simp at z⟩
 | y::l,k=>by
  rw[aM,UE,U5,ji (lot:=l) (k:=k+1)];constructor
  ·rintro(z | z |⟨i,r,z,w⟩)
   ·exact⟨0,y,rfl,.inl z⟩
   ·exact⟨0,y,rfl,.inr z⟩
   ·exact⟨i+1,r,z,by rw[show k+(i+1)=k+1+i by lia];exact w⟩
  ·rintro⟨i,r,z,w⟩;cases i with
   | zero=>
    cases z;rcases w with w | w
    ·exact .inl w
    ·exact .inr (.inl w)
   | succ i=>exact .inr (.inr ⟨i,r,z,by rw[show k+1+i=k+(i+1) by lia];exact w⟩)
theorem pI{a:List Nat}{x:List Nat×Row}:∀{ls:List (List Row)} {k:Nat},x∈dC a k ls↔∃j l,ls[j]?=some l∧x∈aM (a++[k+j]) 0 l
 | [],k=>by rw[dC];exact⟨fun z=>(nomatch z),fun⟨i,r,z,_⟩=>by simp at z⟩
 | y::l,k=>by
  rw[dC,U5,pI (ls:=l) (k:=k+1)];constructor
  ·rintro(z |⟨i,r,z,w⟩)
   ·exact⟨0,y,rfl,z⟩
   ·exact⟨i+1,r,z,by rw[show k+(i+1)=k+1+i by lia];exact w⟩
  ·rintro⟨i,r,z,w⟩;cases i with
   | zero=>cases z;exact .inl w
   | succ i=>exact .inr ⟨i,r,z,by rw[show k+1+i=k+(i+1) by lia];exact w⟩
noncomputable def yZ(lot:List Row)(st:List (Nat×Nat))(k:Nat):Option Row:=(bN lot st).bind fun l=>l[k]?
theorem qe:∀(n:Nat) {lot:List Row} {a p:List Nat} {r:Row},cQ lot≤n->(p,r)∈aM a 0 lot->∃st k,p=a++(flat st++[k])∧yZ lot st k=some r
 | 0,lot,a,p,r,hn,_=>by
  exfalso;cases lot with
  | nil=>simp[cQ] at hn
  | cons r rs=>rw[cQ] at hn;lia
 | n+1,lot,a,p,r,hn,hx=>by
  obtain⟨i,y,e,w⟩:=ji.mp hx;rw[Vr] at w;rcases w with w | w
  ·cases w;exact⟨[],i,rfl,e⟩
  ·rw[o7] at w;obtain⟨j,l,el,w⟩:=pI.mp w;rw[Vr] at w;have h1:=vD (Ul e);have h2:=vC (Ul el);obtain⟨st,k,e1,e2⟩:=qe n (by lia) w;refine⟨(i,j)::st,k,?_,?_⟩
   ·rw[e1];show a++[i]++[j]++_=a++([i,j]++flat st++[k]);simp
   ·unfold yZ at e2 ⊢;show((LI lot (i,j)).bind fun l=>bN l st).bind _=_;unfold LI;rw[e];dsimp only[Option.bind_some];rw[el];exact e2
theorem qc:∀(st:List (Nat×Nat)) {lot:List Row} {a:List Nat} {k:Nat} {r:Row},yZ lot st k=some r->(a++(flat st++[k]),r)∈aM a 0 lot
 | [],lot,a,k,r,e=>ji.mpr ⟨k,r,e,.inl (by rw[Vr];rfl)⟩
 | s::st,lot,a,k,r,e=>by
  unfold yZ at e;obtain⟨l,e1,e2⟩:=bo e;obtain⟨l1,e3,e4⟩:=bo e1;obtain⟨y,e5,e6⟩:=bo e3;refine ji.mpr ⟨s.1,y,e5,.inr ?_⟩;rw[o7];refine pI.mpr ⟨s.2,l1,e6,?_⟩;rw[Vr,Vr];have:=qc st (lot:=l1) (a:=a++[s.1]++[s.2]) (k:=k) (r:=r) (by unfold yZ;rw[e4];exact e2);rw[show a++(flat (s::st)++[k])=a++[s.1]++[s.2]++(flat st++[k]) by show a++([s.1,s.2]++flat st++[k])=_;simp];exact this
theorem z6:∀{st su:List (Nat×Nat)} {j k:Nat},flat st++[j]=flat su++[k]->st=su∧j=k
 | [],[],j,k,e=>by cases e;exact⟨rfl,rfl⟩
 | [],s::su,j,k,e=>by
  have e:[j]=s.1::s.2::(flat su++[k]):=e;cases e
 | s::st,[],j,k,e=>by
  have e:s.1::s.2::(flat st++[j])=[k]:=e;cases e
 | s::st,t::su,j,k,e=>by
  have e:s.1::s.2::(flat st++[j])=t.1::t.2::(flat su++[k]):=e;injection e with e1 e
  injection e with e2 e
  obtain⟨h1,h2⟩:=z6 e;exact⟨by rw[h1,Prod.ext e1 e2],h2⟩
theorem mC{x:Nat×List Nat×Row}:∀{ds:List fD} {k:Nat},x∈placesFrom k ds↔∃i d,ds[i]?=some d∧x.1=k+i∧x.2∈aM [] 0 d.2.2
 | [],k=>by rw[placesFrom];exact⟨fun z=>(nomatch z),fun⟨i,r,z,_⟩=>by simp at z⟩
 | y::l,k=>by
  rw[placesFrom,U5,mC (ds:=l) (k:=k+1),UR];constructor
  ·rintro(⟨z,hz,rfl⟩ |⟨i,r,z,w⟩)
   ·exact⟨0,y,rfl,rfl,hz⟩
   ·exact⟨i+1,r,z,by rw[show k+(i+1)=k+1+i by lia];exact w⟩
  ·rintro⟨i,r,z,w,q⟩;cases i with
   | zero=>cases z;exact .inl ⟨x.2,q,by rw[show k=x.1 by lia]⟩
   | succ i=>exact .inr ⟨i,r,z,by lia,q⟩
noncomputable def pairD(x:Nat×List Nat×Row):D:=.tup [ar x.1,cP x.2.1]
noncomputable def sV(n:Nat):PyData:=.int (n:Int)
noncomputable def j8(a:Nat)(p:List Nat):PyData:=.tuple [sV a,.tuple (p.map sV)]
theorem zh:∀p:List Nat,iA (p.map ar)=some (p.map sV)
 | []=>rfl
 | k::r=>by
  show(qa (ar k)).bind (fun a=>(iA (r.map ar)).map fun bs=>a::bs)=_;rw[zh r];rfl
theorem zj(a:Nat)(p:List Nat):qa (.tup [ar a,cP p])=some (j8 a p):=by
 show((iA [ar a,cP p]).map PyData.tuple)=_;show(((some (sV a)).bind fun a=>(((iA (p.map ar)).map PyData.tuple).bind fun b=>some [b]).map fun b=>a::b).map PyData.tuple)=_;rw[zh];rfl
theorem vp:∀L:List (Nat×List Nat×Row),iA (L.map pairD)=some (L.map fun x=>j8 x.1 x.2.1)
 | []=>rfl
 | x::r=>by
  show(qa (.tup [ar x.1,cP x.2.1])).bind (fun a=>(iA (r.map pairD)).map fun bs=>a::bs)=_;rw[zj,vp r];rfl
theorem tI:∀p:List Nat,PyData.depthAll (p.map sV)=0
 | []=>by simp[PyData.depthAll]
 | k::r=>by rw[Uv,PyData.depthAll,tI r];simp[sV,PyData.depth]
theorem tG(a:Nat)(p:List Nat):(j8 a p).depth=2:=by
 unfold j8;simp only[PyData.depth,PyData.depthAll,tI,sV];rfl
theorem qp:∀L:List (Nat×List Nat×Row),PyData.depthAll (L.map fun x=>j8 x.1 x.2.1)≤2
 | []=>by simp[PyData.depthAll]
 | x::r=>by rw[Uv,PyData.depthAll,tG];have:=qp r;lia
theorem Aa:∀p q:List Nat,PyData.eqvAll (p.map sV) (q.map sV)=decide (p=q)
 | [],[]=>rfl
 | [],_::_=>by simp[PyData.eqvAll]
 | _::_,[]=>by simp[PyData.eqvAll]
 | a::p,b::q=>by
  rw[Uv,Uv,PyData.eqvAll,Aa p q];show(((a:Int)==(b:Int))&&_)=_;rw[Vz,UJ,VO,Vv,Vv,List.cons.injEq];constructor
  ·rintro⟨h1,h2⟩;exact⟨by lia,h2⟩
  ·rintro⟨h1,h2⟩;exact⟨by lia,h2⟩
theorem HU(a b:Nat)(p q:List Nat):PyData.eqv (j8 a p) (j8 b q)=decide (a=b∧p=q):=by
 show(((a:Int)==(b:Int))&&(PyData.eqvAll (p.map sV) (q.map sV)&&true))=_;rw[Aa,Vz,Bool.and_true,UJ,VO,Vv,Vv];constructor
 ·rintro⟨h1,h2⟩;exact⟨by lia,h2⟩
 ·rintro⟨h1,h2⟩;exact⟨by lia,h2⟩
theorem xV{L:List (Nat×List Nat×Row)}{x:Nat×List Nat×Row}(hx:x∈L)(h:MH):∃(j:Nat)(y:Nat×List Nat×Row),nz (.lv (L.map pairD)) [.tup [ar x.1,cP x.2.1]] h=some (ar j,h)∧L[j]?=some y∧y.1=x.1∧y.2.1=x.2.1:=by
 have e0:nz (.lv (L.map pairD)) [.tup [ar x.1,cP x.2.1]] h=((L.findIdx? fun y=>decide (y.1=x.1∧y.2.1=x.2.1)).map fun j:Nat=>(ar j,h)):=by
  show((qa (.tup [ar x.1,cP x.2.1])).bind fun p=>(iA (L.map pairD)).bind fun bs=>if p.depth≤60∧PyData.depthAll bs≤60 then(bs.findIdx? fun b=>PyData.eqv b p).map fun j:Nat=>(D.int (Int.ofNat j),h) else none)=_;rw[zj,vp];show(if(j8 x.1 x.2.1).depth≤60∧PyData.depthAll (L.map fun x=>j8 x.1 x.2.1)≤60 then _ else _)=_;rw[Ut ⟨by rw[tG];decide,UL (qp L) (by decide)⟩,List.findIdx?_map];have:((fun b=>PyData.eqv b (j8 x.1 x.2.1))∘fun y:Nat×List Nat×Row=>j8 y.1 y.2.1)=fun y=>decide (y.1=x.1∧y.2.1=x.2.1):=funext fun y=>HU _ _ _ _;rw[this];rfl
 cases q:L.findIdx? fun y=>decide (y.1=x.1∧y.2.1=x.2.1) with
 | none=>
  rw[Yy] at q;have:=q x hx;simp at this
 | some j=>
  obtain⟨h1,h2,_⟩:=WJ.mp q;have h2:=Vk h2;exact⟨j,L[j],by rw[e0,q];rfl,Um h1,h2.1,h2.2⟩
theorem yY{P:Prog}{S:List Hand}{i:Nat}{f:bQ}{fs:List bQ}{hd:List (List ax)}{h:MH}(fit:O3 P)(e:S[i]?=some (f::fs,hd))(st:jt P f):
  ∃(j:Nat)(y:Nat×List Nat×Row),oy [aw P,aS S,ar i] h=some (ar j,h)∧(placesFrom 0 P.ak)[j]?=some y∧(bu P f=some y.2.2∨bu P f=none∧quiet y.2.2=false):=by
 have ok:=st.ok;obtain⟨d,d1,⟨lot,l1,l2⟩,d3⟩:=st;have hr:=eu d1;have hrow:bu P f=lot[f.k]?:=by unfold bu;rw[hr,l1];rfl
 have hdm:=Ul d1;obtain⟨su,k,r,p1,p2⟩:∃(su:List (Nat×Nat)) (k:Nat) (r:Row),yZ d.2.2 su k=some r∧((bu P f=some r∧dq su k=dq f.rs.reverse f.k)∨(bu P f=none∧quiet r=false∧pR (dq f.rs.reverse f.k) none (some (-2)) h=some (dq su k,h))):=by
  rcases l2 with⟨r,z⟩ |⟨z,s,rs,l,r,q1,q2,q3,q4⟩
  ·exact⟨f.rs.reverse,f.k,r,by unfold yZ;rw[l1];exact z,.inl ⟨by rw[hrow];exact z,rfl⟩⟩
  ·refine⟨rs.reverse,s.1,r,by unfold yZ;rw[q2];exact q3,.inr ⟨by rw[hrow];exact z,?_,?_⟩⟩
   ·cases r <;> first | rfl |(cases q4;done)
   ·rw[q1,UW];exact pb rs.reverse s.1 s.2 f.k _
 have hx:(f.bM,flat su++[k],r)∈placesFrom 0 P.ak:=mC.mpr ⟨f.bM,d,d1,(Vr _).symm,qc su (a:=[]) p1⟩;obtain⟨j,y,i1,i2,i3,i4⟩:=xV hx h;have hy:y.2.2=r:=by
  obtain⟨i',d',g1,g2,g3⟩:=mC.mp (Ul i2);have:i'=f.bM:=by rw[i3] at g2;lia
  subst this;rw[d1] at g1;cases g1;obtain⟨sv,k',e1,e2⟩:=qe 6 (a:=[]) (p:=y.2.1) (r:=y.2.2) (fit.nd d hdm) g3;rw[i4] at e1;obtain⟨rfl,rfl⟩:=z6 (show flat su++[k]=flat sv++[k'] from e1);rw[p1] at e2;exact(Option.some.inj e2).symm
 refine⟨j,y,y4 (aZ ?_),i2,?_⟩
 ·nofun;refine rv (jP e) ?_;rw[fu];nofun;refine⟨true,wC _ _,ff ?_⟩;nofun;refine rv (bO f fs _) ?_;rw[qm f];nofun;refine rv (bO f fs _) ?_;nofun;refine rv (bp ok) ?_;nofun;refine rv (kY _ _) ?_;have tail:∀(δ:DS)(v5:Option D),δ=[some (aw P),some (aS S),some (ar i),some (jk (f::fs)),some (ar f.bM),v5,some (dq su k),none]->Rn (ah (aJ 7 (iB (dE [none,none,none] (iq (ao c7 (ae (ay 0) aP))) (gT 3 (ai (gN 0) (ai (gN 1) (ai (gN 2) bA)))) bU (ao aD (ae (ay 0) (ae (ay 1) aP))))))
  (aG (eM cR nz (ay 7) (ae (ao aD (ae (ay 4) (ae (ay 6) aP))) aP))) δ h) (Bc fun p=>p=(ar j,h)):=by
   rintro δ v5 rfl;nofun;refine eV ?_;nofun;refine rv (qb fit h) ?_;refine⟨_,_,rfl,?_⟩;refine rv (yd rfl i8 pairD (fun δ=>∃a b c,δ=[a,b,c]) (placesFrom 0 P.ak) ⟨_,_,_,rfl⟩ ?_) ⟨?_,?_⟩
   ·rintro x hx δ ⟨a,b,c,rfl⟩;unfold i8;nofun;refine⟨rfl,⟨_,_,_,rfl⟩,?_⟩;nofun;rfl
   ·dsimp only;rw[Uh,eA,show sizeLine=16777216 from rfl];have:=fit.ct
    lia
   ·nofun;refine m9 ?_;nofun;refine⟨rfl,?_⟩;nofun;exact rv i1 rfl
  rcases p2 with⟨er,ep⟩ |⟨er,_,ep⟩
  ·rw[er];refine⟨false,rfl,ff ?_⟩;walk_at "o";walk_at "o";exact tail _ _ (by rw[ep];rfl)
  ·rw[er];refine⟨true,rfl,tt ?_⟩;refine GF (xp ?_);nofun;refine⟨_,rfl,rv ep ?_⟩;walk_at "o";exact tail _ _ rfl
 ·rcases p2 with⟨er,_⟩ |⟨er,hq,_⟩
  ·exact .inl (by rw[hy];exact er)
  ·exact .inr ⟨er,by rw[hy];exact hq⟩
theorem uP{P:Prog}{S:List Hand}{i:Nat}{f:bQ}{fs:List bQ}{hd:List (List ax)}{h:MH}(fit:O3 P)(e:S[i]?=some (f::fs,hd))(st:jt P f):
  ∃b,cH [aw P,aS S,ar i] h=some (.bl b,h)∧(b=true->∃r,bu P f=some r∧quiet r=true):=by
 obtain⟨j,y,e1,e2,e3⟩:=yY (h:=h) fit e st;refine⟨quiet y.2.2,y4 (aZ ?_),fun q=>?_⟩
 ·nofun;refine rv e1 ?_;nofun;refine rv (a:=(.bl true,h)) rfl ⟨true,rfl,tt ?_⟩;nofun;refine rv (Eb fit h) ?_;nofun;refine rv (bP (d:=rowAt y) (by rw[Ux,e2];rfl)) ?_;unfold rowAt;nofun;refine rv (bW _ _) ?_;nofun;refine rv (a:=(.bl (quiet y.2.2),h)) (by cases y.2.2 <;> ac_nf) ?_;rfl
 ·rcases e3 with e3 |⟨_,e3⟩
  ·exact⟨_,e3,q⟩
  ·rw[q] at e3;cases e3
noncomputable def OV(p:Str×List Int):D:=.tup [.str p.1,.tup (p.2.map D.int)]
def Lg(P:Prog)(t:Cm):Prop:=∀p∈t,∃d∈P.ak,d.1=p.1∧d.2.1.length=p.2.length
theorem LM(n:Nat):∀t:Cm,dH n (t.map OV)=true
 | []=>rfl
 | p::t=>by
  show((true&&(dH n (p.2.map D.int)&&true))&&dH n (t.map OV))=true;rw[yh,LM n t];rfl
theorem Iq{h h0:MH}{s c R:Nat}{cs:List Int}{P:Prog}{most:Int}{Q:D×MH->Prop}(dr:Dr P)(A:Sb s c cs h0 (R+30) h)(C:Cl h)(m0:0 < most)(m1:most≤3)(k:∀(t:Cm)(h1:MH),Lg P t->t.length≤3->Sb s c cs h0 R h1->Cl h1->Q (Lq t,h1)):Rn (fB [.ob s,aw P,.int most] h) Q:=by
 obtain⟨hs,hcl⟩:=A.S.lt;have h6:=dr.six;have hpos:=dr.pos;refine m8 ?_;nofun;refine gx ?_;nofun;refine eG (R:=R+29) (A.S.more [.lst []]).sb m0 (by lia) fun r h1 r0 r1 A1=>?_;obtain⟨hb1,rfl,b1⟩:=A1.b.app hs;have S1:=A1.S.cut (by rw[b1.1];exact hs) (by rw[b1.1];exact hcl);nofun;refine⟨1+r,rfl,by lia,by lia,?_⟩;refine dO (fun i δ h'=>∃(t:Cm)(v4 v5 v6 v7 v8:Option D)(hb:MH),δ=[some (.ob s),some (aw P),some (.int most),some (.ob h.length),v4,v5,v6,v7,v8]∧h'=hb++[.lst (t.map OV)]∧t.length=i∧Lg P t∧Sb s c cs h (R+29-5*i) hb)
  ⟨[],_,_,_,_,_,hb1,rfl,rfl,rfl,fun _ z=>(nomatch z),⟨S1,b1⟩⟩ (fun _ _ _ _ _=>rfl) ?_ ?_
 ·rintro i x δ h' hx ⟨t,v4,v5,v6,v7,v8,hb,rfl,rfl,hl,tk,B⟩;have hi:i < 3:=by
   have:=(Ui.mp hx).1;rw[Uh,UI] at this
   lia
  have hbs:s < hb.length:=by rw[B.b.1];exact hs
  have hbc:c < hb.length:=by rw[B.b.1];exact hcl
  nofun;refine rv (a:=(.tup (P.ak.map gI),_)) rfl ?_;nofun;refine Cc (R:=R+28-5*i) ((B.S.more [.lst (t.map OV)]).le (by lia)).sb (.inr rfl) (by rw[Uh];exact hpos) (by rw[Uh];lia) fun x h2 hx2 A2=>?_;obtain⟨d,hd,rfl⟩:=UR.mp hx2;obtain⟨jd,hjd⟩:=VD.mp hd;have hd3:=dr.par hjd;unfold gI;nofun;refine eG (R:=R+27-5*i) (A2.le (by lia)) (by decide) (by decide) fun far h3 f0 f1 A3=>?_;nofun;obtain⟨hb3,rfl,b3⟩:=A3.b.app hbs;have hl3:hb3.length=h.length:=b3.1.trans B.b.1;refine m9 ?_;nofun;refine⟨cc (nF hl3),?_⟩;nofun;refine eV ?_;nofun;refine⟨_,_,rfl,?_⟩;obtain⟨⟨ys,h4⟩,e4,a4,δ4,_,A4⟩:=ng (ws:=[]) (g:=gN 0) (e:=ao aB (ae (ay 2) (ae (iB (ae (jG cS (eK (.int 2))) (ae (jG cS (eK (.int 1))) (ae (eK (.int 0)) (ae (eK (.int 0)) (ae (eK (.int 1)) (ae (eK (.int 1)) (ae (eK (.int 2)) (ae (eK (.int 3)) (ae (ay 1) aP)))))))))) aP))) (fun _ y=>∃i,y=.int i∧True)
   (xs:=d.2.1.map D.str) (δ:=[none,some (.int (far-99)),some (.ob s)]) (h:=hb3++[.lst (t.map OV)]) (fun j δ h'=>(∃d0,δ=[d0,some (.int (far-99)),some (.ob s)])∧Sb s c cs (hb++[.lst (t.map OV)]) (R+27-5*i-j) h') ⟨⟨_,rfl⟩,A3⟩ (fun _ _ _ _ _=>rfl) (by
    rintro j x δ h' hx ⟨⟨d0,rfl⟩,A4⟩;have hj:j < 3:=by
     have:=(Ui.mp hx).1;rw[Uh] at this
     lia
    nofun;exact jA (R:=R+27-5*i-(j+1)) (is:=[-2,-1,0,0,1,1,2,3,far-99]) (fun _=>True) (fun _ _=>trivial) (A4.le (by lia)) fun i h7 _ _ A7=>⟨⟨i,rfl,trivial⟩,⟨_,rfl⟩,A7⟩)
  have l4:=a4.length;obtain⟨js,rfl,_⟩:=rq (P:=fun _=>True) fun y hy=>(let⟨_,_,r⟩:=a4.right y hy;r);dsimp only at l4;rw[Uh,Uh] at l4;rw[Uh] at A4;refine rv e4 ⟨by dsimp only;rw[Uh,show sizeLine=16777216 from rfl];lia,?_⟩;obtain⟨hb4,rfl,b4⟩:=A4.b.app hbs;have hl4:hb4.length=h.length:=b4.1.trans B.b.1;have S4:=A4.S.cut (by rw[b4.1];exact hbs) (by rw[b4.1];exact hbc);nofun;refine rv (a:=(.tup (js.map D.int),_)) rfl ?_;nofun;refine rv (cA (nF hl4) (by rw[Uh,show sizeLine=16777216 from rfl];lia)) ?_;rw[Jp hl4];nofun;refine⟨t++[(d.1,js)],_,_,_,_,_,hb4,rfl,by rw[UH];rfl,by rw[Uy,hl];rfl,fun p hp=>?_,⟨S4.le (by lia),B.b.trans b4⟩⟩;rcases U5.mp hp with z | z
  ·exact tk p z
  ·rw[UC.mp z];exact⟨d,hd,rfl,l4.symm⟩
 ·rintro δ h' ⟨t,v4,v5,v6,v7,v8,hb,rfl,rfl,hl,tk,B⟩;rw[Uh,UI] at hl B;have hl3:t.length≤3:=by lia
  have hlb:=B.b.1;have Cb:=C.but B.S B.b;nofun;refine rv (k5 (nF hlb)) ?_;exact rv (nC hlb Cb (fun n z=>(nomatch z)) (LM _ t)) (k t hb tk hl3 ⟨B.S.le (by lia),A.b.trans B.b⟩ Cb)
theorem Iz{P:Prog}(dr:Dr P){t:Cm}(tk:Lg P t)(hl:t.length≤10):(∀h,lh [aw P,Lq t] h=some (aS (t.map (Fu P (qR P))),h))∧Lh P 0 (t.map (Fu P (qR P))):=by
 have hd:∀p∈t,∃d,P.ak[qR P p.1]?=some d∧d.1=p.1∧d.2.1.length=p.2.length:=fun p hp=>by
  obtain⟨d,hd,e1,e2⟩:=tk p hp;obtain⟨j,hj⟩:=VD.mp hd;exact⟨d,by rw[←e1,dr.num hj];exact hj,e1,e2⟩
 refine⟨fun h=>Ce dr.nd (by have:=dr.six;lia) (by lia) fun p hp=>?_,fun x hx=>?_,by rw[Uh];exact hl⟩
 ·obtain⟨d,e1,e2,_⟩:=hd p hp;rw[Ux,e1,←e2];rfl
 ·obtain⟨p,hp,rfl⟩:=UR.mp hx;obtain⟨d,e1,e2,e3⟩:=hd p hp;have fo:∀g∈[({bM:=qR P p.1,nums:=p.2,rs:=[],k:=0}:bQ)],eN P g:=fun g hg=>by
   rw[UC.mp hg];exact⟨d,d.2.2,e1,rfl,Va _⟩
  have fn:∀g∈[({bM:=qR P p.1,nums:=p.2,rs:=[],k:=0}:bQ)],Fy P 0 g:=fun g hg=>by
   rw[UC.mp hg];exact⟨by rw[xw e1,e3];exact Us _,Us _⟩
  obtain⟨s1,s2⟩:=Di fo;exact⟨s1,Dj fo fn,s2,Us _,(zX fo).trans rfl⟩
theorem Ud(cs:List Int):Cl [.lst (cs.map D.int),.lst [.int 0,.ob 0,.int 0]]:=by
 intro o ho;rcases UE.mp ho with rfl | ho
 ·exact fe _ D.int (fun _=>rfl) _
 ·rw[UC.mp ho];rfl
theorem HJ(a b:Nat)(h:MH):lu (ar a) (ar b) h=some (.bl (!((a:Int)==(b:Int))),h):=rfl
section
variable {P:Prog} (dr:Dr P) {n:Nat} {S:List Hand} (s:Lh P n S) (hn:n≤800) {a b:Nat×Nat} (ha:a∈BH P S) (hb:b∈BH P S)
include dr s hn ha hb
theorem asked{v0 v1 v2 v4 v6 v7 v10 v11:Option D}{h:MH}:Rn ((fw (lj (aA (aj lu (aj aE (ay 8) (eK (.int 0))) (aj aE (ay 9) (eK (.int 0))))) (ia (ao cH (ae (ay 3) (ae (ay 5) (ae (aj aE (ay 8) (eK (.int 0))) aP)))))) (ah (wZ 10 11 (ae (ao dc (ae (ay 3) (ae (ay 5) (ae (ay 8) (ae (ay 9) aP))))) (ae (ao dc (ae (ay 3) (ae (ay 5) (ae (ay 9) (ae (ay 8) aP))))) aP)))
  (fw (Cu (aA (aj nP (ay 10) (eK .bz))) (Cu (aA (aj nP (ay 11) (eK .bz))) (aA (aj lu (ay 10) (ao aD (ae (aj aE (ay 11) (eK (.int 0))) (ae (Dv (aj aE (ay 11) (eK (.int 1))) (jG cS (eK (.int 1)))) aP))))))) (aG (eK (.bl false))) bG)) bG) [v0,v1,v2,some (aw P),v4,some (aS S),v6,v7,some (iH a),some (iH b),v10,v11] h) fun q=>∃w10 w11,q=(Fl.nx,[v0,v1,v2,some (aw P),v4,some (aS S),v6,v7,some (iH a),some (iH b),w10,w11],h):=by
 obtain⟨x,ex,cx⟩:=ny.mp ha;obtain⟨y,ey,cy⟩:=ny.mp hb;nofun;refine rv (a:=(ar a.1,h)) (bP (i:=0) rfl) ?_;nofun;refine rv (a:=(ar b.1,h)) (bP (i:=0) rfl) ?_;nofun;refine rv (HJ _ _ _) ⟨_,rfl,fun c=>?_,fun c=>?_⟩
 ·have hab:a.1≠b.1:=fun z=>by rw[z] at c;simp at c
  obtain⟨fs,hd⟩:=x;cases fs with
  | nil=>cases cx
  | cons f fs=>
   have hx:=s.h _ (Ul ex);obtain⟨q,eq,hq⟩:=uP (h:=h) dr.fit ex hx.fr.1;nofun;refine rv (a:=(ar a.1,h)) (bP (i:=0) rfl) ?_;nofun;refine rv eq ?_;refine⟨q,rfl,fun z=>?_,fun z=>?_⟩
   ·obtain⟨r,er,qr⟩:=hq z;obtain⟨⟨g1,g2⟩,⟨g3,g4⟩,g5⟩:=HR hab ex ey er qr cx cy;obtain⟨t1,s1⟩:=s.step dr (by lia) ex cx;obtain⟨t2,s2⟩:=s.step dr (by lia) ey cy;obtain⟨t3,_⟩:=s1.step dr (by lia) g1 g2;obtain⟨t4,_⟩:=s2.step dr (by lia) g3 g4;rw[←g5] at t4;have e1:=wa (h:=h) t1 (s1.moves dr (by lia)) (ny.mpr ⟨y,g1,g2⟩) t3;have e2:=wa (h:=h) t2 (s2.moves dr (by lia)) (ny.mpr ⟨_,g3,g4⟩) t4;nofun;refine rv e1 ?_;nofun;refine rv e2 ?_;nofun;refine⟨_,_,rfl,?_⟩;nofun;refine rv (a:=(.bl false,h)) rfl ⟨false,rfl,ff ?_⟩;nofun;refine rv (a:=(.bl false,h)) rfl ⟨false,rfl,ff ?_⟩;nofun;refine Jy ?_;nofun;refine⟨rfl,_,_,rfl,?_⟩;nofun;refine rv (E7 (Dp.tup (n:=63) (jH.cons ((Dp.TY _).up (by decide)) (jH.cons ((Dp.lv (n:=1) (jH.cons (Dp.ev _ _) (jH.cons (Dp.ev _ _) jH.nil))).up (by decide)) jH.nil)))) ⟨false,rfl,ff ?_⟩;nofun;exact⟨_,_,rfl⟩
   ·nofun;exact⟨_,_,rfl⟩
 ·exact ff (rv rfl ⟨_,_,rfl⟩)
end
theorem law_true(ns:List Int)(hn:ns.length≤63):∃h',DQ [.ro (ns.map D.int)] []=some (.bl true,h'):=by
 have e:Rn (DQ [.ro (ns.map D.int)] []) fun p=>p.1=.bl true:=by
  obtain⟨cs,ed,S0⟩:=B1 ns hn 90000 (by decide);refine aZ ?_;nofun;refine rv ed ?_;nofun;refine gx ?_;nofun;refine rv (a:=(.int (ns.length:Int),_)) (by show some (D.int ((ns.map D.int).length:Int),_)=_;rw[Uh]) ?_;nofun;refine rv (Dq _ _ _) ?_;nofun;refine rv (k6 _ _ _) ?_;nofun;refine⟨_,rfl,by lia,by lia,?_⟩;refine dO (fun i δ h=>∃(v2 v3 v4 v5 v6 v7 v8 v9 v10 v11:Option D),δ=[some (.ro (ns.map D.int)),some (.ob 1),v2,v3,v4,v5,v6,v7,v8,v9,v10,v11]∧St 1 0 cs (90000-10000*i) h∧Cl h)
   ⟨_,_,_,_,_,_,_,_,_,_,rfl,S0,Ud cs⟩ (fun _ _ _ _ _=>rfl) ?_ ?_
  ·rintro i x δ h hx ⟨v2,v3,v4,v5,v6,v7,v8,v9,v10,v11,rfl,S,C⟩;have hi:i < 6:=by
    have:=(Ui.mp hx).1;rw[Uh,UI] at this
    lia
   nofun;refine jA (R:=90000-10000*(i+1)+9000) (is:=[6,15,25,40]) (fun i=>0≤i∧i≤40) (by decide) ((S.le (by lia)).sb) fun most h1 hm _ A1=>?_;nofun;refine jA (R:=90000-10000*(i+1)+8000) (is:=[0,4,12]) (fun i=>0≤i∧i≤12) (by decide) (A1.le (by lia)) fun odd h2 ho _ A2=>?_;nofun;obtain⟨most,rfl⟩:=VX hm.1;have hmm:most≤40:=by lia
   refine Fp (R:=90000-10000*(i+1)+1000) (A2.le (by lia)) (C.but A2.S A2.b) ho.1 (by lia) fun W fl P h3 ok okp A3 C3=>?_;have dr:Dr P:=⟨W,fl,odd,ok,okp.nm,okp.dl,okp.dd,UL okp.ct (by lia)⟩;clear ok okp;nofun;refine Iq (R:=90000-10000*(i+1)+900) dr (A3.le (by lia)) C3 (by decide) (by decide) fun t1 h4 tk1 tl1 A4 C4=>?_;nofun;refine Iq (R:=90000-10000*(i+1)+800) dr (A4.le (by lia)) C4 (by decide) (by decide) fun t2 h5 tk2 tl2 A5 C5=>?_;nofun;refine rv (a:=(Lq (t1++t2),h5)) (by unfold Lq;rw[UH];exact dS (by rw[Uh,Uh];lia)) ?_;have tk:Lg P (t1++t2):=fun p hp=>(U5.mp hp).elim (tk1 p) (tk2 p);obtain⟨eb,s0⟩:=Iz dr tk (by rw[Uy];lia);generalize t1++t2=t at eb s0;generalize t.map (Fu P (qR P))=S0' at eb s0;nofun;refine rv (eb _) ?_;nofun;refine gx ?_;nofun;refine jA (R:=90000-10000*(i+1)+700) (is:=[10,40]) (fun i=>0≤i∧i≤40) (by decide) (A5.le (by lia)) fun turns h6 ht _ A6=>?_;have C6:Cl h6:=C.but A6.S A6.b;nofun;refine⟨turns,rfl,by lia,by lia,?_⟩;refine dO (fun j δ h'=>∃(S:List Hand)(v6 v7 v8 v9 v10 v11:Option D),δ=[some (.ro (ns.map D.int)),some (.ob 1),some x,some (aw P),some (Lq t),some (aS S),v6,v7,v8,v9,v10,v11]∧Lh P j S∧St 1 0 cs (90000-10000*(i+1)+700-2*j) h'∧Cl h')
    ⟨S0',_,_,_,_,_,_,rfl,s0,A6.S,C6⟩ (fun _ _ _ _ _=>rfl) ?_ ?_
   ·rintro j z δ h' hz ⟨S,w6,w7,w8,w9,w10,w11,rfl,s,St',C'⟩;have hj:j < 40:=by
     have:=(Ui.mp hz).1;rw[Uh,UI] at this
     lia
    nofun;refine rv (s.moves dr (by lia) _) ?_;nofun;refine rv (a:=(.bl ((BH P S).map iH).isEmpty,h')) rfl ⟨_,rfl,fun c=>?_,fun c=>?_⟩
    ·nofun;exact⟨_,_,_,_,_,_,_,_,_,_,rfl,St'.le (by lia),C'⟩
    ·have hpos:0 < ((BH P S).map iH).length:=by
      cases q:(BH P S).map iH with
      | nil=>rw[q] at c;cases c
      | cons _ _=>exact W3 _
     have hlm:((BH P S).map iH).length≤1000000:=by
      have h1:∀l:List Nat,(l.flatMap (Kl P S)).length≤2*l.length:=fun l=>by
       induction l with
       | nil=>exact Va _
       | cons k l ih=>
        rw[Zq,Uy,Uw];have:(Kl P S k).length≤2:=by
         unfold Kl;rw[Uh];cases S[k]? with
         | none=>exact Va _
         | some x=>exact DE P S x
        lia
      have h2:=h1 (List.range S.length);rw[UI] at h2;have h3:=s.l;rw[Uh];unfold BH
      lia
     nofun;refine Cc (R:=90000-10000*(i+1)+699-2*j) ((St'.le (by lia)).sb) (.inr rfl) hpos hlm fun d1 h7 hd1 A7=>?_;obtain⟨a,ha,rfl⟩:=UR.mp hd1;nofun;refine Cc (R:=90000-10000*(i+1)+698-2*j) (A7.le (by lia)) (.inr rfl) hpos hlm fun d2 h8 hd2 A8=>?_;obtain⟨b,hb,rfl⟩:=UR.mp hd2;nofun;refine⟨_,_,rfl,?_⟩;obtain⟨x1,ex,cx⟩:=ny.mp ha;obtain⟨t1',s1⟩:=s.step dr (by lia) ex cx;refine FN (lH ?_);refine(asked dr s (by lia) ha hb).imp ?_;rintro _ ⟨u10,u11,rfl⟩;nofun;refine rv (t1' _) ?_;nofun;exact⟨_,_,_,_,_,_,_,rfl,s1,A8.S.le (by lia),C'.but A8.S A8.b⟩
   ·rintro δ h' ⟨S,w6,w7,w8,w9,w10,w11,rfl,s,St',C'⟩;rw[Uh,UI] at St';exact⟨_,_,_,_,_,_,_,_,_,_,rfl,St'.le (by lia),C'⟩
  ·rintro δ h ⟨v2,v3,v4,v5,v6,v7,v8,v9,v10,v11,rfl,S,C⟩;nofun
 obtain⟨⟨_,h'⟩,e1,rfl⟩:=e;exact⟨h',e1⟩
end Mi
open PySem PySem.W PyProof.Rows
theorem Mi.Sy:defOf Mi.view "law"=some (Hd.vn "law" Mi.p7,[]):=by ac_nf
theorem Mi.hp:PySem.Program.theDef Mi.pw "law"=some (L2.nV Mi.p7,L2.g0 Mi.p7,L2.ag Mi.p7):=by ac_nf
theorem PySem.Challenge.cw_neverstuck_k26_whole_quiet_moves_exchang_holds : PySem.Challenge.rw_neverstuck_k26_whole_quiet_moves_exchang.Holds := by
 refine holds_law Mi.Ms fun Ms=>?_;refine PySem.W.holds_open (q:=Mi.view) (loose:=["SHAPES"]) (Xt:=Mi.Xt) (XP:=XL Mi.view []) (Yf:=Mi.Yf) (Ya:=Mi.ya) (YP:=fun w h=>Hd.tabAt h "SHAPES"=Mi.ya w) (N:=20000) (d:=Hd.vn "law" Mi.p7) (kwd:=[]) Mi.left (fun _ _ e=>e) (fun _ _ _ y k=>Hd.AH k y) (fun s e=>xl_of s (UP.mp e).1) XL.keeps Mi.Sy Mi.hp (by ac_nf) (fun s e=>recFacts_of (UP.mp e).2) (by ac_nf) Ms (by decide+kernel) ⟨rfl,rfl,rfl,rfl,rfl,by decide+kernel⟩ (by w_witness2) ?_;exact Hd.NV (k:=28) (by ac_nf) (by ac_nf) ⟨rfl,by decide,by decide⟩ fun w s₀ mg mb h G Y=>Mi.all_mk G.T Y Mi.law_true
