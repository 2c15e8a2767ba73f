import PyProof.Rows.All
import Wide.All
import OpenK.AllK
import Wide.FinOn
import Lean
import PyProof.EqAt
import PyProof.EqKinds
import PyProof.TupleCall
import PyProof.AttrMissHeap
import KE.KDictOf
import PyProof.ConsumeWalk
import PyProof.ZipIter
import PyProof.EnumMake
import KE.KEqDict
import KE.KDictList
import KE.KDictSum
import KE.KItemsList
import KE.KSortTup
import PyProof.CallStr
import PyProof.CollectIter
import PyProof.DictFindH
import PyProof.DictRoadsH
import PyProof.FString
import PyProof.FString5
import PyProof.FactsAll.tuple_2
import PyProof.FactsAll.zip_1
import PyProof.ListMulRoad
import PyProof.ListRange
import PyProof.MeetsStr
import PyProof.NeKinds
import PyProof.P3Eq
import PyProof.Rows.Range3
import PyProof.Rows.ReprOcc
import PyProof.Rows.RuleDivmod
import PyProof.Rows.SortShell
import PyProof.Rows.StrWeight2
import PyProof.StrCalls2
import PyProof.StrCalls5
import PyProof.StrWalks
import PyProof.WalksMore
import PySem.Challenge.RW_neverstuck_k16_begun_scenes
set_option Elab.async false
set_option linter.all false
set_option maxRecDepth 100000
set_option maxHeartbeats 4000000
set_option compiler.small 0
set_option compiler.extract_closed false
set_option compiler.reuse false
noncomputable section
local macro_rules | `(∅) => `(by ac_rfl)
local macro_rules | `(tactic| ac_nf) => `(tactic| kernel_rfl)
local macro_rules | `(tactic| nofun) => `(tactic| walk_at "r")
abbrev Vx:=@PySem.wpAny_bind
abbrev Vy:=@List.length_map
abbrev Vz:=@List.getElem?_eq_some_iff
abbrev VA:=@PySem.wpAny_pure
abbrev VB:=@PySem.Heap.get?_push_of_some
abbrev VC:=@List.mem_of_getElem?
abbrev VD:=@List.mem_cons_of_mem
abbrev VE:=@if_pos
abbrev VF:=@List.mem_cons_self
abbrev VG:=@Nat.le_refl
abbrev VH:=@if_neg
abbrev VI:=@List.getElem?_eq_getElem
abbrev VJ:=@Nat.le_trans
abbrev VL:=@List.map_cons
abbrev VM:=@List.length_append
abbrev VN:=@List.getElem?_map
abbrev VO:=@Option.bind_some
abbrev VP:=@PySem.Heap.lt_size
abbrev VQ:=@List.mem_singleton
abbrev VR:=@PySem.Heap.get?_push_size
abbrev VS:=@List.mem_cons
abbrev VT:=@List.map_append
abbrev VU:=@List.length_cons
abbrev VW:=@List.getElem?_append_left
abbrev VX:=@Nat.lt_of_lt_of_le
abbrev VY:=@List.getElem?_append_right
abbrev VZ:=@List.size_toArray
abbrev V0:=@Bool.false_eq_true
abbrev V1:=@Bool.and_eq_true
abbrev V2:=@List.length_range
abbrev V3:=@Bool.and_eq_true_iff
abbrev V4:=@List.length_take
abbrev V5:=@decide_eq_false
abbrev V6:=@Nat.ne_of_lt
abbrev V7:=@List.mem_map
abbrev V8:=@Bool.false_ne_true
abbrev V9:=@Nat.le_add_right
abbrev Wa:=@decide_eq_true
abbrev Wc:=@Int.toNat_natCast
abbrev We:=@Array.getElem?_eq_getElem
abbrev Wf:=@List.mem_append_right
abbrev Wg:=@List.append_assoc
abbrev Wh:=@PySem.wpAny_holding
abbrev Wi:=@List.reverse_cons
abbrev Wj:=@PySem.wpAny_call_entry
abbrev Wk:=@List.mem_append
abbrev Wl:=@List.append_nil
abbrev Wm:=@Nat.zero_le
abbrev Wn:=@List.getElem?_set_ne
abbrev Wo:=@PySem.wpAny_callSpecial?_slot
abbrev Wq:=@List.take_length
abbrev Wr:=@Nat.lt_of_le_of_lt
abbrev Ws:=@PySem.wpAny_newObj_type
abbrev Wt:=@Option.map_some
abbrev Wu:=@List.getElem?_eq_none
abbrev Wv:=@PySem.wpAny_field
abbrev Ww:=@List.getElem?_take_of_lt
abbrev Wx:=@PySem.PassesOwn.never
abbrev Wy:=@List.getElem?_set_self
abbrev Wz:=@decide_eq_true_eq
abbrev WA:=@List.length_reverse
abbrev WB:=@Option.map_eq_some_iff
abbrev WC:=@PyProof.Rows.callWith_type1
abbrev WD:=@Nat.le_of_lt
abbrev WE:=@List.lookup_cons
abbrev WG:=@Nat.zero_add
abbrev WH:=@PySem.F.plainAttrs_list
abbrev WI:=@Nat.lt_irrefl
abbrev WJ:=@Nat.not_lt_zero
abbrev WK:=@if_false
abbrev WL:=@PySem.wpAny_mono
abbrev WM:=@PySem.wpAny_seqItems
abbrev WN:=@List.mem_iff_getElem?
abbrev WO:=@Ne.symm
abbrev WQ:=@List.find?_cons
abbrev WR:=@Nat.le_of_not_lt
abbrev WS:=@List.getElem?_cons_succ
abbrev WT:=@of_decide_eq_true
abbrev WU:=@Nat.le_of_lt_succ
abbrev WV:=@PySem.Heap.size_push
abbrev WW:=@PyProof.Rows.slot_tuple_getitem
abbrev WX:=@PySem.Around.under_plainId
abbrev WY:=@List.mem_range
abbrev WZ:=@List.length_nil
abbrev W0:=@List.take_succ
abbrev W2:=@PySem.W.kia_one
abbrev W3:=@Nat.lt_succ_self
abbrev W4:=@Int.le_trans
abbrev W6:=@Nat.le_succ_of_le
abbrev W7:=@Array.getElem?_toList
abbrev W8:=@Bool.not_true
abbrev W9:=@Int.emod_nonneg
abbrev Xa:=@Bool.eq_iff_iff
abbrev Xb:=@decide_eq_true_iff
abbrev Xc:=@PySem.Heap.get?_update_self
abbrev Xd:=@List.all_eq_true
abbrev Xe:=@PySem.wpAny_rule
abbrev Xf:=@bne_self_eq_false
abbrev Xg:=@PySem.wpAny_isInstance
abbrev Xh:=@PySem.sizeLine_eq
abbrev Xi:=@List.getD_eq_getElem?_getD
abbrev Xj:=@PySem.mem_of_lookup
abbrev Xk:=@List.filterMap_cons
abbrev Xl:=@Bool.or_eq_true
abbrev Xm:=@PySem.wpAny_standAt
abbrev Xn:=@List.getElem?_eq_none_iff
abbrev Xo:=@Classical.byContradiction
abbrev Xp:=@PySem.wpAny_setState_of
abbrev Xq:=@PySem.F.slot_tuple_hash
abbrev Xr:=@List.take_append_drop
abbrev Xs:=@beq_iff_eq
abbrev Xu:=@Nat.succ_le_succ
abbrev Xv:=@Int.emod_lt_of_pos
abbrev Xw:=@PySem.codeAny_builtin
abbrev Xx:=@Array.mem_toList_iff
abbrev Xy:=@Int.eq_ofNat_of_zero_le
abbrev Xz:=@List.length_set
abbrev XA:=@List.replicate_succ
abbrev XB:=@List.any_cons
abbrev XC:=@PySem.wpAny_specialOf
abbrev XD:=@PySem.F.slot_dict_keyiterator_next
abbrev XE:=@Int.lt_of_le_of_lt
abbrev XF:=@Array.forIn_toList
abbrev XG:=@List.set_append_right
abbrev XH:=@PySem.Heap.get?_update_other
abbrev XI:=@PySem.wpAny_attempt
abbrev XJ:=@List.nodup_cons
abbrev XM:=@PySem.wpAny_Call_Name_kw
abbrev XN:=@Nat.le_of_succ_le
abbrev XO:=@List.map_map
abbrev XQ:=@Nat.add_assoc
abbrev XR:=@PySem.F.slot_zip_next
abbrev XS:=@List.getElem?_range
abbrev XT:=@Array.length_toList
abbrev XU:=@beq_self_eq_true
abbrev XW:=@PySem.wpAny_truthy_bool
abbrev XX:=@PySem.plainId_quiet
abbrev XY:=@PySem.F.slot_list_append
abbrev XZ:=@Option.toList_some
abbrev X0:=@Nat.sub_self
abbrev X1:=@Nat.ne_of_gt
abbrev X2:=@Nat.lt_or_ge
abbrev X3:=@List.pairwise_cons
abbrev X4:=@List.length_eq_one_iff
abbrev X5:=@PySem.wpAny_askSetting
abbrev X6:=@PySem.isSubtype_stop
abbrev X7:=@Nat.min_eq_left
abbrev X8:=@List.all_cons
abbrev X9:=@PySem.F.slot_dict_get
abbrev Yb:=@PySem.wpAny_typeNameOfWhole_keyiter
abbrev Yc:=@List.flatten_cons
abbrev Yd:=@PySem.tupleKind_room_in1
abbrev Ye:=@PySem.Obj.data_mapFields
abbrev Yg:=@PySem.wpAny_passesOwn
abbrev Yh:=@Array.getElem?_eq_some_iff
abbrev Yi:=@if_true
abbrev Yj:=@PySem.F.slot_enumerate_next
abbrev Yk:=@Nat.succ_pos
abbrev Yl:=@List.map_nil
abbrev Ym:=@List.length_drop
abbrev Yn:=@List.cons_append
abbrev Yo:=@Int.ofNat_lt
abbrev Yp:=@List.drop_eq_getElem_cons
abbrev Yq:=@Nat.add_le_add_left
abbrev Yr:=@PySem.F.type_list_append
abbrev Ys:=@PySem.F.slot_tuple_iterator_next
abbrev Yt:=@PySem.wpAny_typeOf
abbrev Yu:=@PySem.wpAny_forIn_list
abbrev Yv:=@PySem.Str.length_append
abbrev Yw:=@PySem.F.slot_list_index
abbrev Yx:=@Nat.le_succ
abbrev Yy:=@Nat.add_sub_cancel_left
abbrev Yz:=@PySem.Heap.SameBut.update
abbrev YA:=@PySem.F.slot_list_extend
abbrev YB:=@PySem.F.entry_dict_get
abbrev YC:=@List.take_of_length_le
abbrev YD:=@List.set_set
abbrev YE:=@List.ext_getElem?
abbrev YF:=@PySem.wpAny_pyIter_tuple
abbrev YG:=@PySem.wpAny_getItem_str_slice
abbrev YH:=@List.length_singleton
abbrev YI:=@List.getElem_mem
abbrev YJ:=@List.any_eq_true
abbrev YK:=@Array.toList_inj
abbrev YL:=@PySem.wpAny_pyIter_list
abbrev YM:=@List.take_append_of_le_length
abbrev YN:=@List.forIn_cons
abbrev YO:=@PySem.hashByValue_scannable
abbrev YQ:=@Int.toNat_of_nonneg
abbrev YR:=@PySem.Around.in1_units
abbrev YS:=@Nat.lt_trans
abbrev YT:=@Nat.lt_of_le_of_ne
abbrev YU:=@List.mem_filterMap
abbrev YV:=@List.filterMap_map
abbrev YW:=@PySem.F.slot_dict_getitem
abbrev YX:=@List.findIdx?_eq_none_iff
abbrev YY:=@PySem.F.plain_extend_loop
abbrev YZ:=@List.pairwise_map
abbrev Y0:=@List.nodup_append
abbrev Y1:=@PySem.F.type_list_extend
abbrev Y2:=@PySem.F.args_tuple_add_2
abbrev Y3:=@Option.isSome_iff_exists
abbrev Y4:=@List.length_filterMap_le
abbrev Y5:=@List.Perm.eq_of_pairwise
abbrev Y6:=@PySem.wpAny_setField
abbrev Y7:=@PySem.wpAny_newTuple
abbrev Y8:=@PySem.call_meets
abbrev Y9:=@PySem.F.type_list_index
abbrev Za:=@PySem.F.entry_tuple_add
abbrev Zb:=@Option.bind_eq_some_iff
abbrev Zc:=@List.isEmpty_nil
abbrev Zd:=@List.filter_cons
abbrev Ze:=@PySem.SeqAt.eqAt_reads
abbrev Zf:=@PySem.F.slot_tuple_add
abbrev Zg:=@Nat.add_comm
abbrev Zh:=@Array.getElem?_eq_none
abbrev Zi:=@PySem.wpAny_letGo
abbrev Zj:=@PySem.Heap.get?_push_ne
abbrev Zk:=@PySem.F.args_zip_next_1
abbrev Zl:=@Nat.min_le_left
abbrev Zm:=@Nat.le_antisymm
abbrev Zn:=@PySem.wpAny_comprehension_free
abbrev Zo:=@Array.mem_of_getElem?
abbrev Zq:=@PySem.Heap.size_update
abbrev Zr:=@PySem.F.slot_zip_getattribute
abbrev Zs:=@PySem.F.entry_zip_next
abbrev Zt:=@Nat.le_sub_one_of_lt
abbrev Zu:=@Nat.add_le_add_right
abbrev Zv:=@List.mem_of_mem_take
abbrev Zw:=@List.mem_append_left
abbrev Zx:=@List.forIn_nil
abbrev Zy:=@List.drop_zero
abbrev Zz:=@Bool.and_false
abbrev ZA:=@beq_eq_false_iff_ne
abbrev ZC:=@PySem.wpAny_pyNext_list_item
abbrev ZD:=@PySem.SetTable.insertAt_perm
abbrev ZE:=@PySem.wpAny_execs_nil
abbrev ZF:=@PySem.post_val_or_str
abbrev ZG:=@PySem.wpAny_pyNext_list_end
abbrev ZH:=@PySem.wpAny_callSpecialIfBoundUnlessNone?_slot
abbrev ZI:=@PySem.builtinLookup_eq_fast
abbrev ZJ:=@PySem.Obj.isFreed_of_fields
abbrev ZK:=@List.getElem_range
abbrev ZL:=@List.findIdx?_cons
abbrev ZM:=@Int.natCast_nonneg
abbrev ZN:=@List.findIdx?_eq_some_iff_getElem
abbrev ZO:=@PySem.wpAny_updateSeq_pair
abbrev ZP:=@PySem.wpAny_fieldsOf
abbrev ZQ:=@Option.isSome_map
abbrev ZR:=@Nat.lt_trichotomy
abbrev ZS:=@Nat.le_of_eq
abbrev ZT:=@Nat.add_left_comm
abbrev ZU:=@List.take_sublist
abbrev ZV:=@List.take_add_one
abbrev ZW:=@List.getElem?_inj
abbrev ZX:=@PySem.wpAny_setEntries_of
abbrev ZY:=@List.nodup_range
abbrev ZZ:=@PySem.wpAny_onRaise
abbrev Z0:=@List.eq_nil_of_length_eq_zero
abbrev Z1:=@PySem.Calls.spliced_cons
abbrev Z2:=@List.sum_append
abbrev Z3:=@List.of_mem_zip
abbrev Z4:=@List.nil_append
abbrev Z5:=@List.foldl_cons
abbrev Z6:=@Array.getD_eq_getD_getElem?
abbrev Z7:=@PySem.wpAny_pyIter_slot
abbrev Z8:=@PySem.wpAny_dictEntries
abbrev Z9:=@PySem.fits_of_scanBound
abbrev Aaa:=@PySem.eqIsQuiet_byValue
abbrev Aab:=@PySem.codeAny_mono
abbrev Aac:=@PySem.call_meetsIn
abbrev Aad:=@PySem.Obj.cls_mapFields
abbrev Aae:=@PySem.Calls.spliced_nil
abbrev Aaf:=@Nat.not_lt
abbrev Aag:=@Nat.mod_lt
abbrev Aah:=@List.nodup_nil
abbrev Aai:=@List.nodup_iff_pairwise_ne
abbrev Aaj:=@List.length_eraseIdx_of_lt
abbrev Aak:=@PySem.noFill_tuple_add
abbrev Aal:=@PySem.entryFor_of_tree
abbrev Aam:=@PySem.F.args_dict_keyiterator_next_1
abbrev Aan:=@List.sum_cons
abbrev Aao:=@List.map_take
abbrev Aap:=@List.Pairwise.imp_of_mem
abbrev Aaq:=@Bool.true_and
abbrev Aar:=@Bool.or_false
abbrev Aas:=@Bool.false_or
abbrev Aat:=@decide_eq_false_iff_not
abbrev Aau:=@PySem.F.entry_dict_keyiterator_next
abbrev Aav:=@PySem.F.args_dict_get_3
abbrev Aaw:=@PySem.F.args_dict_get_2
abbrev Aax:=@Option.join_eq_some_iff
abbrev Aay:=@List.pairwise_mergeSort
abbrev Aaz:=@List.getElem?_replicate
abbrev AaA:=@List.getElem?_cons_zero
abbrev AaB:=@PySem.wpAny_updateSeq
abbrev AaC:=@PySem.wpAny_dictEpoch
abbrev AaD:=@PySem.typeLookup_type
abbrev AaE:=@PySem.W.cellsFrom_some
abbrev AaF:=@PySem.F.args_tuple_iterator_next_1
abbrev AaG:=@List.length_pos_of_mem
abbrev AaH:=@List.find?_cons_of_neg
abbrev AaI:=@Int.le_of_lt
abbrev AaJ:=@Int.ediv_one
abbrev AaK:=@PySem.F.entry_tuple_iterator_next
abbrev AaL:=@PyProof.Rows.assignInOrder_cons
abbrev AaM:=@Nat.le_of_sub_eq_zero
abbrev AaN:=@List.getElem?_toArray
abbrev AaO:=@List.filterMap_eq_map
abbrev AaP:=@PySem.Calls.Name_function_global
abbrev AaQ:=@Nat.pow_le_pow_right
abbrev AaR:=@Array.getElem_of_mem
set_option hygiene false
set_option hygiene true
abbrev FR:=PySem.W.Frag
namespace Hd
open PySem PySem.W PySem.Spec PyProof.Rows
noncomputable def Dt:List Value->Option (List Int)
 | []=>some []
 | .int i _::r=>(Dt r).map λa=>i::a
 | _=>none
noncomputable def DL(v:Value)(t:String):Bool:=match v with
 | .type s=>decide (s=t)
 | _=>false
def rowAt(h:Heap)(e:DictEntry):Option (Str×Int×List Int):=match e.key with
 | .str x _=>match e.val with
  | .ref t=>match h.get? t with
   | some u=>if DL u.cls "tuple"&&u.dict.isNone then(match u.data with
     | .seq a _=>if a.size<=100 then(Dt a.toList).map λb=>(x,e.hash,b) else none
     | _=>none) else none
   | none=>none
  | _=>none
 | _=>none
def k5(h:Heap):List DictEntry->Option (List (Str×Int×List Int))
 | []=>some []
 | e::r=>(rowAt h e).bind λx=>(k5 h r).map λa=>x::a
def tabAt(h:Heap)(nm:Str):Option (List (Str×Int×List Int)):=match h.nsMap mainGlobals nm with
 | some (.ref a)=>if a==sysModules then none else(match h.get? a with
  | some o=>if DL o.cls "dict"&&o.dict.isNone&&decide (o.slots=#[]) then(match o.data with
    | .dict es _=>k5 h es.toList
    | _=>none) else none
  | none=>none)
 | _=>none
theorem KG(row:String)(i:∀w:World,(fencedOpening treeTable p w N).map (λs₀=>(topFrom treeTable p (w.withFollow row false) N s₀).map (λs=>(openSeen q loose (importedModules p.main.body) Xt true s,Yf s)))=some (some (openGood q loose,f (w.withFollow row false))))(h:∀w:World,(fencedOpening treeTable p w N).map (λs₀=>(topFrom treeTable p (w.withFollow row true) N s₀).map (λs=>(openSeen q loose (importedModules p.main.body) Xt true s,Yf s)))=some (some (openGood q loose,f (w.withFollow row true)))):LeftO p q loose Xt Yf f N true:=λw=>by
 obtain⟨s₀,a,d⟩:=WB.mp (i w);obtain⟨b,a1,c⟩:=WB.mp (h w);have e:=World.withFollow_self w row;unfold openEnds;cases g:w.params.followText row <;> rw[g] at e
 ·rw[a];rw[e] at d;exact d
 ·rw[a1];rw[e] at c;exact c
end Hd
namespace Mi
open PySem
abbrev pw:Program:=PySem.Challenge.pw_neverstuck_k16_begun_scenes
noncomputable def top(i:Nat):Stmt:=pw.main.body.getD i (.Pass ⟨0,0,0,0⟩)
noncomputable def jV:List (Str×List Int):=[("say",[2,0]),("call",[3,0]),("within",[2,1]),("all",[2,1]),("ask",[2,2]),("by",[3,3]),("either",[1,2]),("again",[1,1])]
def view:Program:={pw with main:={pw.main with body:=[top 1,top 3,top 4,top 5,top 6,top 7,top 8,top 10,top 11,top 12,top 13,top 14,top 15,top 16,top 17,top 18,top 19,top 20,top 21,top 22,top 23,top 24,top 26,top 27,top 28,top 29,top 30,top 31,top 32,top 33,top 34,top 35,top 36,top 37,top 38,top 39,top 40,top 41,top 42,top 43,top 44,top 45,top 46,top 47,top 48,top 49,top 50,top 51]}}
end Mi
local macro_rules | `(tactic| walk_at "s") => `(tactic| exact⟨rfl, rfl, rfl, by decide +kernel, rfl, by decide +kernel, by decide +kernel⟩)
namespace Mi
open PySem PySem.W PyProof.Rows
abbrev ya(w:World):=some (jV.map λx:Str×List Int=>(x.1,hashStr w x.1,x.2))
abbrev Xt:Shared->Bool:=λs=>xlAt view [] s&&recOk (RowW.records (OpenRow.toRowW PySem.Challenge.rw_neverstuck_k16_begun_scenes.row)) s
abbrev Yf:Shared->Option (List (Str×Int×List Int)):=λs=>Hd.tabAt s.heap "SHAPES"
theorem Rq(w:World):(fencedOpening treeTable pw w 20000).map (λs₀=>(topFrom treeTable pw (w.withFollow "special-get-raises" false) 20000 s₀).map (λs=>(openSeen view (["SHAPES"]:List Str) (importedModules pw.main.body) Xt true s,Yf s)))=some (some (openGood view (["SHAPES"]:List Str),(ya) (w.withFollow "special-get-raises" false))):=by ac_nf
theorem Rp(w:World):(fencedOpening treeTable pw w 20000).map (λs₀=>(topFrom treeTable pw (w.withFollow "special-get-raises" true) 20000 s₀).map (λs=>(openSeen view (["SHAPES"]:List Str) (importedModules pw.main.body) Xt true s,Yf s)))=some (some (openGood view (["SHAPES"]:List Str),(ya) (w.withFollow "special-get-raises" true))):=by ac_nf
theorem left:LeftO pw view (["SHAPES"]:List Str) Xt Yf (ya) 20000:=Hd.KG "special-get-raises" Rq Rp
theorem M9:PySem.Challenge.rw_neverstuck_k16_begun_scenes.wellSaid=true:=by
 unfold OpenLaw.wellSaid
 repeat(with_reducible refine look_both ?_ (by decide+kernel))
 unfold OpenRow.wellSaid
 repeat(with_reducible refine look_both ?_ (by decide+kernel))
 unfold OpenRow.partSaid
 repeat(with_reducible refine look_both ?_ (by decide+kernel))
 unfold looksOpen
 repeat(with_reducible refine look_both ?_ (by decide+kernel))
 decide+kernel
end Mi
def cb{a:Type}{p:a}{C:Prop}(h:none=some p):C:=nomatch h
section
open PySem PySem.Spec
namespace L2
open PyProof.Rows
abbrev Key:=Sum Int Str
noncomputable def vP:Key->Value->Bool
 | .inl k,v=>Value.isInt k v
 | .inr x,v=>Value.isStrOf x v
noncomputable def OI(w:World):Key->Int
 | .inl k=>hashInt k
 | .inr x=>hashStr w x
theorem bX:∀{k:Key} {v:Value},vP k v=true->(∃i t,k=Sum.inl i/\v=Value.int i t)\/(∃x t,k=Sum.inr x/\v=Value.str x t)
 | .inl i,v,h=>by
  obtain⟨t,e⟩:=Value.isInt_shape (k:=i) (v:=v) h;exact .inl ⟨i,t,rfl,e⟩
 | .inr x,v,h=>by
  obtain⟨t,e⟩:=Value.isStrOf_shape (x:=x) (v:=v) h;exact .inr ⟨x,t,rfl,e⟩
def ET(i:Int)(t:Tok):vP (.inl i) (.int i t)=true:=by simp[vP,Value.isInt]
def ES(x:Str)(t:Tok):vP (.inr x) (.str x t)=true:=by simp[vP,Value.isStrOf]
def OH(a b:Int):decide ((Sum.inl a:Key)=Sum.inl b)=(a==b):=by
 by_cases e:a=b
 ·subst e;simp
 ·have h:¬(Sum.inl a:Key)=Sum.inl b:=λq=>e (Sum.inl.inj q);rw[V5 h];exact(ZA.mpr e).symm
def OE(a b:Str):decide ((Sum.inr a:Key)=Sum.inr b)=decide (a=b):=by
 by_cases e:a=b
 ·subst e;simp
 ·have h:¬(Sum.inr a:Key)=Sum.inr b:=λq=>e (Sum.inr.inj q);rw[V5 h,V5 e]
def OG(a:Int)(b:Str):decide ((Sum.inl a:Key)=Sum.inr b)=false:=V5 (λq=>nomatch q)
def OF(a:Str)(b:Int):decide ((Sum.inr a:Key)=Sum.inl b)=false:=V5 (λq=>nomatch q)
def bc(prog:Program)(w:World):PySem.KeyKind prog w Key where
 is:=vP
 hash:=OI w
 inj:=λv a b l f=>by
  rcases bX l with⟨i,t,rfl,rfl⟩ |⟨x,t,rfl,rfl⟩
  ·rcases bX f with⟨j,u,rfl,e⟩ |⟨y,u,rfl,e⟩
   ·injection e with c _;rw[c]
   ·exact nomatch e
  ·rcases bX f with⟨j,u,rfl,e⟩ |⟨y,u,rfl,e⟩
   ·exact nomatch e
   ·injection e with c _;rw[c]
 byValue:=λk v h=>by
  rcases bX h with⟨i,t,rfl,rfl⟩ |⟨x,t,rfl,rfl⟩ <;> rfl
 pyHash:=λd h=>by
  rcases bX d with⟨i,t,rfl,rfl⟩ |⟨x,t,rfl,rfl⟩
  ·exact wpAny_pyHash_int h
  ·exact wpAny_pyHash_str h
 eqBool:=λg d h=>by
  rcases bX g with⟨i,t,rfl,rfl⟩ |⟨x,t,rfl,rfl⟩
  ·rcases bX d with⟨j,u,rfl,rfl⟩ |⟨y,u,rfl,rfl⟩
   ·rw[OH] at h;exact wpAny_eqBool_int h
   ·rw[OG] at h;exact SeqAt.EqAt.int_str i t y u _ _ _ _ h
  ·rcases bX d with⟨j,u,rfl,rfl⟩ |⟨y,u,rfl,rfl⟩
   ·rw[OF] at h;exact SeqAt.EqAt.str_int x t j u _ _ _ _ h
   ·rw[OE] at h;exact wpAny_eqBool_str h
 «strs»:=λk x t v h=>by
  rcases bX h with⟨i,u,rfl,e⟩ |⟨y,u,rfl,e⟩
  ·exact nomatch e
  ·injection e with c _
   subst c;cases v <;> rfl
def jy(prog:Program)(w:World)(i:Int)(t:Tok):(bc prog w).is (.inl i) (.int i t)=true:=ET i t
def jx(prog:Program)(w:World)(x:Str)(t:Tok):(bc prog w).is (.inr x) (.str x t)=true:=ES x t
inductive V where
 | bx | bl (b:Bool) | int (i:Int) | str (x:Str) | byt (b:Array UInt8) | P5 (b:UInt64) | ref (a:Addr) | ty (n:String)
 deriving DecidableEq
def RelV:V->Value->Prop
 | .bx,u=>u=Value.none
 | .bl b,u=>u=Value.bool b
 | .int i,u=>∃t,u=Value.int i t
 | .str x,u=>∃t,u=Value.str x t
 | .byt b,u=>∃t,u=Value.bytes b t
 | .P5 b,u=>∃t,u=Value.float b t
 | .ref a,u=>u=Value.ref a
 | .ty n,u=>u=Value.type n
abbrev Vals:List V->List Value->Prop:=Paired RelV
theorem Vals.length(r:Vals xs us):xs.length=us.length:=Paired.length r
def Vals.get:∀{a:List V} {us:List Value} {i:Nat} {x:V},Vals a us->a[i]?=some x->∃u,us[i]?=some u/\RelV x u
 :=by
 intro a us i x r
 induction r generalizing i x with
 | nil=>intro e;cases e
 | cons r _ b=>cases i with
  | zero=>intro e;cases e;exact⟨_,rfl,r⟩
  | succ i=>exactλe=>b (i:=i) e
theorem Vals.set(r:RelV x u):∀{a:List V} {us:List Value} (i:Nat),Vals a us->Vals (a.set i x) (us.set i u)
 | _,_,_,.nil=>.nil
 | _,_,0,.cons _ t=>.cons r t
 | _,_,i+1,.cons q t=>.cons q (Vals.set r i t)
def Vals.append{c b:List V}{us d:List Value}(a:Vals c us)(s:Vals b d):Vals (c++b) (us++d):=by
 induction a with
 | nil=>exact s
 | cons r t e=>exact .cons r e
theorem Vals.take:∀{a:List V} {us:List Value} (n:Nat),Vals a us->Vals (a.take n) (us.take n)
 | _,_,0,_=>.nil
 | _,_,_+1,.nil=>.nil
 | _,_,n+1,.cons r t=>.cons r (Vals.take n t)
theorem Vals.drop:∀{a:List V} {us:List Value} (n:Nat),Vals a us->Vals (a.drop n) (us.drop n)
 | _,_,0,r=>r
 | _,_,_+1,.nil=>.nil
 | _,_,n+1,.cons _ t=>Vals.drop n t
def oQ:Option V->Option Value->Prop
 | some v,some u=>RelV v u
 | none,none=>True
 | _,_=>False
def KV{a:Type}:List (a×V)->List (a×Value)->Prop:=Paired λ(p:a×V)(q:a×Value)=>p.1=q.1/\RelV p.2 q.2
noncomputable def kV:Key->V
 | .inl i=>.int i
 | .inr x=>.str x
inductive HO where
 | lst (xs:List V)
 | tup (xs:List V)
 | dK (kvs:List (Key×V)) | dT (kvs:List (List Key×V))
 | set (S:Int->Bool) (n:Nat)
 | ins (C dx:Addr) (fs:List (Str×V))
 | own (x:Addr)
 | xd (fs:List (Str×V))
 | met (f x:Addr)
 | Tx (lo hi:Int)
 | kS (o:Obj) (u:HO)
 | MM (ps:Array Value)
 | ext (φ:Heap->Prop)
 | lI (φ:World->Heap->Prop)
abbrev Hp:=Addr->Option HO
noncomputable def upd(H:Hp)(a:Addr)(o:HO):Hp:=λb=>if b=a then some o else H b
def aC:upd H a o a=some o:=by unfold upd;rw[VE rfl]
def ao(h:b≠a):upd H a o b=H b:=by unfold upd;rw[VH h]
def Jq:upd (upd H a o) a u=upd H a u:=by
 funext b;unfold upd;split <;> rfl
def Ra{H:Hp}{a b:Addr}{o u:HO}(h:H a=some o)(c:H b=some u)(d:o≠u):a≠b:=by
 intro e;subst e;rw[h] at c;exact d (Option.some.inj c)
def aO{H:Hp}{a b:Addr}{o:HO}(h:H a=some o)(c:H b=none):a≠b:=by
 intro e;subst e;rw[h] at c;cases c
def An(h:Heap)(a:Addr)(b:Array Value):Prop:=∃o,h.get? a=some o/\o.cls=.type "tuple"/\(∃n,o.data=.seq b n)/\o.dict=none
def An.tup(x:An h a items):IsTup h a items:=let⟨o,e,c,d,_⟩:=x;⟨o,e,c,d⟩
def An.new(h:Heap)(a:Array Value):An (h.push {cls:=.type "tuple",data:=.seq a}) h.objs.size a:=⟨_,VR _ rfl,rfl,⟨_,rfl⟩,rfl⟩
section
variable (P:Program) (w:World)
def b8(H:Hp)(h:Heap)(a:Addr):HO->Prop
 | .lst d=>d.length<=sizeLine/\∃(c:List Value)(n:Nat),Vals d c/\h.get? a=some {cls:=.type "list",data:=.seq c.toArray n}
 | .tup d=>d.length<=sizeLine/\∃c:List Value,Vals d c/\An h a c.toArray
 | .dK b=>b.length<=sizeLine/\(a==sysModules)=false/\∃l,KV b l/\h.DictOf (bc P w) a l
 | .dT b=>b.length<=sizeLine/\(a==sysModules)=false/\∃d:List (List Key×Addr×Value),
   Paired (λ(p:List Key×V)(q:List Key×Addr×Value)=>p.1=q.1/\H q.2.1=some (.tup (p.1.map kV))/\RelV p.2 q.2.2) b d/\
   ∃o es s,h.get? a=some o/\o.ExactDict/\o.data=.dict es s/\es.toList=d.map (entryOfKey (tupleKind (bc P w)))/\(d.map (·.1)).Nodup
 | .set S n=>h.SetOf (intKind P w) a S n
 | .ins C k fs=>H k=some (.own a)/\fs.length<=1000/\k≠a/\h.get? a=some (PySem.W.instObj C k)/\
   ∃g,h.Ns1 k g/\(∀f,oQ (fs.lookup f) (g f))/\PySem.Within g (fs.map (·.1))
 | .own _=>∃o,h.get? a=some o
 | .xd fs=>∃g,h.Ns1 a g/\∀f,oQ (fs.lookup f) (g f)
 | .Tx lo r=>∃t u v,h.get? a=some {cls:=.type "range",data:=.fields #[.int lo t,.int r u,.int 1 v]}
 | .kS o u=>h.get? a=some o/\b8 H h a u
 | .MM m=>h.get? a=some {cls:=.none,data:=.fields m}
 | .met f x=>h.get? a=some (PySem.W.methodObj (.ref f) (.ref x))
 | .ext e=>e h/\(∃o,h.get? a=some o)/\∀j i:Heap,e j->(∀o,j.get? a=some o->i.get? a=some o)->e i
 | .lI e=>e w h/\(∃o,h.get? a=some o)/\∀j i:Heap,e w j->(∀o,j.get? a=some o->i.get? a=some o)->e w i
def jO(H:Hp)(h:Heap):Prop:=∀a o,H a=some o->b8 P w H h a o
end
theorem b8.lt(x:b8 P w H h a o):a < h.objs.size:=by
 cases o with
 | lst xs=>obtain⟨_,_,_,_,e⟩:=x;exact VP e
 | tup xs=>obtain⟨_,_,_,p⟩:=x;exact p.tup.lt
 | dK b=>obtain⟨_,_,_,_,o,_,_,e,_⟩:=x;exact VP e
 | dT b=>obtain⟨_,_,_,_,o,_,_,e,_⟩:=x;exact VP e
 | set S n=>obtain⟨o,_,_,_,e,_⟩:=x;exact VP e
 | ins C i fs=>obtain⟨_,_,_,e,_⟩:=x;exact VP e
 | own y=>obtain⟨_,e⟩:=x;exact VP e
 | xd fs=>obtain⟨_,⟨_,_,_,e,_⟩,_⟩:=x;exact VP e
 | Tx lo g=>obtain⟨_,_,_,e⟩:=x;exact VP e
 | kS ob u=>obtain⟨e,_⟩:=x;exact VP e
 | MM d=>exact VP (show h.get? a=some _ from x)
 | met f y=>exact VP (show h.get? a=some _ from x)
 | ext c=>obtain⟨_,⟨_,e⟩,_⟩:=x;exact VP e
 | lI c=>obtain⟨_,⟨_,e⟩,_⟩:=x;exact VP e
def Paired.Ox{g e:Type}{F G:g->e->Prop}{d:List g}{c:List e}(a:Paired F d c)(f:∀a b,F a b->G a b):Paired G d c:=by
 induction a with
 | nil=>exact .nil
 | cons r t h=>exact .cons (f _ _ r) h
def Paired.imp'(f:∀a b,F a b->G a b)(r:Paired F d c):Paired G d c:=Paired.Ox r f
def b8.t5(x:b8 P w H h a o)(k:∀b u,(b=a\/H b=some (.own a))->h.get? b=some u->A.get? b=some u)
  (L:∀b,H b=some (.own a)->F b=some (.own a)) (ht:∀b j,H b=some (.tup j)->F b=some (.tup j)):b8 P w F A a o:=by
 induction o with
 | lst j=>obtain⟨z,i,n,r,e⟩:=x;exact⟨z,i,n,r,k _ _ (.inl rfl) e⟩
 | tup j=>obtain⟨z,i,r,ob,e,c⟩:=x;exact⟨z,i,r,ob,k _ _ (.inl rfl) e,c⟩
 | dK s=>obtain⟨z,y,I,r,ob,es,g,e,c⟩:=x;exact⟨z,y,I,r,ob,es,g,k _ _ (.inl rfl) e,c⟩
 | dT s=>
  obtain⟨z,y,j,r,ob,es,g,e,c⟩:=x;exact⟨z,y,j,Paired.Ox r λp q z=>⟨z.1,ht _ _ z.2.1,z.2.2⟩,ob,es,g,k _ _ (.inl rfl) e,c⟩
 | set S n=>obtain⟨ob,es,g,t,e,c⟩:=x;exact⟨ob,es,g,t,k _ _ (.inl rfl) e,c⟩
 | ins C O fs=>
  obtain⟨d,z,ne,e,m,⟨l,es,g,M,c⟩,r⟩:=x;exact⟨L _ d,z,ne,k _ _ (.inl rfl) e,m,⟨l,es,g,k _ _ (.inr d) M,c⟩,r⟩
 | own y=>obtain⟨ob,e⟩:=x;exact⟨ob,k _ _ (.inl rfl) e⟩
 | xd fs=>obtain⟨m,⟨l,es,g,e,c⟩,r⟩:=x;exact⟨m,⟨l,es,g,k _ _ (.inl rfl) e,c⟩,r⟩
 | Tx lo N=>obtain⟨t,u,v,e⟩:=x;exact⟨t,u,v,k _ _ (.inl rfl) e⟩
 | kS ob u J=>obtain⟨e,q⟩:=x;exact⟨k _ _ (.inl rfl) e,J q⟩
 | MM E=>
  have e:h.get? a=some {cls:=.none,data:=.fields E}:=x;show A.get? a=some {cls:=.none,data:=.fields E};exact k a _ (.inl rfl) e
 | met f y=>
  have e:h.get? a=some (PySem.W.methodObj (.ref f) (.ref y)):=x;show A.get? a=some (PySem.W.methodObj (.ref f) (.ref y));exact k a _ (.inl rfl) e
 | ext G=>obtain⟨p,⟨o,e⟩,st⟩:=x;exact⟨st _ _ p λo q=>k _ _ (.inl rfl) q,⟨o,k _ _ (.inl rfl) e⟩,st⟩
 | lI G=>obtain⟨p,⟨o,e⟩,st⟩:=x;exact⟨st _ _ p λo q=>k _ _ (.inl rfl) q,⟨o,k _ _ (.inl rfl) e⟩,st⟩
theorem jO.lt(x:jO P w H h)(e:H a=some o):a < h.objs.size:=(x a o e).lt
def jO.fresh(x:jO P w H h)(e:h.objs.size<=a):H a=none:=by
 cases q:H a with
 | none=>rfl
 | some u=>exact absurd (VX (x.lt q) e) (WI _)
def jO.kept(x:jO P w H h)(k:∀b u,h.get? b=some u->h'.get? b=some u):jO P w H h':=λa o e=>
 (x a o e).t5 (λb u _ q=>k b u q) (λ_ q=>q) λ_ _ q=>q
def jO.laid(x:jO P w H h)(k:∀b u,h.get? b=some u->h'.get? b=some u)(hp:h.objs.size<=a)(new:b8 P w (upd H a o) h' a o):jO P w (upd H a o) h':=λb u e=>by
 have hn:=x.fresh hp
 by_cases d:b=a
 ·subst d;rw[aC] at e;cases e;exact new
 ·rw[ao d] at e;exact(x b u e).t5 (λc v _ q=>k c v q) (λc q=>by rw[ao (aO q hn)];exact q) λc f q=>by rw[ao (aO q hn)];exact q
def Rd(H:Hp)(a:Addr)(u:HO):Prop:=H a=some u\/∃o,H a=some (.kS o u)
def Rd.ok(r:Rd H a u)(x:jO P w H h):b8 P w H h a u:=by
 rcases r with r |⟨o,r⟩
 ·exact x a u r
 ·obtain⟨_,q⟩:=x a _ r;exact q
def Ss:Option HO->Prop
 | some (.lst _)=>True
 | some (.dK _)=>True
 | some (.dT _)=>True
 | some (.set _ _)=>True
 | some (.ins _ _ _)=>True
 | some (.ext _)=>True
 | some (.lI _)=>True
 | _=>False
def jO.write(ok:jO P w H h)(i:Ss (H x))(s:e=x\/H e=some (.own x))(k:∀b u,b≠e->h.get? b=some u->n.get? b=some u)(m:∃u,n.get? e=some u)
  (new:b8 P w (upd H x p) n x p):jO P w (upd H x p) n:=λb u q=>by
 have d:∀c y,H c=some (.own y)->c≠x:=λc y r z=>by subst z;rw[r] at i;exact i
 have f:∀c g,H c=some (.tup g)->c≠x:=λc g r z=>by subst z;rw[r] at i;exact i
 by_cases l:b=x
 ·subst l;rw[aC] at q;cases q;exact new
 ·rw[ao l] at q
  by_cases a:b=e
  ·have o:H b=some (.own x):=by
    rcases s with z | z
    ·exact absurd (a.trans z) l
    ·rw[a];exact z
   rw[q] at o;cases o;obtain⟨v,t⟩:=m;exact⟨v,by rw[a];exact t⟩
  ·refine(ok b u q).t5 (λc v j r=>k c v ?_ r) (λc r=>by rw[ao (d c b r)];exact r) λc g r=>by rw[ao (f c g r)];exact r
   rcases j with rfl | j
   ·exact a
   ·rintro rfl;rcases s with z | z
    ·exact d c b j z
    ·rw[j] at z;cases z;exact l rfl
structure Un(fs ex:List Addr)(H H':Hp)(h h':Heap):Prop where
 keep:∀b o,h.get? b=some o->H b=none->b∉fs->b∉ex->h'.get? b=some o
 slot:∀b o,h.get? b=some o->H b=none->b∈fs->b∉ex->∃sl,h'.get? b=some {o with slots:=sl}
 free:∀b o,h.get? b=some o->H b=none->b∉ex->H' b=none
 there:∀b o,h.get? b=some o->b∉ex->∃o',h'.get? b=some o'
 pW:∀b xs,H b=some (.tup xs)->H' b=some (.tup xs)
 qm:∀b o u,H b=some (.kS o u)->H' b=some (.kS o u)
 t4:∀b ps,H b=some (.MM ps)->∃more,H' b=some (.MM (ps++more))
def Un.any(u:Un fs ex H H1 h e)(q:h.get? b=some ob)(n:H b=none)(a:b∉ex):∃d,e.get? b=some {ob with slots:=d}:=by
 by_cases c:b∈fs
 ·exact u.slot b ob q n c a
 ·exact⟨ob.slots,u.keep b ob q n c a⟩
def Un.kept(k:∀b u,h.get? b=some u->h'.get? b=some u):Un fs ex H H h h':=
 ⟨λb ob q _ _ _=>k b ob q,λb ob q _ _ _=>⟨ob.slots,k b ob q⟩,λ_ _ _ n _=>n,λb ob q _=>⟨ob,k b ob q⟩,λ_ _ q=>q,λ_ _ _ q=>q,λ_ a q=>⟨#[],by rw[q];simp⟩⟩
def Un.refl:Un fs ex H H h h:=Un.kept λ_ _ q=>q
def Un.laid(k:∀b u,h.get? b=some u->h'.get? b=some u)(hp:h.objs.size<=a)(hn:H a=none):Un fs ex H (upd H a o) h h' where
 keep:=λb u q _ _ _=>k b u q
 slot:=λb u q _ _ _=>⟨u.slots,k b u q⟩
 free:=λb u q n _=>by rw[ao (V6 (VX (VP q) hp))];exact n
 there:=λb u q _=>⟨u,k b u q⟩
 pW:=λb c q=>by rw[ao (aO q hn)];exact q
 qm:=λb u c q=>by rw[ao (aO q hn)];exact q
 t4:=λb d q=>⟨#[],by rw[ao (aO q hn),q];simp⟩
def Un.write(c:Ss (H x))(l:e=x\/H e=some (.own x))(k:∀b u,b≠e->h.get? b=some u->i.get? b=some u)(d:∃u,i.get? e=some u):Un fs ex H (upd H x o) h i:=by
 have f:∀b,H b=none->b≠x:=λb n z=>by subst z;rw[n] at c;exact c
 have g:∀b,H b=none->b≠e:=λb n z=>by
  subst z;rcases l with r | r
  ·exact f b n r
  ·rw[n] at r;cases r
 have hm:∀b u,H b=some u->¬Ss (some u)->b≠x:=λb u q nm z=>by subst z;rw[q] at c;exact nm c
 refine⟨λb u q n _ _=>k b u (g b n) q,λb u q n _ _=>⟨u.slots,k b u (g b n) q⟩,λb u q n _=>by rw[ao (f b n)];exact n,λb u q _=>?_,
  λb j q=>by rw[ao (hm b _ q λz=>z)];exact q,λb u j q=>by rw[ao (hm b _ q λz=>z)];exact q,λb m q=>⟨#[],by rw[ao (hm b _ q λz=>z),q];simp⟩⟩
 by_cases a:b=e
 ·subst a;exact d
 ·exact⟨u,k b u a q⟩
noncomputable def Sy(h:Heap)(H:Hp):List Addr:=(List.range h.objs.size).filter λa=>(H a).isSome
def xB(h:Heap)(H:Hp):Heap:=PySem.W.hideAll h (Sy h H)
def E3(h:Heap)(H:Hp):(xB h H).objs.size=h.objs.size:=PySem.W.hideAll_size _ _
def HP(e:h.get? b=some o)(n:H b=none):(xB h H).get? b=some o:=
 PySem.W.hideAll_get _ e λhm=>by
  have q:(H b).isSome=true:=(List.mem_filter.mp hm).2;rw[n] at q;simp at q
def Ku(e:(xB h H).get? b=some o):h.get? b=some o/\H b=none:=by
 have a:h.get? b=some o:=PySem.W.of_hideAll (Sy h H) e;refine⟨a,?_⟩;cases q:H b with
 | none=>rfl
 | some x=>
  have hm:b∈Sy h H:=List.mem_filter.mpr ⟨WY.mpr (VP a),by simp[q]⟩;have z:(xB h H).get? b=none:=PySem.W.hideAll_none (Sy h H) hm;rw[z] at e;cases e
structure Mod(K:FR)(mg:Str->Option Value)(base:Heap):Prop where
 Ur:K.In base
 glob:base.Ns mainGlobals mg
 blt:∃mb,base.Ns builtinsNs mb/\∀x:Str,x≠"__name__"->mb x=bootBuiltins x
 nolimit:base.NoLimit
structure Cx where
 prog:Program
 w:World
 K:FR
 mg:Str->Option Value
 base:Heap
 A:Around
 N:List Str
 s₀:Shared
 H₀:Hp
 env:Env
 outer:List Env
 stack:List Env
 ex:List Addr
 fn:Str->Bool
 calm:Bool
 pn:List (Addr×Obj)
 xe:Value->Shared->Prop
noncomputable def FI(l:List Env):List Addr:=l.filterMap (·.frame)
abbrev Cx.fs(X:Cx):List Addr:=FI X.outer
def RV(a:Scope)(x:Str):Prop:=a.names.lookup x=some .local\/a.names.lookup x=some .cell\/a.names.lookup x=some .free
def Loc(a:Scope)(x:Str):Prop:=a.names.lookup x=some .local\/a.names.lookup x=some .cell
def Look(env:Env)(h:Heap)(m:Str->Option Value)(x:Str)(u:Value):Prop:=
 (env.kindOf x=some .local/\m x=some u)\/((env.kindOf x=some .cell\/env.kindOf x=some .free)/\∃c,env.cells.lookup x=some c/\h.IsCell c (some u))
structure Cx.Ok(X:Cx):Prop where
 mod:Mod X.K X.mg X.base
 kind:X.env.scope.kind=.function
 glob:X.env.globals=mainGlobals
 blt:X.env.builtins=builtinsNs
 above:X.s₀.heap.objs.size<=X.env.locals
 inj:∀x y c,X.env.cells.lookup x=some c->X.env.cells.lookup y=some c->x=y
 has:∀x,(X.env.kindOf x=some .cell\/X.env.kindOf x=some .free)->∃c,X.env.cells.lookup x=some c
 RE:∀x c,X.fn x=true->X.env.cells.lookup x=some c->X.s₀.heap.objs.size<=c
 hd:X.calm=true->X.A.handled=none
 frames:X.A.frames=some X.stack
 Sz:X.stack=X.outer\/(X.stack=X.env::X.outer/\X.env.frame=some X.env.locals)
 U3:∀b∈X.ex,b≠X.env.locals/\∀x c,X.env.cells.lookup x=some c->c≠b
 bs:∀b o,X.base.get? b=some o->X.s₀.heap.get? b=some o/\X.H₀ b=none
 Ml:X.base.objs.size<=X.s₀.heap.objs.size
 HA:∀b o,X.base.get? b=some o->b∉X.ex
 La:∀b∈X.ex,b∉X.fs
 sW:X.s₀.heap.FunFrames X.base X.outer
 P4:∀b∈X.fs,X.H₀ b=none
structure Inv(X:Cx)(pins:List (Addr×Obj))(σ:List (Option V))(H:Hp)(s:Shared):Prop where
 ok:X.Ok
 os:s.os=X.s₀.os
 bare:AllBare s.gens
 base:Un X.fs X.ex X.H₀ H X.s₀.heap s.heap
 loc:∃m,s.heap.Ns X.env.locals m/\∀(i:Nat)(x:Str)(v:V),X.N[i]?=some x->σ[i]?=some (some v)->RV X.env.scope x->∃u,RelV v u/\Look X.env s.heap m x u
 cell:∀x c,X.env.cells.lookup x=some c->∃v,s.heap.IsCell c v
 free:H X.env.locals=none
 iU:∀x c,X.env.cells.lookup x=some c->H c=none
 pin:∀p∈X.pn++pins,s.heap.get? p.1=some p.2/\H p.1=none/\p.1≠X.env.locals/\p.1∉X.fs/\∀v,p.2.data≠.cell v
 aZ:jO X.prog X.w H s.heap
 len:σ.length=X.N.length
section
variable {X:Cx} {pins:List (Addr×Obj)} {σ:List (Option V)} {H H':Hp} {s:Shared} {h':Heap}
def Cx.Ok.Ui(ok:X.Ok)(e:X.base.get? b=some o):b∉X.fs:=λa=>by
 have:=(ok.sW.mem a).1;rw[e] at this;cases this
theorem Inv.bs(I:Inv X pins σ H s):∀b o,X.base.get? b=some o->s.heap.get? b=some o/\H b=none:=λb o e=>
 ⟨I.base.keep b o (I.ok.bs b o e).1 (I.ok.bs b o e).2 (I.ok.Ui e) (I.ok.HA b o e),I.base.free b o (I.ok.bs b o e).1 (I.ok.bs b o e).2 (I.ok.HA b o e)⟩
def Inv.bk(I:Inv X pins σ H s):∀b o,X.base.get? b=some o->s.heap.get? b=some o:=λb o e=>(I.bs b o e).1
theorem Inv.mod(I:Inv X pins σ H s):Mod X.K X.mg X.base:=I.ok.mod
def Inv.xx(I:Inv X pins σ H s):X.K.In s.heap:=I.ok.mod.Ur.keeps I.bk
theorem Inv.lt(I:Inv X pins σ H s):X.env.locals < s.heap.objs.size:=let⟨_,hn,_⟩:=I.loc;hn.lt
def Inv.sz(I:Inv X pins σ H s):X.s₀.heap.objs.size<=s.heap.objs.size:=VJ I.ok.above (WD I.lt)
def Inv.Uh(I:Inv X pins σ H s)(h:s.heap.objs.size<=a):a∉X.fs:=λc=>by
 obtain⟨_,o,b,_⟩:=I.ok.sW.mem c;exact absurd (VX (VP b) (VJ I.sz h)) (WI _)
def Inv.Pc(I:Inv X pins σ H s):∀x c,X.env.cells.lookup x=some c->c≠X.env.locals:=λx c e z=>by
 obtain⟨v,o,d,hd⟩:=I.cell x c e;obtain⟨m,⟨f,es,g,a,b,_⟩,_⟩:=I.loc;rw[z,a] at d;cases d;rw[b] at hd;cases hd
theorem Inv.sW(I:Inv X pins σ H s):s.heap.FunFrames X.base X.outer:=by
 have all:∀(l:List Env),(∀b∈FI l,b∈X.fs)->X.s₀.heap.FunFrames X.base l->s.heap.FunFrames X.base l:=by
  intro l
  induction l with
  | nil=>intro _ _;trivial
  | cons env r g=>
   intro f hl;obtain⟨i,⟨L,o,a,hn,h,hd⟩,hr⟩:=hl;have d:L∈X.fs:=f L (by unfold FI;rw[Xk,a];exact VF);obtain⟨j,e⟩:=I.base.slot L o h (I.ok.P4 L d) d λz=>I.ok.La L z d;exact⟨i,⟨L,_,a,hn,e,hd⟩,g (λb c=>f b (by unfold FI;rw[Xk,a];exact VD _ c)) hr⟩
 exact all X.outer (λ_ c=>c) I.ok.sW
theorem Inv.stack(I:Inv X pins σ H s):s.heap.FunFrames X.base X.stack:=by
 rcases I.ok.Sz with e |⟨e,a⟩
 ·rw[e];exact I.sW
 ·rw[e];obtain⟨m,hn,_⟩:=I.loc;refine .cons (by rw[I.ok.kind];decide) a hn ?_ I.sW;exact Heap.get?_none_of_le (VJ I.ok.Ml I.ok.above)
def Inv.nU(I:Inv X pins σ H s):∀b∈FI X.stack,b∈X.env.locals::X.fs:=λb a=>by
 rcases I.ok.Sz with e |⟨e,c⟩
 ·rw[e] at a;exact VD _ a
 ·rw[e] at a;unfold FI at a;rw[Xk,c] at a;exact a
def Inv.Cv(I:Inv X pins σ H s):∀b∈FI X.stack,H b=none:=λb a=>by
 rcases VS.mp (I.nU b a) with e | a
 ·rw[e];exact I.free
 ·obtain⟨_,o,c,_⟩:=I.ok.sW.mem a;exact I.base.free b o c (I.ok.P4 b a) λz=>I.ok.La b z a
def Inv.step{g':Array GenState}{P:Nat}{d':Drawn}{ch:List Addr}(I:Inv X pins σ H s)
  (g:∀b∈ch,(b∈X.ex\/X.s₀.heap.objs.size<=b)/\b≠X.env.locals/\(∀x c,X.env.cells.lookup x=some c->c≠b)/\∀p∈X.pn++pins,p.1≠b)
  (keep:∀b o,b≠X.env.locals->b∉X.fs->b∉ch->s.heap.get? b=some o->H b=none->h'.get? b=some o)
  (slot:∀b o,b≠X.env.locals->b∈X.fs->b∉ch->s.heap.get? b=some o->H b=none->∃M,h'.get? b=some {o with slots:=M}) (free:∀b o,b∉ch->s.heap.get? b=some o->H b=none->H' b=none)
  (there:∀b o,b∉ch->s.heap.get? b=some o->∃E,h'.get? b=some E)
  (pW:∀b y,H b=some (.tup y)->H' b=some (.tup y)) (qm:∀b o u,H b=some (.kS o u)->H' b=some (.kS o u)) (t4:∀b J,H b=some (.MM J)->∃more,H' b=some (.MM (J++more)))
  (ns:∀m,s.heap.Ns X.env.locals m->h'.Ns X.env.locals m) (aZ:jO X.prog X.w H' h') (S:AllBare g'):
  Inv X pins σ H' {s with heap:=h',gens:=g',drawn:=d',toks:=P}:=by
 have F:∀b o,X.s₀.heap.get? b=some o->b≠X.env.locals:=λb o e=>V6 (VX (VP e) I.ok.above);have j:∀b o,X.s₀.heap.get? b=some o->b∉X.ex->b∉ch:=λb o e a A=>by
  rcases(g b A).1 with z | z
  ·exact a z
  ·exact absurd (VX (VP e) z) (WI _)
 have h:∀x c,X.env.cells.lookup x=some c->∀v,s.heap.IsCell c v->h'.IsCell c v:=λx c e v u9=>by
  obtain⟨o,C,hd⟩:=u9;have f:c∉ch:=λz=>(g c z).2.2.1 x c e rfl
  by_cases O:c∈X.fs
  ·obtain⟨M,q⟩:=slot c o (I.Pc x c e) O f C (I.iU x c e);exact⟨_,q,hd⟩
  ·exact⟨o,keep c o (I.Pc x c e) O f C (I.iU x c e),hd⟩
 refine⟨I.ok,I.os,S,⟨λb o e n A a=>?_,λb o e n A a=>?_,λb o e n a=>?_,λb o e a=>?_,λb y e=>pW b y (I.base.pW b y e),λb o y e=>qm b o y (I.base.qm b o y e),λb J e=>?_⟩,?_,λx c e=>?_,?_,λx c e=>?_,λp hp=>?_,aZ,I.len⟩
 ·exact keep b o (F b o e) A (j b o e a) (I.base.keep b o e n A a) (I.base.free b o e n a)
 ·obtain⟨M,t⟩:=I.base.slot b o e n A a;obtain⟨L,G⟩:=slot b _ (F b o e) A (j b o e a) t (I.base.free b o e n a);exact⟨L,G⟩
 ·obtain⟨E,t⟩:=I.base.there b o e a;exact free b E (j b o e a) t (I.base.free b o e n a)
 ·obtain⟨E,t⟩:=I.base.there b o e a;exact there b E (j b o e a) t
 ·obtain⟨R,t⟩:=I.base.t4 b J e;obtain⟨Q,G⟩:=t4 b _ t;exact⟨R++Q,by rw[G,Array.append_assoc]⟩
 ·obtain⟨m,hn,hl⟩:=I.loc;refine⟨m,ns m hn,λi x v t G T=>?_⟩;obtain⟨u,r,l⟩:=hl i x v t G T;refine⟨u,r,?_⟩;rcases l with l |⟨k,c,e,z⟩
  ·exact .inl l
  ·exact .inr ⟨k,c,e,h x c e _ z⟩
 ·obtain⟨v,z⟩:=I.cell x c e;exact⟨v,h x c e v z⟩
 ·obtain⟨m,⟨o,_,_,C,_⟩,_⟩:=I.loc;exact free _ o (λz=>(g _ z).2.1 rfl) C I.free
 ·obtain⟨v,o,C,hd⟩:=I.cell x c e;exact free c o (λz=>(g c z).2.2.1 x c e rfl) C (I.iU x c e)
 ·obtain⟨e,n,ne,N,d⟩:=I.pin p hp;have f:p.1∉ch:=λz=>(g p.1 z).2.2.2 p hp rfl;exact⟨keep p.1 p.2 ne N f e n,free p.1 p.2 f e n,ne,N,d⟩
def Inv.un{t':Nat}(I:Inv X pins σ H s)(u:Un X.fs [] H H' s.heap h')(aZ:jO X.prog X.w H' h'):Inv X pins σ H' {s with heap:=h',toks:=t'}:=by
 obtain⟨m,⟨o,es,p,g,r⟩,_⟩:=id I.loc;obtain⟨j,i⟩:=u.any g I.free (by simp);exact I.step (g':=s.gens) (d':=s.drawn) (ch:=[]) (λ_ z=>nomatch z) (λb o _ c _ e n=>u.keep b o e n c (by simp)) (λb o _ c _ e n=>u.slot b o e n c (by simp)) (λb o _ e n=>u.free b o e n (by simp)) (λb o _ e=>u.there b o e (by simp)) u.pW u.qm u.t4 (λl hm=>by
  obtain⟨k,d,f,a,h⟩:=hm;rw[g] at a;cases a;exact⟨_,d,f,i,h⟩) aZ I.bare
def Inv.call{g':Array GenState}{t':Nat}{d':Drawn}{ch:List Addr}(I:Inv X pins σ H s)(u:Un (FI X.stack) ch H H' s.heap h')(aZ:jO X.prog X.w H' h')(l:AllBare g')
  (f:∀b∈ch,(b∈X.ex\/X.s₀.heap.objs.size<=b)/\b≠X.env.locals/\(∀x c,X.env.cells.lookup x=some c->c≠b)/\∀p∈X.pn++pins,p.1≠b):
  Inv X pins σ H' {s with heap:=h',gens:=g',drawn:=d',toks:=t'}:=by
 obtain⟨m,⟨o,es,A,j,r⟩,_⟩:=id I.loc;obtain⟨t,g⟩:=u.any j I.free λz=>(f _ z).2.1 rfl;exact I.step (ch:=ch) f (λb o g q a e n=>u.keep b o e n (λz=>(VS.mp (I.nU b z)).elim g q) a) (λb o _ _ a e n=>u.any e n a) (λb o a e n=>u.free b o e n a) (λb o a e=>u.there b o e a) u.pW u.qm u.t4 (λy hm=>by
  obtain⟨v,h,i,d,k⟩:=hm;rw[j] at d;cases d;exact⟨_,h,i,g,k⟩) aZ l
def Inv.turned{t':Nat}{it:Addr}(I:Inv X pins σ H s)(k:∀b o,b≠it->s.heap.get? b=some o->h'.get? b=some o)(hn:H it=none)(f:it≠X.env.locals)
  (l:it∈X.ex\/X.s₀.heap.objs.size<=it) (j:∀x c,X.env.cells.lookup x=some c->c≠it) (i:∀p∈X.pn++pins,p.1≠it):Inv X pins σ H {s with heap:=h',toks:=t'}:=by
 have d:∀b u,H b=some u->b≠it:=λb u e z=>by rw[z,hn] at e;cases e
 refine I.step (g':=s.gens) (d':=s.drawn) (ch:=[it]) (λb h=>?_) (λb o _ _ a e _=>k b o (λz=>a (by simp[z])) e) (λb o _ _ a e _=>⟨o.slots,k b o (λz=>a (by simp[z])) e⟩) (λ_ _ _ _ n=>n)
  (λb o a e=>⟨o,k b o (λz=>a (by simp[z])) e⟩) (λ_ _ e=>e) (λ_ _ _ e=>e) (λb w e=>⟨#[],by rw[e];simp⟩) (λm hm=>?_) (λb u e=>?_) I.bare
 ·have e:b=it:=by simpa using h
  subst e;exact⟨l,f,j,i⟩
 ·obtain⟨o,es,t,g,r⟩:=hm;exact⟨o,es,t,k _ o (WO f) g,r⟩
 ·refine(I.aZ b u e).t5 (λc v a q=>k c v ?_ q) (λ_ q=>q) λ_ _ q=>q;rcases a with z | z
  ·rw[z];exact d b u e
  ·exact d c _ z
def Inv.tok(I:Inv X pins σ H s)(t:Nat):Inv X pins σ H {s with toks:=t}:=I.un (h':=s.heap) (t':=t) Un.refl I.aZ
theorem Inv.kept(I:Inv X pins σ H s)(k:∀b u,s.heap.get? b=some u->h'.get? b=some u):Inv X pins σ H {s with heap:=h',toks:=t'}:=I.un (Un.kept k) (I.aZ.kept k)
theorem Inv.laid(I:Inv X pins σ H s)(k:∀b u,s.heap.get? b=some u->h'.get? b=some u)(hp:s.heap.objs.size<=a)(new:b8 X.prog X.w (upd H a o) h' a o):
  Inv X pins σ (upd H a o) {s with heap:=h',toks:=t'}:=I.un (Un.laid k hp (I.aZ.fresh hp)) (I.aZ.laid k hp new)
theorem Inv.write(I:Inv X pins σ H s)(c:Ss (H x))(d:e=x\/H e=some (.own x))(k:∀b u,b≠e->s.heap.get? b=some u->h'.get? b=some u)(a:∃u,h'.get? e=some u)(new:b8 X.prog X.w (upd H x o) h' x o):Inv X pins σ (upd H x o) {s with heap:=h',toks:=f}:=I.un (Un.write c d k a) (I.aZ.write c d k a new)
def Inv.CZ(I:Inv X pins σ H s)(h:∀p∈a,s.heap.get? p.1=some p.2/\H p.1=none/\p.1≠X.env.locals/\p.1∉X.fs/\∀v,p.2.data≠.cell v):Inv X a σ H s:=
 ⟨I.ok,I.os,I.bare,I.base,I.loc,I.cell,I.free,I.iU,λp hp=>(Wk.mp hp).elim (λz=>I.pin p (Zw _ z)) (h p),I.aZ,I.len⟩
def zv{N:List Str}(c:N.Nodup){i j:Nat}{x:Str}(a:N[i]?=some x)(b:N[j]?=some x):i=j:=by
 obtain⟨g,e⟩:=Vz.mp a;obtain⟨f,d⟩:=Vz.mp b;exact(List.getElem_inj c).mp (e.trans d.symm)
def uW{M:Model}{A:Around}{E:Value->Shared->Prop}{i:Nat}{x:Str}{v:V}{u:Value}{Q:Unit->Shared->Prop}(I:Inv X pins σ H s)(hN:X.N.Nodup)(T:X.N[i]?=some x)(C:Loc X.env.scope x)(r:RelV v u)
  (h:∀s',Inv X pins (σ.set i (some v)) H s'->(∃a,Heap.SameBut a s.heap s'.heap/\(a=X.env.locals\/X.env.cells.lookup x=some a))->Q () s') (hf:X.fn x=true\/X.env.scope.names.lookup x=some .local:=by first | exact .inl rfl | exact .inr rfl | assumption):wpAny M A (storeName X.env x u) Q E s:=by
 obtain⟨m,hn,hl⟩:=id I.loc;have U:(X.env.scope.kind==.class||(X.env.scope.kind==.module&&X.env.locals !=X.env.globals))=false:=by rw[I.ok.kind];rfl
 have L:i < σ.length:=by rw[I.len];exact(Vz.mp T).1
 have Pc:=I.Pc;have g:∀{a:Addr} {h':Heap},(∃o,s.heap.get? a=some o/\H a=none)->Heap.SameBut a s.heap h'->jO X.prog X.w H h':=λ{a h'} ha f b ob e=>by
  obtain⟨_,_,F⟩:=ha;refine(I.aZ b ob e).t5 (λc w' t q=>(f.2 c ?_).trans q) (λ_ q=>q) λ_ _ q=>q;rintro rfl;rcases t with rfl | t
  ·rw[F] at e;cases e
  ·rw[F] at t;cases t
 rcases C with J | J
 ·refine wpAny_storeName_local J hn (λh' hn' f=>?_) U;obtain⟨oL,_,_,hoL,_⟩:=id hn;refine h _ ⟨I.ok,I.os,I.bare,⟨λb o e n P C=>?_,λb o e n P C=>?_,I.base.free,λb o e C=>?_,I.base.pW,I.base.qm,I.base.t4⟩,⟨_,hn',λj y v' l G e3=>?_⟩,λy c e=>?_,I.free,I.iU,λp hp=>?_,g ⟨oL,hoL,I.free⟩ f,by simpa using I.len⟩ ⟨_,f,.inl rfl⟩
  ·exact(f.2 b (V6 (VX (VP e) I.ok.above))).trans (I.base.keep b o e n P C)
  ·obtain⟨sl,l⟩:=I.base.slot b o e n P C;exact⟨sl,(f.2 b (V6 (VX (VP e) I.ok.above))).trans l⟩
  ·obtain⟨o',l⟩:=I.base.there b o e C;exact⟨o',(f.2 b (V6 (VX (VP e) I.ok.above))).trans l⟩
  ·by_cases hj:j=i
   ·subst hj;rw[T] at l;cases l;rw[Wy L] at G;cases G;exact⟨u,r,.inl ⟨J,by simp⟩⟩
   ·rw[Wn (WO hj)] at G;obtain⟨u',r',q⟩:=hl j y v' l G e3;refine⟨u',r',?_⟩;rcases q with⟨k,e⟩ |⟨k,c,e,z⟩
    ·refine .inl ⟨k,?_⟩;have:y≠x:=λe=>hj (zv hN l (e ▸ T));simp[this,e]
    ·exact .inr ⟨k,c,e,z.sameBut f (Pc y c e)⟩
  ·obtain⟨w',z⟩:=I.cell y c e;exact⟨w',z.sameBut f (Pc y c e)⟩
  ·obtain⟨e,n,ne,nf,d⟩:=I.pin p hp;exact⟨(f.2 p.1 ne).trans e,n,ne,nf,d⟩
 ·have O:X.fn x=true:=by
   rcases hf with z | z
   ·exact z
   ·rw[z] at J;cases J
  obtain⟨c,t⟩:=I.ok.has x (.inl J);obtain⟨w',z⟩:=I.cell x c t;refine wpAny_storeName_cell I.ok.kind J t z (λh' Z f=>?_);obtain⟨oc,S,R⟩:=id z;refine h {s with heap:=h'} ⟨I.ok,I.os,I.bare,⟨λb o e n P C=>?_,λb o e n P C=>?_,I.base.free,λb o e C=>?_,I.base.pW,I.base.qm,I.base.t4⟩,⟨m,hn.sameBut f (WO (Pc x c t)),λj y v' l G e3=>?_⟩,λy c' e=>?_,I.free,I.iU,λp hp=>?_,g ⟨oc,S,I.iU x c t⟩ f,by simpa using I.len⟩ ⟨c,f,.inr t⟩
  ·exact(f.2 b (V6 (VX (VP e) (I.ok.RE x c O t)))).trans (I.base.keep b o e n P C)
  ·obtain⟨sl,l⟩:=I.base.slot b o e n P C;exact⟨sl,(f.2 b (V6 (VX (VP e) (I.ok.RE x c O t)))).trans l⟩
  ·obtain⟨o',l⟩:=I.base.there b o e C;exact⟨o',(f.2 b (V6 (VX (VP e) (I.ok.RE x c O t)))).trans l⟩
  ·by_cases hj:j=i
   ·subst hj;rw[T] at l;cases l;rw[Wy L] at G;cases G;exact⟨u,r,.inr ⟨.inl J,c,t,Z⟩⟩
   ·rw[Wn (WO hj)] at G;obtain⟨u',r',q⟩:=hl j y v' l G e3;refine⟨u',r',?_⟩;rcases q with q |⟨k,c',e,z'⟩
    ·exact .inl q
    ·refine .inr ⟨k,c',e,z'.sameBut f ?_⟩;rintro rfl;exact hj (zv hN l (I.ok.inj _ _ _ e t ▸ T))
  ·by_cases Y:c'=c
   ·subst Y;exact⟨_,Z⟩
   ·obtain⟨w2,z2⟩:=I.cell y c' e;exact⟨w2,z2.sameBut f Y⟩
  ·obtain⟨e,n,ne,nf,d⟩:=I.pin p hp;refine⟨(f.2 p.1 ?_).trans e,n,ne,nf,d⟩;intro q;rw[q,S] at e;have q':oc=p.2:=Option.some.inj e;exact d w' (by rw[<-q'];exact R)
def lT(I:Inv X pins σ H s)(e:X.N.Nodup)(c:X.N[i]?=some x)(b:Loc X.env.scope x)(r:RelV v u)(h:∀a,Inv X pins (σ.set i (some v)) H a->Q () a)(d:X.fn x=true\/X.env.scope.names.lookup x=some .local:=by first | exact .inl rfl | exact .inr rfl | assumption):wpAny M A (storeName X.env x u) Q E s:=
 uW I e c b r (λa f _=>h a f) d
def Inv.call'(I:Inv X pins σ H s)(f:s'.os=s.os)(u:Un (FI X.stack) ch H H' s.heap s'.heap)(aZ:jO X.prog X.w H' s'.heap)(g:AllBare s'.gens)(a:∀b∈ch,(b∈X.ex\/X.s₀.heap.objs.size<=b)/\b≠X.env.locals/\(∀x c,X.env.cells.lookup x=some c->c≠b)/\∀p∈X.pn++pins,p.1≠b):Inv X pins σ H' s':=by
 obtain⟨h',g',d',t',d⟩:=s';have e:d=s.os:=f;subst e;exact I.call (g':=g') (t':=t') (d':=d') u aZ g a
end
abbrev XK:=Value->Option Addr->Hp->Prop
abbrev St:=List (Option V)
abbrev VK:=V->Hp->Prop
abbrev TE:=St->Hp->VK->Prop
abbrev TT:=St->Hp->(Bool->Hp->Prop)->Prop
abbrev TA:=St->Hp->(List V->Hp->Prop)->Prop
structure Ends where
 nx:St->Hp->Prop
 rt:VK
 bk:St->Hp->Prop:=λ_ _=>False
 ct:St->Hp->Prop:=λ_ _=>False
abbrev TS:=Ends->St->Hp->Prop
inductive Vd(X:Cx)(pins:List (Addr×Obj))(σ:St)(Q:VK)(u:Value)(s':Shared):Prop where
 | mk (v H'):Inv X pins σ H' s'->RelV v u->Q v H'->Vd X pins σ Q u s'
def EP(X:Cx)(a:List (Addr×Obj))(b:St)(Q:VK)(u:Value)(c:Shared):Prop:=Vd X a b Q u c
def TP(X:Cx)(a:List (Addr×Obj))(d:St)(Q:Bool->Hp->Prop)(b:Bool)(e:Shared):Prop:=∃c,Inv X a d c e/\Q b c
inductive Ve(X:Cx)(pins:List (Addr×Obj))(σ:St)(Q:List V->Hp->Prop)(us:List Value)(s':Shared):Prop where
 | mk (vs H'):Inv X pins σ H' s'->Vals vs us->Q vs H'->Ve X pins σ Q us s'
def AP(X:Cx)(a:List (Addr×Obj))(b:St)(Q:List V->Hp->Prop)(us:List Value)(c:Shared):Prop:=Ve X a b Q us c
def SP(X:Cx)(b:List (Addr×Obj))(D:Ends)(f:Flow)(d:Shared):Prop:=
 match f with
 | .next=>∃a c,Inv X b a c d/\D.nx a c
 | .brk=>∃a c,Inv X b a c d/\D.bk a c
 | .cont=>∃a c,Inv X b a c d/\D.ct a c
 | .ret u=>∃v a c,Inv X b a c d/\RelV v u/\D.rt v c
def PE(X:Cx)(e:Expr)(t:TE):Prop:=
 ∀(a:List (Addr×Obj)) (s:Shared) (b:St) (H:Hp) (Q:VK),Inv X a b H s->t b H Q->wpAny (model X.prog X.w) X.A (eval e X.env) (EP X a b Q) X.xe s
def PT(X:Cx)(e:Expr)(t:TT):Prop:=
 ∀(a:List (Addr×Obj)) (s:Shared) (b:St) (H:Hp) (Q:Bool->Hp->Prop),Inv X a b H s->t b H Q->wpAny (model X.prog X.w) X.A (isTrue e X.env (eval e X.env)) (TP X a b Q) X.xe s
def PW(X:Cx)(e:Expr)(t:TT):Prop:=
 ∀(b:Sem Value)(a:List (Addr×Obj)) (s:Shared) (c:St) (H:Hp) (Q:Bool->Hp->Prop),Inv X a c H s->t c H Q->wpAny (model X.prog X.w) X.A (isTrue e X.env b) (TP X a c Q) X.xe s
def PW.pt(h:PW X e t):PT X e t:=h _
def PA(X:Cx)(es:List Expr)(t:TA):Prop:=
 ∀(pos:Pos)(a:List (Addr×Obj)) (s:Shared) (b:St) (H:Hp) (Q:List V->Hp->Prop),Inv X a b H s->t b H Q->wpAny (model X.prog X.w) X.A (spliced (backTo pos (starEach es X.env))) (AP X a b Q) X.xe s
def PS(X:Cx)(st:Stmt)(t:TS):Prop:=
 ∀(a:List (Addr×Obj)) (s:Shared) (b:St) (H:Hp) (D:Ends),Inv X a b H s->t D b H->wpAny (model X.prog X.w) X.A (exec st X.env) (SP X a D) X.xe s
def Au(X:Cx)(st:List Stmt)(t:TS):Prop:=
 ∀(a:List (Addr×Obj)) (s:Shared) (b:St) (H:Hp) (D:Ends),Inv X a b H s->t D b H->wpAny (model X.prog X.w) X.A (execs st X.env) (SP X a D) X.xe s
def cv(h:wpAny M A t Q E s)(b:∀a s,Q a s->c a s):wpAny M A t c E s:=WL h b λ_ _ x=>x
section
variable {X:Cx}
def S9(i:Nat):TE:=λa H Q=>∃v,a[i]?=some (some v)/\Q v H
def tC(v:V):TE:=λ_ H Q=>Q v H
def NU(o:X.N[i]?=some x)(n:RV X.env.scope x)(hd:(x==("__debug__":Str))=false:=by decide)(g:(x==("__classdict__":Str))=false:=by decide):PE X (.Name x pos) (S9 i):=by
 intro f s k H Q I h;obtain⟨v,e,h⟩:=h;obtain⟨m,hn,hl⟩:=I.loc;obtain⟨u,r,l⟩:=hl i x v o e n;have d:EP X f k Q u s:=⟨v,H,I,r,h⟩;rcases l with⟨b,hm⟩ |⟨b,c,j,a⟩
 ·exact wpAny_Name (wpAny_loadName_local I.ok.kind b hn hm d) hd
 ·rcases b with b | b
  ·exact wpAny_Name (wpAny_loadName_cell I.ok.kind b j a d) hd
  ·exact wpAny_Name (wpAny_loadName_free I.ok.kind b j a d g) hd
def N5{i j pos}:PE X (.Constant (.int i) j pos) (tC (.int i)):=λ_ _ _ H _ I h=>wpAny_Constant_int ⟨.int i,H,I.tok _,⟨_,rfl⟩,h⟩
def Q1{b j pos}:PE X (.Constant (.bool b) j pos) (tC (.bl b)):=λ_ _ _ H _ I h=>Constant_bool ⟨.bl b,H,I,rfl,h⟩
def N0{j pos}:PE X (.Constant .none j pos) (tC .bx):=λ_ _ _ H _ I h=>Constant_none ⟨.bx,H,I,rfl,h⟩
def NX{x j pos}:PE X (.Constant (.str x) j pos) (tC (.str x)):=λ_ _ _ H _ I h=>Calls.Constant_str ⟨.str x,H,I.tok _,⟨_,rfl⟩,h⟩
def Gl(X:Cx)(x:Str):Prop:=X.env.kindOf x=some .globalImplicit
def Dn(I:Inv X pins σ H s)(a:Gl X x)(hm:X.mg x=some u)(h:Q u s)(hd:(x==("__debug__":Str))=false:=by decide):wpAny (model X.prog X.w) X.A (eval (.Name x pos) X.env) Q E s:=
 AaP I.ok.kind a (Calls.loadGlobal_global (by rw[I.ok.glob];exact I.mod.glob.keeps I.bk) hm h) hd
def fU(I:Inv X pins σ H s)(b:Gl X x)(hm:X.mg x=none)(a:bootBuiltins x=some u)(h:Q u s)(hn:x≠"__name__":=by decide)(hd:(x==("__debug__":Str))=false:=by decide):wpAny (model X.prog X.w) X.A (eval (.Name x pos) X.env) Q E s:=by
 obtain⟨e,d,c⟩:=I.mod.blt;exact AaP I.ok.kind b (Calls.loadGlobal_builtin (by rw[I.ok.glob];exact I.mod.glob.keeps I.bk) hm (by rw[I.ok.blt];exact d.keeps I.bk) ((c x hn).trans a) h) hd
def Kq(b:Gl X x)(hm:X.mg x=none)(a:bootBuiltins x=some u)(r:RelV v u)(hn:x≠"__name__":=by decide)(hd:(x==("__debug__":Str))=false:=by decide):PE X (.Name x pos) (tC v):=
 λ_ _ _ H _ I h=>fU I b hm a ⟨v,H,I,r,h⟩ hn hd
variable {a b:Expr} {ta tb:TE} {pos:Pos}
variable {tA tB':TT} {rest:List Expr}
def km(t u:TT):TT:=λd H Q=>t d H λc e=>if c=true then u d e Q else Q false e
def D7(t u:TT):TT:=λd H Q=>t d H λc e=>if c=true then Q true e else u d e Q
def qV(t:TT):TT:=λd H Q=>t d H λc e=>Q (!c) e
def JT(g:PT X a tA):PW X (.BoolOp .And [a] pos) tA:=by
 intro i d s f H Q I h;refine isTrue_and (cv (g d s f H Q I h) λc j e=>?_);cases c with
 | true=>exact isTrue_and_nil e
 | false=>exact e
def NG(g:PT X a tA):PW X (.BoolOp .Or [a] pos) tA:=by
 intro i d s f H Q I h;refine isTrue_or (cv (g d s f H Q I h) λc j e=>?_);cases c with
 | false=>exact isTrue_or_nil e
 | true=>exact e
def NH(k:PT X a tA)(j:PW X (.BoolOp .And (b::rest) pos) tB'):PW X (.BoolOp .And (a::b::rest) pos) (km tA tB'):=by
 intro i d s e H Q I h;refine isTrue_and (cv (k d s e H _ I h) λc s1 u9=>?_);obtain⟨H1,g,f⟩:=u9;cases c with
 | true=>exact j i d s1 e H1 Q g f
 | false=>exact⟨H1,g,f⟩
def QV(k:PT X a tA)(j:PW X (.BoolOp .Or (b::rest) pos) tB'):PW X (.BoolOp .Or (a::b::rest) pos) (D7 tA tB'):=by
 intro i d s e H Q I h;refine isTrue_or (cv (k d s e H _ I h) λc s1 u9=>?_);obtain⟨H1,g,f⟩:=u9;cases c with
 | true=>exact⟨H1,g,f⟩
 | false=>exact j i d s1 e H1 Q g f
def NI(f:PT X a tA):PT X (.UnaryOp .Not a pos) (qV tA):=by
 intro d s e H Q I h;exact isTrue_not (f d s e H (λc g=>Q (!c) g) I h)
def Qt(ta tb:TE):TE:=λd H Q=>ta d H λx e=>∃c,x=.bl c/\if c=true then tb d e Q else Q (.bl false) e
def Tc(ta tb:TE):TE:=λd H Q=>ta d H λx e=>∃c,x=.bl c/\if c=true then Q (.bl true) e else tb d e Q
def Qn(ta:TE):TE:=λd H Q=>ta d H λx e=>∃c,x=.bl c/\Q (.bl (!c)) e
def NY{op}(h:PE X a t):PE X (.BoolOp op [a] pos) t:=λc s d H Q I e=>BoolOp_one (h c s d H Q I e)
def N7(k:PE X a ta)(j:PE X (.BoolOp .And (b::rest) pos) tb):PE X (.BoolOp .And (a::b::rest) pos) (Qt ta tb):=by
 intro d s f H Q I h;refine BoolOp_and (cv (k d s f H _ I h) λv s1 u9=>?_);obtain⟨x,H1,g,i,e⟩:=u9;obtain⟨c,rfl,e⟩:=e;cases i;refine XW ?_;cases c with
 | true=>exact j d s1 f H1 Q g e
 | false=>exact⟨.bl false,H1,g,rfl,e⟩
def QZ(k:PE X a ta)(j:PE X (.BoolOp .Or (b::rest) pos) tb):PE X (.BoolOp .Or (a::b::rest) pos) (Tc ta tb):=by
 intro d s f H Q I h;refine BoolOp_or (cv (k d s f H _ I h) λv s1 u9=>?_);obtain⟨x,H1,g,i,e⟩:=u9;obtain⟨c,rfl,e⟩:=e;cases i;refine XW ?_;cases c with
 | false=>exact j d s1 f H1 Q g e
 | true=>exact⟨.bl true,H1,g,rfl,e⟩
def NZ(i:PE X a ta):PE X (.UnaryOp .Not a pos) (Qn ta):=by
 intro d s f H Q I h;refine UnaryOp_ (cv (i d s f H _ I h) λv s1 u9=>?_);obtain⟨x,H1,j,g,e⟩:=u9;obtain⟨c,rfl,e⟩:=e;cases g;exact not_of (XW ⟨.bl (!c),H1,j,rfl,e⟩)
def Vk(t:TT)(ta tb:TE):TE:=λd H Q=>t d H λc e=>if c=true then ta d e Q else tb d e Q
def Hg(j:PT X c tA)(l:PE X a ta)(k:PE X b tb):PE X (.IfExp c a b pos) (Vk tA ta tb):=by
 intro e s f H Q I h;refine wpAny_IfExp (cv (j e s f H _ I h) λd s1 u9=>?_);obtain⟨H1,i,g⟩:=u9;cases d with
 | true=>exact l e s1 f H1 Q i g
 | false=>exact k e s1 f H1 Q i g
end
def eL(K:FR)(H:Hp)(a:Addr)(c:List V):Prop:=
 Rd H a (.lst c)\/
  ∃(o:Obj)(b:Array Value)(n:Nat),K.lookup a=some o/\o.cls=.type "list"/\o.dict=none/\o.data=.seq b n/\b.size<=sizeLine/\Vals c b.toList
def i5(K:FR)(H:Hp)(a:Addr)(c:List V):Prop:=
 Rd H a (.tup c)\/
  ∃(o:Obj)(b:Array Value)(n:Nat),K.lookup a=some o/\o.cls=.type "tuple"/\o.data=.seq b n/\b.size<=sizeLine/\Vals c b.toList/\o.dict=none
noncomputable def UL:Value->Option V
 | .none=>some .bx
 | .bool b=>some (.bl b)
 | .int i _=>some (.int i)
 | .str x _=>some (.str x)
 | .bytes b _=>some (.byt b)
 | .float b _=>some (.P5 b)
 | .ref a=>some (.ref a)
 | .type n=>some (.ty n)
 | _=>none
def RelV.abs(r:RelV x u):UL u=some x:=by
 cases x with
 | bx=>cases r;rfl
 | bl _=>cases r;rfl
 | int _=>obtain⟨t,rfl⟩:=r;rfl
 | str _=>obtain⟨t,rfl⟩:=r;rfl
 | byt _=>obtain⟨t,rfl⟩:=r;rfl
 | P5 _=>obtain⟨t,rfl⟩:=r;rfl
 | ref _=>cases r;rfl
 | ty _=>cases r;rfl
theorem RelV.inj(r:RelV x u)(q:RelV y u):x=y:=Option.some.inj (r.abs.symm.trans q.abs)
theorem Vals.inj{d c:List V}{us:List Value}(a:Vals d us)(b:Vals c us):d=c:=by
 induction a generalizing c with
 | nil=>cases b;rfl
 | cons r t g=>cases b with | cons f e=>rw[r.inj f,g e]
def eL.of{K:FR}(h:H a=some (.lst xs)):eL K H a xs:=.inl (.inl h)
def Inv.list(I:Inv X pins σ H s)(h:eL X.K H a xs):∃b:List Value,Vals xs b/\PlainL s.heap a b.toArray/\xs.length<=sizeLine:=by
 rcases h with h |⟨o,b,n,d,f,hd,c,g,r⟩
 ·obtain⟨z,b,n,r,e⟩:=h.ok I.aZ;exact⟨b,r,⟨_,n,e,rfl,rfl,rfl⟩,z⟩
 ·refine⟨b.toList,r,⟨o,n,I.xx a o d,f,hd,by simpa using c⟩,?_⟩;have e:=r.length;simp only[XT] at e
  lia
def Inv.tuple(I:Inv X pins σ H s)(h:i5 X.K H a xs):∃b:List Value,Vals xs b/\IsTup s.heap a b.toArray/\xs.length<=sizeLine:=by
 rcases h with h |⟨o,b,n,d,f,c,g,r,_⟩
 ·obtain⟨z,b,r,p⟩:=h.ok I.aZ;exact⟨b,r,p.tup,z⟩
 ·refine⟨b.toList,r,⟨o,I.xx a o d,f,n,by simpa using c⟩,?_⟩;have e:=r.length;simp only[XT] at e
  lia
def Inv.zG(I:Inv X pins σ H s)(h:eL X.K H a xs)(k:eL X.K H a i):xs=i:=by
 obtain⟨c,r,⟨o,n,e,_,_,d⟩,_⟩:=I.list h;obtain⟨b,j,⟨l,m,f,_,_,g⟩,_⟩:=I.list k;rw[e] at f;cases f;rw[d] at g;injection g with d1 _
 have:c=b:=by simpa using congrArg Array.toList d1
 subst this;exact r.inj j
def Inv.uT(I:Inv X pins σ H s)(h:i5 X.K H a xs)(k:i5 X.K H a i):xs=i:=by
 obtain⟨c,r,⟨o,e,_,n,d⟩,_⟩:=I.tuple h;obtain⟨b,j,⟨l,f,_,m,g⟩,_⟩:=I.tuple k;rw[e] at f;cases f;rw[d] at g;injection g with d1 _
 have:c=b:=by simpa using congrArg Array.toList d1
 subst this;exact r.inj j
abbrev Cx.tY(X:Cx)(E:Value->Shared->Prop):Cx:={X with xe:=E}
abbrev Cx.P1(X:Cx):Cx:=X.tY λ_ _=>False
theorem Cx.Ok.tY{X:Cx}(ok:X.Ok)(E:Value->Shared->Prop):(X.tY E).Ok:=
 ⟨ok.mod,ok.kind,ok.glob,ok.blt,ok.above,ok.inj,ok.has,ok.RE,ok.hd,ok.frames,ok.Sz,ok.U3,ok.bs,ok.Ml,ok.HA,ok.La,ok.sW,ok.P4⟩
def Cx.Ok.i6{X:Cx}{E:Value->Shared->Prop}(ok:(X.tY E).Ok):X.Ok:=
 ⟨ok.mod,ok.kind,ok.glob,ok.blt,ok.above,ok.inj,ok.has,ok.RE,ok.hd,ok.frames,ok.Sz,ok.U3,ok.bs,ok.Ml,ok.HA,ok.La,ok.sW,ok.P4⟩
theorem Inv.tY(I:Inv X pins σ H s)(E:Value->Shared->Prop):Inv (X.tY E) pins σ H s:=⟨I.ok.tY E,I.os,I.bare,I.base,I.loc,I.cell,I.free,I.iU,I.pin,I.aZ,I.len⟩
theorem Inv.i6(I:Inv (X.tY E) pins σ H s):Inv X pins σ H s:=⟨I.ok.i6,I.os,I.bare,I.base,I.loc,I.cell,I.free,I.iU,I.pin,I.aZ,I.len⟩
theorem SP.i6(h:SP (X.tY E) pins D f c):SP X pins D f c:=by
 cases f with
 | next=>obtain⟨a,b,I,q⟩:=h;exact⟨a,b,I.i6,q⟩
 | brk=>obtain⟨a,b,I,q⟩:=h;exact⟨a,b,I.i6,q⟩
 | cont=>obtain⟨a,b,I,q⟩:=h;exact⟨a,b,I.i6,q⟩
 | ret u=>obtain⟨v,a,b,I,r,q⟩:=h;exact⟨v,a,b,I.i6,r,q⟩
theorem Au.P1{st:List Stmt}{t:TS}(h:Au X.P1 st t):Au X st t:=λa s b H D I c=>
 WL (h a s b H D (I.tY _) c) (λ_ _ q=>q.i6) λ_ _ z=>False.elim z
section
variable {X:Cx} {st:Stmt} {rest:List Stmt} {t u:TS} {e:Expr} {te:TE} {pos:Pos}
def Qo:TS:=λD a H=>D.nx a H
def Qj(t u:TS):TS:=λD a H=>t {D with nx:=u D} a H
def JX:Au X [] Qo:=λ_ _ a H _ I h=>ZE ⟨a,H,I,h⟩
def G1(i:PS X st t)(g:Au X rest u):Au X (st::rest) (Qj t u):=by
 intro a s c H D I h;refine wpAny_execs_cons (cv (i a s c H {D with nx:=u D} I h) λf d q=>?_);cases f with
 | next=>
  obtain⟨b,k,j,q⟩:=q;exact g a d b k D j q
 | ret v=>exact q
 | brk=>exact q
 | cont=>exact q
def JW(c:PS X st t):Au X [st] t:=by
 intro a s b H D I h;refine wpAny_execs_cons (cv (c a s b H D I h) λf d q=>?_);cases f with
 | next=>exact ZE q
 | ret v=>exact q
 | brk=>exact q
 | cont=>exact q
def MR:TS:=λD a H=>D.bk a H
def G5:PS X (.Break pos) MR:=λ_ _ a H _ I h=>wpAny_Break ⟨a,H,I,h⟩
def Inv.quiet(I:Inv X pins σ H s):interactive X.env=false:=by simp[interactive,I.ok.kind]
def Qq(te:TE):TS:=λD a H=>te a H λ_ b=>D.nx a b
def J3(f:PE X e te)(d:swapsWith e none pos.line X.env=pure false:=by rfl):PS X (.Expr e pos) (Qq te):=by
 intro a s b H D I h;exact wpAny_Expr_any (cv (f a s b H _ I h) λv s1 ⟨x,H1,g,i,c⟩=>⟨b,H1,g,c⟩) I.quiet d
def Tb(te:TE):TS:=λD a H=>te a H D.rt
def NK(f:PE X e te):PS X (.Return (some e) pos) (Tb te):=by
 intro a s b H D I h;exact wpAny_Return_some (cv (f a s b H _ I h) λv s1 ⟨x,H1,g,c,d⟩=>⟨x,b,H1,g,c,d⟩)
def Tg(c:TT)(t u:TS):TS:=λD a H=>c a H λb d=>if b=true then t D a d else u D a d
def QW(l:PT X c k)(n:Au X a t)(m:Au X b u):PS X (.If c a b pos) (Tg k t u):=by
 intro f s g H D I h;refine wpAny_If (cv (l f s g H _ I h) λd s1 u9=>?_);obtain⟨H1,j,i⟩:=u9;cases d with
 | true=>exact n f s1 g H1 D j i
 | false=>exact m f s1 g H1 D j i
end
abbrev TG:=V->St->Hp->(St->Hp->Prop)->Prop
abbrev Mq:=List V->St->Hp->(St->Hp->Prop)->Prop
def PG(X:Cx)(a:Expr)(t:TG):Prop:=
 ∀(b:List (Addr×Obj)) (s:Shared) (d:St) (H:Hp) (v:V) (u:Value) (Q:St->Hp->Prop),Inv X b d H s->RelV v u->t v d H Q->
  wpAny (model X.prog X.w) X.A (assign a X.env u) (λ_ f=>∃c e,Inv X b c e f/\Q c e) X.xe s
def LC(X:Cx)(f:List Expr)(t:Mq):Prop:=
 ∀(a:List (Addr×Obj)) (s:Shared) (c:St) (H:Hp) (d:List V) (us:List Value) (Q:St->Hp->Prop),Inv X a c H s->Vals d us->t d c H Q->
  wpAny (model X.prog X.w) X.A (assignInOrder ((assignEach f X.env).map (·.2)) us) (λ_ g=>∃b e,Inv X a b e g/\Q b e) X.xe s
abbrev RZ:=V->V->V->Hp->(Hp->Prop)->Prop
def LB(X:Cx)(t:RZ):Prop:=
 ∀(a:List (Addr×Obj)) (s:Shared) (b:St) (H:Hp) (o i v:V) (ov c u:Value) (Q:Hp->Prop),Inv X a b H s->RelV o ov->RelV i c->RelV v u->t o i v H Q->
  wpAny (model X.prog X.w) X.A (setItem ov c u) (λ_ e=>∃d,Inv X a b d e/\Q d) X.xe s
def zO(i:Nat):TG:=λv a H Q=>Q (a.set i (some v)) H
def Kn(e:X.N.Nodup)(c:X.N[i]?=some x)(b:Loc X.env.scope x)(d:X.fn x=true\/X.env.scope.names.lookup x=some .local:=by first | exact .inl rfl | exact .inr rfl | assumption):PG X (.Name x pos) (zO i):=by
 intro a s g H v u Q I r h;exact wpAny_assign_Name (lT I e c b r (λj f=>⟨_,H,f,h⟩) d)
noncomputable def Ux:Mq:=λb a H Q=>b=[]/\Q a H
def Ru(t:TG)(u:Mq):Mq:=λc b H Q=>∃v r,c=v::r/\t v b H λa d=>u r a d Q
def Km:LC X [] Ux:=by
 intro a s b H c us Q I r h;obtain⟨e,h⟩:=h;subst e;cases r;exact assignInOrder_nil ⟨b,H,I,h⟩
def G9(j:PG X e t)(i:LC X es u)(g:(assignEach (e::es) X.env).map (·.2)=assign e X.env::(assignEach es X.env).map (·.2):=by rfl):LC X (e::es) (Ru t u):=by
 intro a s c H m us Q I r h;obtain⟨v,n,k,h⟩:=h;subst k;cases r with
 | cons r d=>
  rw[g];refine AaL (cv (j a s c H _ _ _ I r h) λ_ s1 u9=>?_);obtain⟨b,H1,l,f⟩:=u9;exact i a s1 b H1 _ _ Q l d f
def Uw(K:FR)(n:Nat)(t:Mq):TG:=λv c H Q=>∃a b,v=.ref a/\i5 K H a b/\b.length=n/\t b c H Q
def NS(p:X.calm=true)(h:LC X es t)(hn:(assignEach es X.env).length=n:=by rfl)(f:(assignEach es X.env).findIdx? (·.1)=none:=by rfl):PG X (.Tuple es k pos) (Uw X.K n t):=by
 intro c s g H v u Q I r d;obtain⟨a,i,w,m,hl,d⟩:=d;subst w;cases r;obtain⟨j,rv,ht,y⟩:=I.tuple m;refine assign_Tuple_tuple (I.ok.hd p) ht (by simp[hn,<-hl,rv.length]) f λq l=>?_;have x:Inv X c g H {s with heap:=q}:=I.kept (t':=s.toks) λb o e=>l b o (V6 (VP e)) e;exact h c _ g H i _ Q x (by simpa using rv) d
def uI(b c:TE)(t:RZ):TG:=λv a H Q=>b a H λo f=>c a f λi e=>t o i v e λd=>Q a d
def Hb (m:PE X o to) (n:PE X i d) (l:LB X t) (p:∀v,assign (.Subscript o i pos) X.env v=(do
   let ov<-holding [v] (eval o X.env);let b<-holding [v,ov] (eval i X.env)
   standAt pos
   holding [v,ov,b] (setItem ov b v)
   release [v,ov,b] []):=by intro _;rfl):PG X (.Subscript o i pos) (uI to d t):=by
 intro a s c H v u Q I r h;rw[p];refine Vx (Wh (cv (m a s c H _ I h) λov s1 u9=>?_));obtain⟨x,H1,z,f,k⟩:=u9;refine Vx (Wh (cv (n a s1 c H1 _ z k) λb s2 u9=>?_));obtain⟨y,C,w,e,j⟩:=u9;refine Vx (Xm (Vx (Wh (cv (l a s2 c C x y v ov b u _ w f e r j) λ_ s3 u9=>?_))));obtain⟨A,q,g⟩:=u9;exact wpAny_release ⟨c,A,q,g⟩
def Jv(b:TE)(g:TG):TS:=λD a H=>b a H λx c=>g x a c D.nx
def NM(m:PE X e d)(l:PG X b g)(k:swapsWithSole [b] e pos.line X.env=pure false:=by rfl)(j:swappedStores [b] e X.env=pure none:=by rfl)(n:(assignEach [b] X.env).map (·.2)=[assign b X.env]:=by rfl):PS X (.Assign [b] e pos) (Jv d g):=by
 intro a s c H D I h;refine wpAny_Assign_stores (cv (m a s c H _ I h) λv s1 u9=>?_) k j;obtain⟨x,H1,o,f,i⟩:=u9;rw[n];exact cv (l a s1 c H1 x v _ o f i) λ_ p q=>q
def NJ(n:X.N.Nodup)(k:X.N[i]?=some x)(g:Loc X.env.scope x)(m:PE X e c)(j:swapsWith e (some (.Name x pos')) pos.line X.env=pure false:=by rfl)(l:X.fn x=true\/X.env.scope.names.lookup x=some .local:=by first | exact .inl rfl | exact .inr rfl | assumption):
  PS X (.Assign [.Name x pos'] e pos) (Jv c (zO i)):=by
 intro a s b H D I h;refine wpAny_Assign_Name (cv (m a s b H _ I h) λv s1 u9=>?_) j;obtain⟨y,H1,p,d,f⟩:=u9;exact lT p n k g d (λq o=>⟨_,H1,o,f⟩) l
def Ql(i j:Nat)(c:TA):TS:=λD a H=>c a H λb d=>∃v w,b=[v,w]/\D.nx ((a.set i (some v)).set j (some w)) d
def Bl{kt k d}(P:X.calm=true)(z:X.N.Nodup)(O:X.N[i]?=some x)(hj:X.N[j]?=some y)(m:i≠j)(u:X.env.scope.names.lookup x=some .local)(t:X.env.scope.names.lookup y=some .local)(Q:PA X [a,b] E)(L:swappedStores [.Tuple [.Name x r,.Name y py] kt pt] (.Tuple [a,b] k d) X.env=pure (some [x,y]))(M:swapsWithSole [.Tuple [.Name x r,.Name y py] kt pt] (.Tuple [a,b] k d) pos.line X.env=pure false:=by rfl):
  PS X (.Assign [.Tuple [.Name x r,.Name y py] kt pt] (.Tuple [a,b] k d) pos) (Ql i j E):=by
 intro c s n H D I h;rw[exec_Assign_arm];refine Vx (Xm ?_);rw[M];refine Vx (VA ?_);rw[VH (by decide)];refine Vx (Tuple_ (cv (Q _ c s n H _ I h) λus s1 u9=>?_));obtain⟨Z,H1,Y,F,g⟩:=u9;obtain⟨v,w,R,g⟩:=g;subst R;obtain⟨u1,u2,rfl,rv,f⟩:∃u1 u2,us=[u1,u2]/\RelV v u1/\RelV w u2:=by
  cases F with
  | cons p q=>
   cases q with
   | cons J G=>
    cases G;exact⟨_,_,rfl,p,J⟩
 refine Ws ?_ (by show 2<=sizeLine;decide);have U:Inv X c n H1 {s1 with heap:=s1.heap.push {cls:=.type "tuple",data:=.seq [u1,u2].toArray}}:=Y.kept (t':=s1.toks) λb o e=>VB _ e;rw[L];refine Vx (VA ?_);show wpAny (model X.prog X.w) X.A (do rule "assign.swapped-stores";let items<-unpackItems (.ref s1.heap.objs.size) 2 none;assignInOrder [λv=>bindName X.env y v,λv=>bindName X.env x v] items.reverse;pure Flow.next) _ _ _;refine Vx (Xe (Vx (unpackItems_tuple (items:=#[u1,u2]) (I.ok.hd P) (IsTup.new s1.heap _) λh' l=>?_)));have T:=U.kept (h':=h') (t':=s1.toks) λb o e=>l b o (V6 (VP e)) e;show wpAny _ _ (assignInOrder [λv=>bindName X.env y v,λv=>bindName X.env x v] [u2,u1] >>=λ_=>pure Flow.next) _ _ _;refine Vx (AaL (wpAny_bindName (lT T z hj (.inl t) f (λs2 S=>?_) (.inr t))));refine AaL (wpAny_bindName (lT S z O (.inl u) rv (λs3 C=>assignInOrder_nil (VA ?_)) (.inr u)));rw[List.set_comm _ _ (WO m)] at C;exact⟨_,H1,C,g⟩
def F1(c:TT)(h:TS):TS:=λD a H=>∃W:Nat->St->Hp->Prop,(∃m,W m a H)/\∀m a H,W m a H->
 c a H λb f=>if b=true then ∃N:St->Hp->Prop,(∀d g,N d g->∃e,e < m/\W e d g)/\h {D with nx:=N,ct:=N,bk:=D.nx} a f else D.nx a f
def G3(hp:PassesOwn (model X.prog X.w) X.A X.env X.xe)(O:PT X c F)(P:Au X body G):PS X (.While c body [] pos) (F1 F G):=by
 intro d s z H D I h;obtain⟨W,⟨M,E⟩,i⟩:=h;refine wpAny_While (codeAny_whileLoop (λn L=>∃g y,Inv X d g y L/\W n g y) ?_ M ⟨z,H,I,E⟩);rintro n J ⟨e,x,Q,C⟩;refine Yg hp (cv (O d J e x _ Q (i n e x C)) λb s2 u9=>?_);obtain⟨u,t,l⟩:=u9;cases b with
 | true=>
  obtain⟨N,r,l⟩:=l;rw[VE rfl];refine Yg hp (cv (P d s2 e u _ t l) λf R k=>?_);cases f with
  | next=>
   obtain⟨a,j,q,o⟩:=k;obtain⟨p,hm,m⟩:=r a j o;exact⟨p,hm,a,j,q,m⟩
  | cont=>
   obtain⟨a,j,q,o⟩:=k;obtain⟨p,hm,m⟩:=r a j o;exact⟨p,hm,a,j,q,m⟩
  | brk=>exact k
  | ret v=>exact k
 | false=>
  rw[VH V8];exact ZE ⟨e,u,t,l⟩
structure It where
 go:Nat->Hp->Prop
 LN:Nat->Hp->V->Hp->Prop
 stop:Nat->Hp->Prop
def eG(X:Cx)(a:List (Addr×Obj))(H:Hp)(b:Addr):Prop:=
 H b=none/\b≠X.env.locals/\b∉X.fs/\(b∈X.ex\/X.s₀.heap.objs.size<=b)/\(∀x c,X.env.cells.lookup x=some c->c≠b)/\∀p∈X.pn++a,p.1≠b
def Inv.sY(I:Inv X pins σ H s)(a:s.heap.objs.size<=b)(hn:H' b=none):eG X pins H' b:=by
 refine⟨hn,X1 (VX I.lt a),I.Uh a,.inr (VJ I.sz a),λx c e z=>?_,λp hp z=>?_⟩
 ·obtain⟨v,q⟩:=I.cell x c e;exact absurd (VX q.lt (by rw[z];exact a)) (WI _)
 ·exact absurd (VX (VP (I.pin p hp).1) (by rw[z];exact a)) (WI _)
structure Turn(P:Program)(w:World)(K:FR)(tg:Expr)(J:It)(fp:List Addr)(it:Addr)(tn:Nat->Heap->Prop):Prop where
 mem:it∈fp
 obj:∀i h,tn i h->∀b∈fp,∃o,h.get? b=some o/\∀v,o.data≠.cell v
 keep:∀i h h',tn i h->(∀b∈fp,∀o,h.get? b=some o->h'.get? b=some o)->tn i h'
 item:∀(X:Cx),X.prog=P->X.w=w->X.K=K->X.calm=true->∀(i:Nat)(pins:List (Addr×Obj)) (s:Shared) (σ:St) (H:Hp) (E:Value->Shared->Prop),Inv X pins σ H s->(∀b∈fp,eG X pins H b)->tn i s.heap->J.go i H->
  wpAny (model P w) X.A (pyNext (.ref it)) (λr s1=>∃u,r=some u/\
   wpAny (model P w) X.A (letOwnedTupleGo tg (.ref it) u) (λ_ s2=>∃x H',Inv X pins σ H' s2/\RelV x u/\J.LN i H x H'/\tn (i+1) s2.heap/\∀b∈fp,H' b=none) E s1) E s
 done:∀(X:Cx),X.prog=P->X.w=w->X.K=K->X.calm=true->∀(i:Nat)(pins:List (Addr×Obj)) (s:Shared) (σ:St) (H:Hp) (E:Value->Shared->Prop),Inv X pins σ H s->(∀b∈fp,eG X pins H b)->tn i s.heap->J.stop i H->
  wpAny (model P w) X.A (pyNext (.ref it)) (λr s1=>r=none/\Inv X pins σ H s1) E s
 self:∀(A:Around)(i:Nat)(s:Shared)(Q:Value->Shared->Prop)(E:Value->Shared->Prop),tn i s.heap->Q (.ref it) s->wpAny (model P w) A (pyIter (.ref it)) Q E s
abbrev TI:=St->Hp->(It->Hp->Prop)->Prop
def UP(X:Cx)(a:List (Addr×Obj))(i:St)(j:Expr)(R:It->Hp->Prop)(c:Value)(f:Shared):Prop:=
 ∃(g:Addr)(h:List Addr)(e:Nat->Heap->Prop)(J:It)(d:Hp),c=.ref g/\Inv X a i d f/\Turn X.prog X.w X.K j J h g e/\e 0 f.heap/\(∀b∈h,eG X a d b)/\R J d
def PI(X:Cx)(e b:Expr)(d:TI):Prop:=
 ∀(a:List (Addr×Obj)) (s:Shared) (c:St) (H:Hp) (R:It->Hp->Prop),Inv X a c H s->d c H R->
  wpAny (model X.prog X.w) X.A (eval b X.env) (λv f=>wpAny (model X.prog X.w) X.A (pyIter v) (UP X a c e R) X.xe f) X.xe s
def zN(d:s.heap.get? it=some o)(e:o.cls=.type n)(hd:o.data=.fields b)(hn:["enumerate","zip","dict_itemiterator","dict_reverseitemiterator","odict_iterator","itertools.zip_longest","itertools.pairwise"].contains n=false)(a:Q () s):wpAny M A (letOwnedTupleGo c (.ref it) u) Q E s:=by
 unfold letOwnedTupleGo;cases c <;> first
  | exact VA a
  |(cases u <;> first
    | exact VA a
    |(refine Vx (wpAny_load d ?_);rw[e,hd];show wpAny M A (if(["enumerate","zip","dict_itemiterator","dict_reverseitemiterator","odict_iterator","itertools.zip_longest","itertools.pairwise"].contains n&&b[0]?==some (rawInt _))=true then _ else _) Q E s;rw[VH (by intro h;rw[hn,Bool.false_and] at h;cases h)];exact VA a))
noncomputable def UT(K:FR)(a:Addr):It:=
 ⟨λi H=>∃b x,eL K H a b/\b[i]?=some x,λi H x c=>c=H/\∀b,eL K H a b->b[i]?=some x,λi H=>∃b,eL K H a b/\b.length<=i⟩
noncomputable def US(K:FR)(a:Addr):It:=
 ⟨λi H=>∃b x,i5 K H a b/\b[i]?=some x,λi H x c=>c=H/\∀b,i5 K H a b->b[i]?=some x,λi H=>∃b,i5 K H a b/\b.length<=i⟩
noncomputable def SN(a:Int)(n:Nat):It:=⟨λi _=>i < n,λi H x b=>b=H/\x=.int (a+i),λi _=>n<=i⟩
def D3{P:Program}{w:World}{K:FR}{R:Expr}(a g:Addr):Turn P w K R (UT K a) [g] g (λi h=>h.IsListIter g a i) where
 mem:=by simp
 obj:=λi h st b j=>by
  have e:b=g:=by simpa using j
  subst e;obtain⟨o,e,c,d⟩:=st;exact⟨o,e,λv z=>by rw[d] at z;cases z⟩
 keep:=λi h q st k=>st.at λo e=>k g (by simp) o e
 item:=by
  intro X C y F O i f s N H E I n st A;subst C y F;obtain⟨Q,x,m,t⟩:=A;obtain⟨r,rv,p,T⟩:=I.list m;obtain⟨u,Y,S⟩:=rv.get t;obtain⟨f0,M,Z,L,J,G⟩:=n g (by simp);refine ZC st p.isList (x:=u) (by simpa using Y) λq l sb=>?_;have I1:Inv X f N H {s with heap:=q}:=I.turned (t':=s.toks) (λb o j e=>(sb.2 b j).trans e) f0 M L J G;obtain⟨o,e,c,d⟩:=id l;exact⟨u,rfl,zN (s:={s with heap:=q}) e c d (by decide) ⟨x,H,I1,S,⟨rfl,λys U=>by rw[I.zG U m];exact t⟩,l,λb j=>(n b j).1⟩⟩
 done:=by
  intro X C y F O i f s N H E I n st A;subst C y F;obtain⟨Q,m,t⟩:=A;obtain⟨r,rv,p,T⟩:=I.list m;obtain⟨f0,M,Z,L,J,G⟩:=n g (by simp);have hl:=rv.length;exact ZG (I.ok.hd O) st p.isList (by simp;lia) λq eb=>⟨rfl,I.turned (t':=s.toks) (λb o j e=>eb b o j e) f0 M L J G⟩
 self:=λ_ _ _ _ _ st h=>wpAny_pyIter_listiter st h
def AD{P:Program}{w:World}{K:FR}{R:Expr}(a j:Addr):Turn P w K R (US K a) [j] j (λi h=>h.IsTupleIter j a i) where
 mem:=by simp
 obj:=λi h st b l=>by
  have e:b=j:=by simpa using l
  subst e;obtain⟨o,e,c,d⟩:=st;exact⟨o,e,λv z=>by rw[d] at z;cases z⟩
 keep:=λi h r st k=>st.at λo e=>k j (by simp) o e
 item:=by
  intro X C y F O i f s N H E I q st A;subst C y F;obtain⟨Q,x,n,t⟩:=A;obtain⟨g,rv,p,T⟩:=I.tuple n;obtain⟨u,Y,S⟩:=rv.get t;obtain⟨f0,M,Z,L,J,G⟩:=q j (by simp);refine wpAny_pyNext_tuple_item st (show s.heap.IsTuple a g.toArray from p) (x:=u) (by simpa using Y) λr m sb=>?_;have I1:Inv X f N H {s with heap:=r}:=I.turned (t':=s.toks) (λb o l e=>(sb.2 b l).trans e) f0 M L J G;obtain⟨o,e,c,d⟩:=id m;exact⟨u,rfl,zN (s:={s with heap:=r}) e c d (by decide) ⟨x,H,I1,S,⟨rfl,λys U=>by rw[I.uT U n];exact t⟩,m,λb l=>(q b l).1⟩⟩
 done:=by
  intro X C y F O i f s N H E I q st A;subst C y F;obtain⟨Q,n,t⟩:=A;obtain⟨g,rv,p,T⟩:=I.tuple n;obtain⟨f0,M,Z,L,J,G⟩:=q j (by simp);have hl:=rv.length;exact wpAny_pyNext_tuple_end (I.ok.hd O) st (show s.heap.IsTuple a g.toArray from p) (by simp;lia) λr eb=>⟨rfl,I.turned (t':=s.toks) (λb o l e=>eb b o l e) f0 M L J G⟩
 self:=λ_ _ _ _ _ st h=>wpAny_pyIter_tupleiter st h
def AE{P:Program}{w:World}{K:FR}{L:Expr}(c:Addr)(g:Int)(n:Nat):Turn P w K L (SN g n) [c] c (λi h=>IsRangeIter h c (g+(i:Nat)*1) ((n:Int)-(i:Nat)) 1) where
 mem:=by simp
 obj:=λi h st b d=>by
  have e:b=c:=by simpa using d
  subst e;exact⟨_,st,λv z=>by
   have J:Data.fields _=Data.cell v:=z;cases J⟩
 keep:=λi h l st k=>k c (by simp) _ st
 item:=by
  intro X r m u q i a s F H E I j st p;subst r m u;obtain⟨f0,C,N,A,y,x⟩:=j c (by simp);have W:=Walks.range (prog:=X.prog) (w:=X.w) (I.ok.hd q) c g 1 n;refine W.item i s _ _ p st λv l G M f kk=>?_;obtain⟨t,rfl⟩:=M;have Q:Inv X a F H {s with heap:=l,toks:=G}:=I.turned (λb o d e=>kk b o (by simpa using d) e) f0 C A y x;refine⟨_,rfl,zN (s:={s with heap:=l,toks:=G}) (n:="range_iterator") f rfl rfl (by decide) ⟨.int (g+i),H,Q,⟨t,?_⟩,⟨rfl,rfl⟩,f,λb d=>(j b d).1⟩⟩;rw[Int.mul_one]
 done:=by
  intro X r m u q i a s F H E I j st p;subst r m u;obtain⟨f0,C,N,A,y,x⟩:=j c (by simp);exact wpAny_pyNext_range_end (I.ok.hd q) st (by have:n<=i:=p;lia) λl O=>⟨rfl,I.turned (t':=s.toks) (λb o d e=>O b o d e) f0 C A y x⟩
 self:=λ_ _ _ _ _ st h=>wpAny_pyIter_rangeiter st h
def GN{d:List (Addr×Obj)}{f:St}{H:Hp}{s:Shared}{R:It->Hp->Prop}{E:Value->Shared->Prop}{a c:Int}{t u v:Tok}{g:Nat}(I:Inv X d f H s)(m:-(2^62)<=a)(l:a < 2^62)(k:-(2^62)<=c)(j:c < 2^62)
  (q:R (SN a (c-a).toNat) H):wpAny (model X.prog X.w) X.A (pyIter (.ref s.heap.objs.size)) (UP X d f r R) E {s with heap:=s.heap.push {cls:=.type "range",data:=.fields #[.int a t,.int c u,.int 1 v]},toks:=g}:=by
 refine wpAny_pyIter_range (IsRange.new ..) (small_one m l k j) ?_;have h:Inv X d f H {s with heap:=s.heap.push {cls:=.type "range",data:=.fields #[.int a t,.int c u,.int 1 v]},toks:=g}:=I.kept λb o e=>VB _ e;refine⟨(s.heap.push {cls:=.type "range",data:=.fields #[.int a t,.int c u,.int 1 v]}).objs.size,[(s.heap.push {cls:=.type "range",data:=.fields #[.int a t,.int c u,.int 1 v]}).objs.size],_,_,H,rfl,
  h.kept (t':=g) λb o e=>VB _ e,AE _ a (c-a).toNat,?_,λb i=>?_,q⟩
 ·have p:a+((0:Nat):Int)*1=a:=by simp
  have n:(((c-a).toNat:Nat):Int)-((0:Nat):Int)=Builtin.Range.rangeSize a c 1:=by rw[rangeSize_one];split <;> lia
  show IsRangeIter _ _ (a+((0:Nat):Int)*1) ((((c-a).toNat:Nat):Int)-((0:Nat):Int)) 1;rw[p,n];exact VR _ rfl
 ·have e:b=(s.heap.push {cls:=.type "range",data:=.fields #[.int a t,.int c u,.int 1 v]}).objs.size:=by simpa using i
  subst e;exact h.sY (VG _) (h.aZ.fresh (VG _))
def Rk(c:TA):TI:=λa H R=>c a H λb d=>∃j:Int,b=[.int j]/\-(2^62)<=j/\j < 2^62/\R (SN 0 j.toNat) d
def EA{a:Expr}{d:TA}{p pos:Pos}(m:Gl X "range")(hm:X.mg "range"=none)(n:PA X [a] d)(l:starEach [a] X.env=[(false,eval a X.env)]:=by rfl):PI X v (.Call (.Name "range" p) [a] [] pos) (Rk d):=by
 intro b s f H R I h;refine Call_ (fU I m hm boot_range (WC (cv (n pos b s f H _ I h) λus s1 u9=>?_) l rfl));obtain⟨u,H1,o,i,c⟩:=u9;obtain⟨j,e,c,k,q⟩:=c;subst e;cases i with
 | cons r g=>
  cases g;obtain⟨t,rfl⟩:=r;exact call_range_1 (GN o (by simp) (ZM _) c k (by simpa using q))
def Qp(f:TI)(g:TG)(h:TS):TS:=λD a H=>f a H λJ k=>∃W:Nat->Nat->St->Hp->Prop,(∃m,W 0 m a k)/\∀i m a H,W i m a H->
 (J.stop i H/\D.nx a H)\/(J.go i H/\∃N:St->Hp->Prop,(∀b c,N b c->∃e,e < m/\W (i+1) e b c)/\∀x c,J.LN i H x c->g x a c λd j=>h {D with nx:=N,ct:=N,bk:=D.nx} d j)
noncomputable def oq(a:List Addr)(h:Heap):List (Addr×Obj):=a.filterMap λb=>(h.get? b).map λo=>(b,o)
def eA(a:b∈c)(e:h.get? b=some o):(b,o)∈oq c h:=YU.mpr ⟨b,a,by rw[e];rfl⟩
def EJ(hp:p∈oq c h):p.1∈c/\h.get? p.1=some p.2:=by
 obtain⟨b,a,e⟩:=YU.mp hp;cases q:h.get? b with
 | none=>rw[q] at e;cases e
 | some o=>
  rw[q] at e;have d:(b,o)=p:=Option.some.inj e;subst d;exact⟨a,q⟩
def Inv.pinned(I:Inv X pins σ H s)(h:∀b∈c,eG X pins H b)(g:∀b∈c,∃o,s.heap.get? b=some o/\∀v,o.data≠.cell v):Inv X (pins++oq c s.heap) σ H s:=
 I.CZ λp hp=>(Wk.mp hp).elim (λz=>I.pin p (Wf _ z)) λz=>by
  obtain⟨a,e⟩:=EJ z;obtain⟨f0,j,i,_⟩:=h p.1 a;obtain⟨o,f,d⟩:=g p.1 a;rw[e] at f;cases f;exact⟨e,f0,j,i,d⟩
def Inv.i7(I:Inv X (pins++pl) σ H s):Inv X pins σ H s:=I.CZ λp hp=>I.pin p (Wf _ (Zw _ hp))
def NL(hp:PassesOwn (model X.prog X.w) X.A X.env X.xe)(hc:X.calm=true)(hi:PI X tg iter wi)(hg:PG X tg g)(p:Au X body tb)(hs:∀x,foldedSetIterable iter X.env x=pure x:=by intro _;rfl):PS X (.For tg iter body [] pos) (Qp wi g tb):=by
 intro c s Y H D I h;refine wpAny_For (cv (hi c s Y H _ I h) λv s1 h1=>cv h1 λitv s2 h2=>?_) hs;obtain⟨it,M,Z,J,H2,e,I2,T,Q,f2,W,⟨m0,w0⟩,E⟩:=h2;subst e;have l:∀{y:Hp},(∀b∈M,y b=none)->∀b∈M,eG X c y b:=λhn b p=>⟨hn b p,(f2 b p).2⟩;refine codeAny_forLoop_any (λn s'=>∃i k y,Inv X c k y s'/\Z i s'.heap/\(∀b∈M,y b=none)/\W i n k y) ?_ m0 ⟨0,Y,H2,I2,Q,λb p=>(f2 b p).1,w0⟩;rintro n s3 ⟨i,j,O,I3,F,L,w3⟩;rcases E i n j O w3 with⟨stop,qn⟩ |⟨go,N,hN,step⟩
 ·refine Yg hp (cv (T.done X rfl rfl rfl hc i c s3 j O X.xe I3 (l L) F stop) λr s4 u9=>?_);obtain⟨hr,I4⟩:=u9;subst hr;exact ZE ⟨j,O,I4,qn⟩
 ·refine Yg hp (cv (T.item X rfl rfl rfl hc i c s3 j O X.xe I3 (l L) F go) λr s4 u9=>?_);obtain⟨u,hr,h4⟩:=u9;subst hr;refine Yg hp (cv h4 λ_ s5 u9=>?_);obtain⟨x,H5,I5,r5,y5,C,S⟩:=u9;have U:=I5.pinned (l S) (T.obj _ _ C);refine Yg hp (cv (hg _ s5 j H5 x u _ U r5 (step x H5 y5)) λ_ s6 u9=>?_);obtain⟨P,H6,I6,q6⟩:=u9;refine Yg hp (cv (p _ s6 P H6 _ I6 q6) λf R z=>?_);have again:∀{a:St} {t:Hp},Inv X (c++oq M s5.heap) a t R->N a t->∃m,m < n/\∃i k y,Inv X c k y R/\Z i R.heap/\(∀b∈M,y b=none)/\W i m k y:=λ{a t} q G=>by
   obtain⟨m',hm,w7⟩:=hN a t G;refine⟨m',hm,i+1,a,t,q.i7,T.keep _ _ _ C λb p o e=>(q.pin (b,o) (Wf _ (Wf _ (eA p e)))).1,λb p=>?_,w7⟩;obtain⟨o,e,d⟩:=T.obj _ _ C b p;exact(q.pin (b,o) (Wf _ (Wf _ (eA p e)))).2.1
  cases f with
  | next=>obtain⟨a,t,q,G⟩:=z;exact again q G
  | cont=>obtain⟨a,t,q,G⟩:=z;exact again q G
  | brk=>obtain⟨a,t,q,z⟩:=z;exact⟨a,t,q.i7,z⟩
  | ret v=>obtain⟨x7,a,t,q,r7,z⟩:=z;exact⟨x7,a,t,q.i7,r7,z⟩
abbrev R2:=V->V->Hp->VK->Prop
def qr(X:Cx)(f:Value->Value->Sem Value)(r:R2):Prop:=
 ∀(a:List (Addr×Obj)) (s:Shared) (b:St) (H:Hp) (x y:V) (v u:Value) (Q:VK),Inv X a b H s->RelV x v->RelV y u->r x y H Q->
  wpAny (model X.prog X.w) X.A (f v u) (EP X a b Q) X.xe s
def RW(X:Cx)(f:Value->Sem Value)(r:V->Hp->VK->Prop):Prop:=
 ∀(a:List (Addr×Obj)) (s:Shared) (b:St) (H:Hp) (x:V) (v:Value) (Q:VK),Inv X a b H s->RelV x v->r x H Q->
  wpAny (model X.prog X.w) X.A (f v) (EP X a b Q) X.xe s
def eX(X:Cx)(f:Value)(r:List V->Hp->VK->Prop):Prop:=
 ∀(a:List (Addr×Obj)) (s:Shared) (b:St) (H:Hp) (c:List V) (us:List Value) (Q:VK),Inv X a b H s->Vals c us->r c H Q->
  wpAny (model X.prog X.w) X.A (call f us) (EP X a b Q) X.xe s
def UM(X:Cx)(r:V->Hp->(Bool->Hp->Prop)->Prop):Prop:=
 ∀(a:List (Addr×Obj)) (s:Shared) (b:St) (H:Hp) (x:V) (v:Value) (Q:Bool->Hp->Prop),Inv X a b H s->RelV x v->r x H Q->
  wpAny (model X.prog X.w) X.A (truthy v) (TP X a b Q) X.xe s
def Qm(r:R2)(c b:TE):TE:=λa H Q=>c a H λx e=>b a e λy d=>r x y d Q
def Vg(r:V->Hp->VK->Prop)(b:TE):TE:=λa H Q=>b a H λx c=>r x c Q
def rI(C:Int->Int->Prop)(g:Int->Int->V):R2:=λx y H Q=>∃i j,x=.int i/\y=.int j/\C i j/\Q (g i j) H
def L4(g:Int->Int->V):R2:=λx y H Q=>∃i j,x=.int i/\y=.int j/\Q (g i j) H
def rU(g:Int->V):V->Hp->VK->Prop:=λx H Q=>∃i,x=.int i/\Q (g i) H
def Py(t:PE X a m)(r:PE X b l){c:List (Addr×Obj)}{s:Shared}{d:St}{H:Hp}{R:V->V->Hp->Prop}(I:Inv X c d H s)
  (h:m d H λx k=>l d k λy e=>R x y e) {Q:Value->Shared->Prop} {f:Value->Value->Sem Value}
  (hf:∀v u j x y e,Inv X c d e j->RelV x v->RelV y u->R x y e->wpAny (model X.prog X.w) X.A (f v u) Q X.xe j):
  wpAny (model X.prog X.w) X.A (eval a X.env) (λv i=>wpAny (model X.prog X.w) X.A (eval b X.env) (λu g=>wpAny (model X.prog X.w) X.A (f v u) Q X.xe g) X.xe i) X.xe s:=by
 refine cv (t c s d H _ I h) λv s1 u9=>?_;obtain⟨x,k,C,o,q⟩:=u9;refine cv (r c s1 d k _ C q) λu j u9=>?_;obtain⟨y,e,z,n,p⟩:=u9;exact hf v u j x y e z o n p
def L5{d:Operator}{r:R2}(l:qr X (binaryOp d) r)(n:PE X a g)(m:PE X b f):PE X (.BinOp a d b pos) (Qm r g f):=by
 intro c s e H Q I h;exact wpAny_BinOp (Py n m I h λv u i x y p o k j q=>l c i e p x y v u Q o k j q)
def QY(g:RW X (unaryOp op) r)(i:PE X a d):PE X (.UnaryOp op a pos) (Vg r d):=by
 intro b s c H Q I h;exact UnaryOp_ (cv (i b s c H _ I h) λv s1 ⟨x,H1,j,e,f⟩=>g b s1 c H1 x v Q j e f)
def SF{f:Value->Value->Sem Value}{C:Int->Int->Prop}{g:Int->Int->Int}
  (rule:∀(i j:Int)(t u:Tok)(s:Shared)(Q:Value->Shared->Prop)(E:Value->Shared->Prop),C i j->Q (.int (g i j) s.toks) {s with toks:=s.toks+1}->wpAny (model X.prog X.w) X.A (f (.int i t) (.int j u)) Q E s):
  qr X f (rI C λi j=>.int (g i j)):=by
 intro a s k H x y v u Q I d c h;obtain⟨i,j,rfl,rfl,e,q⟩:=h;obtain⟨t,rfl⟩:=d;obtain⟨b,rfl⟩:=c;exact rule i j t b s _ _ e ⟨.int (g i j),H,I.tok _,⟨_,rfl⟩,q⟩
def Q9{f:Value->Value->Sem Value}{g:Int->Int->Int}
  (rule:∀(i j:Int)(t u:Tok)(s:Shared)(Q:Value->Shared->Prop)(E:Value->Shared->Prop),Q (.int (g i j) s.toks) {s with toks:=s.toks+1}->wpAny (model X.prog X.w) X.A (f (.int i t) (.int j u)) Q E s):
  qr X f (L4 λi j=>.int (g i j)):=by
 intro a s e H x y v u Q I d c h;obtain⟨i,j,rfl,rfl,q⟩:=h;obtain⟨t,rfl⟩:=d;obtain⟨b,rfl⟩:=c;exact rule i j t b s _ _ ⟨.int (g i j),H,I.tok _,⟨_,rfl⟩,q⟩
def Oq{f:Value->Value->Sem Value}{g:Int->Int->Bool}
  (rule:∀(i j:Int)(t u:Tok)(s:Shared)(Q:Value->Shared->Prop)(E:Value->Shared->Prop),Q (.bool (g i j)) s->wpAny (model X.prog X.w) X.A (f (.int i t) (.int j u)) Q E s):
  qr X f (L4 λi j=>.bl (g i j)):=by
 intro a s e H x y v u Q I d c h;obtain⟨i,j,rfl,rfl,q⟩:=h;obtain⟨t,rfl⟩:=d;obtain⟨b,rfl⟩:=c;exact rule i j t b s _ _ ⟨.bl (g i j),H,I,rfl,q⟩
def UX(i j:Int):Prop:=0<=j/\j<=1000000/\i.natAbs < 2^64
def PY(i j:Int):Prop:=(-(2^64) < i/\i < 2^64)\/(-(2^64) < j/\j < 2^64)
def PY.ok(h:PY i j):IntMulOk i j:=by
 rcases h with⟨b,a⟩ |⟨b,a⟩
 ·exact .of_left (intBits_le_64 b a)
 ·exact .of_right (intBits_le_64 b a)
def Oo:qr X (binaryOp .Add) (L4 λi j=>.int (i+j)):=Q9 λ_ _ _ _ _ _ _ q=>add_int q
def Og:qr X (binaryOp .Sub) (L4 λi j=>.int (i-j)):=Q9 λ_ _ _ _ _ _ _ q=>sub_int q
def Oj:qr X (binaryOp .Mult) (rI PY λi j=>.int (i*j)):=SF λ_ _ _ _ _ _ _ a q=>mul_int q a.ok
def Ol:qr X (binaryOp .Mod) (rI (λ_ j=>0 < j) λi j=>.int (i % j)):=SF λi j _ _ _ _ _ a q=>by
 have b:(0:Int) < j:=a;exact mod_int' (by lia) (by rw[Int.fmod_eq_emod_of_nonneg i (AaI b)];exact q)
def Oi:qr X (binaryOp .Pow) (rI UX λi j=>.int (i^j.toNat)):=SF λ_ _ _ _ _ _ _ a q=>pow_int_small a.1 a.2.1 a.2.2 q
def Vf{f:Value->Sem Value}{g:Int->Int}
  (rule:∀(i:Int)(t:Tok)(s:Shared)(Q:Value->Shared->Prop)(E:Value->Shared->Prop),Q (.int (g i) s.toks) {s with toks:=s.toks+1}->wpAny (model X.prog X.w) X.A (f (.int i t)) Q E s):
  RW X f (rU λi=>.int (g i)):=by
 intro a s c H x v Q I b h;obtain⟨i,rfl,q⟩:=h;obtain⟨t,rfl⟩:=b;exact rule i t s _ _ ⟨.int (g i),H,I.tok _,⟨_,rfl⟩,q⟩
def ME:RW X (unaryOp .USub) (rU λi=>.int (-i)):=Vf λ_ _ _ _ _ q=>neg_int q
def HZ(I:Inv X pins σ H s)(q:Q (.bl k) H)(e:k=a):EP X pins σ Q (.bool a) s:=by
 subst e;exact⟨.bl k,H,I,rfl,q⟩
def Q6:qr X (compareOp .Lt) (L4 λi j=>.bl (decide (i < j))):=Oq λ_ _ _ _ _ _ _ q=>lt_int q
def Q7:qr X (compareOp .Gt) (L4 λi j=>.bl (decide (j < i))):=Oq λ_ _ _ _ _ _ _ q=>gt_int q
def Q8:qr X (compareOp .GtE) (L4 λi j=>.bl (decide (j<=i))):=Oq λ_ _ _ _ _ _ _ q=>ge_int q
def Om:qr X (compareOp .Is) (λx y H Q=>y=.bx/\Q (.bl (decide (x=.bx))) H):=by
 intro b s d H x y v u Q I a c h;obtain⟨rfl,q⟩:=h;cases c;refine is_none_gen (HZ I q ?_);cases x <;> first
  |(cases a;rfl)
  |(obtain⟨t,rfl⟩:=a;rfl)
def Ks:qr X (compareOp .IsNot) (λx y H Q=>y=.bx/\Q (.bl (!decide (x=.bx))) H):=by
 intro b s d H x y v u Q I a c h;obtain⟨rfl,q⟩:=h;cases c;refine isnot_none_gen (HZ I q ?_);cases x <;> first
  |(cases a;rfl)
  |(obtain⟨t,rfl⟩:=a;rfl)
def sF(b:Expr)(h:op≠.In:=by decide)(a:op≠.NotIn:=by decide):behindInMarks op b=false:=by
 have d:(op==CmpOp.In)=false:=by cases op <;> first | rfl | exact absurd rfl h
 have c:(op==CmpOp.NotIn)=false:=by cases op <;> first | rfl | exact absurd rfl a
 cases b <;> simp[behindInMarks,d,c]
def Ko{d:CmpOp}{r:R2}(l:qr X (compareOp d) r)(n:PE X a g)(m:PE X b f)(hm:behindInMarks d b=false):PE X (.Compare a [d] [b] pos) (Qm r g f):=by
 intro c s e H Q I h;exact wpAny_Compare1 (Py n m I h λv u i x y p o k j q=>l c i e p x y v u Q o k j q) hm
def Qi(t:TE):TT:=λa H Q=>t a H λx b=>∃k,x=.bl k/\Q k b
def JU(q:qr X (compareOp op) r)(w:PE X a i)(t:PE X b g)(hm:behindInMarks op b=false):PT X (.Compare a [op] [b] pos) (Qi (Qm r i g)):=by
 intro d s f H Q I h;refine wpAny_isTrue_Compare1 (cv (w d s f H _ I h) λv s1 ⟨x,H1,E,m,p⟩=>cv (t d s1 f H1 _ E p) λu s2 ⟨y,G,C,l,o⟩=>
  cv (q d s2 f G x y v u _ C m l o) λc s3 ⟨z,F,A,j,k,e,n⟩=>?_) hm
 subst e;cases j;exact XW ⟨F,A,n⟩
def PJ(K:FR)(x:V)(H:Hp)(k:Bool):Prop:=
 match x with
 | .bx=>k=false
 | .bl b=>k=b
 | .int i=>k=(i !=0)
 | .str y=>y.length<=sizeLine/\k=((y.length:Int) !=0)
 | .byt y=>y.size<=sizeLine/\k=((y.size:Int) !=0)
 | .ref p=>(∃a,eL K H p a/\k=!a.isEmpty)\/(∃a,i5 K H p a/\k=!a.isEmpty)\/∃c,H p=some (.dK c)/\k=!c.isEmpty
 | _=>False
def BJ(r:KV a b):(!b.isEmpty)=!a.isEmpty:=by
 cases r <;> rfl
def sT(r:Vals xs a):(!a.toArray.isEmpty)=!xs.isEmpty:=by
 cases r <;> simp
def lD:(sizeLine:Nat) < 2^63:=by rw[Xh];decide
def ML:UM X (λx H Q=>∃k,PJ X.K x H k/\Q k H):=by
 intro o s C H x v Q I g h;obtain⟨k,e,q⟩:=h;have hl:=lD;have E:sizeLine=16777216:=Xh;cases x with
 | bx=>
  cases g;have a:k=false:=e;subst a;exact truthy_none ⟨H,I,q⟩
 | bl b=>
  cases g;have a:k=b:=e;subst a;exact XW ⟨H,I,q⟩
 | int i=>
  obtain⟨t,rfl⟩:=g;have a:k=(i !=0):=e;subst a;exact PySem.P.truthy_int ⟨H,I,q⟩
 | str y=>
  obtain⟨t,rfl⟩:=g;obtain⟨z,a⟩:y.length<=sizeLine/\k=((y.length:Int) !=0):=e;subst a;exact PySem.P.truthy_str (by lia) ⟨H,I.tok _,q⟩
 | byt y=>
  obtain⟨t,rfl⟩:=g;obtain⟨z,a⟩:y.size<=sizeLine/\k=((y.size:Int) !=0):=e;subst a;exact PySem.W.truthy_bytes (VJ z (by decide)) ⟨H,I.tok _,q⟩
 | ref p=>
  cases g;have a:(∃f,eL X.K H p f/\k=!f.isEmpty)\/(∃f,i5 X.K H p f/\k=!f.isEmpty)\/∃c,H p=some (.dK c)/\k=!c.isEmpty:=e;rcases a with⟨f,j,a⟩ |⟨f,j,a⟩ |⟨c,j,a⟩
  ·subst a;obtain⟨n,r,pl,u⟩:=I.list j;have d:=r.length;exact wpAny_truthy_list pl.isList (by simp only[VZ];lia) ⟨H,I.tok _,by rw[sT r];exact q⟩
  ·subst a;obtain⟨n,r,pl,u⟩:=I.tuple j;have d:=r.length;exact truthy_tuple pl (by simp only[VZ];lia) ⟨H,I.tok _,by rw[sT r];exact q⟩
  ·subst a;obtain⟨u,A,l,r,m⟩:c.length<=sizeLine/\(p==sysModules)=false/\∃l,KV c l/\s.heap.DictOf (bc X.prog X.w) p l:=I.aZ p _ j;have d:c.length=l.length:=Paired.length r;exact wpAny_truthy_dict A m (by lia) ⟨H,I.tok _,by rw[BJ r];exact q⟩
 | _=>exact(show False from e).elim
def G0(l:PE X a f)(j:∀b,isTrue a X.env b=(do let v<-b;standAt a.pos;holding [v] (truthy v))):
  PT X a (λd H Q=>f d H λx e=>∃k,PJ X.K x e k/\Q k e):=by
 intro c s d H Q I h;exact isTrue_plain (cv (l c s d H _ I h) λv s1 ⟨x,H1,m,g,i⟩=>ML c s1 d H1 x v Q m g i) (j _)
def Br:qr X (binaryOp .Add) (λx y H Q=>∃i j,x=.str i/\y=.str j/\i.length+j.length<=sizeLine/\Q (.str (i++j)) H):=by
 intro a s f H x y v u Q I d c h;obtain⟨i,j,rfl,rfl,e,q⟩:=h;obtain⟨t,rfl⟩:=d;obtain⟨b,rfl⟩:=c;exact add_str (λb g=>⟨.str (i++j),H,I.tok _,⟨_,rfl⟩,q⟩) e
def vals1(r:Vals [x] us):∃u,us=[u]/\RelV x u:=by
 cases r with
 | cons b a=>cases a;exact⟨_,rfl,b⟩
def vals2(r:Vals [x,y] us):∃u a,us=[u,a]/\RelV x u/\RelV y a:=by
 cases r with
 | cons e d=>
  cases d with
  | cons c b=>cases b;exact⟨_,_,rfl,e,c⟩
def II:eX X (.builtin "abs") (λa H Q=>∃i,a=[.int i]/\Q (.int (if i < 0 then -i else i)) H):=by
 intro b s c H a us Q I r h;obtain⟨i,rfl,q⟩:=h;obtain⟨u,rfl,t,rfl⟩:=vals1 r;exact call_abs_int λu d=>⟨.int (if i < 0 then -i else i),H,I.tok _,⟨_,rfl⟩,q⟩
def Fu(c:X.calm=true):eX X (.builtin "max") (λa H Q=>∃i j,a=[.int i,.int j]/\Q (.int (if j > i then j else i)) H):=by
 intro b s d H a us Q I r h;obtain⟨i,j,rfl,q⟩:=h;obtain⟨u,e,rfl,⟨t,rfl⟩,⟨g,rfl⟩⟩:=vals2 r;refine max_two_ints (I.ok.hd c) λl f k=>⟨_,H,I.kept k,?_,q⟩
 by_cases hj:j > i
 ·rw[VE hj,VE hj];exact⟨_,rfl⟩
 ·rw[VH hj,VH hj];exact⟨_,rfl⟩
def Ft(c:X.calm=true):eX X (.builtin "min") (λa H Q=>∃i j,a=[.int i,.int j]/\Q (.int (if j < i then j else i)) H):=by
 intro b s d H a us Q I r h;obtain⟨i,j,rfl,q⟩:=h;obtain⟨u,e,rfl,⟨t,rfl⟩,⟨g,rfl⟩⟩:=vals2 r;refine min_two_ints (I.ok.hd c) λl f k=>⟨_,H,I.kept k,?_,q⟩
 by_cases hj:j < i
 ·rw[VE hj,VE hj];exact⟨_,rfl⟩
 ·rw[VH hj,VH hj];exact⟨_,rfl⟩
structure PX(h:Heap)(x dx C:Addr)(mA:Str->Option Value):Prop where
 obj:h.get? x=some (PySem.W.instObj C dx)
 ns:h.Ns1 dx mA
 ne:dx≠x
def EL{h:Heap}{f:Addr}{d:Str->Option Value}(n:h.Ns1 f d):∃c,h.get? f=some c/\∀name,PySem.W.lookIn name c=some (d name):=by
 obtain⟨o,es,l,i,hd,j,_,hm⟩:=n;refine⟨o,i,λname=>?_⟩;have e:=hm name;unfold nsFind findBy at e;rw[<-Array.find?_toList] at e;unfold PySem.W.lookIn;rw[hd];dsimp only
 split
 ·rename_i y q;rw[q] at e;exact congrArg some e
 ·rename_i q;rw[q] at e;have a:es.toList.any (·.refKey)=false:=by
   rw[List.any_eq_false];intro y g;obtain⟨z,t,b⟩:=j y (Xx.mp g);simp[DictEntry.refKey,b]
  have k:¬es.toList.any (·.refKey)=true:=by rw[a];exact V8
  rw[VH k];exact congrArg some e
def PX.look(I:PX h x d C b):∃a,PySem.W.InstAt h x (PySem.W.instObj C d) C (some a)/\∀name,PySem.W.lookIn name a=some (b name):=
 let⟨a,c,hl⟩:=EL I.ns
 ⟨a,⟨I.obj,rfl,rfl,c⟩,hl⟩
section
variable {prog:Program} {w:World} {A:Around} {E:Value->Shared->Prop} {s:Shared} {K:FR} {x dx C f:Addr} {mA:Str->Option Value} {name:Str} {v:Value}
end
def oQ.some_of(r:oQ (some v) o):∃u,o=some u/\RelV v u:=by
 cases o with
 | none=>exact(show False from r).elim
 | some u=>exact⟨u,rfl,r⟩
def KW(aZ:jO P w H h)(e:H a=some (.ins C c fs)):∃b,PX h a c C b/\(∀f,oQ (fs.lookup f) (b f))/\PySem.Within b (fs.map (·.1))/\fs.length<=1000/\H c=some (.own a):=by
 obtain⟨d,z,ne,ob,b,n,r,q⟩:=(show b8 P w H h a (.ins C c fs) from aZ a _ e);exact⟨b,⟨ob,n,ne⟩,r,q,z,d⟩
structure UW(K:FR)(C:Addr):Prop where
 pg:PySem.W.plainGet K C Str.empty=true
 hd:PySem.W.hasDictIn K C=true
 po:PySem.W.plainOver K C=true
 sa:PySem.W.findIn K (.ref C) "__setattr__"=some (some (.builtin "object.__setattr__"))
def UW.get{K:FR}{C:Addr}(c:UW K C)(f:Str):PySem.W.plainGet K C f=true:=c.pg
inductive ny(K:FR)(H:Hp):V->Value->Prop where
 | bx:ny K H .bx (.type "NoneType")
 | bl (x:Bool):ny K H (.bl x) (.type "bool")
 | int (i:Int):ny K H (.int i) (.type "int")
 | str (x:Str):ny K H (.str x) (.type "str")
 | P5 (x:UInt64):ny K H (.P5 x) (.type "float")
 | lst {a:Addr} {xs:List V} (e:H a=some (.lst xs)):ny K H (.ref a) (.type "list")
 | kS {a:Addr} {o:Obj} {xs:List V} (e:H a=some (.kS o (.lst xs))):ny K H (.ref a) (.type "list")
 | tup {a:Addr} {xs:List V} (e:H a=some (.tup xs)):ny K H (.ref a) (.type "tuple")
 | dK {a:Addr} {kvs:List (Key×V)} (e:H a=some (.dK kvs)):ny K H (.ref a) (.type "dict")
 | dT {a:Addr} {kvs:List (List Key×V)} (e:H a=some (.dT kvs)):ny K H (.ref a) (.type "dict")
 | ins {a C dx:Addr} {fs:List (Str×V)} (e:H a=some (.ins C dx fs)) (cl:UW K C) (ha:PySem.W.findIn K (.ref C) "__class__"=some (some (.builtin "object.__class__")))
   (hn:PySem.W.specialIn K (.builtin "object.__class__") "__get__"=some (some (.builtin "getset_descriptor.__get__"))) (htk:PySem.W.takesIn K (.builtin "object.__class__")=some true)
   (hm:PySem.W.mroIn K C (.type "object")=some true):ny K H (.ref a) (.ref C)
def EU(I:Inv X pins σ H s)(d:RelV x u)(ty:ny X.K H x t)(e:PySem.W.kitOne X.K t c=some b)(h:∀r,Q (.bool b) {s with toks:=r}):
  wpAny (model X.prog X.w) A (call (.builtin "isinstance") [u,c]) Q E s:=by
 cases ty with
 | bx=>cases(show u=Value.none from d);exact W2 PySem.W.kitx_none I.xx True.intro e (λz=>nomatch z) h
 | bl y=>cases(show u=Value.bool y from d);exact W2 PySem.W.kitx_bool I.xx True.intro e (λz=>nomatch z) h
 | int i=>obtain⟨t,q⟩:=(show ∃t,u=Value.int i t from d);cases q;exact W2 PySem.W.kitx_int I.xx True.intro e (λz=>nomatch z) h
 | str y=>obtain⟨t,q⟩:=(show ∃t,u=Value.str y t from d);cases q;exact W2 PySem.W.kitx_str I.xx True.intro e (λz=>nomatch z) h
 | P5 y=>obtain⟨t,q⟩:=(show ∃t,u=Value.float y t from d);cases q;exact W2 PySem.W.kitx_float I.xx True.intro e (λz=>nomatch z) h
 | @lst a k f=>
  cases(show u=Value.ref a from d);obtain⟨_,_,n,_,g⟩:=(show b8 X.prog X.w H s.heap a (.lst k) from I.aZ a _ f);exact W2 PySem.W.kitx_list I.xx ⟨_,g,rfl⟩ e (λz=>nomatch z) h
 | @kS a ob k f=>
  cases(show u=Value.ref a from d);obtain⟨_,_,_,n,_,g⟩:=(show b8 X.prog X.w H s.heap a (.kS ob (.lst k)) from I.aZ a _ f);exact W2 PySem.W.kitx_list I.xx ⟨_,g,rfl⟩ e (λz=>nomatch z) h
 | @tup a k f=>
  cases(show u=Value.ref a from d);obtain⟨_,_,_,p⟩:=(show b8 X.prog X.w H s.heap a (.tup k) from I.aZ a _ f);obtain⟨o,g,l,_⟩:=p;exact W2 PySem.W.kitx_tuple I.xx ⟨o,g,l⟩ e (λz=>nomatch z) h
 | @dK a j f=>
  cases(show u=Value.ref a from d);obtain⟨_,_,G,_,p⟩:=(show b8 X.prog X.w H s.heap a (.dK j) from I.aZ a _ f);obtain⟨o,es,F,g,l,_⟩:=p;exact W2 PySem.W.kitx_dict I.xx ⟨o,g,l.1⟩ e (λz=>nomatch z) h
 | @dT a j f=>
  cases(show u=Value.ref a from d);obtain⟨_,_,k,_,o,es,F,g,l,_⟩:=(show b8 X.prog X.w H s.heap a (.dT j) from I.aZ a _ f);exact W2 PySem.W.kitx_dict I.xx ⟨o,g,l.1⟩ e (λz=>nomatch z) h
 | @ins a C N fs f cl v hn m hm=>
  cases(show u=Value.ref a from d);obtain⟨M,O,_⟩:=KW I.aZ f;obtain⟨L,J,_⟩:=O.look;exact W2 (PySem.W.kitx_own (cl.get _) cl.hd v hn m hm) I.xx J e (λz=>nomatch z) h
structure eU(k:Nat)(A:Around):Prop where
 hd:A.handled=none
 dp:A.depth+3*k+5 < recursionLimit
 un:A.units+16*k+200 < cLine
def LX{a k c d x L:Nat}(b:x<=c)(h:a+c*(k+1)+d < L):a+x+c*k+d < L:=by rw[Nat.mul_succ] at h;lia
def eU.mono(r:eU k A)(h:j<=k):eU j A:=⟨r.hd,Wr (Zu (Yq (Nat.mul_le_mul_left 3 h) _) 5) r.dp,Wr (Zu (Yq (Nat.mul_le_mul_left 16 h) _) 200) r.un⟩
theorem eU.deeper(r:eU (k+1) A)(env:Env):eU k (A.deeper env):=
 ⟨r.hd,LX (x:=1) (by decide) r.dp,LX (x:=3) (by decide) r.un⟩
theorem eU.depth(r:eU k A):A.depth < recursionLimit:=by have:=r.dp;lia
theorem eU.units(r:eU k A):A.units+64 < cLine:=Wr (VJ (Yq (by decide:64<=200) _) (Zu (V9 _ _) 200)) r.un
def Td:TA:=λ_ H Q=>Q [] H
def Qr(c:TE)(tr:TA):TA:=λa H Q=>c a H λx e=>tr a e λb d=>Q (x::b) d
def Hi:PA X [] Td:=λ_ _ _ _ H Q I h=>Aae ⟨[],H,I,.nil,h⟩
def C7(k:PE X e c)(hr:PA X es t)(j:starEach (e::es) X.env=(false,eval e X.env)::starEach es X.env:=by rfl):PA X (e::es) (Qr c t):=by
 intro pos a s b H Q I h;rw[j];show wpAny _ _ (spliced ((false,eval e X.env)::backTo pos (starEach es X.env))) _ _ s;refine Z1 (cv (k a s b H _ I h) λu s1 u9=>?_);obtain⟨x,H1,m,f,i⟩:=u9;exact cv (hr pos a s1 b H1 _ m i) λus s2 ⟨xs,n,l,d,g⟩=>⟨x::xs,n,l,.cons f d,g⟩
def Ta(t:TA):TE:=λc H Q=>t c H λa b=>a.length<=sizeLine/\∀p,b p=none->Q (.ref p) (upd b p (.tup a))
def Tf(t:TA):TE:=λc H Q=>t c H λa b=>a.length<=sizeLine/\∀p,b p=none->Q (.ref p) (upd b p (.lst a))
def NV{f}(h:PA X es t):PE X (.Tuple es f pos) (Ta t):=by
 intro a s d H Q I g;refine wpAny_Tuple_spliced (cv (h pos a s d H _ I g) λus s1 ⟨xs,H1,c,r,z,q⟩=>⟨by rw[<-r.length];exact z,?_⟩);have i:H1 s1.heap.objs.size=none:=c.aZ.fresh (VG _);refine⟨.ref s1.heap.objs.size,upd H1 s1.heap.objs.size (.tup xs),c.laid (t':=s1.toks) (λb u e=>VB _ e) (VG _) ?_,rfl,q _ i⟩;exact⟨z,us,r,⟨_,VR _ rfl,rfl,⟨_,rfl⟩,rfl⟩⟩
def N4(h:PA X es t):PE X (.List es pos) (Tf t):=by
 intro a s d H Q I f;refine wpAny_List_spliced (cv (h pos a s d H _ I f) λus s1 ⟨xs,H1,c,r,z,q⟩=>⟨by rw[<-r.length];exact z,?_⟩);have g:H1 s1.heap.objs.size=none:=c.aZ.fresh (VG _);refine⟨.ref s1.heap.objs.size,upd H1 s1.heap.objs.size (.lst xs),c.laid (t':=s1.toks) (λb u e=>VB _ e) (VG _) ?_,rfl,q _ g⟩;exact⟨z,us,0,r,VR _ rfl⟩
abbrev Sp:=List V->Hp->VK->XK->Prop
abbrev LL:=List Env->Hp->Shared->XK->Value->Shared->Prop
structure LJ(P:Program)(w:World)(K:FR)(mg:Str->Option Value)(base:Heap)(A:Around)(outer:List Env)(s:Shared)(H:Hp):Prop where
 frames:A.frames=some outer
 mod:Mod K mg base
 bs:∀b o,base.get? b=some o->s.heap.get? b=some o/\H b=none
 Ml:base.objs.size<=s.heap.objs.size
 sW:s.heap.FunFrames base outer
 P4:∀b∈FI outer,H b=none
 aZ:jO P w H s.heap
 bare:AllBare s.gens
def CE(outer:List Env)(P:Program)(w:World)(H:Hp)(s:Shared)(Q:VK)(u:Value)(a:Shared):Prop:=
 ∃v b,a.os=s.os/\AllBare a.gens/\Un (FI outer) [] H b s.heap a.heap/\jO P w b a.heap/\RelV v u/\Q v b
def CR(b:LL)(outer:List Env)(P:Program)(w:World)(H:Hp)(s:Shared)(Q:VK)(E:XK)(r:Result)(a:Shared):Prop:=
 match r with
 | .ok (.ret u)=>CE outer P w H s Q u a
 | .ok _=>False
 | .error e=>b outer H s E e a
structure fX(P:Program)(w:World)(K:FR)(mg:Str->Option Value)(base:Heap)(CX:LL)(k:Nat)(f:Addr)(fd:FuncData)(ps:List Str)(sp:Sp):Prop where
 len:∀vs H Q E,sp vs H Q E->vs.length=ps.length
 run:∀(A:Around)(outer:List Env)(s:Shared)(H:Hp)(args:Args)(us:List Value)(vs:List V)(Q:VK)(E:XK),eU k A->LJ P w K mg base A outer s H->BindsTo s fd args (ps.zip us)->Vals vs us->sp vs H Q E->
  codeAny (model P w) A (.call (.ref f) args) (CR CX outer P w H s Q E) s
def fX.imp{P:Program}{w:World}{K:FR}{mg:Str->Option Value}{base:Heap}{e:LL}{k:Nat}{f:Addr}{d:FuncData}{c:List Str}{sp b:Sp}(F:fX P w K mg base e k f d c sp)
  (h:∀a H Q E,b a H Q E->sp a H Q E):fX P w K mg base e k f d c b:=
 ⟨λa H Q E q=>F.len a H Q E (h _ _ _ _ q),λA outer s H args us a Q E hr j l g i=>F.run A outer s H args us a Q E hr j l g (h _ _ _ _ i)⟩
def Inv.UB(I:Inv X pins σ H s):LJ X.prog X.w X.K X.mg X.base X.A X.stack s H:=
 ⟨I.ok.frames,I.ok.mod,I.bs,VJ I.ok.Ml I.sz,I.stack,I.Cv,I.aZ,I.bare⟩
def Inv.after(I:Inv X pins σ H s)(h:CE X.stack X.prog X.w H s Q u c):EP X pins σ Q u c:=by
 obtain⟨v,e,os,bare,un,aZ,r,q⟩:=h;obtain⟨hh,g,d,t,a⟩:=c;obtain rfl:a=s.os:=os;exact⟨v,e,I.call (h':=hh) (g':=g) (d':=d) (t':=t) (ch:=[]) un aZ bare (λb z=>absurd z (by simp)),r,q⟩
def Qs(sp:Sp)(a:List V)(E:XK)(t:TA):TE:=λb H Q=>t b H λc d=>sp (c++a) d Q E
def Binds(K:FR)(c:FuncData)(a:List Str)(b:List Value):Prop:=
 ∀(s:Shared)(us:List Value),K.In s.heap->(us++b).length=a.length->BindsTo s c ⟨us,[]⟩ (a.zip (us++b))
def Binds.all{K:FR}{b:FuncData}{a:List Str}(h:∀us:List Value,us.length=a.length->bindArgs b ⟨us,[]⟩=pure (a.zip us)):Binds K b a []:=λs us _ hl=>by
 rw[Wl] at hl ⊢;exact .of_eq (h us hl)
def Passes(d:LL)(X:Cx)(E:XK):Prop:=∀(a:List (Addr×Obj)) (c:St) (H:Hp) (s:Shared) (e:Value) (b:Shared),Inv X a c H s->d X.stack H s E e b->X.xe e b
def Nd(F:fX X.prog X.w X.K X.mg X.base m k f fd g sp)(hr:eU k X.A)(l:Binds X.K fd g ds)(hd:Vals a ds)(j:Passes m X E)(I:Inv X pins σ H s)(r:Vals c us)(h:sp (c++a) H Q E):wpAny (model X.prog X.w) X.A (call (.ref f) us) (EP X pins σ Q) X.xe s:=by
 have d:Vals (c++a) (us++ds):=r.append hd;have hl:(us++ds).length=g.length:=by rw[<-d.length];exact F.len _ _ _ _ h
 refine wpAny_call (Aab (F.run X.A X.stack s H ⟨us,[]⟩ (us++ds) (c++a) Q E hr I.UB (l s us I.xx hl) d h) λr i b=>?_);cases r with
 | error e=>exact j pins σ H s e i I b
 | ok fl=>
  cases fl with
  | ret u=>exact I.after b
  | next=>exact False.elim b
  | brk=>exact False.elim b
  | cont=>exact False.elim b
def Kp(F:fX X.prog X.w X.K X.mg X.base y k f fd j sp)(hr:eU k X.A)(n:Gl X x)(hm:X.mg x=some (.ref f))(m:PySem.W.keepIn X.K (.ref f)=true)(u:Binds X.K fd j ds)(hd:Vals d ds)(l:Passes y X E)
  (v:PA X (e::es) t) (c:(x==("__debug__":Str))=false:=by decide) (o:starEach (e::es) X.env=(false,eval e X.env)::starEach es X.env:=by rfl) (b:(backTo pos (starEach es X.env)).any (·.1)=false:=by rfl):
  PE X (.Call (.Name x p) (e::es) [] pos) (Qs sp d E t):=by
 intro a s i H Q I h;refine XM (Dn I n hm ?_ c);refine PySem.W.callWith_K (h₀:=X.base) I.ok.mod.Ur m (cv (v pos a s i H _ I h) λus s1 ⟨z,H1,g,r,q⟩=>⟨g.xx,?_⟩) o b;exact Nd F hr u hd l g r q
structure au(N P:List Str)(sc:Scope):Prop where
 kind:sc.kind=.function
 co:sc.isCoroutine=false
 gen:sc.isGenerator=false
 nd:N.Nodup
 pre:N.take P.length=P
 par:∀x∈P,sc.names.lookup x=some .local\/sc.names.lookup x=some .cell
 Ou:∀y∈sc.names,y.2≠.free
theorem wb{a:Str->Option NameKind}{x:Str}:∀{binds:List (Str×Value)} {m:Str->Option Value},(∀v,(x,v)∉binds)->bindL a binds m x=m x
 | [],_,_=>rfl
 |(n,v)::r,m,h=>by
  unfold bindL;rw[wb λw b=>h w (VD _ b)]
  split
  ·have:x≠n:=by rintro rfl;exact h v VF
   simp[this]
  ·rfl
theorem wc{a:Str->Option NameKind}{x:Str}:∀{binds:List (Str×Value)} {m:Str->Option Value},(∀v,(x,v)∉binds)->bindC a binds m x=m x
 | [],_,_=>rfl
 |(n,v)::r,m,h=>by
  unfold bindC;rw[wc λw b=>h w (VD _ b)]
  split
  ·rfl
  ·have:x≠n:=by rintro rfl;exact h v VF
   simp[this]
def Fz{a:Str->Option NameKind}{x:Str}{v:Value}:∀{P:List Str} {b:List Value} {i:Nat} {m:Str->Option Value},P.Nodup->P[i]?=some x->b[i]?=some v->a x=some .local->
  bindL a (P.zip b) m x=some v:=by
 intro P
 induction P with
 | nil=>intro b i m _ h;cases h
 | cons p P f=>
 intro b i m nd e c d;cases b with
 | nil=>cases c
 | cons w b=>
 cases i with
 | zero=>
  cases e;cases c;show bindL a ((x,v)::P.zip b) m x=_;unfold bindL;rw[wb λv g=>(XJ.mp nd).1 (Z3 g).1,VE d];simp
 | succ i=>
  show bindL a ((p,w)::P.zip b) m x=_;unfold bindL;exact f (i:=i) (XJ.mp nd).2 e c d
def FA{a:Str->Option NameKind}{x:Str}{v:Value}:∀{P:List Str} {b:List Value} {i:Nat} {m:Str->Option Value},P.Nodup->P[i]?=some x->b[i]?=some v->a x≠some .local->
  bindC a (P.zip b) m x=some v:=by
 intro P
 induction P with
 | nil=>intro b i m _ h;cases h
 | cons p P f=>
 intro b i m nd e c d;cases b with
 | nil=>cases c
 | cons w b=>
 cases i with
 | zero=>
  cases e;cases c;show bindC a ((x,v)::P.zip b) m x=_;unfold bindC;rw[wc λv g=>(XJ.mp nd).1 (Z3 g).1,VH d];simp
 | succ i=>
  show bindC a ((p,w)::P.zip b) m x=_;unfold bindC;exact f (i:=i) (XJ.mp nd).2 e c d
noncomputable def start(N:List Str)(a:List V):St:=a.map some++List.replicate (N.length-a.length) none
abbrev z7(CX:LL)(P:Program)(w:World)(K:FR)(mg:Str->Option Value)(base:Heap)(N:List Str)(qual:Str)(scope:Scope)(f:Addr)(cd:Value)(A:Around)(outer:List Env)(s:Shared)(H:Hp)(E:XK):Cx where
 prog:=P
 w:=w
 K:=K
 mg:=mg
 base:=base
 A:=A.deeper (envOfC qual scope s.heap.objs.size f cd)
 N:=N
 s₀:=s
 H₀:=H
 env:=envOfC qual scope s.heap.objs.size f cd
 outer:=outer
 stack:=envOfC qual scope s.heap.objs.size f cd::outer
 ex:=[]
 calm:=true
 fn:=λ_=>true
 pn:=[]
 xe:=λe s'=>wpAny (model P w) (A.deeper (envOfC qual scope s.heap.objs.size f cd)) (leaving (envOfC qual scope s.heap.objs.size f cd) e) (λ_ s''=>CX outer H s E e s'') (λe' s''=>CX outer H s E e' s'') s'
def Ag{a:Scope}{n:Nat}{x:Str}(h:a.names.lookup x=some .cell):∃c,(cellsFrom n a.names []).lookup x=some c:=by
 have q:=AaE a.names n [] (.inl h);exact Y3.mp q
def EW{Q:LL}{P:Program}{w:World}{K:FR}{mg:Str->Option Value}{base:Heap}{N o:List Str}{g:Str}{d:Scope}{f:Addr}{J:Value}{A:Around}{outer:List Env}{s L:Shared}{H:Hp}{E:XK}{us:List Value}{m:List V}
  (S:au N o d) (hd:A.handled=none) (l:LJ P w K mg base A outer s H) (hl:m.length=o.length) (r:Vals m us)
  (x:InCallC s s.heap.objs.size (bindL (envOfC g d s.heap.objs.size f J).kindOf (o.zip us) λ_=>none) (cellsFrom (s.heap.objs.size+1) d.names []) (bindC (envOfC g d s.heap.objs.size f J).kindOf (o.zip us) λ_=>none) L):
  Inv (z7 Q P w K mg base N g d f J A outer s H E) [] (start N m) H L:=by
 have R:o.length<=N.length:=by have:=congrArg List.length S.pre;rw[V4] at this;lia
 obtain⟨I,U,rfl,O⟩:=x.done;have t:∀b:Addr,b∉(z7 Q P w K mg base N g d f J A outer s H E).ex:=λb z=>absurd (show b∈([]:List Addr) from z) (by simp);refine⟨⟨l.mod,S.kind,rfl,rfl,VG _,λy z c I j=>?_,λy C=>?_,λy c _ h=>?_,λ_=>hd,Around.frames_deeper l.frames,.inr ⟨rfl,rfl⟩,λb z=>absurd z (t b),l.bs,l.Ml,λb _ _=>t b,λb z=>absurd z (t b),l.sW,l.P4⟩,
  rfl,l.bare,Un.kept O,⟨_,x.toInCall.ns,λi y v I j X=>?_⟩,λy c h=>⟨_,x.cell y c h⟩,l.aZ.fresh (VG _),λy c h=>?_,λp hp=>absurd (show p∈([]:List (Addr×Obj)) from hp) (by simp),l.aZ.kept O,?_⟩
 ·exact name_of_addr x.apart (Xj I) (Xj j)
 ·have C:d.names.lookup y=some .cell\/d.names.lookup y=some .free:=C;rcases C with C | C
  ·exact Ag C
  ·exact absurd rfl (S.Ou _ (Xj C))
 ·exact WD (x.above y c (Xj h))
 ·have G:i < m.length:=by
   unfold start at j
   by_cases G:i < m.length
   ·exact G
   ·rw[VY (by simpa using G)] at j;rw[Aaz] at j
    split at j <;> cases j
  have T:m[i]?=some v:=by
   unfold start at j;rw[VW (by simpa using G),VN] at j;cases e:m[i]? with
   | none=>rw[e] at j;cases j
   | some a=>rw[e] at j;cases j;rfl
  obtain⟨u,M,rv⟩:=r.get T;have hp:o[i]?=some y:=by
   rw[<-S.pre,Ww (by lia)];exact I
  have F:o.Nodup:=by rw[<-S.pre];exact S.nd.sublist (ZU _ _)
  refine⟨u,rv,?_⟩;rcases S.par y (VC hp) with k | k
  ·exact .inl ⟨k,Fz F hp M k⟩
  ·obtain⟨c,e⟩:=Ag (n:=s.heap.objs.size+1) k;refine .inr ⟨.inl k,c,e,?_⟩;have q:=x.cell y c e;rw[FA F hp M (by show d.names.lookup y≠_;rw[k];decide)] at q;exact q
 ·exact l.aZ.fresh (WD (x.above y c (Xj h)))
 ·unfold start;show _=N.length;rw[VM,Vy,List.length_replicate]
  lia
def Rv{M:LL}{P:Program}{w:World}{K:FR}{mg:Str->Option Value}{base:Heap}{k:Nat}{f:Addr}{name c:Str}{params:Arguments}{g:List Stmt}{a:Scope}{Z kV G Y d ct oc:Value}{an od:Option Addr}
  {R:Array (Option Value)} {N L:List Str} {sp:Sp} (lk:K.lookup f=some ⟨oc,od,.func (PySem.W.fnOf name c params g a Z kV G Y an d ct),R⟩) (U:PySem.W.codeIn K d c=true) (S:au N L a)
  (len:∀i H Q E,sp i H Q E->i.length=L.length)
  (m:∀(A:Around)(outer:List Env)(s:Shared)(H:Hp)(i:List V)(Q:VK)(E:XK),eU k (A.deeper (envOfC c a s.heap.objs.size f d))->sp i H Q E->
   ∃t,Au (z7 M P w K mg base N c a f d A outer s H E) g t/\t {nx:=λ_ j=>Q .bx j,rt:=Q} (start N i) H):
  fX P w K mg base M (k+1) f (PySem.W.fnOf name c params g a Z kV G Y an d ct) L sp:=by
 refine⟨len,λA outer s H args us i Q E hr F hb r z=>?_⟩;have hl:=len _ _ _ _ z;have KX:K.In s.heap:=F.mod.Ur.keeps λb o e=>(F.bs b o e).1;have T:s.heap.NoLimit:=F.mod.nolimit.keeps λb o e=>(F.bs b o e).1;have l:∀y∈L.zip us,a.names.lookup y.1=some .local\/(a.names.lookup y.1=some .cell/\((cellsFrom (s.heap.objs.size+1) a.names []).lookup y.1).isSome=true):=λ⟨n,v⟩ hy=>by
  rcases S.par n (Z3 hy).1 with q | q
  ·exact .inl q
  ·exact .inr ⟨q,AaE _ _ _ (.inl q)⟩
 refine codeAny_call_function hr.depth (KX _ _ lk) rfl S.co S.gen rfl (PySem.W.codeRec_of KX U) (hb _ _ _ _ ?_);refine wpAny_newFunctionEnv_cells S.kind l λenv he X x=>?_;subst he;refine⟨T.keeps x.toInCall.keep,codeAny_func ?_⟩;obtain⟨t,ht,hq⟩:=m A outer s H i Q E (hr.deeper _) z;have I:Inv (z7 M P w K mg base N c a f d A outer s H E) [] (start N i) H X:=EW S hr.hd F hl r x;refine WL (ht [] X (start N i) H _ I hq) (λfl O p=>?_) λe O p=>p;have C:∀{h:St} {j:Hp} {v:V} {u:Value},Inv (z7 M P w K mg base N c a f d A outer s H E) [] h j O->RelV v u->Q v j->CE outer P w H s Q u O:=
  λ{h j v u} J rv q=>⟨v,j,J.os,J.bare,J.base,J.aZ,rv,q⟩
 cases fl with
 | ret u=>
  obtain⟨v,h,j,J,rv,q⟩:=p;exact C J rv q
 | next=>
  obtain⟨h,j,J,q⟩:=p;exact C (v:=V.bx) (u:=Value.none) J rfl q
 | brk=>
  obtain⟨_,_,_,q⟩:=p;exact False.elim q
 | cont=>
  obtain⟨_,_,_,q⟩:=p;exact False.elim q
section
variable {X:Cx} {x:Str} {p pos:Pos} {e:Expr} {es:List Expr} {t:TA} {id T:String} {r:List V->Hp->VK->Prop}
def Th(r:List V->Hp->VK->Prop)(t:TA):TE:=λa H Q=>t a H λb c=>r b c Q
def zf(l:eX X (.builtin id) r)(k:Gl X x)(hm:X.mg x=none)(j:bootBuiltins x=some (.builtin id))(m:PA X (e::es) t)(hn:x≠"__name__":=by decide)(c:(x==("__debug__":Str))=false:=by decide)
  (he:starEach (e::es) X.env=(false,eval e X.env)::starEach es X.env:=by rfl) (b:(backTo pos (starEach es X.env)).any (·.1)=false:=by rfl):PE X (.Call (.Name x p) (e::es) [] pos) (Th r t):=by
 intro a s d H Q I h;refine XM (fU I k hm j ?_ hn c);exact PyProof.Rows.callWith_builtin1 (cv (m pos a s d H _ I h) λus s1 ⟨f,H1,n,g,i⟩=>l a s1 d H1 f us Q n g i) he b
def vq(l:eX X (.type T) r)(k:Gl X x)(hm:X.mg x=none)(j:bootBuiltins x=some (.type T))(m:PA X (e::es) t)(hn:x≠"__name__":=by decide)(c:(x==("__debug__":Str))=false:=by decide)
  (he:starEach (e::es) X.env=(false,eval e X.env)::starEach es X.env:=by rfl) (b:(backTo pos (starEach es X.env)).any (·.1)=false:=by rfl):PE X (.Call (.Name x p) (e::es) [] pos) (Th r t):=by
 intro a s d H Q I h;refine XM (fU I k hm j ?_ hn c);exact WC (cv (m pos a s d H _ I h) λus s1 ⟨f,H1,n,g,i⟩=>l a s1 d H1 f us Q n g i) he b
end
end L2
namespace HT
open PyProof.Rows
section
open PySem.SeqAt
open PySem.AutoSeq1 (wpAny_loadPart')
open PySem.MeetsSeq PySem.MeetsSeq2 PySem.MeetsSeq3
end
def Lo(ht:IsTup s.heap t c.toArray)(r:IsTup s.heap b ws.toArray)(o:c≠[])(v:ws=[]->Q (.ref t) s)(u:ws≠[]->Q (.ref s.heap.objs.size) {s with heap:=s.heap.push {cls:=.type "tuple",data:=.seq (c++ws).toArray}})(k:c.length+ws.length<=sizeLine):wpAny (model prog w) A (binaryOp .Add (.ref t) (.ref b)) Q E s:=by
 obtain⟨⟨cls,dd,data,m⟩,j,p,n,hd⟩:=id ht;obtain⟨⟨q,h,l,d⟩,a,g,n2,f⟩:=id r;simp only at p hd g f;subst p hd g f;have e:c.toArray++ws.toArray=(c++ws).toArray:=by simp
 by_cases i:ws=[]
 ·exact concat_meets ⟨_,j,rfl⟩ ⟨_,a,rfl⟩ Aak seq_tuple_add Zf Za (Y2 _ _)
   (tuple_addW1 t b c.toArray ws.toArray n n2 dd h m d (by simpa using o) (by simp[i])) ⟨j,a,v i⟩
 ·refine concat_meets ⟨_,j,rfl⟩ ⟨_,a,rfl⟩ Aak seq_tuple_add Zf Za (Y2 _ _)
   (tuple_addW2 t b c.toArray ws.toArray n n2 dd h m d (by simpa using o) (by simpa using i) (by rw[VZ,VZ];exact k)) ⟨j,a,?_⟩
  rw[e];exact u i
noncomputable def cn(n d:Nat):Option Int->Nat
 | none=>d
 | some v=>if v < 0 then(v+(n:Int)).toNat else min v.toNat n
def yM(n d:Nat):cn n d none=d:=rfl
def JG(n d k:Nat):cn n d (some (k:Int))=min k n:=by
 show(if(k:Int) < 0 then((k:Int)+(n:Int)).toNat else min (k:Int).toNat n)=min k n;rw[VH (by simp),Wc]
def Na(n d:Nat)(hd:d<=n)(o:Option Int):cn n d o<=n:=by
 cases o with
 | none=>exact hd
 | some v=>
  show(if v < 0 then(v+(n:Int)).toNat else min v.toNat n)<=n
  by_cases a:v < 0
  ·rw[VE a];lia
  ·rw[VH a];exact Nat.min_le_right _ _
def DM(v:Int)(n d:Nat):(if v < 0 then max (v+(n:Int)) 0 else min v (n:Int))=((cn n d (some v):Nat):Int):=by
 show(if v < 0 then max (v+(n:Int)) 0 else min v (n:Int))=(((if v < 0 then(v+(n:Int)).toNat else min v.toNat n):Nat):Int)
 by_cases a:v < 0
 ·simp only[VE a];simp
 ·simp only[VH a];lia
def Ce(a b:Option Int)(n:Nat):Builtin.Slice.sliceAdjust a b 1 (n:Int)=(((cn n 0 a:Nat):Int),((cn n n b:Nat):Int)):=by
 have c:¬((1:Int) < 0):=by lia
 unfold Builtin.Slice.sliceAdjust;simp only[c,WK];refine Prod.ext ?_ ?_
 ·cases a with
  | none=>rfl
  | some v=>exact DM v n 0
 ·cases b with
  | none=>rfl
  | some v=>exact DM v n n
def Bn(i j:Nat):Builtin.Slice.slicePlaces (i:Int) (j:Int) 1=j-i:=by
 unfold Builtin.Slice.slicePlaces;have a:(1:Int) > 0:=by exact Int.le_refl _
 simp only[a,Yi,AaJ]
 split <;> lia
def qZ(p:IsPart v o)(h:Q o s):wpAny (model prog w) A (Builtin.Slice.slicePartIndex v) Q E s:=by
 cases p with
 | none=>exact slicePart_none h
 | int i t=>exact slicePart_int h
def gS{g:Addr}{f e:Value}{a c:Option Int}{n:Nat}{Q:Int×Int×Nat->Shared->Prop}(j:s.heap.IsSliceOf g f e .none)(pl:IsPart f a)(i:IsPart e c)
  (h:Q (((cn n 0 a:Nat):Int),1,cn n n c-cn n 0 a) s):wpAny (model prog w) A (Builtin.Slice.sliceApplied (.ref g) (pure (n:Int))) Q E s:=by
 obtain⟨os,b,k,d⟩:=id j;unfold Builtin.Slice.sliceApplied Builtin.Slice.sliceFields;refine Vx (Vx (Wv b d (x:=f) rfl (Vx (Wv b d (x:=e) rfl (Vx (Wv b d (x:=.none) rfl (VA ?_)))))));refine Vx (slicePart_none ?_);show wpAny _ _ (if((1:Int)==0)=true then _ else _) _ _ s;rw[VH (by decide)];refine Vx (qZ pl (Vx (qZ i (Vx (VA ?_)))));show wpAny _ _ (match Builtin.Slice.sliceAdjust a c 1 (n:Int) with |(a,c)=>pure (a,(1:Int),Builtin.Slice.slicePlaces a c 1)) _ _ s;rw[Ce a c n];show wpAny _ _ (pure (((cn n 0 a:Nat):Int),(1:Int),Builtin.Slice.slicePlaces ((cn n 0 a:Nat):Int) ((cn n n c:Nat):Int) 1)) _ _ s;rw[Bn];exact VA h
def G8(a:Array Value)(i k:Nat):((List.range k).filterMap λ(m:Nat)=>a[((i:Int)+(m:Int)*1).toNat]?).toArray=((a.toList.drop i).take k).toArray:=by
 have e:(λ(m:Nat)=>a[((i:Int)+(m:Int)*1).toNat]?)=λm=>a[i+m]?:=by
  funext m
  have:((i:Int)+(m:Int)*1).toNat=i+m:=by lia
  rw[this]
 rw[e];have:=pick_run a i k;rw[YV] at this;have b:((λx=>a[x]?)∘λx=>i+x)=λm=>a[i+m]?:=rfl;rw[b] at this;rw[this]
def mW{t e:Addr}{a:Array Value}{n l:Value}{c d:Option Int}{Q:Value->Shared->Prop}(ht:IsTup s.heap t a)(o:s.heap.IsSliceOf e n l .none)(pl:IsPart n c)(p:IsPart l d)
  (hw:¬(cn a.size 0 c=0/\cn a.size a.size d=a.size))
  (h:Q (.ref s.heap.objs.size) {s with heap:=s.heap.push {cls:=.type "tuple",data:=.seq ((a.toList.drop (cn a.size 0 c)).take (cn a.size a.size d-cn a.size 0 c)).toArray}})
  (f:a.size<=sizeLine):wpAny (model prog w) A (getItem (.ref t) (.ref e)) Q E s:=by
 have b:sizeOk (.seq ((a.toList.drop (cn a.size 0 c)).take (cn a.size a.size d-cn a.size 0 c)).toArray):=by
  show((a.toList.drop (cn a.size 0 c)).take (cn a.size a.size d-cn a.size 0 c)).toArray.size<=sizeLine;rw[VZ,V4,Ym,XT]
  lia
 have hj:cn a.size a.size d<=a.size:=Na _ _ (VG _) d;obtain⟨os,g,j,r⟩:=id o;have k:s.TypeIs (.ref e) "slice":=⟨os,g,j⟩;unfold getItem
 try with_reducible refine Wh ?_
 first | refine Vx (VA ?_) | skip
 refine Vx (wpAny_sequenceKey ht.typeIs (by decide) ?_);refine Vx (Wo (name:=Str.ofString "__getitem__") ht.typeIs WW
  (Wj WW ht.typeIs entry_tuple_getitem ?_ (args_tuple_getitem _ _)))
 show wpAny _ _ (Builtin.Tuple.tupleItemsOf (.ref t) >>=_) _ _ s;refine Vx (tupleItemsOf_ ht ?_);refine Vx (Yt k ?_);rw[VE (by decide)];refine Vx (gS o pl p ?_);have i:¬((((cn a.size 0 c:Nat):Int)==0&&(1:Int)==1&&(cn a.size a.size d-cn a.size 0 c)==a.size)=true):=by
  intro q;rw[V1,V1] at q;have v:((cn a.size 0 c:Nat):Int)=0:=eq_of_beq q.1.1;have u:cn a.size a.size d-cn a.size 0 c=a.size:=eq_of_beq q.2;exact hw ⟨by clear q;lia,by clear q hj f;lia⟩
 show wpAny _ _ (if(((cn a.size 0 c:Nat):Int)==0&&(1:Int)==1&&(cn a.size a.size d-cn a.size 0 c)==a.size)=true then _ else _) _ _ s;rw[VH i,G8]
 first
  | exact Vx (m:=Builtin.Tuple.tupleExact _) (Ws (VA ⟨_,rfl,VA h⟩) b)
  | exact Vx (m:=Builtin.Tuple.tupleExact _) (Ws (Vx (VA (VA ⟨_,rfl,VA h⟩))) b)
  | exact Vx (Vx (m:=Builtin.Tuple.tupleExact _) (Ws (VA (VA ⟨_,rfl,VA h⟩)) b))
  | exact Vx (Vx (m:=Builtin.Tuple.tupleExact _) (Ws (VA ⟨_,rfl,VA h⟩) b))
end HT
namespace L2
open PyProof.Rows
abbrev TO:=St->Hp->(Option Int->Hp->Prop)->Prop
def PO(X:Cx)(e:Option Expr)(t:TO):Prop:=
 ∀(a:List (Addr×Obj)) (s:Shared) (b:St) (H:Hp) (Q:Option Int->Hp->Prop),Inv X a b H s->t b H Q->
  wpAny (model X.prog X.w) X.A (evalPart e X.env) (λu d=>∃o c,Inv X a b c d/\IsPart u o/\Q o c) X.xe s
noncomputable def Jt:TO:=λ_ H Q=>Q none H
def Qk(t:TE):TO:=λa H Q=>t a H λx b=>∃i,x=.int i/\Q (some i) b
def intsAre_of:∀{us:List Value},Vals (ns.map V.int) us->IntsAre us ns:=by
 induction ns with
 | nil=>intro us r;rw[Yl] at r;cases r;exact .nil
 | cons n ns c=>
  intro us r;rw[VL] at r;cases r with
  | cons b a=>
   obtain⟨t,e⟩:=b;subst e;exact .cons n t (c a)
section
variable {X:Cx} {e:Expr} {te:TE} {lo hi:Option Expr} {tl th:TO} {pos p2:Pos}
def Kg:PO X none Jt:=by
 intro a s b H Q I h;rw[evalPart_none];exact VA ⟨none,H,I,.none,h⟩
def Kf(h:PE X e te):PO X (some e) (Qk te):=by
 intro a s b H Q I f;rw[evalPart_some];refine cv (h a s b H _ I f) λu s1 u9=>?_;obtain⟨x,H1,g,c,d⟩:=u9;obtain⟨i,rfl,q⟩:=d;obtain⟨t,rfl⟩:=c;exact⟨some i,H1,g,.int i t,q⟩
def PL(X:Cx)(r:V->Option Int->Option Int->Hp->VK->Prop):Prop:=
 ∀(a:List (Addr×Obj)) (s:Shared) (b:St) (H:Hp) (x:V) (v d c:Value) (lo hi:Option Int) (f:Addr) (Q:VK),Inv X a b H s->RelV x v->s.heap.IsSliceOf f d c .none->IsPart d lo->IsPart c hi->r x lo hi H Q->
  ∃T g,typeLookup (.type T) "__getitem__"=pure (some (.builtin g))/\s.TypeIs v T/\wpAny (model X.prog X.w) X.A (getItem v (.ref f)) (EP X a b Q) X.xe s
def Vh(r:V->Option Int->Option Int->Hp->VK->Prop)(te:TE)(tl th:TO):TE:=λa H Q=>te a H λx d=>tl a d λl c=>th a c λu b=>r x l u b Q
def Hf(hr:PL X r)(p:PE X e te)(hl:PO X lo tl)(n:PO X hi th):PE X (.Subscript e (.Slice lo hi none p2) pos) (Vh r te tl th):=by
 intro a s c H Q I h;refine Subscript_ (cv (p a s c H _ I h) λv s1 u9=>?_);obtain⟨x,H1,E,i,m⟩:=u9;refine wpAny_Slice (cv (hl a s1 c H1 _ E m) λf s2 ⟨l,F,C,pl,k⟩=>cv (n a s2 c F _ C k) λd s3 u9=>?_);obtain⟨u,g,z,pu,j⟩:=u9;rw[evalPart_none];refine VA ?_;have y:Inv X a c g {s3 with heap:=s3.heap.push {cls:=.type "slice",data:=.fields #[f,d,.none]}}:=z.kept (t':=s3.toks) λb ob q=>VB _ q;obtain⟨T,G,t,ht,o⟩:=hr a {s3 with heap:=s3.heap.push {cls:=.type "slice",data:=.fields #[f,d,.none]}} c g x v f d l u s3.heap.objs.size Q y i (Heap.IsSliceOf.new ..) pl pu j;show wpAny (model X.prog X.w) X.A (subscriptTail e (.Slice lo hi none p2) v (.ref s3.heap.objs.size)) (EP X a c Q) X.xe {s3 with heap:=s3.heap.push {cls:=.type "slice",data:=.fields #[f,d,.none]}};exact tail_any (ops:=[.ref s3.heap.objs.size,v]) ht t o (by with_unfolding_all rfl)
noncomputable def tE(a:List V)(lo hi:Option Int):List V:=(a.drop (HT.cn a.length 0 lo)).take (HT.cn a.length a.length hi-HT.cn a.length 0 lo)
def pM(a:List V)(lo hi:Option Int):(tE a lo hi).length<=a.length:=by
 unfold tE;rw[V4,Ym]
 lia
def TR(K:FR):V->Option Int->Option Int->Hp->VK->Prop:=λx lo hi H Q=>∃a b,x=.ref a/\i5 K H a b/\
 ¬(HT.cn b.length 0 lo=0/\HT.cn b.length b.length hi=b.length)/\∀p,H p=none->Q (.ref p) (upd H p (.tup (tE b lo hi)))
def MY:PL X (TR X.K):=by
 intro g s p H x v u t lo hi w Q I j n pl k h;obtain⟨a,d,rfl,l,m,q⟩:=h;cases j;obtain⟨f,r,ht,i⟩:=I.tuple l;have c:f.toArray.size=d.length:=by rw[VZ];exact r.length.symm
 refine⟨"tuple",_,WW.lookup,ht.typeIs,?_⟩;refine HT.mW ht n pl k (by rw[c];exact m) ?_ (by rw[c];exact i);rw[c];refine⟨.ref s.heap.objs.size,_,I.laid (t':=s.toks) (o:=.tup (tE d lo hi)) (λb ob q=>VB _ q) (VG _) ?_,rfl,q _ (I.aZ.fresh (VG _))⟩;exact⟨VJ (pM d lo hi) i,_,(r.drop (HT.cn d.length 0 lo)).take (HT.cn d.length d.length hi-HT.cn d.length 0 lo),An.new _ _⟩
def QU(K:FR):R2:=λx y H Q=>∃a b d c,x=.ref a/\y=.ref b/\i5 K H a d/\i5 K H b c/\d≠[]/\d.length+c.length<=sizeLine/\
 (c=[]->Q (.ref a) H)/\(c≠[]->∀p,H p=none->Q (.ref p) (upd H p (.tup (d++c))))
def Vals.qH(r:Vals xs us):us=[]↔xs=[]:=by
 cases r with
 | nil=>simp
 | cons _ _=>simp
def Kt:qr X (binaryOp .Add) (QU X.K):=by
 intro f s F H x y v u Q I m l h;obtain⟨a,b,k,j,rfl,rfl,E,C,A,i,p,n⟩:=h;cases m;cases l;obtain⟨t,d,r,_⟩:=I.tuple E;obtain⟨g,c,p2,_⟩:=I.tuple C;refine HT.Lo r p2 (λz=>A (d.qH.mp z)) (λz=>⟨.ref a,H,I,rfl,p (c.qH.mp z)⟩) (λz=>?_) (by rw[<-d.length,<-c.length];exact i);refine⟨.ref s.heap.objs.size,_,I.laid (t':=s.toks) (o:=.tup (k++j)) (λb ob q=>VB _ q) (VG _) ?_,rfl,n (λw=>z (c.qH.mpr w)) _ (I.aZ.fresh (VG _))⟩;exact⟨by rw[VM];exact i,_,d.append c,An.new _ _⟩
end
noncomputable def uH(n:Nat)(i:Int):Option Nat:=if 0<=i then(if i < n then some i.toNat else none) else if -(n:Int)<=i then some (i+n).toNat else none
def fq{a:Type}(b:List a)(i:Int):Option a:=(uH b.length i).bind λj=>b[j]?
def Ds(h:uH n i=some j):seqIndex? i n=some j/\j < n/\-(n:Int)<=i/\i < n:=by
 unfold uH at h
 by_cases b:0<=i
 ·rw[VE b] at h
  by_cases a:i < n
  ·rw[VE a] at h;have e:i.toNat=j:=Option.some.inj h;exact⟨by rw[seqIndex_of b a,e],by lia,by clear a;lia,a⟩
  ·rw[VH a] at h;cases h
 ·rw[VH b] at h
  by_cases a:-(n:Int)<=i
  ·rw[VE a] at h;have e:(i+n).toNat=j:=Option.some.inj h;exact⟨by rw[seqIndex_neg (by lia) a,e],by lia,a,by clear a;lia⟩
  ·rw[VH a] at h;cases h
def qO(h:fq xs i=some v):∃j,seqIndex? i xs.length=some j/\xs[j]?=some v/\j < xs.length/\-(xs.length:Int)<=i/\i < xs.length:=by
 unfold fq at h;cases e:uH xs.length i with
 | none=>rw[e] at h;cases h
 | some j=>
  rw[e] at h;obtain⟨d,c,b,a⟩:=Ds e;exact⟨j,d,h,c,b,a⟩
def kj{b:Type}{a:List b}{j:Nat}{v:b}(h:a[j]?=some v):fq a (j:Int)=some v:=by
 have hj:j < a.length:=(Vz.mp h).1;have e:uH a.length (j:Int)=some j:=by
  unfold uH;rw[VE (by simp),VE (Yo.mpr hj)];simp
 unfold fq;rw[e];exact h
def nr(a:List α)(v:α):fq (a++[v]) (-1)=some v:=by
 have hl:(a++[v]).length=a.length+1:=by simp
 have e:uH (a++[v]).length (-1)=some a.length:=by
  unfold uH;rw[hl,VH (by decide),VE (by clear hl;lia)];congr 1
  lia
 unfold fq;rw[e];show(a++[v])[a.length]?=some v;simp
def iG(b:Expr):Prop:=∀o i,subscripted b false o i=operate [o,i] (getItem o i)
def P6(X:Cx)(r:R2):Prop:=
 ∀(c a:Expr)(b:List (Addr×Obj)) (s:Shared) (d:St) (H:Hp) (x y:V) (v u:Value) (Q:VK),Inv X b d H s->RelV x v->RelV y u->r x y H Q->
  subscripted a false v u=operate [v,u] (getItem v u)->wpAny (model X.prog X.w) X.A (subscriptTail c a v u) (EP X b d Q) X.xe s
def LG(X:Cx)(d:String)(r:V->List V->Hp->VK->Prop):Prop:=
 ∀(a:List (Addr×Obj)) (s:Shared) (b:St) (H:Hp) (x:V) (c:List V) (v:Value) (us:List Value) (Q:VK),Inv X a b H s->RelV x v->Vals c us->r x c H Q->
  wpAny (model X.prog X.w) X.A (call (.builtin d) (v::us)) (EP X a b Q) X.xe s
section
variable {X:Cx} {a b:Expr} {ta tb:TE} {pos:Pos}
def L6(hr:P6 X r)(k:PE X a ta)(j:PE X b tb)(i:iG b):PE X (.Subscript a b pos) (Qm r ta tb):=by
 intro c s d H Q I h;exact Subscript_ (Py k j I h λv u e x y m l g f q=>hr a b c e d m x y v u Q l g f q (i _ _))
def Uc(K:FR):R2:=λx y H Q=>∃p c i v,x=.ref p/\y=.int i/\eL K H p c/\fq c i=some v/\Q v H
def Ua(K:FR):R2:=λx y H Q=>∃p c i v,x=.ref p/\y=.int i/\i5 K H p c/\fq c i=some v/\Q v H
def Ub:R2:=λx y H Q=>∃z i c,x=.str z/\y=.int i/\z.length<=sizeLine/\fq z.cps.toList i=some c/\Q (.str ⟨#[c]⟩) H
def KO:P6 X (Uc X.K):=by
 intro f g c s m H x y v u Q I F E h n;obtain⟨p,O,i,z,rfl,rfl,G,J,q⟩:=h;cases F;obtain⟨t,rfl⟩:=E;obtain⟨l,r,pl,P⟩:=I.list G;obtain⟨j,e,N,R,M,L⟩:=qO J;obtain⟨w,A,k⟩:=r.get N;have hl:=r.length;have hn:=lD;have d:EP X c m Q w s:=⟨z,H,I,k,q⟩
 by_cases o:0<=i
 ·have hj:i.toNat=j:=by
   rw[seqIndex_of o L] at e;exact Option.some.inj e
  exact item_listR pl.isList o (by lia) (by rw[hj];simpa using A) d n
 ·have hj:(i+(l.toArray.size:Int)).toNat=j:=by
   rw[seqIndex_neg (by lia) M] at e;rw[VZ,<-hl];exact Option.some.inj e
  exact subscriptTail_builtinR (x:=w) pl.isList.typeIs slot_list_getitem.lookup
   (wpAny_getItem_list_neg (Q:=λr C=>r=w/\EP X c m Q r C) pl.isList (by lia) (by rw[VZ] <;> lia) (by lia) (by rw[hj];simpa using A) ⟨rfl,d⟩) n
def OJ:P6 X (Ua X.K):=by
 intro d e c s k H x y v u Q I n m h A;obtain⟨p,L,i,z,rfl,rfl,C,E,q⟩:=h;cases n;obtain⟨t,rfl⟩:=m;obtain⟨o,r,pl,M⟩:=I.tuple C;obtain⟨j,G,F,P,O,N⟩:=qO E;obtain⟨w,J,f⟩:=r.get F;have hl:=r.length;have hn:=lD;have g:EP X c k Q w s:=⟨z,H,I,f,q⟩;exact subscriptTail_builtinR (x:=w) pl.typeIs WW.lookup
  (getItem_tuple (j:=j) (Q:=λr l=>r=w/\EP X c k Q r l) pl (by lia) (by lia) (by rw[VZ,<-hl];exact G) (by simpa using J) ⟨rfl,g⟩) A
def OK:P6 X Ub:=by
 intro d e f s C H x y v u Q I l k h m;obtain⟨z,i,c,rfl,rfl,F,n,q⟩:=h;obtain⟨t,rfl⟩:=l;obtain⟨E,rfl⟩:=k;obtain⟨j,g,r,G,p,o⟩:=qO n;have hl:z.cps.toList.length=z.length:=by simp[Str.length]
 rw[hl] at g p o;have hn:=lD;exact tail_any (typeIs_str s z t) slot_str_getitem.lookup (getItem_str (c:=c) (by
  have A:decide (i < -(2^63:Int))=false:=V5 (by lia);have w:decide (i≥2^63)=false:=V5 (by lia);rw[A,w,Aar]) (by rw[g];simpa using r) ⟨.str ⟨#[c]⟩,H,I.tok _,⟨_,rfl⟩,q⟩) m
def BC(c:List Value)(n j:Nat)(u:Value):Obj.mapSeq (·.setIfInBounds j u) {cls:=.type "list",data:=.seq c.toArray n}={cls:=.type "list",data:=.seq (c.set j u).toArray n}:=by
 simp[Obj.mapSeq]
theorem Inv.lst(I:Inv X pins σ H s)(h:H p=some (.lst xs)):
  ∃(c:List Value)(n:Nat),Vals xs c/\s.heap.get? p=some {cls:=.type "list",data:=.seq c.toArray n}/\xs.length<=sizeLine:=by
 obtain⟨z,c,n,r,e⟩:=I.aZ p _ h;exact⟨c,n,r,e,z⟩
def Inv.OA{d:List (Addr×Obj)}{k:St}{H:Hp}{s:Shared}{p:Addr}{m i:List V}{g c:List Value}{n j:Nat}{f:Obj->Obj}(I:Inv X d k H s)(h:H p=some (.lst m))
  (v:s.heap.get? p=some {cls:=.type "list",data:=.seq g.toArray n}) (l:f {cls:=.type "list",data:=.seq g.toArray n}={cls:=.type "list",data:=.seq c.toArray j}) (r:Vals i c) (o:i.length<=sizeLine) (t:Nat):
  Inv X d k (upd H p (.lst i)) {s with heap:=s.heap.update p f,toks:=t}:=by
 have e:(s.heap.update p f).get? p=some {cls:=.type "list",data:=.seq c.toArray j}:=by
  rw[Xc f v (by rw[l] <;> rfl),l]
 refine I.write (x:=p) (e:=p) (by rw[h];trivial) (.inl rfl) (λb u w q=>(XH _ _ (WO w)).trans q) ⟨_,e⟩ ?_;exact⟨o,c,j,r,e⟩
def QS:V->V->V->Hp->(Hp->Prop)->Prop:=λo i v H Q=>∃p c k j,o=.ref p/\i=.int k/\H p=some (.lst c)/\uH c.length k=some j/\Q (upd H p (.lst (c.set j v)))
def set_list:LB X QS:=by
 intro c s y H o i v ov E u Q I ro A rv h;obtain⟨p,z,k,j,rfl,rfl,hp,hj,q⟩:=h;cases ro;obtain⟨t,rfl⟩:=A;obtain⟨d,n,r,f,C⟩:=I.lst hp;obtain⟨e,F,m,l⟩:=Ds hj;have hl:=r.length;have hn:=lD;have x:Inv X c y (upd H p (.lst (z.set j v))) {s with heap:=s.heap.update p (Obj.mapSeq (·.setIfInBounds j u))}:=
  I.OA hp f (BC d n j u) (r.set rv j) (by rw[Xz];exact C) s.toks
 by_cases w:0<=k
 ·have g:k.toNat=j:=by
   rw[seqIndex_of w l] at e;exact Option.some.inj e
  exact PySem.W.ki_setAt f w (by lia) (by rw[VZ,<-hl];exact l) (by rw[g];exact⟨_,x,q⟩)
 ·have g:(k+(d.toArray.size:Int)).toNat=j:=by
   rw[seqIndex_neg (by lia) m] at e;rw[VZ,<-hl];exact Option.some.inj e
  exact PySem.W.ki_setBack f (by lia) (by rw[VZ,<-hl];exact m) (by lia) (by rw[g];exact⟨_,x,q⟩)
def wD(c d:Option Int)(n:Nat):(sliceBounds c d none n).1=((HT.cn n 0 c:Nat):Int)/\(sliceBounds c d none n).2.1=((HT.cn n n d:Nat):Int)/\(sliceBounds c d none n).2.2=1:=by
 refine⟨?_,?_,rfl⟩
 ·cases c with
  | none=>simp[sliceBounds,HT.cn]
  | some i=>
   simp only[sliceBounds,HT.cn,Option.getD_none,show(1:Int) > 0 by decide,Yi]
   by_cases h:i < 0
   ·simp only[h,Yi] <;> lia
   ·simp only[h,WK] <;> lia
 ·cases d with
  | none=>simp[sliceBounds,HT.cn]
  | some i=>
   simp only[sliceBounds,HT.cn,Option.getD_none,show(1:Int) > 0 by decide,Yi]
   by_cases h:i < 0
   ·simp only[h,Yi] <;> lia
   ·simp only[h,WK] <;> lia
def t7(c:List Value)(d e:Option Int):slicePick c.toArray d e none=((c.drop (HT.cn c.length 0 d)).take (HT.cn c.length c.length e-HT.cn c.length 0 d)).toArray:=by
 obtain⟨h,g,f⟩:=wD d e c.toArray.size;unfold slicePick;rw[h,g,f];simp only[sliceRange_one,pick_run,VZ] <;> rfl
def TX(K:FR):V->Option Int->Option Int->Hp->VK->Prop:=λx d e H Q=>∃a c,x=.ref a/\eL K H a c/\∀p,H p=none->Q (.ref p) (upd H p (.lst (tE c d e)))
def JA:PL X (TX X.K):=by
 intro g s p H x v u t e f w Q I i n pl j h;obtain⟨a,c,rfl,m,q⟩:=h;cases i;obtain⟨k,r,ht,l⟩:=I.list m;have d:=r.length;refine⟨"list",_,slot_list_getitem.lookup,ht.isList.typeIs,?_⟩;refine wpAny_getItem_list_slice ht.isList n pl j .none (by simp) ?_ (by rw[VZ] <;> lia);rw[t7,<-d];refine⟨.ref s.heap.objs.size,_,I.laid (t':=s.toks) (o:=.lst (tE c e f)) (λb ob q=>VB _ q) (VG _) ?_,rfl,q _ (I.aZ.fresh (VG _))⟩;exact⟨VJ (pM c e f) l,_,0,(r.drop (HT.cn c.length 0 e)).take (HT.cn c.length c.length f-HT.cn c.length 0 e),VR _ rfl⟩
def xW:eX X (.builtin "len") (λi H Q=>∃p d,i=[.ref p]/\(eL X.K H p d\/i5 X.K H p d)/\Q (.int d.length) H):=by
 intro j s m H i us Q I r h;obtain⟨p,d,rfl,e,q⟩:=h;obtain⟨u,rfl,k⟩:=vals1 r;cases k;have hn:=lD;rcases e with e | e
 ·obtain⟨g,f,pl,l⟩:=I.list e;have c:=f.length;exact Calls.call_len_list pl.isList (by simp only[VZ] <;> lia) ⟨.int d.length,H,I.tok _,⟨s.toks+1,by rw[VZ,c]⟩,q⟩
 ·obtain⟨g,f,pl,l⟩:=I.tuple e;have c:=f.length;exact len_tuple pl (by simp only[VZ] <;> lia) ⟨.int d.length,H,I.tok _,⟨s.toks+1,by rw[VZ,c]⟩,q⟩
def xV:eX X (.builtin "len") (λc H Q=>∃z,c=[.str z]/\z.length<=sizeLine/\Q (.int z.length) H):=by
 intro d s e H c us Q I r h;obtain⟨z,rfl,f,q⟩:=h;obtain⟨u,rfl,t,rfl⟩:=vals1 r;have hn:=lD;exact len_str (by lia) ⟨.int z.length,H,I.tok _,⟨_,rfl⟩,q⟩
def xU:eX X (.type "list") (λz H Q=>∃p f,z=[.ref p]/\(eL X.K H p f\/i5 X.K H p f)/\∀l,H l=none->Q (.ref l) (upd H l (.lst f))):=by
 intro j s C H z us Q I r h;obtain⟨p,f,rfl,m,q⟩:=h;obtain⟨u,rfl,E⟩:=vals1 r;cases E;have v:∀(c:List Value),Vals f c->f.length<=sizeLine->∀(d:Heap)(i:Nat),(∀b A,s.heap.get? b=some A->d.get? b=some A)->
   d.get? s.heap.objs.size=some {cls:=.type "list",dict:=none,data:=.seq c.toArray i,slots:=#[]}->EP X j C Q (.ref s.heap.objs.size) {s with heap:=d}:=λc g k d i kp e=>
  ⟨.ref s.heap.objs.size,_,I.laid (t':=s.toks) kp (VG _) (show b8 X.prog X.w _ d _ (.lst f) from⟨k,c,i,g,e⟩),rfl,q _ (I.aZ.fresh (VG _))⟩
 rcases m with m | m
 ·obtain⟨c,g,pl,k⟩:=I.list m;have t:=g.length;obtain⟨o,x,y,n,hd⟩:=pl.isList;exact call_list_seq p (.inl rfl) x y hd (λd i kp e=>v c g k d i kp e) (by simp only[VZ] <;> lia)
 ·obtain⟨c,g,pl,k⟩:=I.tuple m;have t:=g.length;obtain⟨o,x,y,n,hd⟩:=pl;exact call_list_seq p (.inr rfl) x y hd (λd i kp e=>v c g k d i kp e) (by simp only[VZ] <;> lia)
def uN:eX X (.type "tuple") (λm H Q=>∃p f,m=[.ref p]/\((eL X.K H p f/\∀l,H l=none->Q (.ref l) (upd H l (.tup f)))\/(i5 X.K H p f/\Q (.ref p) H))):=by
 intro c s k H m us Q I r h;obtain⟨p,f,rfl,h⟩:=h;obtain⟨u,rfl,x⟩:=vals1 r;cases x;rcases h with⟨j,q⟩ |⟨j,q⟩
 ·obtain⟨d,i,pl,n⟩:=I.list j;have t:=i.length;refine call_tuple_list pl.isList (λg kp=>?_) (by simp only[VZ] <;> lia);have v:Inv X c k H {s with heap:=g}:=I.kept (t':=s.toks) kp;have y:Inv X c k (upd H g.objs.size (.tup f)) {s with heap:=g.push {cls:=.type "tuple",data:=.seq d.toArray}}:=
   v.laid (t':=s.toks) (λb o e=>VB _ e) (VG _) (show b8 X.prog X.w _ _ _ (.tup f) from⟨n,d,i,An.new _ _⟩)
  exact⟨.ref g.objs.size,_,y,rfl,q _ (v.aZ.fresh (VG _))⟩
 ·obtain⟨d,i,pl,n⟩:=I.tuple j;exact call_tuple_same pl ⟨.ref p,H,I,rfl,q⟩
def MI(K:FR)(T:String)(x:V)(H:Hp):Prop:=match x with
 | .str _=>T="str"
 | .int _=>T="int"
 | .ref p=>(T="list"/\∃e,eL K H p e)\/(T="tuple"/\∃o,K.lookup p=some o/\o.cls=.type "tuple"/\o.dict=none)\/
   (T="dict"/\((∃c,H p=some (.dK c))\/(∃c,H p=some (.dT c))\/∃d,H p=some (.lI d)/\∀w h,d w h->∃o,h.get? p=some o/\o.ExactDict))\/(T="set"/\∃S n,H p=some (.set S n))
 | _=>False
def FX(I:Inv X pins σ H s)(r:RelV x v)(ty:MI X.K T x H):
  s.TypeIs v T/\∀a,v=.ref a->∃ob,s.heap.get? a=some ob/\ob.dict=none:=by
 cases x with
 | str z=>
  obtain⟨t,rfl⟩:=r;cases(show T="str" from ty);exact⟨typeIs_str s z t,λ_ e=>nomatch e⟩
 | int i=>
  obtain⟨t,rfl⟩:=r;cases(show T="int" from ty);exact⟨typeIs_int s i t,λ_ e=>nomatch e⟩
 | ref p=>
  cases r;rcases ty with⟨rfl,xs,k⟩ |⟨rfl,o,d,l,hd⟩ |⟨rfl,d⟩ |⟨rfl,S,n,d⟩
  ·obtain⟨j,_,pl,_⟩:=I.list k;refine⟨pl.isList.typeIs,λa e=>?_⟩;cases e;obtain⟨o,n,e,c,hd,_⟩:=pl;exact⟨o,e,hd⟩
  ·refine⟨⟨o,I.xx p o d,l⟩,λa e=>?_⟩;cases e;exact⟨o,I.xx _ o d,hd⟩
  ·have z:∃o,s.heap.get? p=some o/\o.ExactDict:=by
    rcases d with⟨f,d⟩ |⟨f,d⟩ |⟨m,d,g⟩
    ·obtain⟨_,_,_,_,o,_,_,e,ex,_⟩:=I.aZ p _ d;exact⟨o,e,ex⟩
    ·obtain⟨_,_,_,_,o,_,_,e,ex,_⟩:=I.aZ p _ d;exact⟨o,e,ex⟩
    ·obtain⟨q,_⟩:=I.aZ p _ d;exact g _ _ q
   obtain⟨o,e,ex⟩:=z;refine⟨⟨o,e,ex.1⟩,λa h=>?_⟩;cases h;exact⟨o,e,ex.2.1⟩
  ·obtain⟨o,_,_,_,e,ex,_⟩:=I.aZ p _ d;refine⟨⟨o,e,ex.1⟩,λa h=>?_⟩;cases h;exact⟨o,e,ex.2.1⟩
 | _=>exact False.elim ty
def Ti(K:FR)(T:String)(r:V->List V->Hp->VK->Prop)(e:TE):TE:=λd H Q=>e d H λx c=>MI K T x c/\r x [] c Q
def Vm(K:FR)(T:String)(r:V->List V->Hp->VK->Prop)(f:TE)(t:TA):TE:=λc H Q=>f c H λx d=>MI K T x d/\t c d λe g=>r x e g Q
variable {o e:Expr} {es:List Expr} {to:TE} {t:TA} {name:Str} {apos cpos:Pos} {T id:String} {r:V->List V->Hp->VK->Prop}
def N6(m:PlainAttrs T)(slot:Slot T name id)(g:typeOf (.builtin id)=pure (.type "method_descriptor"))(hm:LG X id r)(n:PE X o to)
  (f:attributeBase o name X.env (eval o X.env)=eval o X.env:=by rfl) (d:(apos.endLine==cpos.line)=true:=by rfl):PE X (.Call (.Attribute o name apos) [] [] cpos) (Ti X.K T r to):=by
 intro c s i H Q I h;refine wpAny_Call_method0_late f d (cv (n c s i H _ I h) λv s1 u9=>?_);obtain⟨x,H1,k,j,ty,l⟩:=u9;obtain⟨q,p⟩:=FX k j ty;exact⟨T,id,m,slot,g,q,p,Calls.callWith_builtin rfl (PySem.evalArgs_none (hm c s1 i H1 x [] v [] Q k j .nil l))⟩
def Q0(y:PlainAttrs T)(slot:Slot T name id)(k:typeOf (.builtin id)=pure (.type "method_descriptor"))(hm:LG X id r)(A:PE X o to)(C:PA X (e::es) t)
  (g:attributeBase o name X.env (eval o X.env)=eval o X.env:=by rfl)
  (i:((backTo cpos (starEach (e::es) X.env)).all (λx=>!x.1)&&(backToKw cpos (keywordEach [] X.env)).all (λx=>x.1.isSome)
   &&decide ((e::es).length+([]:List Keyword).length+(if([]:List Keyword).isEmpty then 0 else 1) < 30))=true:=by rfl)
  (f:(apos.endLine==cpos.line)=true:=by rfl) (z:starEach (e::es) X.env=(false,eval e X.env)::starEach es X.env:=by rfl) (d:(backTo cpos (starEach es X.env)).any (·.1)=false:=by rfl):
  PE X (.Call (.Attribute o name apos) (e::es) [] cpos) (Vm X.K T r to t):=by
 intro c s j H Q I h;refine wpAny_Call_method_late g i f rfl (cv (A c s j H _ I h) λv s1 u9=>?_);obtain⟨x,H1,n,l,ty,w⟩:=u9;obtain⟨F,E⟩:=FX n l ty;refine⟨T,id,y,slot,k,F,E,?_⟩;have m:=C cpos c s1 j H1 _ n w;rw[z] at m ⊢;refine Calls.callWith_builtin (by show(false||(backTo cpos (starEach es X.env)).any (·.1))=false;rw[d] <;> rfl) (Calls.evalArgs_plain ?_);exact cv m λus s2 ⟨p,J,G,q,u⟩=>hm c s2 j J x p v us Q G l q u
end
def UQ(X:Cx)(d:String)(r:V->List V->Hp->VK->Prop):Prop:=
 ∀(a:List (Addr×Obj)) (s:Shared) (b:St) (H:Hp) (x:V) (c:List V) (v:Value) (us:List Value) (Q:VK),Inv X a b H s->RelV x v->Vals c us->r x c H Q->
  wpAny (model X.prog X.w) X.A (call (.builtin d) (v::us)) (EP X a b Q) X.xe s
def Vals.one{x:V}{us:List Value}(h:Vals [x] us):∃u,us=[u]/\RelV x u:=by
 cases h with
 | cons r t=>cases t;exact⟨_,rfl,r⟩
def Vals.two{x y:V}{us:List Value}(h:Vals [x,y] us):∃u v,us=[u,v]/\RelV x u/\RelV y v:=by
 cases h with
 | cons r t=>cases t with
  | cons q z=>cases z;exact⟨_,_,rfl,r,q⟩
theorem Vals.zero:∀{us:List Value},Vals [] us->us=[]
 | _,.nil=>rfl
theorem Vals.dropLast(h:Vals xs us):Vals xs.dropLast us.dropLast:=by
 induction h with
 | nil=>exact .nil
 | cons r t a=>
  cases t with
  | nil=>exact .nil
  | cons q b=>exact .cons r a
theorem Vals.rep(h:Vals xs us):∀k:Nat,Vals (List.replicate k xs).flatten (List.replicate k us).flatten
 | 0=>.nil
 | k+1=>by
  rw[XA,XA,Yc,Yc];exact Vals.append h (Vals.rep h k)
def BQ(l:List α):l.eraseIdx (l.length-1)=l.dropLast:=by
 induction l with
 | nil=>rfl
 | cons a r c=>
  cases r with
  | nil=>rfl
  | cons b r=>
   have e:(a::b::r).length-1=((b::r).length-1)+1:=by
    have f:(a::b::r).length=r.length+2:=rfl;have d:(b::r).length=r.length+1:=rfl;exact d
   rw[e,List.eraseIdx_cons_succ,c]
   all_goals rfl
theorem foldl_rep(a:List Value):∀(k:Nat)(b:List Value),
  List.foldl (λd c=>d++c) b.toArray (List.replicate k a.toArray)=(b++(List.replicate k a).flatten).toArray
 | 0,b=>by simp
 | k+1,b=>by
  have e:b.toArray++a.toArray=(b++a).toArray:=by simp
  have f:(b++a)++(List.replicate k a).flatten=b++(List.replicate (k+1) a).flatten:=by
   rw[XA,Yc,Wg]
  rw[<-f,<-foldl_rep a k (b++a),<-e,XA,Z5]
def Inv.OB{a its':List Value}{n:Nat}{f:Array Value->Array Value}{c:Nat}(I:Inv X pins σ H s)(k:H l=some (.lst xs))
  (e:s.heap.get? l=some {cls:=.type "list",data:=.seq a.toArray n}) (i:f a.toArray=its'.toArray) (g:Vals b its') (d:b.length<=sizeLine):
  Inv X pins σ (upd H l (.lst b)) {s with heap:=s.heap.update l (Obj.mapSeq f),toks:=c}:=by
 have q:=PySem.IsL.update e f;rw[i] at q;refine I.write (x:=l) (e:=l) (by rw[k];exact trivial) (.inl rfl) (λm u j h=>(XH s.heap (Obj.mapSeq f) (WO j)).trans h) ⟨_,q⟩ ?_;exact⟨d,its',_,g,q⟩
def Inv.OC(I:Inv X pins σ H s)(b:Vals ys its)(a:ys.length<=sizeLine):
  Inv X pins σ (upd H s.heap.objs.size (.lst ys)) {s with heap:=s.heap.push {cls:=.type "list",data:=.seq its.toArray},toks:=t'}:=
 I.laid (λ_ _ q=>VB _ q) (VG _) ⟨a,its,0,b,VR _ rfl⟩
theorem Inv.fresh(I:Inv X pins σ H s):H s.heap.objs.size=none:=I.aZ.fresh (VG _)
def Inv.BD(I:Inv X pins σ H s)(b:H l=some (.lst xs)):xs.length<=sizeLine/\∃(a:List Value)(n:Nat),Vals xs a/\xs.length=a.length/\s.heap.get? l=some {cls:=.type "list",data:=.seq a.toArray n}:=by
 obtain⟨z,a,n,r,e⟩:=I.aZ l _ b;exact⟨z,a,n,r,r.length,e⟩
def zu(h:n<=sizeLine):Builtin.List.listTooLong n=false:=by
 unfold Builtin.List.listTooLong;exact V5 (Aaf.mpr h)
def JS:V->List V->Hp->VK->Prop:=λx b H Q=>∃l a y,x=.ref l/\b=[y]/\H l=some (.lst a)/\a.length < sizeLine/\Q .bx (upd H l (.lst (a++[y])))
def vF:UQ X "list.append" JS:=by
 intro b s g H x j v us Q I d rv h;obtain⟨l,i,y,rfl,rfl,c,k,q⟩:=h;cases d;obtain⟨u,rfl,f⟩:=rv.one;obtain⟨z,a,n,r,hl,e⟩:=I.BD c;refine Y8 XY ⟨_,e,rfl⟩ F.entry_list_append (F.args_list_append_2 _ _) (PySem.list_append l a.toArray n u (by rw[VZ];lia)) ⟨e,?_⟩;refine⟨.bx,_,I.OB (its':=a++[u]) c e (by simp) (r.append (.cons f .nil)) ?_,rfl,q⟩;rw[VM,YH]
 lia
def JR:V->List V->Hp->VK->Prop:=λx d H Q=>∃l b c a,x=.ref l/\d=[.ref b]/\H l=some (.lst c)/\H b=some (.lst a)/\c.length+a.length<=sizeLine/\Q .bx (upd H l (.lst (c++a)))
def EK:UQ X "list.extend" JR:=by
 intro g s w H x E v us Q I j rv h;obtain⟨l,b,C,y,rfl,rfl,i,p,G,q⟩:=h;cases j;obtain⟨u,rfl,k⟩:=rv.one;cases k;obtain⟨z,c,n,r,hl,e⟩:=I.BD i;obtain⟨A,a,n2,m,o,t⟩:=I.BD p;have d:c.toArray.size+a.toArray.size<=sizeLine:=by rw[VZ,VZ];lia
 have f:¬(!c.toArray.isEmpty&&Builtin.List.listTooLong (c.toArray.size+a.toArray.size))=true:=by
  rw[zu d,Zz];exact V8
 refine Y8 YA ⟨_,e,rfl⟩ F.entry_list_extend (F.args_list_extend_2 _ _)
  (AutoSeq1.list_extend_list_list_0 l c.toArray n b a.toArray n2 f (by rw[VZ];exact VJ (V9 _ _) d) (W6 d)) ⟨e,t,?_⟩
 refine⟨.bx,_,I.OB (its':=c++a) i e (by simp) (r.append m) ?_,rfl,q⟩;rw[VM]
 lia
def T9:V->List V->Hp->VK->Prop:=λx b H Q=>∃l a y,x=.ref l/\b=[]/\H l=some (.lst a)/\a[a.length-1]?=some y/\Q y (upd H l (.lst a.dropLast))
def Ow:UQ X "list.pop" T9:=by
 intro d s m H x p v us Q I g rv h;obtain⟨l,o,y,rfl,rfl,f,j,q⟩:=h;cases g;have c:=rv.zero;subst c;obtain⟨z,a,n,r,hl,e⟩:=I.BD f;obtain⟨u,k,i⟩:=r.get j;have b:a.toArray[a.toArray.size-1]?=some u:=by
  show a.toArray[a.length-1]?=some u;rw[<-W7,<-hl];exact k
 refine Y8 F.slot_list_pop ⟨_,e,rfl⟩ F.entry_list_pop (F.args_list_pop_1 _) (MeetsSeq.list_pop_last l a.toArray n u b (by rw[VZ];lia)) ⟨e,?_⟩;refine⟨y,_,I.OB (its':=a.dropLast) f e ?_ r.dropLast ?_,i,q⟩
 ·show a.toArray.eraseIdxIfInBounds (a.toArray.size-1)=a.dropLast.toArray;rw[VZ,List.eraseIdxIfInBounds_toArray,BQ]
 ·rw[List.length_dropLast]
  lia
def Ud:R2:=λx y H Q=>∃l b c a,x=.ref l/\y=.ref b/\H l=some (.lst c)/\H b=some (.lst a)/\c.length+a.length<=sizeLine/\∀p,H p=none->Q (.ref p) (upd H p (.lst (c++a)))
def Hw:qr X (binaryOp .Add) Ud:=by
 intro d s w H x y v u Q I g f h;obtain⟨l,b,E,A,rfl,rfl,m,o,j,q⟩:=h;cases g;cases f;obtain⟨z,c,n,r,hl,e⟩:=I.BD m;obtain⟨C,a,n2,i,k,t⟩:=I.BD o;refine PySem.P.add_list e t ?_ (by rw[VZ,VZ];lia);have p:c.toArray++a.toArray=(c++a).toArray:=by simp
 rw[p];exact⟨.ref _,_,I.OC (t':=s.toks) (r.append i) (by rw[VM];exact j),rfl,q _ I.fresh⟩
def T8:R2:=λx y H Q=>∃l k a,x=.ref l/\y=.int k/\H l=some (.lst a)/\-(2^63)<=k/\k < 2^63/\a.length*k.toNat<=sizeLine/\
 ∀p,H p=none->Q (.ref p) (upd H p (.lst (List.replicate k.toNat a).flatten))
def len_rep(a:List α)(k:Nat):(List.replicate k a).flatten.length=k*a.length:=by
 induction k with
 | zero=>simp
 | succ k b=>rw[XA,Yc,VM,b,Nat.succ_mul,Zg]
def Oh:qr X (binaryOp .Mult) T8:=by
 intro p s M H x y v u Q I E C h;obtain⟨l,k,N,rfl,rfl,G,L,J,w,q⟩:=h;cases E;obtain⟨t,rfl⟩:=C;obtain⟨z,b,n,r,hl,e⟩:=I.BD G;have f:b.toArray.size*k.toNat<=sizeLine:=by rw[VZ,<-hl];exact w
 have i:¬b.toArray.size*k.toNat > (2^63-1) / 8:=by
  have:(sizeLine:Nat)<=(2^63-1) / 8:=by decide
  lia
 have g:¬(!Builtin.List.listFitsIndex k)=true:=by
  rw[fitsIndex_both L J];exact V8
 have c:¬Builtin.List.listTooLong (b.toArray.size*k.toNat)=true:=by
  rw[zu f];exact V8
 have d:List.foldl (λo j=>o++j) #[] (List.replicate (if b.toArray.isEmpty=true then 0 else k.toNat) b.toArray)=(List.replicate k.toNat b).flatten.toArray:=by
  have f0:∀m:Nat,List.foldl (λo j=>o++j) #[] (List.replicate m b.toArray)=(List.replicate m b).flatten.toArray:=λm=>by
   have:=foldl_rep b m [];rw[Z4] at this;exact this
  rw[f0];cases b with
  | nil=>simp
  | cons a O=>rw[VH (by simp)]
 refine wpAny_binaryOp_repeat_ref (T:="list") (U:="int") (by decide) ⟨_,e,rfl⟩ (λA=>typeIs_int A k t) noFill_list_mul F.fills_int_mul F.slot_int_rmul repeat_list F.slot_int_index.lookup
  (Y8 F.slot_int_rmul (typeIs_int s k t) F.entry_int_rmul (F.args_int_rmul_2 _ _) (int___rmul___int_list k t l b.toArray n)
   ⟨e,rfl,⟨_,e,rfl⟩,Y8 F.slot_list_mul ⟨_,e,rfl⟩ F.entry_list_mul (F.args_list_mul_2 _ _) (AutoListH.list___mul___list_int_3 l b.toArray n k t g i c) ⟨e,?_⟩⟩)
 rw[d];exact⟨.ref _,_,I.OC (t':=s.toks) (r.rep k.toNat) (by rw[len_rep,Nat.mul_comm];exact w),rfl,q _ I.fresh⟩
section
variable {κ:Type} [DecidableEq κ]
noncomputable def iY(a:List (κ×V))(k:κ):Option V:=(a.find? λb=>decide (b.1=k)).map (·.2)
noncomputable def putK(a:List (κ×V))(k:κ)(v:V):List (κ×V):=
 if(a.any λb=>decide (b.1=k))=true then a.map (λb=>if b.1=k then(b.1,v) else b) else a++[(k,v)]
def qQ{p:κ×V}{r:List (κ×V)}{k:κ}(e:p.1=k):iY (p::r) k=some p.2:=by simp[iY,WQ,e]
def lS{p:κ×V}{r:List (κ×V)}{k:κ}(e:¬p.1=k):iY (p::r) k=iY r k:=by simp[iY,WQ,e]
theorem yk(k:κ):∀a:List (κ×V),(a.any λb=>decide (b.1=k))=(iY a k).isSome
 | []=>rfl
 | p::r=>by
  rw[XB]
  by_cases e:p.1=k
  ·simp only[qQ e,Wa e,Bool.true_or,Option.isSome_some]
  ·rw[lS e,V5 e,Aas];exact yk k r
def gp(a:List (κ×V))(k:κ)(v:V):(putK a k v).length<=a.length+1:=by
 unfold putK
 split
 ·rw[Vy];exact Yx _
 ·rw[VM,VU,WZ];exact W3 _
def oQ.g8(r:oQ o u):o.isSome=u.isSome:=by
 cases o with
 | none=>cases u with
  | none=>rfl
  | some _=>exact(show False from r).elim
 | some _=>cases u with
  | none=>exact(show False from r).elim
  | some _=>rfl
theorem oQ.getD(r:oQ o u)(rd:RelV d a):RelV (o.getD d) (u.getD a):=by
 cases o with
 | none=>cases u with
  | none=>exact rd
  | some _=>exact(show False from r).elim
 | some _=>cases u with
  | none=>exact(show False from r).elim
  | some _=>exact r
def KV.val{a:List (κ×V)}{f:List (κ×Value)}(r:KV a f)(k:κ):oQ (iY a k) (valueAt f k):=by
 unfold KV at r
 induction r with
 | nil=>exact True.intro
 | @cons p q l c h t i=>
  obtain⟨g,j⟩:=h
  by_cases e:p.1=k
  ·have d:q.1=k:=g.symm.trans e;have b:valueAt (q::c) k=some q.2:=by simp[valueAt,WQ,d]
   rw[qQ e,b];exact j
  ·have d:¬q.1=k:=λz=>e (g.trans z);have b:valueAt (q::c) k=valueAt c k:=by simp[valueAt,WQ,d]
   rw[lS e,b];exact i
theorem KV.any(r:KV a c)(k:κ):(a.any λb=>decide (b.1=k))=c.any λb=>decide (b.1=k):=by
 unfold KV at r
 induction r with
 | nil=>rfl
 | cons h t d=>rw[XB,XB,d,h.1]
def KV.Nl(r:KV c d)(k:κ)(f:RelV y u):
  KV (c.map λa=>if a.1=k then(a.1,y) else a) (d.map λa=>if a.1=k then(a.1,u) else a):=by
 unfold KV at r ⊢
 induction r with
 | nil=>exact .nil
 | @cons p q l j h t g=>
  rw[VL,VL];refine .cons ?_ g;obtain⟨b,i⟩:=h
  by_cases e:p.1=k
  ·rw[VE e,VE (b.symm.trans e)];exact⟨b,f⟩
  ·rw[VH e,VH (λz=>e (b.trans z))];exact⟨b,i⟩
def KV.put(r:KV a b)(k:κ)(c:RelV y u):KV (putK a k y) (stored b k u):=by
 unfold putK stored;rw[r.any k]
 by_cases e:(b.any λd=>decide (d.1=k))=true
 ·rw[VE e,VE e];exact r.Nl k c
 ·rw[VH e,VH e];exact Paired.snoc r ⟨rfl,c⟩
theorem KV.length(r:KV a b):a.length=b.length:=Paired.length r
end
def jA(r:RelV (kV k) u):(bc P w).is k u=true:=by
 cases k with
 | inl i=>obtain⟨t,e⟩:=(show ∃t,u=Value.int i t from r);subst e;exact jy P w i t
 | inr x=>obtain⟨t,e⟩:=(show ∃t,u=Value.str x t from r);subst e;exact jx P w x t
theorem vQ:∀{ks:List Key} {us:List Value},Vals (ks.map kV) us->ItemsAre (bc P w) ks us
 | [],_,r=>by rw[Yl] at r;cases r;exact .nil
 | k::ks,_,r=>by
  rw[VL] at r;cases r with
  | cons h t=>exact .cons (jA h) (vQ t)
abbrev KT(H:Hp):List (List Key×V)->List (List Key×Addr×Value)->Prop:=Paired λp q=>p.1=q.1/\H q.2.1=some (.tup (p.1.map kV))/\RelV p.2 q.2.2
def KT.val{H:Hp}{a:List (List Key×V)}{f:List (List Key×Addr×Value)}(r:KT H a f)(k:List Key):oQ (iY a k) ((atKey f k).map (·.2)):=by
 induction r with
 | nil=>exact True.intro
 | @cons p q l c h t i=>
  obtain⟨g,_,j⟩:=h
  by_cases e:p.1=k
  ·have d:q.1=k:=g.symm.trans e;have b:atKey (q::c) k=some q.2:=by simp[atKey,WQ,d]
   rw[qQ e,b];exact j
  ·have d:¬q.1=k:=λz=>e (g.trans z);have b:atKey (q::c) k=atKey c k:=by simp[atKey,WQ,d]
   rw[lS e,b];exact i
def KT.Nl(r:KT H b xs)(k:List Key)(f:RelV y u):
  KT H (b.map λc=>if c.1=k then(c.1,y) else c) (xs.map (putAt k u)):=by
 induction r with
 | nil=>exact .nil
 | @cons p q l j h t g=>
  rw[VL,VL];refine .cons ?_ g;obtain⟨a,d,i⟩:=h;unfold putAt
  by_cases e:p.1=k
  ·rw[VE e,VE (a.symm.trans e)];exact⟨a,d,f⟩
  ·rw[VH e,VH (λz=>e (a.trans z))];exact⟨a,d,i⟩
def KT.put(r:KT H a xs)(k:List Key)(f:H b=some (.tup (k.map kV)))(c:RelV y u):
  KT H (putK a k y) (storedH xs k b u):=by
 have e:(a.any λd=>decide (d.1=k))=(atKey xs k).isSome:=by
  rw[yk,(r.val k).g8,ZQ]
 unfold putK storedH;rw[e]
 by_cases q:(atKey xs k).isSome=true
 ·rw[VE q,VE q];exact r.Nl k c
 ·rw[VH q,VH q];exact Paired.snoc r ⟨rfl,f,c⟩
def KT.keeps(r:KT H a xs)(ht:∀b c,H b=some (.tup c)->d b=some (.tup c)):KT d a xs:=
 Paired.Ox r λ_ _ z=>⟨z.1,ht _ _ z.2.1,z.2.2⟩
def LZ(ok:jO P w H h)(e:Rd H a u):b8 P w H h a u:=e.ok ok
def pJ(ok:jO P w H h)(e:Rd H a (.dK b)):b.length<=sizeLine/\(a==sysModules)=false/\∃c,KV b c/\h.DictOf (bc P w) a c:=
 show b8 P w H h a (.dK b) from LZ ok e
def vW(ok:jO P w H h)(e:H a=some (.dK b)):b.length<=sizeLine/\(a==sysModules)=false/\∃c,KV b c/\h.DictOf (bc P w) a c:=pJ ok (.inl e)
def lF(ok:jO P w H h)(e:H a=some (.tup (ks.map kV))):(tupleKind (bc P w)).is h ks a:=by
 obtain⟨_,b,r,o,f,d,⟨n,c⟩,_⟩:=(show b8 P w H h a (.tup (ks.map kV)) from ok a _ e);exact⟨o,b.toArray,n,f,d,c,by simpa using vQ r⟩
def tw(ok:jO P w H h)(e:Rd H a (.dT b)):b.length<=sizeLine/\(a==sysModules)=false/\
  ∃d,KT H b d/\h.DictOfH (tupleKind (bc P w)) a d:=by
 obtain⟨z,y,d,r,o,es,u,s,n,k,j,i⟩:=(show b8 P w H h a (.dT b) from LZ ok e);refine⟨z,y,d,r,o,es,u,s,n,k,j,λx c=>?_,i⟩;have all:∀{l:List (List Key×V)} {m:List (List Key×Addr×Value)},KT H l m->∀x∈m,(tupleKind (bc P w)).is h x.1 x.2.1:=by
  intro l m q
  induction q with
  | nil=>intro x c;exact nomatch c
  | @cons p q A v f t g=>
   intro x c;rcases VS.mp c with e | c
   ·subst e;exact lF ok (by rw[<-f.1];exact f.2.1)
   ·exact g x c
 exact all r x c
def RA(ok:jO P w H h)(e:H a=some (.dT b)):b.length<=sizeLine/\(a==sysModules)=false/\
  ∃c,KT H b c/\h.DictOfH (tupleKind (bc P w)) a c:=tw ok (.inl e)
def nK(H:Hp)(a:Addr)(y:V)(r:Option V):Prop:=
 (∃c k,Rd H a (.dK c)/\y=kV k/\r=iY c k)\/∃c k b,Rd H a (.dT c)/\y=.ref b/\H b=some (.tup (k.map kV))/\r=iY c k
def LK(H:Hp)(a:Addr)(y v:V)(d:Hp):Prop:=
 (∃c k,H a=some (.dK c)/\y=kV k/\c.length < sizeLine/\d=upd H a (.dK (putK c k v)))\/
 ∃c k b,H a=some (.dT c)/\y=.ref b/\H b=some (.tup (k.map kV))/\c.length < sizeLine/\d=upd H a (.dT (putK c k v))
theorem nK.k{H:Hp}{a:Addr}{b:List (Key×V)}{k:Key}(e:H a=some (.dK b)):nK H a (kV k) (iY b k):=.inl ⟨b,k,.inl e,rfl,rfl⟩
theorem LK.k{H:Hp}{a:Addr}{b:List (Key×V)}{k:Key}{v:V}(e:H a=some (.dK b))(hl:b.length < sizeLine):LK H a (kV k) v (upd H a (.dK (putK b k v))):=.inl ⟨b,k,e,rfl,hl,rfl⟩
def Inv.big(I:Inv X pins σ H s):sysModules < s.heap.objs.size:=by
 have h:mainGlobals < s.heap.objs.size:=(I.mod.glob.keeps I.bk).lt;exact YS (by decide) h
def Fi(C:A.units+1 < cLine)(I:Inv X pins σ H s)(g:nK H a y (some v))(r:RelV y u)(h:∀f q,Inv X pins σ H q->RelV v f->Q f q):
  wpAny (model X.prog X.w) A (getItem (.ref a) u) Q E s:=by
 rcases g with⟨i,k,e,n,l⟩ |⟨i,k,b,e,n,F,l⟩
 ·subst n;obtain⟨z,hd,x,d,dd⟩:=pJ I.aZ e;obtain⟨f,j,c⟩:=oQ.some_of (v:=v) (o:=valueAt x k) (by rw[l];exact d.val k);exact wpAny_getItem_of (jA r) dd.mapOf j (h f _ (I.tok _) c)
 ·subst n;cases(show u=Value.ref b from r);obtain⟨z,hd,t,d,dd⟩:=tw I.aZ e;obtain⟨f,j,c⟩:=oQ.some_of (v:=v) (o:=(atKey t k).map (·.2)) (by rw[l];exact d.val k);obtain⟨p,hp,m⟩:=WB.mp j;refine wpAny_getItem_heap (Yd C) (lF I.aZ F) dd hp ?_;rw[m];exact h f _ (I.tok _) c
def UD(m:A.units+1 < cLine)(I:Inv X pins σ H s)(g:nK H a y o)(j:RelV y u)(h:∀i,Inv X pins σ H i->Q (.bool o.isSome) i):
  wpAny (model X.prog X.w) A (compareOp .In u (.ref a)) Q E s:=by
 rcases g with⟨d,k,e,f,l⟩ |⟨d,k,b,e,f,n,l⟩
 ·subst f;obtain⟨z,hd,r,c,dd⟩:=pJ I.aZ e;refine wpAny_in_of (jA j) hd dd.mapOf ?_;rw[<-(c.val k).g8,<-l];exact h _ (I.tok _)
 ·subst f;cases(show u=Value.ref b from j);obtain⟨z,hd,p,c,dd⟩:=tw I.aZ e;refine wpAny_in_heap (Yd m) (lF I.aZ n) hd dd ?_;have q:=(c.val k).g8;rw[ZQ] at q;rw[<-q,<-l];exact h _ (I.tok _)
def Le(m:A.units+1 < cLine)(I:Inv X pins σ H s)(g:nK H a y o)(j:RelV y u)(h:∀i,Inv X pins σ H i->Q (.bool (!o.isSome)) i):
  wpAny (model X.prog X.w) A (compareOp .NotIn u (.ref a)) Q E s:=by
 rcases g with⟨d,k,e,f,l⟩ |⟨d,k,b,e,f,n,l⟩
 ·subst f;obtain⟨z,hd,r,c,dd⟩:=pJ I.aZ e;refine wpAny_notIn_of (jA j) hd dd.mapOf ?_;rw[<-(c.val k).g8,<-l];exact h _ (I.tok _)
 ·subst f;cases(show u=Value.ref b from j);obtain⟨z,hd,p,c,dd⟩:=tw I.aZ e;refine wpAny_notIn_heap (Yd m) (lF I.aZ n) hd dd ?_;have q:=(c.val k).g8;rw[ZQ] at q;rw[<-q,<-l];exact h _ (I.tok _)
def gv(I:Inv X pins σ H s)(c:Ss (H a))(d:Heap.SameBut a s.heap h')(f:∃q,h'.get? a=some q)(new:b8 X.prog X.w (upd H a ob) h' a ob):
  Inv X pins σ (upd H a ob) {s with heap:=h',toks:=t'}:=
 I.write (x:=a) (e:=a) c (.inl rfl) (λb q g z=>(d.2 b g).trans z) f new
def xP(z:b.length<=sizeLine)(hd:(a==sysModules)=false)(c:KV b d)(dd:e.DictOf (bc P w) a d):
  b8 P w H' e a (.dK b):=⟨z,hd,d,c,dd⟩
def Fh(M:A.units+1 < cLine)(I:Inv X pins σ H s)(g:LK H a y v U)(x:RelV y u)(rv:RelV v r)(h:∀t,Inv X pins σ U t->Q () t):
  wpAny (model X.prog X.w) A (setItem (.ref a) u r) Q E s:=by
 rcases g with⟨f,k,e,o,l,p⟩ |⟨f,k,b,e,o,G,l,p⟩
 ·subst o p;obtain⟨z,hd,L,d,dd⟩:=vW I.aZ e;have m:L.length<=sizeLine:=by rw[<-d.length];exact z
  have hl:(putK f k v).length<=sizeLine:=by have:=gp f k v;lia
  refine wpAny_setItem_pairs (hsz:=m) (jA x) dd λC i n=>h _ ?_;have N:∃q,C.get? a=some q:=by obtain⟨q,_,_,j,_⟩:=i;exact⟨q,j⟩
  exact gv I (by rw[e];exact True.intro) n N (xP hl hd (d.put k rv) i)
 ·subst o p;cases(show u=Value.ref b from x);obtain⟨z,hd,J,d,dd⟩:=RA I.aZ e;have m:J.length<=sizeLine:=by rw[<-Paired.length d];exact z
  have hl:(putK f k v).length<=sizeLine:=by have:=gp f k v;lia
  refine wpAny_setItem_heap (hsz:=m) (Yd M) (lF I.aZ G) dd λC i n=>h _ ?_;obtain⟨q,es,T,j,S,R,P,_,O⟩:=i;refine gv I (by rw[e];exact True.intro) n ⟨q,j⟩ ⟨hl,hd,_,(d.put k G rv).keeps λc Y F=>?_,q,es,T,j,S,R,P,O⟩;rw[ao (Ra F e (λz=>nomatch z))];exact F
def RB(I:Inv X pins σ H s)(e:Rd H a (.dK c))(h:∀t d,Inv X pins σ H d->Q (.int c.length t) d):wpAny (model X.prog X.w) A (call (.builtin "len") [.ref a]) Q E s:=by
 obtain⟨z,hd,f,b,dd⟩:=pJ I.aZ e;refine call_len_dict hd dd (by rw[<-b.length];rw[Xh] at z;lia) ?_;rw[<-b.length];exact h _ _ (I.tok _)
def LF(i:Expr):Prop:=∀ov a,subscripted i false ov a=operate [ov,a] (getItem ov a)
def Jx{prog:Program}{w:World}{A:Around}{E:Value->Shared->Prop}{s:Shared}{env:Env}{b a:Expr}{pos:Pos}{T m:String}{Q:Value->Shared->Prop}
  (hl:typeLookup (.type T) "__getitem__"=pure (some (.builtin m))) (n:LF a)
  (h:wpAny (model prog w) A (eval b env) (λo f=>wpAny (model prog w) A (eval a env) (λi c=>c.TypeIs o T/\wpAny (model prog w) A (getItem o i) Q E c) E f) E s):
  wpAny (model prog w) A (eval (.Subscript b a pos) env) Q E s:=by
 refine Subscript_ (WL h (λo f k=>WL k (λi c d=>?_) λ_ _ x=>x) λ_ _ x=>x);obtain⟨l,d⟩:=d;unfold subscriptTail;refine Vx ?_;rw[getitemInPython_of_ne l.not_modules];refine Vx (XC l hl ?_);have g:wpAny (model prog w) A (subscripted a false o i) (λr e=>wpAny (model prog w) A (letTemporaryGo b o r >>=λ_=>pure r) Q E e) E c:=by
  rw[n o i];exact wpAny_operating (WL d (λr e j=>Vx (wpAny_letTemporaryGo (VA j))) λ_ _ x=>x)
 first
  | exact VA (Vx g)
  | exact Vx (VA (Vx g))
  | exact Vx g
def z6(I:Inv X pins σ H s)(g:nK H a y o):s.TypeIs (.ref a) "dict":=by
 rcases g with⟨c,k,e,_,_⟩ |⟨c,k,b,e,_,_,_⟩
 ·obtain⟨_,_,f,_,dd⟩:=pJ I.aZ e;exact dd.typeIs
 ·obtain⟨_,_,d,_,dd⟩:=tw I.aZ e;exact dd.typeIs
def m9(h:Heap)(a:sysModules < h.objs.size):b8 P w H (h.push {cls:=.type "dict",data:=.dict #[]}) h.objs.size (.dK []):=
 ⟨Wm _,ZA.mpr (WO (V6 a)),[],.nil,Heap.DictOf.new h⟩
def MQ:TE:=λ_ H Q=>∀p,H p=none->Q (.ref p) (upd H p (.dK []))
def Hh:PE X (.Dict [] [] pos) MQ:=λb s c H Q I h=>
 wpAny_Dict_empty ⟨.ref s.heap.objs.size,_,I.laid (a:=s.heap.objs.size) (o:=.dK []) (t':=s.toks) (λ_ _ q=>VB _ q) (VG _) (m9 s.heap I.big),rfl,h _ (I.aZ.fresh (VG _))⟩
def wu:List (TE×TE)->St->Hp->(List (V×V)->Hp->Prop)->Prop
 | [],_,H,Q=>Q [] H
 |(b,a)::r,σ,H,Q=>b σ H λx f=>a σ f λy e=>wu r σ e λc d=>Q ((x,y)::c) d
abbrev VV:List (V×V)->List (Value×Value)->Prop:=Paired λp q=>RelV p.1 q.1/\RelV p.2 q.2
def PV(X:Cx)(pos:Pos)(c:List (Option Expr))(a:List Expr)(e:List (TE×TE)):Prop:=
 ∀(b:List (Addr×Obj)) (s:Shared) (d:St) (H:Hp) (Q:List (V×V)->Hp->Prop),Inv X b d H s->wu e d H Q->
  wpAny (model X.prog X.w) X.A (evalPairs (pairTrees c a X.env pos)) (λh i=>∃f g,Inv X b d g i/\VV f h/\Q f g) X.xe s
def Ke:PV X pos [] [] []:=λa s b H Q I h=>pairTrees_nil_walk ⟨[],H,I,.nil,h⟩
def G6(p:PE X k f)(o:PE X v e)(hr:PV X pos ks d c):
  PV X pos (some k::ks) (v::d) ((f,e)::c):=λa s b H Q I h=>
 pairTrees_cons_walk (cv (p a s b H _ I h) λu s1 ⟨x,H1,t,i,m⟩=>cv (o a s1 b H1 _ t m) λA s2 ⟨y,z,r,g,l⟩=>
  cv (hr a s2 b z _ r l) λws s3 ⟨n,w,q,rel,j⟩=>⟨(x,y)::n,w,q,.cons ⟨i,g⟩ rel,j⟩)
def bz(a more:List (Key×V)):List (Key×V):=more.foldl (λb c=>putK b c.1 c.2) a
def KV.merge:∀{more:List (Key×V)} {rs:List (Key×Value)} {a:List (Key×V)} {b:List (Key×Value)},KV more rs->KV a b->KV (bz a more) (merged b rs):=by
 intro more rs a b r;unfold KV at r
 induction r generalizing a b with
 | nil=>intro q;exact q
 | @cons p q g f h t d=>
  intro c;have e:KV (putK a p.1 p.2) (stored b q.1 q.2):=by
   have:=c.put p.1 h.2;rw[<-h.1];exact this
  exact d e
theorem gH:∀(more a:List (Key×V)),(bz a more).length<=a.length+more.length
 | [],a=>by show a.length<=a.length+0;exact VG _
 | p::r,a=>by
  have c:=gH r (putK a p.1 p.2);have b:=gp a p.1 p.2;show(bz (putK a p.1 p.2) r).length<=_;rw[VU];lia
theorem tJ:∀{d:List (Key×V)} {e:List (Value×Value)},VV (d.map λf=>(kV f.1,f.2)) e->∃rs,Carries (bc P w) e rs/\KV d rs
 | [],_,r=>by rw[Yl] at r;cases r;exact⟨[],True.intro,.nil⟩
 | p::d,_,r=>by
  rw[VL] at r;cases r with
  | @cons a b as bs h t=>
   obtain⟨rs,c,q⟩:=tJ (P:=P) (w:=w) t;obtain⟨i,g⟩:=b;exact⟨(p.1,g)::rs,⟨jA h.1,rfl,c⟩,.cons ⟨rfl,h.2⟩ q⟩
def F3(b:List (TE×TE)):TE:=λe H Q=>∀p,H p=none->wu b e (upd H p (.dK [])) λf d=>d p=some (.dK [])/\∃a:List (Key×V),f=a.map (λc=>(kV c.1,c.2))/\a.length<=15/\Q (.ref p) (upd d p (.dK (bz [] a)))
def xc(h:PV X pos keys values i)(f:keys.all (·.isSome)=true)(hl:keys.length=values.length)(A:keys≠[])(j:keys.length<=15):PE X (.Dict keys values pos) (F3 i):=by
 intro b s l H Q I q;have hn:=I.aZ.fresh (VG s.heap.objs.size);have E:=I.laid (a:=s.heap.objs.size) (o:=.dK []) (h':=s.heap.push {cls:=.type "dict",data:=.dict #[]}) (t':=s.toks) (λ_ _ q=>VB _ q) (VG _) (m9 s.heap I.big);refine wpAny_Dict_walk (knd:=bc X.prog X.w) f hl A j (cv (h b _ l _ _ E (q _ hn)) λws s2 u9=>?_);obtain⟨F,G,k,rel,e,d,C,lk,r⟩:=u9;subst C;obtain⟨rs,c,n⟩:=tJ (P:=X.prog) (w:=X.w) rel;obtain⟨z,hd,m,p,dd⟩:=vW k.aZ e;cases p;refine⟨rs,c,dd,λh' g u=>⟨.ref s.heap.objs.size,_,?_,rfl,r⟩⟩;have t:(bz [] d).length<=sizeLine:=by
  have y:=gH d [];rw[WZ] at y;rw[Xh];lia
 have x:∃q,h'.get? s.heap.objs.size=some q:=by obtain⟨q,_,_,v,_⟩:=g;exact⟨q,v⟩
 exact gv k (by rw[e];exact True.intro) u x (xP t hd (n.merge .nil) g)
def O3(p:A.units+1 < cLine)(I:Inv X pins σ H s)(g:nK H a y o)(m:RelV y u)(h:∀i j,Inv X pins σ H j->RelV (o.getD .bx) i->Q i j):
  wpAny (model X.prog X.w) A (call (.builtin "dict.get") [.ref a,u]) Q E s:=by
 rcases g with⟨d,k,e,f,l⟩ |⟨d,k,b,e,f,q,l⟩
 ·subst f;obtain⟨z,hd,r,c,dd⟩:=pJ I.aZ e;refine Aac X9 dd.typeIs YB (Aaw _ _) (meets_dict_get (bc X.prog X.w) a (jA m) hd) ⟨_,dd.mapOf,h _ _ (I.tok _) ?_⟩;rw[l];exact(c.val k).getD rfl
 ·subst f;cases(show u=Value.ref b from m);obtain⟨z,hd,n,c,dd⟩:=tw I.aZ e;refine Aac X9 dd.typeIs YB (Aaw _ _) (meetsH_dict_get (tupleKind (bc X.prog X.w)) a b hd) ⟨Yd p,k,n,lF I.aZ q,dd,h _ _ (I.tok _) ?_⟩;rw[l];exact(c.val k).getD rfl
def O2(q:A.units+1 < cLine)(I:Inv X pins σ H s)(g:nK H a y o)(n:RelV y u)(rd:RelV d r)(h:∀j m,Inv X pins σ H m->RelV (o.getD d) j->Q j m):
  wpAny (model X.prog X.w) A (call (.builtin "dict.get") [.ref a,u,r]) Q E s:=by
 rcases g with⟨f,k,e,i,l⟩ |⟨f,k,b,e,i,t,l⟩
 ·subst i;obtain⟨z,hd,v,c,dd⟩:=pJ I.aZ e;refine Aac X9 dd.typeIs YB (Aav _ _ _) (meets_dict_get_default (bc X.prog X.w) a (jA n) hd r) ⟨_,dd.mapOf,h _ _ (I.tok _) ?_⟩;rw[l];exact(c.val k).getD rd
 ·subst i;cases(show u=Value.ref b from n);obtain⟨z,hd,p,c,dd⟩:=tw I.aZ e;refine Aac X9 dd.typeIs YB (Aav _ _ _) (meetsH_dict_get_default (tupleKind (bc X.prog X.w)) a b hd r) ⟨Yd q,k,p,lF I.aZ t,dd,h _ _ (I.tok _) ?_⟩;rw[l];exact(c.val k).getD rd
end L2
namespace Att
open PySem.W PySem.Calls PyProof.Rows
def qj:∀(ns:List Int)(c:List Value),WellAll P h c (ns.map WData.int)->IntsAre c ns:=by
 intro ns
 induction ns with
 | nil=>
  intro c w;rw[Yl] at w;cases w;exact .nil
 | cons n ns d=>
  intro c w;rw[VL] at w;cases w with
  | cons a b=>
   cases a;exact .cons _ _ (d _ b)
def Ef{l:OpenLaw}{n:Nat}(hn:l.most=some n){P:Params}{h:Heap}{args:List WData}{b:List Value}
  (c:l.row.toRowW.claim.pre args=true) (j:WellAll P h b args):
  ∃a m ns,b=[Value.ref a]/\args=[WData.list (ns.map WData.int)]/\h.get? a=some {cls:=.type "list",data:=.seq m.toArray}/\IntsAre m ns/\ns.length<=n:=by
 have k:WShape.hasAll [] args [.list .int]=true:=(pre_splitW c).1;have o:l.pre.holds [] {args:=args}=true:=(pre_splitW c).2;obtain⟨d,r,rfl,x,w⟩:=hasAllW_cons k;obtain rfl:=hasAllW_nil w;obtain⟨y,rfl,v⟩:=hasW_list x;obtain⟨ns,rfl⟩:=items_int v;have e:ns.length<=n:=by
  unfold OpenLaw.pre at o;have i:(WTm.not (.lt (.lit (.int (n:Int))) (.len (.arg 0)))).holds [] {args:=[.list (ns.map .int)]}=true:=by
   have i:=(holds_andW o).1;rw[hn] at i;exact i
  have g:=condW_of i (w_not (w_lt w_lit (w_len_list (w_arg rfl))));rw[Vy] at g;refine WR λq=>?_;have t:(n:Int) < ((ns.length:Nat):Int):=by exact Yo.mpr q
  first
   |(rw[Wa t] at g;exact absurd g (by decide))
   |(simp at g;lia)
 cases j with
 | cons s p=>
  cases p;cases s with
  | list u f=>exact⟨_,_,ns,rfl,rfl,u,qj ns _ f,e⟩
def Ew(l:OpenLaw)(args:List WData):l.row.toRowW.claim.post args (.bool true) args=true:=
 postW_of (r:=l.row.toRowW) (X:=(true==true))
  (show WShape.has [] (.bool true) .bool=true by first | rfl | decide | simp[WShape.has,WShape.arms,WShape.armsAll])
  (show(WTm.eq .res (.lit (.bool true))).value [] {args:=args,res:=some (.bool true),after:=args}=some (.bool (true==true)) from w_eq_bool (w_res rfl) w_lit) rfl
def Ak{l:OpenLaw}{n:Nat}{q:Program}{c:List Str}{H:(Str->Option Value)->Heap->Prop}{F:World->Heap->Prop}{d:DefRec}
  (hn:l.most=some n) (y:d.params.defaults=[])
  (call:∀(w:World)(s₀ b:Shared)(mg u:Str->Option Value)(m:Addr)(o:Obj)(t s g:Value)(a:Addr)(h:List Value)(ns:List Int),
   Ground q c [] H w s₀ mg u b.heap->F w b.heap->
   b.heap.get? m=some o->o.data=.func (docDef d.name d.params d.body d.scope t s g)->b.heap.CodeRec s d.name->mg d.name=some (.ref m)->
   b.heap.get? a=some {cls:=.type "list",data:=.seq h.toArray}->IntsAre h ns->ns.length<=n->b.gens=#[]->
   codeAny (model l.prog w) callerA (.call (.ref m) ⟨[.ref a],[]⟩) (λr p=>r=.ok (.ret (.bool true))/\OldK b.heap p.heap/\p.os=b.os/\AllBare p.gens) b):
  WalkO q c H F l.row.toRowW d [] (λf h=>PySem.call f h):=by
 intro w s₀ b mg u G Y m o t s g R kV L hd z E x N args A S i C I v M;obtain rfl:R=.none:=Dflts.none E y;obtain rfl:kV=.none:=Dflts.noKw E;obtain⟨a,h,ns,rfl,rfl,j,e,k⟩:=Ef hn i v;refine enter_call (Aab (call w s₀ b mg u m o t s g a h ns G Y L (fd_plain hd) z x j e k N) λr p J=>?_);obtain⟨rfl,Q,P,O⟩:=J;exact⟨.inl ⟨.bool true,.bool true,[],rfl,λ_=>rfl,.bool true,Ew l _,λ_=>⟨List.Pairwise.nil,λ_ hm=>(nomatch hm)⟩⟩,Q,P,O⟩
section
variable {prog:Program} {w:World} {A:Around} {E:Value->Shared->Prop} {s:Shared} {K:Frag}
end
end Att
namespace L2
open PyProof.Rows
def nP{b:List Value}{ns:List Int}(a:IntsAre b ns):Vals (ns.map V.int) b:=by
 induction a with
 | nil=>exact .nil
 | cons n t h c=>exact .cons ⟨t,rfl⟩ c
def Sq(H:Hp):Prop:=∀b,H b=none\/∃o a,H b=some (.kS o (.lst a))
def HI{P:Program}{w:World}{K:FR}{mg N:Str->Option Value}{CX:LL}{k:Nat}{T a:Addr}{fd:FuncData}{x:Str}{sp:Sp}{c:Shared}{p:List Value}{ns:List Int}
  (KX:K.In c.heap) (E:c.heap.Ns mainGlobals mg) (g:c.heap.Ns builtinsNs N) (R:∀x:Str,x≠"__name__"->N x=bootBuiltins x) (G:c.heap.NoLimit) (hg:c.gens=#[])
  (L:c.heap.get? a=some {cls:=.type "list",data:=.seq p.toArray}) (X:IntsAre p ns) (hl:ns.length<=sizeLine) (hr:eU k callerA)
  (F:∀base:Heap,K.In base->base.Ns mainGlobals mg->fX P w K mg base CX k T fd [x] sp) (t:∀(s:Shared)(u:Value),BindsTo s fd ⟨[u],[]⟩ [(x,u)])
  (O:∀H:Hp,Sq H->eL K H a (ns.map V.int)->sp [.ref a] H (λv _=>v=.bl true) λ_ _ _=>False)
  (S:∀H e i,CX [] H c (λ_ _ _=>False) e i->False):
  codeAny (model P w) callerA (.call (.ref T) ⟨[.ref a],[]⟩) (λr i=>r=.ok (.ret (.bool true))/\OldK c.heap i.heap/\i.os=c.os/\AllBare i.gens) c:=by
 have rv:=nP X;have A:=X.length;have l:∀H:Hp,Sq H->eL K H a (ns.map V.int)->jO P w H c.heap->(∀b,H b≠none->b=a)->(H a≠none->K.lookup a=none)->
   codeAny (model P w) callerA (.call (.ref T) ⟨[.ref a],[]⟩) (λr i=>r=.ok (.ret (.bool true))/\OldK c.heap i.heap/\i.os=c.os/\AllBare i.gens) c:=by
  intro H Y hS aZ Z hK;have f:∀{b:Addr} {o:Obj},c.heap.get? b=some o->H b=none->(xB c.heap H).get? b=some o:=λe n=>HP e n;have M:∀{b:Addr} {o:Obj} {es:Array DictEntry} {J:Nat},c.heap.get? b=some o->o.data=.dict es J->H b=none:=λ{b o es J} e d=>by
   cases q:H b with
   | none=>rfl
   | some u=>
    have U:b=a:=Z b (by rw[q];simp);subst U;rw[L] at e;cases e;have d':Data.seq p.toArray _=Data.dict es J:=d;cases d'
  have j:∀{b:Addr} {m:Str->Option Value},c.heap.Ns b m->(xB c.heap H).Ns b m:=λ{b m} ⟨o,es,J,e,d,r⟩=>⟨o,es,J,f e (M e d),d,r⟩;have I:K.In (xB c.heap H):=λb o e=>f (KX b o e) (by
   cases q:H b with
   | none=>rfl
   | some u=>
    have U:b=a:=Z b (by rw[q];simp);subst U;rw[hK (by rw[q];simp)] at e;cases e)
  have hM:Mod K mg (xB c.heap H):=⟨I,j E,⟨N,j g,R⟩,let⟨mc,h1,h2⟩:=G;⟨mc,j h1,h2⟩⟩;have e0:LJ P w K mg (xB c.heap H) callerA [] c H:=⟨rfl,hM,λb o e=>Ku e,ZS (E3 _ _),trivial,λb g=>absurd (show b∈([]:List Addr) from g) (by simp),aZ,.of_eq hg⟩;refine Aab ((F _ I (j E)).run callerA [] c H ⟨[.ref a],[]⟩ [.ref a] [.ref a] _ _ hr e0 (t c (.ref a)) (.cons rfl .nil) (O H Y hS)) λr i h=>?_;cases r with
  | error e=>exact(S H e i h).elim
  | ok fl=>
   cases fl with
   | next=>exact False.elim h
   | brk=>exact False.elim h
   | cont=>exact False.elim h
   | ret u=>
    obtain⟨v,H',os,bare,un,C,r',q⟩:=h;have q':v=.bl true:=q;subst q';obtain rfl:u=Value.bool true:=r';refine⟨rfl,OldK.of_keep λb o e=>?_,os,bare⟩;cases q:H b with
    | none=>exact un.keep b o e q (by intro z;exact absurd (show b∈([]:List Addr) from z) (by simp)) (by simp)
    | some u=>
     rcases Y b with z |⟨ob,xs,z⟩
     ·rw[q] at z;cases z
     ·have z2:=un.qm b ob _ z;obtain⟨e1,_⟩:=aZ b _ z;obtain⟨e2,_⟩:=C b _ z2;rw[e] at e1;cases e1;exact e2
 cases Q:K.lookup a with
 | some o=>
  have e:=KX a o Q;rw[L] at e;cases e;refine l (λ_=>none) (λ_=>.inl rfl) (.inr ⟨_,p.toArray,_,Q,rfl,rfl,rfl,by rw[VZ,A];exact hl,by simpa using rv⟩) (λb u z=>by have y:(none:Option HO)=some u:=z;cases y) (λb z=>absurd rfl z) λz=>absurd rfl z
 | none=>
  refine l (λb=>if b=a then some (.kS {cls:=.type "list",data:=.seq p.toArray} (.lst (ns.map V.int))) else none) (λb=>?_) (.inl (.inr ⟨{cls:=.type "list",data:=.seq p.toArray},VE rfl⟩)) (λb u z=>?_) (λb z=>?_) λ_=>Q
  ·by_cases g:b=a
   ·exact .inr ⟨_,_,VE g⟩
   ·exact .inl (VH g)
  ·by_cases g:b=a
   ·have y:=(VE g).symm.trans z;cases y;subst g;exact⟨L,by rw[Vy];exact hl,p,_,rv,L⟩
   ·have y:=(VH g).symm.trans z;cases y
  ·by_cases g:b=a
   ·exact g
   ·exact absurd (VH g) z
noncomputable def ng(s:Stmt):Arguments:=match s with
 | .FunctionDef _ a _ _ _ _ _ _ _ _=>a
 | _=>{posonlyargs:=[],args:=[],vararg:=none,kwonlyargs:=[],kw_defaults:=[],kwarg:=none,defaults:=[]}
noncomputable def gu(s:Stmt):List Stmt:=match s with
 | .FunctionDef _ _ b _ _ _ _ _ _ _=>b
 | _=>[]
noncomputable def ah(s:Stmt):Scope:=match s with
 | .FunctionDef _ _ _ _ _ _ sc _ _ _=>sc
 | _=>{kind:=.function,names:=[],isGenerator:=false,isCoroutine:=false}
abbrev wm:LL:=λ_ _ _ _ _ _=>False
abbrev E0:XK:=λ_ _ _=>False
def Q2:Passes wm X E0:=λ_ _ _ _ _ _ _ h=>h.elim
structure Cm(K:FR)(x qual:Str)(st:Stmt)(f:Addr)(fd:FuncData):Prop where
 ex:∃(oc:Value)(od:Option Addr)(kV doc pm:Value)(an:Option Addr)(cdv ct:Value)(osl:Array (Option Value)),
  fd=PySem.W.fnOf x qual (ng st) (gu st) (ah st) .none kV doc pm an cdv ct/\K.lookup f=some ⟨oc,od,.func fd,osl⟩/\PySem.W.codeIn K cdv qual=true
 kp:PySem.W.keepIn K (.ref f)=true
section
variable {P:Program} {w:World} {K:FR} {mg:Str->Option Value} {base:Heap}
def Cm.ok{x a:Str}{st:Stmt}{f:Addr}{j:FuncData}{N e:List Str}{k:Nat}{sp:Sp}(F:Cm K x a st f j)(S:au N e (ah st))(len:∀c H Q E,sp c H Q E->c.length=e.length)
  (d:∀(b:Value)(A:Around)(outer:List Env)(s:Shared)(H:Hp)(c:List V)(Q:VK)(E:XK),eU k (A.deeper (envOfC a (ah st) s.heap.objs.size f b))->sp c H Q E->
   ∃t,Au (z7 wm P w K mg base N a (ah st) f b A outer s H E).P1 (gu st) t/\t {nx:=λ_ n=>Q .bx n,rt:=Q} (start N c) H):fX P w K mg base wm (k+1) f j e sp:=by
 obtain⟨r,p,kV,m,o,u,b,ct,l,rfl,lk,i⟩:=F.ex;refine Rv lk i S len λA outer s H c Q E hr g=>?_;obtain⟨t,h,q⟩:=d b A outer s H c Q E hr g;exact⟨t,h.P1,q⟩
def Cm.binds{x a:Str}{st:Stmt}{f:Addr}{i:FuncData}{d:List Str}(F:Cm K x a st f i)
  (h:∀(kV b e:Value)(g:Option Addr)(c ct:Value)(us:List Value),us.length=d.length->bindArgs (PySem.W.fnOf x a (ng st) (gu st) (ah st) .none kV b e g c ct) ⟨us,[]⟩=pure (d.zip us)):Binds K i d []:=by
 obtain⟨m,l,kV,b,e,g,c,ct,j,rfl,lk,k⟩:=F.ex;exact .all (h kV b e g c ct)
end
def Rl(hr:eU k A):A.units+1 < cLine:=Wr (Yq (by decide:1<=64) _) hr.units
def Fv:eX X (.builtin "len") (λc H Q=>∃a b,c=[V.ref a]/\H a=some (.dK b)/\Q (.int b.length) H):=by
 intro d s i H c us Q I r h;obtain⟨a,b,rfl,f,q⟩:=h;obtain⟨u,rfl,e⟩:=vals1 r;cases e;exact RB I (.inl f) λt j g=>⟨.int b.length,H,g,⟨t,rfl⟩,q⟩
def OP{A B:Prop}(h:B):if false=true then A else B:=by
 rw[VH V8];exact h
def OO{A B:Prop}(h:A):if true=true then A else B:=by
 rw[VE rfl];exact h
section
variable {κ:Type} [DecidableEq κ]
end
def jO.off(ok:jO P w H h)(d:H C=none)(k:∀b u,b≠C->h.get? b=some u->f.get? b=some u):jO P w H f:=by
 intro a o e;have ne:a≠C:=by rintro rfl;rw[d] at e;cases e
 refine(ok a o e).t5 (λb u c q=>k b u ?_ q) (λ_ x=>x) (λ_ _ x=>x);rcases c with rfl | c
 ·exact ne
 ·rintro rfl;rw[d] at c;cases c
noncomputable def gL(env:Env):List (Str×NameKind)->List (Str×Addr)->List (Str×Addr)
 | [],acc=>acc
 |(n,k)::r,acc=>if(k==NameKind.free)=true then gL env r ((n,(env.cells.lookup n).getD 0)::acc) else gL env r acc
def lM(h:∀y∈scope.names,y.2=.free->∃c,env.cells.lookup y.1=some c):closureFor scope env=pure (gL env scope.names []):=by
 have d:∀(names:List (Str×NameKind)) (b:List (Str×Addr)),(∀y∈names,y.2=.free->∃c,env.cells.lookup y.1=some c)->
   (forIn names b (λ(x:Str×NameKind)(r:List (Str×Addr))=>match x with
    |(name,kind)=>if(kind==NameKind.free)=true then do let a<-cellOf env name;pure (ForInStep.yield ((name,a)::r)) else pure (ForInStep.yield r)):Sem (List (Str×Addr)))=pure (gL env names b):=by
  intro names
  induction names with
  | nil=>intro b _;rfl
  | cons y r l=>
   intro b i;obtain⟨n,k⟩:=y;have hr:=λa=>l a λz m=>i z (VD _ m);rw[YN];unfold gL
   by_cases g:(k==NameKind.free)=true
   ·have f:k=.free:=by simpa using g
    obtain⟨c,j⟩:=i (n,k) VF f;have e:cellOf env n=pure c:=by unfold cellOf;rw[j]
    simp only[g,Yi,e,j,Option.getD_some];exact hr _
   ·simp only[g,WK];exact hr _
 have k:=d scope.names [] h;unfold closureFor;dsimp only;rw[k];rfl
def Fs:∀(names:List (Str×NameKind)) (a:List (Str×Addr)),(∀y∈names,y.2=.free->∃c,env.cells.lookup y.1=some c)->
  (∀d,a.lookup x=some d->env.cells.lookup x=some d)->(gL env names a).lookup x=some c->env.cells.lookup x=some c:=by
 intro r
 induction r with
 | nil=>
  intro a _ b h;exact b c h
 | cons o r j=>
  obtain⟨n,k⟩:=o;intro a l b h;unfold gL at h;have hr:=λz p=>l z (VD _ p)
  by_cases i:(k==NameKind.free)=true
  ·rw[VE i] at h;refine j _ hr (λd hd=>?_) h;have g:k=.free:=by simpa using i
   obtain⟨q,m⟩:=l (n,k) VF g;rw[WE] at hd;cases f:x==n with
   | true=>
    rw[f] at hd;have e:x=n:=by simpa using f
    rw[e,m];rw[m] at hd;exact hd
   | false=>
    rw[f] at hd;exact b d hd
  ·rw[VH i] at h;exact j _ hr b h
theorem tH:∀(names:List (Str×NameKind)) (a:List (Str×Addr)),(∃c,a.lookup x=some c)->∃c,(gL env names a).lookup x=some c
 | [],_,h=>h
 |(n,k)::r,a,h=>by
  unfold gL
  by_cases b:(k==NameKind.free)=true
  ·rw[VE b];refine tH r _ ?_;rw[WE];cases d:x==n with
   | true=>exact⟨_,rfl⟩
   | false=>exact h
  ·rw[VH b];exact tH r _ h
theorem nq:∀(names:List (Str×NameKind)) (a:List (Str×Addr)),(x,NameKind.free)∈names->∃c,(gL env names a).lookup x=some c
 | [],_,h=>by cases h
 |(n,k)::r,a,h=>by
  unfold gL;rcases VS.mp h with e | d
  ·injection e with g f
   subst g f;rw[VE (by rfl)];refine tH r _ ⟨(env.cells.lookup x).getD 0,?_⟩;rw[WE,XU]
  ·by_cases b:(k==NameKind.free)=true
   ·rw[VE b];exact nq r _ d
   ·rw[VH b];exact nq r _ d
def wU{env:Env}:∀{names:List (Str×NameKind)} {x:Str} {j:NameKind},
  (names.map λ(n,k)=>if(k==NameKind.free&&env.scope.kind==.function&&env.kindOf n==some .cell) then(n,NameKind.cell) else(n,k)).lookup x=some j->
  ∃k,names.lookup x=some k/\(j=k\/(k=.free/\j=.cell)):=by
 intro r
 induction r with
 | nil=>
  intro _ _ h;simp at h
 | cons e r d=>
  obtain⟨n,k⟩:=e;intro x j h;have a:List.lookup x ((if(k==NameKind.free&&env.scope.kind==.function&&env.kindOf n==some .cell)=true then(n,NameKind.cell) else(n,k))::_)=some j:=h;rw[WE];cases c:x==n with
  | true=>
   refine⟨k,rfl,?_⟩
   by_cases b:(k==NameKind.free&&env.scope.kind==.function&&env.kindOf n==some .cell)=true
   ·rw[VE b,WE,c] at a;simp only[V1,Xs] at b;exact .inr ⟨b.1.1,(Option.some.inj a).symm⟩
   ·rw[VH b,WE,c] at a;exact .inl (Option.some.inj a).symm
  | false=>
   by_cases b:(k==NameKind.free&&env.scope.kind==.function&&env.kindOf n==some .cell)=true
   ·rw[VE b,WE,c] at a;exact d a
   ·rw[VH b,WE,c] at a;exact d a
theorem ip{env:Env}:∀{names:List (Str×NameKind)} {x:Str},names.lookup x=some .free->
  (names.map λ(n,k)=>if(k==NameKind.free&&env.scope.kind==.function&&env.kindOf n==some .cell) then(n,NameKind.cell) else(n,k)).lookup x=some .cell\/
  (names.map λ(n,k)=>if(k==NameKind.free&&env.scope.kind==.function&&env.kindOf n==some .cell) then(n,NameKind.cell) else(n,k)).lookup x=some .free
 | [],_,h=>by simp at h
 |(n,k)::r,x,h=>by
  rw[VL];show List.lookup x ((if(k==NameKind.free&&env.scope.kind==.function&&env.kindOf n==some .cell)=true then(n,NameKind.cell) else(n,k))::_)=_\/List.lookup x ((if(k==NameKind.free&&env.scope.kind==.function&&env.kindOf n==some .cell)=true then(n,NameKind.cell) else(n,k))::_)=_;rw[WE] at h;cases a:x==n with
  | true=>
   rw[a] at h;have c:k=.free:=Option.some.inj h
   by_cases b:(k==NameKind.free&&env.scope.kind==.function&&env.kindOf n==some .cell)=true
   ·rw[VE b,WE,a];exact .inl rfl
   ·rw[VH b,WE,a,c];exact .inr rfl
  | false=>
   rw[a] at h
   by_cases b:(k==NameKind.free&&env.scope.kind==.function&&env.kindOf n==some .cell)=true
   ·rw[VE b,WE,a];exact ip h
   ·rw[VH b,WE,a];exact ip h
abbrev fE(X:Cx)(N':List Str)(scope:Scope)(C:Addr)(s₃:Shared)(H₃:Hp)(fp:List Addr)(pl:List (Addr×Obj)):Cx:=
 {X with N:=N',s₀:=s₃,H₀:=H₃,env:=compEnvC scope (gL X.env scope.names []) C X.env,outer:=X.stack,ex:=fp,fn:=λ_=>false,calm:=true,pn:=X.pn++pl,xe:=λ_ _=>False}
structure bg(X:Cx)(N':List Str)(caps:List (Option Nat))(scope:Scope):Prop where
 kind:scope.kind=.function
 BB:∀y∈scope.names,y.2≠.cell
 names:∀y∈scope.names,y.2=.local->scope.names.lookup y.1=some .local
 ID:∀y∈scope.names,y.2=.free->X.env.kindOf y.1=some .cell\/X.env.kindOf y.1=some .free
 len:caps.length=N'.length
 Vq:∀(j i:Nat)(x:Str),caps[j]?=some (some i)->N'[j]?=some x->X.N[i]?=some x/\scope.names.lookup x=some .free
 nd:N'.Nodup
noncomputable def lO(a:List (Option Nat))(b:St):St:=a.map λo=>o.bind λi=>(b[i]?).join
theorem bg.has(S:bg X d a scope)(ok:X.Ok):∀y∈scope.names,y.2=.free->∃c,X.env.cells.lookup y.1=some c:=λy b e=>ok.has y.1 (S.ID y b e)
def bg.look(S:bg X b a scope)(ok:X.Ok)(h:(gL X.env scope.names []).lookup x=some c):X.env.cells.lookup x=some c:=
 Fs scope.names [] (S.has ok) (λ_ z=>by simp at z) h
def Inv.block(S:bg X N' f scope)(I:Inv X pins σ H a)(hc:X.calm=true)(R:∀b∈fp,eG X pins H b)(Z:∀b∈fp,b < a.heap.objs.size){g:Heap}{t₄:Nat}{t:Str->Option Value}
  (hn:g.Ns a.heap.objs.size t) (O:∀b o,a.heap.get? b=some o->g.get? b=some o):
  Inv (fE X N' scope a.heap.objs.size a H fp pins) [] (lO f σ) H {a with heap:=g,toks:=t₄}:=by
 have ok:=I.ok;have fresh:∀b o,a.heap.get? b=some o->b≠a.heap.objs.size:=λb o e=>V6 (VP e);have s:∀x c,(gL X.env scope.names []).lookup x=some c->∃v,a.heap.IsCell c v:=λx c e=>I.cell x c (S.look ok e);refine⟨⟨ok.mod,?_,ok.glob,ok.blt,VG _,?_,?_,?_,λ_=>ok.hd hc,ok.frames,.inl rfl,?_,I.bs,?_,?_,?_,I.stack,I.Cv⟩,rfl,I.bare,Un.kept O,?_,?_,I.aZ.fresh (VG _),?_,?_,I.aZ.kept O,?_⟩
 ·show(relabel scope X.env).kind=.function;exact S.kind
 ·intro x y c h1 h2;exact ok.inj x y c (S.look ok h1) (S.look ok h2)
 ·intro x hx;have T:(relabel scope X.env).names.lookup x=some .cell\/(relabel scope X.env).names.lookup x=some .free:=hx;have L:∀j,(relabel scope X.env).names.lookup x=some j->j=.cell\/j=.free->∃c,(gL X.env scope.names []).lookup x=some c:=by
   intro j hj hjk;obtain⟨k,hk1,hk2⟩:=wU hj;have hm:=Xj hk1;have hkf:k=.free:=by
    rcases hk2 with rfl |⟨e,_⟩
    ·rcases hjk with rfl | e
     ·exact absurd rfl (S.BB _ hm)
     ·exact e
    ·exact e
   subst hkf;exact nq scope.names [] hm
  rcases T with h | h
  ·exact L _ h (.inl rfl)
  ·exact L _ h (.inr rfl)
 ·intro x c h _;exact absurd (show false=true from h) (by decide)
 ·intro b J;refine⟨V6 (Z b J),λx c h=>(R b J).2.2.2.2.1 x c (S.look ok h)⟩
 ·exact VJ ok.Ml I.sz
 ·intro b o e J;rcases(R b J).2.2.2.1 with z | z
  ·exact ok.HA b o e z
  ·exact absurd (VX (VP e) ok.Ml) (Aaf.mpr z)
 ·intro b J z;rcases VS.mp (I.nU b z) with e | e
  ·exact(R b J).2.1 e
  ·exact(R b J).2.2.1 e
 ·refine⟨t,hn,λj x v e1 e2 e3=>?_⟩;have l:(f.map λo=>o.bind λi=>(σ[i]?).join)[j]?=some (some v):=e2;rw[VN] at l;cases F:f[j]? with
  | none=>rw[F] at l;cases l
  | some oi=>
   rw[F] at l;have C:(oi.bind λi=>(σ[i]?).join)=some v:=Option.some.inj l;cases oi with
   | none=>cases C
   | some i=>
    have r:(σ[i]?).join=some v:=C;have M:σ[i]?=some (some v):=by
     cases hs:σ[i]? with
     | none=>rw[hs] at r;cases r
     | some w=>rw[hs] at r;rw[show w=some v from r]
    obtain⟨hX,E⟩:=S.Vq j i x F e1;obtain⟨m,_,hl⟩:=I.loc;have A:=S.ID _ (Xj E) rfl;have N:RV X.env.scope x:=by
     rcases A with z | z
     ·exact .inr (.inl z)
     ·exact .inr (.inr z)
    obtain⟨u,ru,lk⟩:=hl i x v hX M N;refine⟨u,ru,.inr ⟨?_,?_⟩⟩
    ·exact ip E
    ·obtain⟨c,P⟩:=nq (env:=X.env) scope.names [] (Xj E);refine⟨c,P,?_⟩;rcases lk with⟨z,_⟩ |⟨_,c',Q,G⟩
     ·have z':X.env.kindOf x=some .local:=z;rcases A with q | q
      ·rw[z'] at q;cases q
      ·rw[z'] at q;cases q
     ·have:=S.look I.ok P;rw[this] at Q;cases Q;obtain⟨o,Y,hd⟩:=G;exact⟨o,O _ _ Y,hd⟩
 ·intro x c h;obtain⟨v,o,Y,hd⟩:=s x c h;exact⟨v,o,O _ _ Y,hd⟩
 ·intro x c h;exact I.iU x c (S.look ok h)
 ·intro p hp;have U:p∈X.pn++pins:=by
   rcases Wk.mp hp with z | z
   ·exact z
   ·cases z
  obtain⟨e,n,ne,nf,d⟩:=I.pin p U;refine⟨O _ _ e,n,fresh _ _ e,λz=>?_,d⟩;rcases VS.mp (I.nU p.1 z) with q | q
  ·exact ne q
  ·exact nf q
 ·show(f.map _).length=N'.length;rw[Vy];exact S.len
def Inv.qu(S:bg X p j scope)(I:Inv X pins σ H a)(f:∀b∈h,eG X pins H b)(J:Inv (fE X p scope a.heap.objs.size a H h pins) [] r i s')(d:∀b u,b≠a.heap.objs.size->s'.heap.get? b=some u->h''.get? b=some u):Inv X pins σ i {s' with heap:=h''}:=by
 have m:i a.heap.objs.size=none:=J.free;have u:Un (FI X.stack) h H i a.heap h'':=by
  have b:=J.base;have ne:∀x o,a.heap.get? x=some o->x≠a.heap.objs.size:=λx o e=>V6 (VP e);refine⟨λx o e n g c=>d _ _ (ne x o e) (b.keep x o e n g c),λx o e n g c=>?_,b.free,λx o e c=>?_,b.pW,b.qm,b.t4⟩
  ·obtain⟨k,q⟩:=b.slot x o e n g c;exact⟨k,d _ _ (ne x o e) q⟩
  ·obtain⟨l,q⟩:=b.there x o e c;exact⟨l,d _ _ (ne x o e) q⟩
 exact I.call' (s':={s' with heap:=h''}) (ch:=h) J.os u (J.aZ.off m d) J.bare λb c=>⟨(f b c).2.2.2.1,(f b c).2.1,(f b c).2.2.2.2.1,(f b c).2.2.2.2.2⟩
def Jn(X:Cx)(d:List Expr)(t:TT):Prop:=
 ∀(a:List (Addr×Obj)) (s:Shared) (b:St) (H:Hp) (Q:Bool->Hp->Prop),Inv X a b H s->t b H Q->
  wpAny (model X.prog X.w) X.A (forIn d true λc r=>if r=true then do let ok<-isTrue c X.env (eval c X.env);pure (ForInStep.yield ok) else pure (ForInStep.yield r)) (TP X a b Q) X.xe s
def cj:TT:=λ_ H Q=>Q true H
def Kk:Jn X [] cj:=λa s b H Q I h=>wpAny_tests_nil ⟨H,I,h⟩
def Kj(h:PT X c t):Jn X [c] t:=λa s b H Q I q=>wpAny_tests_one (h a s b H Q I q)
def Mx(J:It)(g:TG)(q:TT)(p:TE)(l:Addr)(Q:VK)(f:St)(s:Hp):Prop:=
 ∃W:Nat->Nat->St->Hp->Prop,(∃m,W 0 m f s)/\∀i m j d,W i m j d->
  (J.stop i d/\Q (.ref l) d)\/(J.go i d/\∃N:St->Hp->Prop,(∀c e,N c e->∃k,k < m/\W (i+1) k c e)/\∀x e,J.LN i d x e->g x j e λa r=>
   q a r λb o=>if b=true then p a o λy n=>∃h,n l=some (.lst h)/\h.length < sizeLine/\N a (upd n l (.lst (h++[y]))) else N a o)
def F4(a:List (Option Nat))(d:TI)(g:TG)(f:TT)(e:TE):TE:=λb H Q=>d b H λJ c=>∀l,c l=none->Mx J g f e l Q (lO a b) (upd c l (.lst []))
def Qg(h:wpAny M A t Q (λ_ _=>False) s):wpAny M A t Q E s:=WL h (λ_ _ q=>q) λ_ _ f=>f.elim
def Fm(S:bg X H caps scope)(hc:X.calm=true)(hg:∀C k s h pl,PG (fE X H scope C k s h pl) tg g)(hif:∀C k s h pl,Jn (fE X H scope C k s h pl) ifs tc)
  (he:∀C k s h pl,PE (fE X H scope C k s h pl) elt te) {a:List (Addr×Obj)} {σ:St} {t:Hp} {s3:Shared} {j:Heap} {M:Nat} {m₁:Str->Option Value} {it l:Addr} {h:List Addr} {tn:Nat->Heap->Prop} {J:It}
  (Z:Inv X a σ t s3) (T:Turn X.prog X.w X.K tg J h it tn) (st3:tn 0 j) (O:∀b∈h,eG X a t b) (hlt3:∀b∈h,b < s3.heap.objs.size) (Y:j.Ns s3.heap.objs.size m₁) (keep3:∀b o,s3.heap.get? b=some o->j.get? b=some o)
  {Q:VK} {RR:Value->Addr->Result->Shared->Prop} {W:Nat->Nat->St->Hp->Prop} {m0:Nat} (w0:W 0 m0 (lO caps σ) t) (turn:∀i m G H2,W i m G H2->
   (J.stop i H2/\Q (.ref l) H2)\/(J.go i H2/\∃N:St->Hp->Prop,(∀L f,N L f->∃m',m' < m/\W (i+1) m' L f)/\∀x f,J.LN i H2 x f->g x G f λR t=>
    tc R t λb H4=>if b=true then te R H4 λy H5=>∃U,H5 l=some (.lst U)/\U.length < sizeLine/\N R (upd H5 l (.lst (U++[y]))) else N R H4))
  (hRR:∀(l C:Addr)(f:Hp)(E:Shared),f C=none->C≠X.env.locals->X.s₀.heap.objs.size<=C->(∀x c,X.env.cells.lookup x=some c->c≠C)->(∀p∈X.pn++a,p.1≠C)->(∃m,E.heap.Ns C m)->Inv X a σ f E->
   (∀h'':Heap,(∀b u,b≠C->E.heap.get? b=some u->h''.get? b=some u)->Inv X a σ f {E with heap:=h''})->Q (.ref l) f->RR (.ref l) C (.ok .next) E):
  codeAny (model X.prog X.w) X.A (.compStart (.ListComp elt [⟨tg,iter,ifs,0⟩] scope pos) 0 (.ref it) (.ref l) (compEnvC scope (gL X.env scope.names []) s3.heap.objs.size X.env))
   (RR (.ref l) s3.heap.objs.size) {s3 with heap:=j,toks:=M}:=by
 have J0:Inv (fE X H scope s3.heap.objs.size s3 t h a) [] (lO caps σ) t {s3 with heap:=j,toks:=M}:=Inv.block S Z hc O hlt3 Y keep3;have fpB:∀{f:Hp},(∀b∈h,f b=none)->∀b∈h,eG (fE X H scope s3.heap.objs.size s3 t h a) [] f b:=λ{f} hn b P=>by
  obtain⟨f0,f1,f2,f3,f4,f5⟩:=O b P;refine⟨hn b P,V6 (hlt3 b P),λz=>?_,.inl P,λx c e=>f4 x c (S.look Z.ok e),λp hp=>?_⟩
  ·rcases VS.mp (Z.nU b z) with q | q
   ·exact f1 q
   ·exact f2 q
  ·rcases Wk.mp hp with q | q
   ·exact f5 p q
   ·cases q
 have fin:∀{G:St} {f:Hp} {E:Shared},Inv (fE X H scope s3.heap.objs.size s3 t h a) [] G f E->Q (.ref l) f->RR (.ref l) s3.heap.objs.size (.ok .next) E:=λ{G f E} J q=>by
  refine hRR _ _ f E J.free ?_ ?_ ?_ ?_ ?_ ?_ ?_ q
  ·exact(V6 Z.lt).symm
  ·exact Z.sz
  ·intro x c e z;obtain⟨v,o,ho,_⟩:=Z.cell x c e;exact V6 (VP ho) z
  ·intro p hp z;obtain⟨e,_⟩:=Z.pin p hp;exact V6 (VP e) z
  ·obtain⟨m,hm,_⟩:=J.loc;exact⟨m,hm⟩
  ·have:=Inv.qu S Z O J (h'':=E.heap) λb u _ e=>e;exact this
  ·exactλh'' hs=>Inv.qu S Z O J hs
 have loop:codeAny (model X.prog X.w) X.A (.compLoop (.ListComp elt [⟨tg,iter,ifs,0⟩] scope pos) 0 (.ref it) (.ref l) (compEnvC scope (gL X.env scope.names []) s3.heap.objs.size X.env))
   (RR (.ref l) s3.heap.objs.size) {s3 with heap:=j,toks:=M}:=by
  refine codeAny_loop rfl (λn E=>∃i G f,Inv (fE X H scope s3.heap.objs.size s3 t h a) [] G f E/\tn i E.heap/\(∀b∈h,f b=none)/\W i n G f) ?_ m0 ⟨0,_,_,J0,st3,λb P=>(O b P).1,w0⟩;rintro n s4 ⟨i,G,H4,J4,st4,fr4,w4⟩;show wpAny _ X.A ((compTurn (.ListComp elt [⟨tg,iter,ifs,0⟩] scope pos) 0 (.ref it) (.ref l) (compEnvC scope (gL X.env scope.names []) s3.heap.objs.size X.env)).onRaise (λx=>do noteFrame x (compEnvC scope (gL X.env scope.names []) s3.heap.objs.size X.env);theTreesLotGoes x)) _ _ s4;refine wpAny_noted ?_;rw[compTurn_list];rcases turn i n G H4 w4 with⟨stop,qn⟩ |⟨go,N,hN,step⟩
  ·refine Vx (Xm (Vx (WL (T.done (fE X H scope s3.heap.objs.size s3 t h a) rfl rfl rfl rfl i [] s4 G H4 _ J4 (fpB fr4) st4 stop) (λr s5 h5=>?_) λ_ _ e=>e)));obtain⟨hr,J5⟩:=h5;subst hr;exact VA (fin J5 qn)
  ·refine Vx (Xm (Vx (WL (T.item (fE X H scope s3.heap.objs.size s3 t h a) rfl rfl rfl rfl i [] s4 G H4 _ J4 (fpB fr4) st4 go) (λr s5 h5=>?_) λ_ _ e=>e)));obtain⟨u,hr,h5⟩:=h5;subst hr;refine Vx (WL h5 (λ_ s6 h6=>?_) λ_ _ e=>e);obtain⟨x,H6,J6,r6,y6,st6,fr6⟩:=h6;have J6':=J6.pinned (fpB fr6) (T.obj _ _ st6);refine Vx (WL (Qg (hg _ _ _ _ _ _ s6 G H6 x u _ J6' r6 (step x H6 y6))) (λ_ s7 h7=>?_) λ_ _ e=>e);obtain⟨F,H7,J7,q7⟩:=h7;have again:∀{I:St} {H8:Hp} {s8:Shared},Inv (fE X H scope s3.heap.objs.size s3 t h a) ([]++oq h s6.heap) I H8 s8->N I H8->
     ∃m,m < n/\∃i L f,Inv (fE X H scope s3.heap.objs.size s3 t h a) [] L f s8/\tn i s8.heap/\(∀b∈h,f b=none)/\W i m L f:=λ{I H8 s8} J8 n8=>by
    obtain⟨m',hm,w8⟩:=hN I H8 n8;refine⟨m',hm,i+1,I,H8,J8.i7,T.keep _ _ _ st6 λb P o e=>(J8.pin (b,o) (Wf _ (Wf _ (eA P e)))).1,λb P=>?_,w8⟩;obtain⟨o,e,d⟩:=T.obj _ _ st6 b P;exact(J8.pin (b,o) (Wf _ (Wf _ (eA P e)))).2.1
   refine Vx (WL (Qg (hif _ _ _ _ _ _ s7 F H7 _ J7 q7)) (λok s8 h8=>?_) λ_ _ e=>e);obtain⟨H8,J8,q8⟩:=h8;cases ok with
   | false=>exact VA ⟨rfl,again J8 (by simpa using q8)⟩
   | true=>
    have q8':te F H8 λy H5=>∃U,H5 l=some (.lst U)/\U.length < sizeLine/\N F (upd H5 l (.lst (U++[y]))):=by simpa using q8
    refine Vx (Vx (WL (Qg (he _ _ _ _ _ _ s8 F H8 _ J8 q8')) (λy s9 h9=>?_) λ_ _ e=>e));obtain⟨yv,H9,J9,r9,U,hx,hz,n9⟩:=h9;refine Vx (WL (Qg (vF (X:=fE X H scope s3.heap.objs.size s3 t h a) _ s9 F H9 (.ref l) [yv] (.ref l) [y] (λ_ f=>N F f) J9 rfl (.cons r9 .nil) ⟨_,U,yv,rfl,rfl,hx,hz,n9⟩)) (λ_ s10 h10=>?_) λ_ _ e=>e);obtain⟨_,H10,J10,_,n10⟩:=h10;exact VA (VA ⟨rfl,again J10 n10⟩)
 exact codeAny_compStart_list loop (T.self X.A 0 _ _ _ st3 loop)
def tF(S:bg X N' Z scope)(hc:X.calm=true)(hg:∀C a f k pl,PG (fE X N' scope C a f k pl) tg g)(hif:∀C a f k pl,Jn (fE X N' scope C a f k pl) ifs tc)
  (he:∀C a f k pl,PE (fE X N' scope C a f k pl) elt te) {d:List (Addr×Obj)} {M:St} {H:Hp} {s:Shared} {it:Addr} {k:List Addr} {tn:Nat->Heap->Prop} {J:It}
  (I:Inv X d M H s) (T:Turn X.prog X.w X.K tg J k it tn) (st:tn 0 s.heap) (hf:∀b∈k,eG X d H b) {Q:VK} {RR:Value->Addr->Result->Shared->Prop} {E:Value->Shared->Prop}
  (h:∀l,H l=none->∃W:Nat->Nat->St->Hp->Prop,(∃m,W 0 m (lO Z M) (upd H l (.lst [])))/\∀i m τ H2,W i m τ H2->
   (J.stop i H2/\Q (.ref l) H2)\/(J.go i H2/\∃N:St->Hp->Prop,(∀L n,N L n->∃m',m' < m/\W (i+1) m' L n)/\∀x n,J.LN i H2 x n->g x τ n λq H3=>
    tc q H3 λb H4=>if b=true then te q H4 λy H5=>∃xs,H5 l=some (.lst xs)/\xs.length < sizeLine/\N q (upd H5 l (.lst (xs++[y]))) else N q H4))
  (hRR:∀(l C:Addr)(n:Hp)(R:Shared),n C=none->C≠X.env.locals->X.s₀.heap.objs.size<=C->(∀x c,X.env.cells.lookup x=some c->c≠C)->(∀p∈X.pn++d,p.1≠C)->(∃m,R.heap.Ns C m)->Inv X d M n R->
   (∀Y:Heap,(∀b u,b≠C->R.heap.get? b=some u->Y.get? b=some u)->Inv X d M n {R with heap:=Y})->Q (.ref l) n->RR (.ref l) C (.ok .next) R):
  wpAny (model X.prog X.w) X.A (newList []) (λacc a=>wpAny (model X.prog X.w) X.A (newFunctionEnv scope X.env.globals (gL X.env scope.names []) [] X.env.qual none .none (some X.env)) (λG P=>
   codeAny (model X.prog X.w) X.A (.compStart (.ListComp elt [⟨tg,iter,ifs,0⟩] scope pos) 0 (.ref it) acc {G with scope:=relabel scope X.env}) (RR acc G.locals) P) E a) E s:=by
 obtain⟨W,⟨m0,w0⟩,O⟩:=h s.heap.objs.size I.fresh;refine Ws (wpAny_newFunctionEnv S.BB (by intro y hy;simp at hy) (λv t r=>?_) S.kind);have I3:Inv X d M (upd H s.heap.objs.size (.lst [])) {s with heap:=s.heap.push {cls:=.type "list",data:=.seq ([]:List Value).toArray}}:=I.OC (t':=s.toks) (its:=[]) (ys:=[]) .nil (Wm _);have z:∀b∈k,b < s.heap.objs.size:=λb F=>by
  obtain⟨o,e,_⟩:=T.obj 0 _ st b F;exact VP e
 have hf3:∀b∈k,eG X d (upd H s.heap.objs.size (.lst [])) b:=λb F=>⟨by rw[ao (V6 (z b F))];exact(hf b F).1,(hf b F).2⟩;have j:∀b o,(s.heap.push {cls:=.type "list",data:=.seq ([]:List Value).toArray}).get? b=some o->v.get? b=some o:=λb o e=>r.extBut b o (V6 (VP e)) (VB _ e);have st3:tn 0 v:=T.keep 0 _ _ st λb F o e=>j b o (VB _ e);have U:∀b∈k,b < (s.heap.push {cls:=.type "list",data:=.seq ([]:List Value).toArray}).objs.size:=λb F=>by
  have:=z b F;rw[WV];exact Nat.lt_succ_of_lt this
 exact Fm (s3:={s with heap:=s.heap.push {cls:=.type "list",data:=.seq ([]:List Value).toArray}}) S hc hg hif he I3 T st3 hf3 U t j w0 O hRR
def zd(S:bg X N' caps scope)(F:X.calm=true)(z:PI X tg iter r)(E:∀C a c f pl,PG (fE X N' scope C a c f pl) tg g)(k:∀C a c f pl,Jn (fE X N' scope C a c f pl) ifs tc)
  (he:∀C a c f pl,PE (fE X N' scope C a c f pl) elt te) (y:∀x,foldedSetIterable iter X.env x=pure x:=by intro _;rfl):PE X (.ListComp elt [⟨tg,iter,ifs,0⟩] scope pos) (F4 caps r g tc te):=by
 intro d s p H Q I h;rw[eval_ListComp];refine Zn (use:=none) rfl y (lM (S.has I.ok)) S.kind S.names (cv (z d s p H _ I h) λv s1 O=>cv O λt Z N=>?_);obtain⟨it,f,Y,J,H2,e,R,T,j,P,L⟩:=N;subst e;refine tF (RR:=λo C=>compPost (model X.prog X.w) X.A X.xe none (EP X d p Q) o C) S F E k he R T j P L ?_;intro l C U s' _ _ _ _ _ hm _ M q;obtain⟨m,hm⟩:=hm;exact⟨m,hm,λn i=>⟨.ref l,U,M n λb u G e=>i.extBut b u G e,rfl,q⟩⟩
def G4(hN:X.N.Nodup)(O:X.N[i]?=some y)(hy:X.env.scope.names.lookup y=some .local)(S:bg X N' u scope)(hc:X.calm=true)(hi:PI X E iter wi)(hg:∀C c d k pl,PG (fE X N' scope C c d k pl) E g)(M:∀C c d k pl,Jn (fE X N' scope C c d k pl) ifs tc)(he:∀C c d k pl,PE (fE X N' scope C c d k pl) elt te)(G:swapsWith (.ListComp elt [⟨E,iter,ifs,0⟩] scope pos) (some (.Name y py)) n.line X.env=pure true:=by rfl)(hs:∀x,foldedSetIterable iter X.env x=pure x:=by intro _;rfl):
  PS X (.Assign [.Name y py] (.ListComp elt [⟨E,iter,ifs,0⟩] scope pos) n) (Jv (F4 u wi g tc te) (zO i)):=by
 intro f s σ H D I h;rw[exec_Assign_Name_used _ _ _ _ G];refine Vx (Xm (Vx ?_));show wpAny _ X.A (do let _<-comprehension (.ListComp elt [⟨E,iter,ifs,0⟩] scope pos) scope X.env _ (newList []) false (eval iter X.env) (some (assign (.Name y py) X.env))) _ _ s;refine Vx (WL (Zn (use:=some (assign (.Name y py) X.env)) (Q:=λ_ j=>SP X f D .next j) rfl hs (lM (S.has I.ok)) S.kind S.names
  (cv (hi f s σ H _ I h) λv s1 h1=>cv h1 λitv s2 h2=>?_)) (λ_ j hq=>VA (VA hq)) λ_ _ e=>e)
 obtain⟨it,k,tn,J,H2,e,I2,T,F,f2,hQ⟩:=h2;subst e;refine tF (Q:=λx H1=>zO i x σ H1 D.nx) (RR:=λacc C=>compPost (model X.prog X.w) X.A X.xe (some (assign (.Name y py) X.env)) (λ_ j=>SP X f D .next j) acc C) S hc hg M he I2 T F f2 hQ ?_;intro l C H' j hC t Z r U hm R hI q;obtain⟨m,hm⟩:=hm;show wpAny _ X.A (assign (.Name y py) X.env (.ref l)) _ _ j;refine wpAny_assign_Name (uW (v:=.ref l) R hN O (.inl hy) rfl (λs5 I5 P=>?_) (.inr hy));obtain⟨a,L,ha⟩:=P;have Y:C≠a:=by
  rcases ha with z | z
  ·rw[z];exact t
  ·exact(r _ _ z).symm
 refine⟨m,hm.sameBut L Y,λh'' p=>?_⟩;have I6:=I5.turned (t':=s5.toks) (h':=h'') (it:=C) (λb o hb e=>p.extBut b o hb e) hC t (.inr Z) r U;exact⟨_,H',I6,q⟩
def Sv(_ j:Int):Prop:=0 < j/\j<=10^40
def log2_small(h:n<=10^40):n.log2 < 9000:=by
 by_cases a:n=0
 ·rw[a];decide
 ·refine(Nat.log2_lt a).mpr (Wr h ?_);exact VX (show 10^40 < 2^200 by decide) (AaQ (by decide) (by decide))
def Hu:qr X (binaryOp .FloorDiv) (rI Sv λi j=>.int (i / j)):=SF λi j _ _ _ _ _ a q=>by
 have c:(0:Int) < j:=a.1;have b:j<=10^40:=a.2;exact floordiv_int (by lia) (by rw[Int.fdiv_eq_ediv_of_nonneg i (by lia)];exact q) (.inl (PyProof.noPylong_of_log2 (log2_small (by lia))))
mutual
inductive Ck(K:FR)(H:Hp):V->PyData->Prop where
 | bx:Ck K H .bx .none
 | bl (b:Bool):Ck K H (.bl b) (.bool b)
 | int (i:Int):Ck K H (.int i) (.int i)
 | str (x:Str):Ck K H (.str x) (.str x)
 | tup {a:Addr} {xs:List V} {ds:List PyData}:i5 K H a xs->tT K H xs ds->Ck K H (.ref a) (.tuple ds)
 | lst {a:Addr} {xs:List V} {ds:List PyData}:eL K H a xs->tT K H xs ds->Ck K H (.ref a) (.list ds)
inductive tT(K:FR)(H:Hp):List V->List PyData->Prop where
 | nil:tT K H [] []
 | cons {x:V} {xs:List V} {d:PyData} {ds:List PyData}:Ck K H x d->tT K H xs ds->tT K H (x::xs) (d::ds)
end
mutual
theorem Ck.reads(I:Inv X pins σ H s){x:V}{u:Value}{d:PyData}(z:Ck X.K H x d)(r:RelV x u):∃j,Reads s.heap u d j:=by
 cases z with
 | bx=>cases(show _=Value.none from r);exact⟨_,.none⟩
 | bl b=>cases(show _=Value.bool b from r);exact⟨_,.bool b⟩
 | int i=>obtain⟨t,e⟩:=(show ∃t,_=Value.int i t from r);cases e;exact⟨_,.int i t⟩
 | str x=>obtain⟨t,e⟩:=(show ∃t,_=Value.str x t from r);cases e;exact⟨_,.str x t⟩
 | tup c hl=>
  cases(show _=Value.ref _ from r);obtain⟨a,rv,⟨o,h,g,n,f⟩,_⟩:=I.tuple c;obtain⟨j,q⟩:=tT.reads I hl rv;exact⟨_,.tuple h g f (by simpa using q)⟩
 | lst c hl=>
  cases(show _=Value.ref _ from r);obtain⟨a,rv,pl,_⟩:=I.list c;obtain⟨o,h,g,n,f⟩:=pl.isList;obtain⟨j,q⟩:=tT.reads I hl rv;exact⟨_,.list h g f (by simpa using q)⟩
theorem tT.reads(I:Inv X pins σ H s){a:List V}{us:List Value}{b:List PyData}(z:tT X.K H a b)(v:Vals a us):∃c,ReadsAll s.heap us b c:=by
 cases z with
 | nil=>cases v;exact⟨_,.nil⟩
 | cons h t=>
  cases v with
  | cons r q=>
   obtain⟨c,p⟩:=Ck.reads I h r;obtain⟨bs,d⟩:=tT.reads I t q;exact⟨_,.cons p d⟩
end
def TV:V->Option Int->Option Int->Hp->VK->Prop:=λx a b H Q=>∃z,x=.str z/\z.length<=sizeLine/\Q (.str (Txt.slice z a b)) H
def MZ:PL X TV:=by
 intro b s w H x v G E p r J Q I y C pl n h;obtain⟨z,rfl,A,q⟩:=h;obtain⟨t,rfl⟩:=(show ∃t,v=Value.str z t from y);refine⟨"str",_,F.slot_str_getitem.lookup,typeIs_str _ _ _,?_⟩;obtain⟨o,e,d,c⟩:=C;have a:(Txt.slice z p r).length<=sizeLine/\∀g k,EP X b w Q (.str (Txt.slice z p r) g) {s with toks:=k}:=⟨VJ (Txt.slice_le z _ _) A,λg k=>⟨.str _,H,I.tok k,⟨g,rfl⟩,q⟩⟩;cases pl with
 | none=>
  cases n with
  | none=>exact YG (l:=none) (u:=none) (st:=none) ⟨o,e,d,c⟩ rfl (ZF a)
  | int j f=>exact YG (l:=none) (u:=some (j,f)) (st:=none) ⟨o,e,d,c⟩ rfl (ZF a)
 | int i m=>
  cases n with
  | none=>exact YG (l:=some (i,m)) (u:=none) (st:=none) ⟨o,e,d,c⟩ rfl (ZF a)
  | int j f=>exact YG (l:=some (i,m)) (u:=some (j,f)) (st:=none) ⟨o,e,d,c⟩ rfl (ZF a)
def IF:eX X (.builtin "isinstance") (λc H Q=>∃x n t b,c=[x,.ty n]/\ny X.K H x t/\PySem.W.kitOne X.K t (.type n)=some b/\Q (.bl b) H):=by
 intro d s j H c us Q I r h;obtain⟨x,n,t,b,rfl,ty,e,q⟩:=h;obtain⟨u,f,rfl,i,a⟩:=vals2 r;cases(show f=Value.type n from a);exact EU I i ty e λg=>⟨.bl b,H,I.tok g,rfl,q⟩
def iW:entryFor table "dict.update.loop"=some Builtin.«dict.update.loop»:=Aal (by ac_nf)
def df:plainId "dict.update.loop"=true:=by decide+kernel
def zy(a more:List (Key×V))(p:Key×V):bz a (more++[p])=putK (bz a more) p.1 p.2:=by
 unfold bz;rw[List.foldl_append];rfl
noncomputable def zE(out:List (Str×NameKind))(N c:List Str)(b:List (Option Nat))(a:Scope):Bool:=
 decide (a.kind=.function)&&a.names.all (λy=>decide (y.2≠.cell))&&a.names.all (λy=>!decide (y.2=.local)||decide (a.names.lookup y.1=some .local))&&
 a.names.all (λy=>!decide (y.2=.free)||decide (out.lookup y.1=some .cell)||decide (out.lookup y.1=some .free))&&decide (b.length=c.length)&&
 (List.range b.length).all (λj=>match b[j]?,c[j]? with
  | some (some i),some x=>decide (N[i]?=some x)&&decide (a.names.lookup x=some .free)
  | _,_=>true)&&decide c.Nodup
def aV(h:zE X.env.scope.names X.N p a scope=true):bg X p a scope:=by
 unfold zE at h;simp only[V1,Wz,Xd,Xl,Bool.not_eq_true',Aat] at h;obtain⟨⟨⟨⟨⟨⟨o,n⟩,m⟩,l⟩,k⟩,g⟩,f⟩:=h;refine⟨o,n,λy b e=>?_,λy b e=>?_,k,λj i x hj d=>?_,f⟩
 ·rcases m y b with z | z
  ·exact absurd e z
  ·exact z
 ·rcases l y b with(z | z) | z
  ·exact absurd e z
  ·exact .inl z
  ·exact .inr z
 ·have c:j < a.length:=(Vz.mp hj).1;have:=g j (WY.mpr c);rw[hj,d] at this;simp only[V1,Wz] at this;exact this
end L2
namespace L2
end L2
namespace L2
open PyProof.Rows
def nS:PyData.strOk x=true↔∀c∈x.cps,c < 0x110000:=by
 unfold PyData.strOk;rw[Array.all_eq_true_iff_forall_mem];simp
def Ea(g:PyData.strOk a=true)(f:PyData.strOk b=true):PyData.strOk (a++b)=true:=by
 rw[nS] at*;intro c e;have d:c∈a.cps++b.cps:=e;rcases Array.mem_append.mp d with z | z
 ·exact g c z
 ·exact f c z
def yt(l u:Option Int)(h:PyData.strOk x=true):PyData.strOk (Txt.slice x l u)=true:=by
 unfold Txt.slice
 split
 ·exact h
 ·rw[nS] at*;intro c b;have a:c∈(List.filterMap (x.cps[·]?) (Builtin.Str.strSliceIndices l u 1 x.length)).toArray:=b;rw[List.mem_toArray] at a;obtain⟨i,_,e⟩:=YU.mp a;exact h c (Zo e)
def D9(h:PyData.strOk z=true)(a:fq z.cps.toList i=some c):PyData.strOk (⟨#[c]⟩:Str)=true:=by
 rw[nS] at*;intro d hd;have e:d=c:=by simpa using hd
 subst e;obtain⟨j,_,hj,_⟩:=qO a;exact h d (by have:=VC hj;simpa using this)
def entry_all_loop:entryFor table "all.loop"=some Builtin.«all.loop»:=Aal (by ac_nf)
def plain_all_loop:plainId "all.loop"=true:=by decide+kernel
def I0{A:Around}{a:List (Addr×Obj)}{σ:St}{H:Hp}{p it:Addr}{bs:List Bool}{R:Result->Shared->Prop}(F:A.handled=none)(hp:eL X.K H p (bs.map V.bl))
  (hit:it≠X.env.locals/\(it∈X.ex\/X.s₀.heap.objs.size<=it)/\(∀x c,X.env.cells.lookup x=some c->c≠it)/\∀q∈X.pn++a,q.1≠it) (g:H it=none)
  (h:∀t,Inv X a σ H t->R (.ok (.ret (.bool (bs.all id)))) t):∀(n i:Nat)(s:Shared),bs.length-i=n->i<=bs.length->(bs.take i).all id=true->s.heap.IsListIter it p i->Inv X a σ H s->
   codeAny (model X.prog X.w) A (.builtin "all.loop" ⟨[.ref it],[]⟩) R s:=by
 intro n
 induction n with
 | zero=>
  intro i s hn E ht st I;have G:i=bs.length:=by lia
  refine Xw entry_all_loop ?_;rw[WX plain_all_loop _];obtain⟨l,rv,pl,z⟩:=I.list hp;have r:=rv.length;rw[Vy] at r;show wpAny _ _ (pyNext (.ref it) >>=_) _ _ s;refine Vx (ZG F st pl.isList (by simp;lia) λh' J=>?_);have j:=I.turned (t':=s.toks) (h':=h') (it:=it) (λb o f e=>J b o f e) g hit.1 hit.2.1 hit.2.2.1 hit.2.2.2;refine Vx (Xe (VA ?_));rw[G,Wq] at ht;have:=h _ j;rw[ht] at this;exact this
 | succ n y=>
  intro i s hn E ht st I;have d:i < bs.length:=by lia
  refine Xw entry_all_loop ?_;rw[WX plain_all_loop _];obtain⟨l,rv,pl,z⟩:=I.list hp;have m:(bs.map V.bl)[i]?=some (.bl bs[i]):=by rw[VN,VI d];rfl
  obtain⟨u,C,v⟩:=rv.get m;cases(show u=Value.bool bs[i] from v);show wpAny _ _ (pyNext (.ref it) >>=_) _ _ s;refine Vx (ZC st pl.isList (x:=.bool bs[i]) (by simpa using C) λh' k sb=>?_);have j:=I.turned (t':=s.toks) (h':=h') (it:=it) (λb o f e=>(sb.2 b f).trans e) g hit.1 hit.2.1 hit.2.2.1 hit.2.2.2;dsimp only;refine Vx (Wh (XW ?_));refine Vx (Zi ?_)
  by_cases f:bs[i]=true
  ·rw[VE f];refine VA ⟨XX plain_all_loop _,y (i+1) _ (by lia) d ?_ k j⟩;rw[W0,VI d,List.all_append,ht,f];rfl
  ·rw[VH f];refine Vx (Xe (VA ?_));have:=h _ j;have e:bs.all id=false:=by
    rw[List.all_eq_false];exact⟨bs[i],YI d,by simpa using f⟩
   rw[e] at this;exact this
def IH(g:X.calm=true):eX X (.builtin "all") (λc H Q=>∃(p:Addr)(bs:List Bool),c=[.ref p]/\eL X.K H p (bs.map V.bl)/\Q (.bl (bs.all id)) H):=by
 intro a s σ H c us Q I r h;obtain⟨p,bs,rfl,hp,q⟩:=h;obtain⟨u,rfl,d⟩:=vals1 r;cases(show u=Value.ref p from d);have i:X.A.handled=none:=I.ok.hd g;obtain⟨f,rv,pl,w⟩:=I.list hp;refine call_function_tree F.kind_all F.plain_all F.entry_all (F.args_all1 _) ?_;unfold Builtin.«all»;show wpAny _ _ (pyIter (.ref p) >>=_) _ _ s;refine Vx (YL pl.isList ?_);have n:Inv X a σ H {s with heap:=s.heap.push {cls:=.type "list_iterator",data:=.fields #[.ref p,.int 0 0]}}:=I.kept (t':=s.toks) λb o e=>VB _ e;obtain⟨f0,m,x,l,k,j⟩:=I.sY (b:=s.heap.objs.size) (H':=H) (VG _) (I.aZ.fresh (VG _));refine VA ⟨XX plain_all_loop _,?_⟩;exact I0 (X:=X) (σ:=σ) (H:=H) (by exact i) hp ⟨m,l,k,j⟩ f0 (λv t=>⟨.bl _,H,t,rfl,q⟩) bs.length 0 _ (by simp) (Wm _) rfl ⟨_,VR _ rfl,rfl,rfl⟩ n
def entry_any_loop:entryFor table "any.loop"=some Builtin.«any.loop»:=Aal (by ac_nf)
def plain_any_loop:plainId "any.loop"=true:=by decide+kernel
def IY{A:Around}{a:List (Addr×Obj)}{σ:St}{H:Hp}{p it:Addr}{bs:List Bool}{R:Result->Shared->Prop}(G:A.handled=none)(hp:eL X.K H p (bs.map V.bl))
  (hit:it≠X.env.locals/\(it∈X.ex\/X.s₀.heap.objs.size<=it)/\(∀x c,X.env.cells.lookup x=some c->c≠it)/\∀q∈X.pn++a,q.1≠it) (g:H it=none)
  (h:∀v,Inv X a σ H v->R (.ok (.ret (.bool (bs.any id)))) v):∀(n i:Nat)(s:Shared),bs.length-i=n->i<=bs.length->(bs.take i).any id=false->s.heap.IsListIter it p i->Inv X a σ H s->
   codeAny (model X.prog X.w) A (.builtin "any.loop" ⟨[.ref it],[]⟩) R s:=by
 intro n
 induction n with
 | zero=>
  intro i s hn F ht st I;have J:i=bs.length:=by lia
  refine Xw entry_any_loop ?_;rw[WX plain_any_loop _];obtain⟨l,rv,pl,C⟩:=I.list hp;have r:=rv.length;rw[Vy] at r;show wpAny _ _ (pyNext (.ref it) >>=_) _ _ s;refine Vx (ZG G st pl.isList (by simp;lia) λh' L=>?_);have j:=I.turned (t':=s.toks) (h':=h') (it:=it) (λb o f e=>L b o f e) g hit.1 hit.2.1 hit.2.2.1 hit.2.2.2;refine Vx (Xe (VA ?_));rw[J,Wq] at ht;have:=h _ j;rw[ht] at this;exact this
 | succ n z=>
  intro i s hn F ht st I;have d:i < bs.length:=by lia
  refine Xw entry_any_loop ?_;rw[WX plain_any_loop _];obtain⟨l,rv,pl,C⟩:=I.list hp;have m:(bs.map V.bl)[i]?=some (.bl bs[i]):=by rw[VN,VI d];rfl
  obtain⟨u,E,y⟩:=rv.get m;cases(show u=Value.bool bs[i] from y);show wpAny _ _ (pyNext (.ref it) >>=_) _ _ s;refine Vx (ZC st pl.isList (x:=.bool bs[i]) (by simpa using E) λh' k sb=>?_);have j:=I.turned (t':=s.toks) (h':=h') (it:=it) (λb o f e=>(sb.2 b f).trans e) g hit.1 hit.2.1 hit.2.2.1 hit.2.2.2;dsimp only;refine Vx (Wh (XW ?_));refine Vx (Zi ?_)
  by_cases f:bs[i]=true
  ·rw[VE f];refine Vx (Xe (VA ?_));have:=h _ j;have e:bs.any id=true:=by
    rw[YJ];exact⟨bs[i],YI d,f⟩
   rw[e] at this;exact this
  ·rw[VH f];refine VA ⟨XX plain_any_loop _,z (i+1) _ (by lia) d ?_ k j⟩;rw[W0,VI d,List.any_append,ht];have t:bs[i]=false:=by simpa using f
   rw[t];rfl
def IG(g:X.calm=true):eX X (.builtin "any") (λc H Q=>∃(p:Addr)(bs:List Bool),c=[.ref p]/\eL X.K H p (bs.map V.bl)/\Q (.bl (bs.any id)) H):=by
 intro a s σ H c us Q I r h;obtain⟨p,bs,rfl,hp,q⟩:=h;obtain⟨u,rfl,d⟩:=vals1 r;cases(show u=Value.ref p from d);have i:X.A.handled=none:=I.ok.hd g;obtain⟨f,rv,pl,w⟩:=I.list hp;refine call_function_tree F.kind_any F.plain_any F.entry_any (F.args_any1 _) ?_;unfold Builtin.«any»;show wpAny _ _ (pyIter (.ref p) >>=_) _ _ s;refine Vx (YL pl.isList ?_);have n:Inv X a σ H {s with heap:=s.heap.push {cls:=.type "list_iterator",data:=.fields #[.ref p,.int 0 0]}}:=I.kept (t':=s.toks) λb o e=>VB _ e;obtain⟨f0,m,x,l,k,j⟩:=I.sY (b:=s.heap.objs.size) (H':=H) (VG _) (I.aZ.fresh (VG _));refine VA ⟨XX plain_any_loop _,?_⟩;exact IY (X:=X) (σ:=σ) (H:=H) (by exact i) hp ⟨m,l,k,j⟩ f0 (λv t=>⟨.bl _,H,t,rfl,q⟩) bs.length 0 _ (by simp) (Wm _) rfl ⟨_,VR _ rfl,rfl,rfl⟩ n
end L2
namespace L2
open PyProof.Rows PySem.SeqAt
noncomputable def bQ:Nat->PyData->Bool
 | _,.int _=>true
 | _,.str x=>PyData.strOk x
 | n+1,.tuple xs=>xs.all (bQ n)
 | _,_=>false
def cS(w:World):Nat->PyData->Int
 | _,.int i=>OI w (.inl i)
 | _,.str x=>OI w (.inr x)
 | n+1,.tuple xs=>reduceHash (Builtin.Tuple.tupleHashOf (xs.map (cS w n)))
 | _,_=>0
def dC(a:Addr)(us:List (Addr×V))(c:List PyData):World->Heap->Prop:=λw h=>us.length<=sizeLine/\(a==sysModules)=false/\c.all (bQ 8)=true/\c.Nodup/\
 ∃b:List (PyData×Addr×Value),Paired (λ(u:Addr×V)(y:PyData×Addr×Value)=>u.1=y.2.1/\RelV u.2 y.2.2) us b/\b.map (·.1)=c/\
 ∃o es d,h.get? a=some o/\o.ExactDict/\o.data=.dict es d/\es.toList=b.map λy=>⟨cS w 8 y.1,.ref y.2.1,y.2.2⟩
end L2
namespace Sm
open L2
inductive D where
 | bx | bl (b:Bool) | int (i:Int) | str (x:Str) | ty (n:String)
 | tup (xs:List D) | lv (xs:List D) | ro (xs:List D) | dv (kvs:List (Key×D)) | ob (n:Nat)
inductive MO where
 | lst (xs:List D) | dct (kvs:List (Key×D)) | dcH (kvs:List (D×D))
abbrev MH:=List MO
mutual
noncomputable def jm:D->Option PyData
 | .bx=>some .none
 | .bl b=>some (.bool b)
 | .int i=>some (.int i)
 | .str x=>some (.str x)
 | .tup xs=>(gc xs).map .tuple
 | .lv xs=>(gc xs).map .list
 | .ro xs=>(gc xs).map .list
 | _=>none
noncomputable def gc:List D->Option (List PyData)
 | []=>some []
 | x::r=>(jm x).bind λa=>(gc r).map λb=>a::b
end
abbrev DS:=List (Option D)
abbrev U1:Hp:=λ_=>none
structure Ad where
 ob:List Addr
 rs:List Addr
def Ad.has(b:Ad)(a:Addr):Prop:=a∈b.ob\/a∈b.rs
def TupAt(K:FR)(c:Ad)(H:Hp)(a:Addr)(b:List V):Prop:=(Rd H a (.tup b)/\¬c.has a)\/i5 K U1 a b
def PU(K:FR)(c:Ad)(H:Hp)(a:Addr)(b:List V):Prop:=(Rd H a (.lst b)/\¬c.has a)\/eL K U1 a b
mutual
inductive Rep(K:FR)(ρ:Ad)(H:Hp):V->D->Prop where
 | bx:Rep K ρ H .bx .bx
 | bl (b:Bool):Rep K ρ H (.bl b) (.bl b)
 | int (i:Int):Rep K ρ H (.int i) (.int i)
 | str {x:Str} (h:PyData.strOk x=true):Rep K ρ H (.str x) (.str x)
 | ty (n:String):Rep K ρ H (.ty n) (.ty n)
 | tup {a:Addr} {vs:List V} {ds:List D}:TupAt K ρ H a vs->aw K ρ H vs ds->Rep K ρ H (.ref a) (.tup ds)
 | lv {a:Addr} {vs:List V} {ds:List D}:H a=some (.lst vs)->¬ρ.has a->aw K ρ H vs ds->Rep K ρ H (.ref a) (.lv ds)
 | ro {a:Addr} {vs:List V} {ds:List D}:PU K ρ H a vs->aw K ρ H vs ds->Rep K ρ H (.ref a) (.ro ds)
 | dv {a:Addr} {us:List (Key×V)} {kvs:List (Key×D)}:H a=some (.dK us)->¬ρ.has a->bq K ρ H us kvs->Rep K ρ H (.ref a) (.dv kvs)
 | ob {a:Addr} {n:Nat}:ρ.ob[n]?=some a->Rep K ρ H (.ref a) (.ob n)
inductive aw(K:FR)(ρ:Ad)(H:Hp):List V->List D->Prop where
 | nil:aw K ρ H [] []
 | cons {v:V} {vs:List V} {d:D} {ds:List D}:Rep K ρ H v d->aw K ρ H vs ds->aw K ρ H (v::vs) (d::ds)
inductive bq(K:FR)(ρ:Ad)(H:Hp):List (Key×V)->List (Key×D)->Prop where
 | nil:bq K ρ H [] []
 | cons {k:Key} {v:V} {vs:List (Key×V)} {d:D} {ds:List (Key×D)}:Rep K ρ H v d->bq K ρ H vs ds->bq K ρ H ((k,v)::vs) ((k,d)::ds)
end
structure Ch(ρ:Ad)(H:Hp)(ρ':Ad)(H':Hp):Prop where
 pre:∀(n:Nat) a,ρ.ob[n]?=some a->ρ'.ob[n]?=some a
 old:∀b o,¬ρ.has b->H b=some o->¬ρ'.has b/\H' b=some o
def Ch.refl(a:Ad)(H:Hp):Ch a H a H:=⟨λ_ _ e=>e,λ_ _ n e=>⟨n,e⟩⟩
def Ch.trans(a:Ch f H d H1)(b:Ch d H1 c i):Ch f H c i:=
 ⟨λn x e=>b.pre n x (a.pre n x e),λx o n e=>let⟨g,h⟩:=a.old x o n e;b.old x o g h⟩
structure cm(ρ:Ad)(H:Hp)(ρ':Ad)(H':Hp):Prop extends Ch ρ H ρ' H' where
 rs:ρ'.rs=ρ.rs
 res:∀b∈ρ.rs,H' b=H b
theorem cm.refl(a:Ad)(H:Hp):cm a H a H:=⟨.refl _ _,rfl,λ_ _=>rfl⟩
theorem cm.trans(a:cm f H d H1)(b:cm d H1 c g):cm f H c g:=
 ⟨a.toCh.trans b.toCh,b.rs.trans a.rs,λx e=>(b.res x (by rw[a.rs];exact e)).trans (a.res x e)⟩
instance {ρ ρ':Ad} {H H':Hp}:CoeOut (cm ρ H ρ' H') (Ch ρ H ρ' H'):=⟨cm.toCh⟩
def Ch.rd(S:Ch c H b d)(h:Rd H a u)(n:¬c.has a):Rd d a u/\¬b.has a:=by
 rcases h with h |⟨o,h⟩
 ·obtain⟨q,e⟩:=S.old a _ n h;exact⟨.inl e,q⟩
 ·obtain⟨q,e⟩:=S.old a _ n h;exact⟨.inr ⟨o,e⟩,q⟩
mutual
theorem Rep.mono(S:Ch j H c k){v:V}{d:D}(r:Rep K j H v d):Rep K c k v d:=by
 cases r with
 | bx=>exact .bx
 | bl b=>exact .bl b
 | int i=>exact .int i
 | str x=>exact .str x
 | ty n=>exact .ty n
 | tup h l=>exact .tup (h.elim (λ⟨a,n⟩=>.inl (S.rd a n)) .inr) (aw.mono S l)
 | lv h n l=>have ⟨f,g⟩:=S.old _ _ n h;exact .lv g f (aw.mono S l)
 | ro h l=>exact .ro (h.elim (λ⟨a,n⟩=>.inl (S.rd a n)) .inr) (aw.mono S l)
 | dv h n l=>have ⟨f,g⟩:=S.old _ _ n h;exact .dv g f (bq.mono S l)
 | ob e=>exact .ob (S.pre _ _ e)
theorem aw.mono(S:Ch d H a e){b:List V}{c:List D}(r:aw K d H b c):aw K a e b c:=by
 cases r with
 | nil=>exact .nil
 | cons h t=>exact .cons (Rep.mono S h) (aw.mono S t)
theorem bq.mono(S:Ch d H a e){b:List (Key×V)}{c:List (Key×D)}(r:bq K d H b c):bq K a e b c:=by
 cases r with
 | nil=>exact .nil
 | cons h t=>exact .cons (Rep.mono S h) (bq.mono S t)
end
theorem aw.length:∀{b:List V} {c:List D},aw K e H b c->b.length=c.length:=by
 intro b
 induction b with
 | nil=>intro c a;cases a;rfl
 | cons v b d=>intro c a;cases a with | cons _ t=>rw[VU,VU,d t]
def aw.got:∀{a:List V} {b:List D} {i:Nat} {d:D},aw K c H a b->b[i]?=some d->∃v,a[i]?=some v/\Rep K c H v d
 :=by
 intro a
 induction a with
 | nil=>intro b i d r e;cases r;cases e
 | cons v a f=>
  intro b i d r e;cases r with | cons r t=>
  cases i with
  | zero=>cases e;exact⟨_,rfl,r⟩
  | succ i=>exact f t (i:=i) e
def aw.append:∀{b d:List V} {c es:List D},aw K e H b c->aw K e H d es->aw K e H (b++d) (c++es):=by
 intro b d
 induction b with
 | nil=>intro c es a s;cases a;exact s
 | cons v b f=>intro c es a s;cases a with | cons r t=>exact .cons r (f t s)
theorem aw.take:∀{a:List V} {b:List D} (n:Nat),aw K c H a b->aw K c H (a.take n) (b.take n)
 :=by
 intro a
 induction a with
 | nil=>intro b n q;cases q;cases n <;> exact .nil
 | cons u a d=>
  intro b n q;cases q with | cons r t=>
  cases n with
  | zero=>exact .nil
  | succ n=>exact .cons r (d n t)
theorem aw.drop:∀{a:List V} {b:List D} (n:Nat),aw K c H a b->aw K c H (a.drop n) (b.drop n)
 | _,_,0,r=>r
 | _,_,_+1,.nil=>.nil
 | _,_,n+1,.cons _ t=>aw.drop n t
theorem aw.set(r:Rep K c H v d):∀{a:List V} {b:List D} (i:Nat),aw K c H a b->aw K c H (a.set i v) (b.set i d)
 :=by
 intro a
 induction a with
 | nil=>intro b i q;cases q;exact .nil
 | cons u a e=>
  intro b i q;cases q with | cons q t=>
  cases i with
  | zero=>exact .cons r t
  | succ i=>exact .cons q (e i t)
def aw.snoc(t:aw K a H b ds)(r:Rep K a H v d):aw K a H (b++[v]) (ds++[d]):=t.append (.cons r .nil)
theorem aw.dropLast:∀{b:List V} {c:List D},aw K d H b c->aw K d H b.dropLast c.dropLast:=by
 intro b
 induction b with
 | nil=>intro c a;cases a;exact .nil
 | cons v b e=>intro c a;cases a with | cons r t=>cases t with
  | nil=>exact .nil
  | cons q t=>exact .cons r (e (.cons q t))
theorem aw.isEmpty(t:aw K b H a ds):a.isEmpty=ds.isEmpty:=by cases t <;> rfl
def TupAt.sq(h:TupAt K c H a b):i5 K H a b:=by
 rcases h with⟨h,_⟩ | h
 ·exact .inl h
 ·rcases h with(h |⟨o,h⟩) | h
  ·cases h
  ·cases h
  ·exact .inr h
def PU.sq(h:PU K c H a b):eL K H a b:=by
 rcases h with⟨h,_⟩ | h
 ·exact .inl h
 ·rcases h with(h |⟨o,h⟩) | h
  ·cases h
  ·cases h
  ·exact .inr h
def Az(K:FR)(c:Ad)(H:Hp)(a:Addr):MO->Prop
 | .lst ds=>∃d,H a=some (.lst d)/\aw K c H d ds
 | .dct b=>∃us,H a=some (.dK us)/\bq K c H us b
 | .dcH b=>∃us e,H a=some (.lI (dC a us e))/\aw K c H (us.map λu=>V.ref u.1) (b.map (·.1))/\aw K c H (us.map (·.2)) (b.map (·.2))/\gc (b.map (·.1))=some e
structure bC(K:FR)(ρ:Ad)(h:MH)(H:Hp):Prop where
 len:ρ.ob.length=h.length
 nd:ρ.ob.Nodup
 at_:∀(n:Nat) a o,ρ.ob[n]?=some a->h[n]?=some o->Az K ρ H a o
 qy:∀b∈ρ.rs,(∃o,H b=some o)/\b∉ρ.ob
def Az.has(x:Az K c H a o):∃u,H a=some u:=by
 cases o with
 | lst ds=>obtain⟨b,e,_⟩:=x;exact⟨_,e⟩
 | dct ds=>obtain⟨b,e,_⟩:=x;exact⟨_,e⟩
 | dcH ds=>obtain⟨b,_,e,_⟩:=x;exact⟨_,e⟩
theorem Az.mono(x:Az K f H a o)(T:Ch f H b d)(e:d a=H a):Az K b d a o:=by
 cases o with
 | lst ds=>obtain⟨c,x,r⟩:=x;exact⟨c,e.trans x,r.mono T⟩
 | dct ds=>obtain⟨c,x,r⟩:=x;exact⟨c,e.trans x,r.mono T⟩
 | dcH ds=>obtain⟨us,h,x,r,g,p⟩:=x;exact⟨us,h,e.trans x,r.mono T,g.mono T,p⟩
def bC.mem(S:bC K c h H)(f:a∈c.ob):∃(n:Nat)(o:MO),c.ob[n]?=some a/\h[n]?=some o/\Az K c H a o:=by
 obtain⟨n,hn,e⟩:=List.mem_iff_getElem.mp f;have b:n < h.length:=by rw[<-S.len];exact hn
 have d:c.ob[n]?=some a:=by rw[VI hn,e]
 exact⟨n,h[n],d,VI b,S.at_ n a _ d (VI b)⟩
theorem bC.has(S:bC K c h H)(b:c.has a):∃u,H a=some u:=by
 rcases b with b | b
 ·obtain⟨_,_,_,_,x⟩:=S.mem b;exact x.has
 ·exact(S.qy a b).1
def bC.fresh(S:bC K a h H)(hp:H p=none):¬a.has p:=λm=>by
 obtain⟨u,e⟩:=S.has m;rw[hp] at e;cases e
def cm.laid(S:bC K a h H)(hp:H p=none):cm a H a (upd H p o):=
 ⟨⟨λ_ _ e=>e,λb u n e=>⟨n,by rw[ao (aO e hp)];exact e⟩⟩,rfl,λb c=>by
  obtain⟨u,e⟩:=(S.qy b c).1;rw[ao (aO e hp)]⟩
def bC.same(S:bC K c h H)(T:cm c H c f)(k:∀a∈c.ob,f a=H a):bC K c h f:=
 ⟨S.len,S.nd,λn a o e g=>(S.at_ n a o e g).mono T.toCh (k a (VC e)),λb d=>⟨by rw[T.res b d];exact(S.qy b d).1,(S.qy b d).2⟩⟩
theorem bC.laid(S:bC K b h H)(hp:H p=none):bC K b h (upd H p o):=
 S.same (cm.laid S hp) λa c=>by
  obtain⟨u,e⟩:=S.has (.inl c);rw[ao (aO e hp)]
abbrev Ad.more(ρ:Ad)(p:Addr):Ad:=⟨ρ.ob++[p],ρ.rs⟩
def cm.made(S:bC K c h H)(hp:H p=none):cm c H (c.more p) (upd H p o):=by
 refine⟨⟨λn a e=>?_,λb u n e=>?_⟩,rfl,(cm.laid S hp).res⟩
 ·show(c.ob++[p])[n]?=_;rw[VW (Vz.mp e).1];exact e
 ·refine⟨λm=>?_,by rw[ao (aO e hp)];exact e⟩;rcases m with m | m
  ·rcases Wk.mp m with m | m
   ·exact n (.inl m)
   ·exact aO e hp (VQ.mp m)
  ·exact n (.inr m)
theorem bC.made(S:bC K d h H)(hp:H p=none)(k:Az K (d.more p) (upd H p u) p o):bC K (d.more p) (h++[o]) (upd H p u):=by
 refine⟨by simp[S.len],?_,λn a x c f=>?_,λb i=>?_⟩
 ·show(d.ob++[p]).Nodup;rw[Y0];refine⟨S.nd,by simp,λa l b i z=>?_⟩;rw[VQ.mp i] at z;exact S.fresh hp (.inl (z ▸ l))
 ·by_cases hn:n < d.ob.length
  ·have c:(d.ob++[p])[n]?=some a:=c;rw[VW hn] at c;rw[VW (by rw[<-S.len];exact hn)] at f;have q:=S.at_ n a x c f;obtain⟨w,r⟩:=q.has;exact q.mono (cm.made S hp).toCh (ao (aO r hp))
  ·have j:=(Vz.mp c).1;simp at j;have g:n=d.ob.length:=by lia
   subst g;have c:(d.ob++[p])[d.ob.length]?=some a:=c;rw[VY (VG _)] at c;rw[VY (by rw[S.len];exact VG _)] at f;simp at c;rw[S.len] at f;simp at f;subst c;subst f;exact k
 ·obtain⟨⟨v,e⟩,n⟩:=S.qy b i;have z:=aO e hp;refine⟨⟨v,by rw[ao z];exact e⟩,λm=>?_⟩;rcases Wk.mp m with m | m
  ·exact n m
  ·exact z (VQ.mp m)
def cm.wrote(S:bC K c h H)(d:a∈c.ob):cm c H c (upd H a o):=
 ⟨⟨λ_ _ e=>e,λb u n e=>⟨n,by rw[ao (λ(z:b=a)=>n (.inl (by rw[z];exact d)))];exact e⟩⟩,rfl,λb f=>ao λ(z:b=a)=>(S.qy b f).2 (by rw[z];exact d)⟩
theorem bC.wrote(S:bC K c h H)(e:c.ob[n]?=some a)(j:Az K c (upd H a u) a o):bC K c (h.set n o) (upd H a u):=by
 have k:=VC e;have T:cm c H c (upd H a u):=cm.wrote S k;refine⟨by rw[Xz];exact S.len,S.nd,λm b x g f=>?_,λb d=>⟨by rw[T.res b d];exact(S.qy b d).1,(S.qy b d).2⟩⟩
 by_cases hm:n=m
 ·subst hm;have i:n < h.length:=by rw[<-S.len];exact(Vz.mp e).1
  rw[e] at g;cases g;rw[Wy i] at f;cases f;exact j
 ·rw[Wn hm] at f;have q:=S.at_ m b x g f;have d:b≠a:=by
   intro z;subst z;exact hm ((ZW (Vz.mp e).1 S.nd).mp (e.trans g.symm))
  exact q.mono T.toCh (ao d)
abbrev Ad.keep(ρ:Ad)(l:Addr):Ad:=⟨ρ.ob,l::ρ.rs⟩
theorem Ch.keep(hl:H l=none):Ch c H (c.keep l) (upd H l o):=by
 refine⟨λn a e=>e,λb u n e=>⟨λm=>?_,by rw[ao (aO e hl)];exact e⟩⟩;rcases m with m | m
 ·exact n (.inl m)
 ·rcases VS.mp m with m | m
  ·exact aO e hl m
  ·exact n (.inr m)
theorem bC.keep(S:bC K d h H)(hl:H l=none):bC K (d.keep l) h (upd H l o):=by
 refine⟨S.len,S.nd,λn a x i g=>?_,λb c=>?_⟩
 ·have q:=S.at_ n a x i g;obtain⟨w,f⟩:=q.has;exact q.mono (Ch.keep hl) (ao (aO f hl))
 ·rcases VS.mp c with rfl | c
  ·exact⟨⟨_,aC⟩,λm=>S.fresh hl (.inl m)⟩
  ·obtain⟨⟨v,e⟩,n⟩:=S.qy b c;exact⟨⟨v,by rw[ao (aO e hl)];exact e⟩,n⟩
def Ch.put(hl:l∈c.rs):Ch c H c (upd H l o):=⟨λn a e=>e,λb u n e=>⟨n,by rw[ao (λ(z:b=l)=>n (.inr (by rw[z];exact hl)))];exact e⟩⟩
theorem bC.put(S:bC K c h H)(hl:l∈c.rs):bC K c h (upd H l o):=by
 refine⟨S.len,S.nd,λn a x e f=>(S.at_ n a x e f).mono (Ch.put hl) (ao λ(z:a=l)=>(S.qy l hl).2 (by rw[<-z];exact VC e)),λb d=>⟨?_,(S.qy b d).2⟩⟩
 by_cases z:b=l
 ·subst z;exact⟨_,aC⟩
 ·rw[ao z];exact(S.qy b d).1
def Ch.free{os rs c:List Addr}{H:Hp}(d:∀b∈c,b∈rs):Ch ⟨os,rs⟩ H ⟨os,c⟩ H:=⟨λn a e=>e,λb u n e=>⟨λm=>n (m.elim .inl λm=>.inr (d b m)),e⟩⟩
theorem bC.free{os rs c:List Addr}{H:Hp}(S:bC K ⟨os,rs⟩ h H)(d:∀b∈c,b∈rs):bC K ⟨os,c⟩ h H:=
 ⟨S.len,S.nd,λn a x g f=>(S.at_ n a x g f).mono (Ch.free d) rfl,λb e=>S.qy b (d b e)⟩
structure bT(K:FR)(ρ:Ad)(H:Hp)(σ:St)(δ:DS):Prop where
 len:σ.length=δ.length
 at_:∀(i:Nat) d,δ[i]?=some (some d)->∃v,σ[i]?=some (some v)/\Rep K ρ H v d
theorem bT.mono(R:bT K f H σ g)(S:Ch f H c h):bT K c h σ g:=⟨R.len,λi d e=>let⟨v,a,b⟩:=R.at_ i d e;⟨v,a,b.mono S⟩⟩
theorem bT.set(R:bT K c H σ f)(r:Rep K c H v d)(i:Nat):bT K c H (σ.set i (some v)) (f.set i (some d)):=by
 refine⟨by rw[Xz,Xz];exact R.len,λj e b=>?_⟩
 by_cases a:i=j
 ·subst a;have hl:i < f.length:=by
   have:=(Vz.mp b).1;rw[Xz] at this;exact this
  rw[Wy hl] at b;cases b;exact⟨v,by rw[Wy (by rw[R.len];exact hl)],r⟩
 ·rw[Wn a] at b ⊢;exact R.at_ j e b
abbrev EM:=DS->MH->Option (D×MH)
abbrev TM:=DS->MH->Option (Bool×MH)
abbrev AM:=DS->MH->Option (List D×MH)
inductive Fl where
 | nx | bk | ct | rt (d:D)
abbrev SM:=DS->MH->Option (Fl×DS×MH)
abbrev GM:=D->DS->MH->Option (DS×MH)
abbrev Fn:=List D->MH->Option (D×MH)
inductive Mu(K:FR)(ρ:Ad)(H:Hp)(h':MH)(d:D)(v:V)(H':Hp):Prop where
 | mk (ρ'):cm ρ H ρ' H'->bC K ρ' h' H'->Rep K ρ' H' v d->Mu K ρ H h' d v H'
noncomputable def dB(K:FR)(a:Ad)(H:Hp)(b:MH)(d:D):VK:=λv c=>Mu K a H b d v c
inductive U5(K:FR)(m:EM)(σ:L2.St)(H:Hp)(Q:VK):Prop where
 | mk (ρ δ h d h'):bT K ρ H σ δ->bC K ρ h H->(m δ h=some (d,h'))->(∀v H',dB K ρ H h' d v H'->Q v H')->U5 K m σ H Q
def tM(K:FR)(m:EM):TE:=λa H Q=>U5 K m a H Q
inductive R8(K:FR)(m:TM)(σ:L2.St)(H:Hp)(Q:Bool->Hp->Prop):Prop where
 | mk (ρ δ h b h'):bT K ρ H σ δ->bC K ρ h H->(m δ h=some (b,h'))->(∀ρ' H',cm ρ H ρ' H'->bC K ρ' h' H'->Q b H')->R8 K m σ H Q
def yq(K:FR)(m:TM):TT:=λa H Q=>R8 K m a H Q
inductive Sg(K:FR)(m:AM)(σ:L2.St)(H:Hp)(Q:List V->Hp->Prop):Prop where
 | mk (ρ δ h ds h'):bT K ρ H σ δ->bC K ρ h H->(m δ h=some (ds,h'))->(∀vs ρ' H',cm ρ H ρ' H'->bC K ρ' h' H'->aw K ρ' H' vs ds->Q vs H')->Sg K m σ H Q
def U0(K:FR)(m:AM):TA:=λa H Q=>Sg K m a H Q
inductive R9(K:FR)(m:SM)(E:Ends)(σ:L2.St)(H:Hp):Prop where
 | mk (ρ δ h fl δ' h'):bT K ρ H σ δ->bC K ρ h H->(m δ h=some (fl,δ',h'))->(∀ρ' H',cm ρ H ρ' H'->bC K ρ' h' H'->
 match fl with
 | .nx=>∀σ',bT K ρ' H' σ' δ'->E.nx σ' H'
 | .bk=>∀σ',bT K ρ' H' σ' δ'->E.bk σ' H'
 | .ct=>∀σ',bT K ρ' H' σ' δ'->E.ct σ' H'
 | .rt d=>∀v,Rep K ρ' H' v d->E.rt v H')->R9 K m E σ H
def Jg(K:FR)(m:SM):TS:=λE a H=>R9 K m E a H
inductive Sf(K:FR)(m:GM)(v:V)(σ:L2.St)(H:Hp)(Q:L2.St->Hp->Prop):Prop where
 | mk (ρ δ h d δ' h'):bT K ρ H σ δ->bC K ρ h H->Rep K ρ H v d->(m d δ h=some (δ',h'))->(∀ρ' H' σ',cm ρ H ρ' H'->bC K ρ' h' H'->bT K ρ' H' σ' δ'->Q σ' H')->Sf K m v σ H Q
def AI(K:FR)(m:GM):TG:=λv a H Q=>Sf K m v a H Q
def SE(X:Cx)(e:Expr)(m:EM):Prop:=PE X e (tM X.K m)
def ST(X:Cx)(e:Expr)(m:TM):Prop:=PT X e (yq X.K m)
def SW(X:Cx)(e:Expr)(m:TM):Prop:=PW X e (yq X.K m)
def SA(X:Cx)(es:List Expr)(m:AM):Prop:=PA X es (U0 X.K m)
def SS(X:Cx)(s:Stmt)(m:SM):Prop:=PS X s (Jg X.K m)
def Jm(X:Cx)(s:List Stmt)(m:SM):Prop:=Au X s (Jg X.K m)
def SG(X:Cx)(e:Expr)(m:GM):Prop:=PG X e (AI X.K m)
def _root_.L2.PE.imp(h:PE X e t)(i:∀a H Q,c a H Q->t a H Q):PE X e c:=λb s a H Q I q=>h b s a H Q I (i a H Q q)
def _root_.L2.PT.imp(h:PT X e t)(i:∀a H Q,c a H Q->t a H Q):PT X e c:=λb s a H Q I q=>h b s a H Q I (i a H Q q)
def _root_.L2.PW.imp(h:PW X e t)(i:∀a H Q,d a H Q->t a H Q):PW X e d:=λc b s a H Q I q=>h c b s a H Q I (i a H Q q)
def _root_.L2.PA.imp(h:PA X e t)(i:∀a H Q,c a H Q->t a H Q):PA X e c:=λpos b s a H Q I q=>h pos b s a H Q I (i a H Q q)
def _root_.L2.PS.imp(h:PS X e t)(i:∀E a H,c E a H->t E a H):PS X e c:=λb s a H E I q=>h b s a H E I (i E a H q)
def _root_.L2.Au.imp(h:Au X e t)(i:∀E a H,c E a H->t E a H):Au X e c:=λb s a H E I q=>h b s a H E I (i E a H q)
def _root_.L2.PG.imp(h:PG X e t)(i:∀v a H Q,c v a H Q->t v a H Q):PG X e c:=λb s a H v u Q I r q=>h b s a H v u Q I r (i v a H Q q)
def a9(h:o.bind f=some b):∃a,o=some a/\f a=some b:=Zb.mp h
def cY(h:o.map f=some b):∃a,o=some a/\f a=b:=WB.mp h
def DT{x:D}{a:Type}{g:Bool->Option a}{z:a}(e:(match x with | .bl c=>g c | _=>none)=some z):∃c,x=.bl c/\g c=some z:=by
 cases x <;> first | exact absurd e (by intro z;cases z) | exact⟨_,rfl,e⟩
def dB.here(S:bC K a h H)(r:Rep K a H v d):dB K a H h d v H:=⟨a,.refl _ _,S,r⟩
def dB.step(T:cm c H b H1)(p:dB K b H1 f d v i):dB K c H f d v i:=let⟨a,g,h,e⟩:=p;⟨a,T.trans g,h,e⟩
theorem dB.tup(S:bC K a h H)(r:aw K a H b ds)(hp:H p=none):dB K a H h (.tup ds) (.ref p) (upd H p (.tup b)):=
 ⟨a,cm.laid S hp,S.laid hp,.tup (.inl ⟨.inl aC,S.fresh hp⟩) (r.mono (cm.laid S hp).toCh)⟩
theorem dB.lv(S:bC K a h H)(r:aw K a H vs ds)(hp:H p=none):dB K a H h (.lv ds) (.ref p) (upd H p (.lst vs)):=
 ⟨a,cm.laid S hp,S.laid hp,.lv aC (S.fresh hp) (r.mono (cm.laid S hp).toCh)⟩
theorem dB.dv(S:bC K a h H)(r:bq K a H us ds)(hp:H p=none):dB K a H h (.dv ds) (.ref p) (upd H p (.dK us)):=
 ⟨a,cm.laid S hp,S.laid hp,.dv aC (S.fresh hp) (r.mono (cm.laid S hp).toCh)⟩
noncomputable def aP(i:Nat):EM:=λa h=>(a[i]?).join.map λd=>(d,h)
noncomputable def eK(d:D):EM:=λ_ h=>some (d,h)
noncomputable def ak(f:D->D->MH->Option (D×MH))(a b:EM):EM:=λc h=>(a c h).bind λp=>(b c p.2).bind λq=>f p.1 q.1 q.2
noncomputable def i3(f:D->MH->Option (D×MH))(a:EM):EM:=λb h=>(a b h).bind λp=>f p.1 p.2
noncomputable def aY:AM:=λ_ h=>some ([],h)
noncomputable def af(a:EM)(r:AM):AM:=λb h=>(a b h).bind λp=>(r b p.2).bind λq=>some (p.1::q.1,q.2)
noncomputable def aq(f:Fn)(a:AM):EM:=λb h=>(a b h).bind λp=>f p.1 p.2
noncomputable def Lc(t:TM)(a b:EM):EM:=λc h=>(t c h).bind λp=>if p.1 then a c p.2 else b c p.2
noncomputable def ay(a:EM):TM:=λc h=>(a c h).bind λp=>match p.1 with
 | .bl b=>some (b,p.2)
 | _=>none
noncomputable def qV(t:TM):TM:=λa h=>(t a h).map λp=>(!p.1,p.2)
noncomputable def km(a b:TM):TM:=λc h=>(a c h).bind λp=>if p.1 then b c p.2 else some (false,p.2)
noncomputable def D7(a b:TM):TM:=λc h=>(a c h).bind λp=>if p.1 then some (true,p.2) else b c p.2
noncomputable def BU(a b:EM):EM:=λd h=>(a d h).bind λp=>match p.1 with
 | .bl c=>if c then b d p.2 else some (.bl false,p.2)
 | _=>none
noncomputable def UC(a b:EM):EM:=λd h=>(a d h).bind λp=>match p.1 with
 | .bl c=>if c then some (.bl true,p.2) else b d p.2
 | _=>none
noncomputable def aN:Fn:=λa h=>some (.tup a,h)
inductive U8(K:FR)(f:D->D->MH->Option (D×MH))(x y:V)(H:Hp)(Q:VK):Prop where
 | mk (ρ h d e z h'):bC K ρ h H->Rep K ρ H x d->Rep K ρ H y e->(f d e h=some (z,h'))->(∀v H',dB K ρ H h' z v H'->Q v H')->U8 K f x y H Q
def rS(K:FR)(f:D->D->MH->Option (D×MH)):R2:=λx y H Q=>U8 K f x y H Q
def pV(X:Cx)(g:Value->Value->Sem Value)(f:D->D->MH->Option (D×MH)):Prop:=qr X g (rS X.K f)
inductive U7(K:FR)(f:D->MH->Option (D×MH))(x:V)(H:Hp)(Q:VK):Prop where
 | mk (ρ h d z h'):bC K ρ h H->Rep K ρ H x d->(f d h=some (z,h'))->(∀v H',dB K ρ H h' z v H'->Q v H')->U7 K f x H Q
def rU(K:FR)(f:D->MH->Option (D×MH)):V->Hp->VK->Prop:=λx H Q=>U7 K f x H Q
inductive Va(K:FR)(f:Fn)(vs:List V)(H:Hp)(Q:VK):Prop where
 | mk (ρ h ds z h'):bC K ρ h H->aw K ρ H vs ds->(f ds h=some (z,h'))->(∀v H',dB K ρ H h' z v H'->Q v H')->Va K f vs H Q
def rF(K:FR)(f:Fn):List V->Hp->VK->Prop:=λa H Q=>Va K f a H Q
def f7(X:Cx)(g:Value)(f:Fn):Prop:=eX X g (rF X.K f)
section
variable {X:Cx} {a b c e:Expr} {es:List Expr} {pos:Pos} {ma mb mc:EM} {mt mu:TM} {m:AM} {f:D->D->MH->Option (D×MH)}
def M4(l:X.N[i]?=some x)(j:RV X.env.scope x)(hd:(x==("__debug__":Str))=false:=by ac_nf)(g:(x==("__classdict__":Str))=false:=by ac_nf):SE X (.Name x pos) (aP i):=
 (NU l j hd g).imp λσ H Q u9=>by
  obtain⟨q,s,h,d,t,R,S,e,k⟩:=u9;obtain⟨u,p,o⟩:=cY e;cases o;obtain⟨v,n,r⟩:=R.at_ i _ (Aax.mp p);exact⟨v,n,k v H (.here S r)⟩
def Gr(hp:PE X e (tC v))(hr:∀g H,Rep X.K g H v d):SE X e (eK d):=hp.imp λσ H Q u9=>by
 obtain⟨g,j,h,n,l,R,S,i,k⟩:=u9;cases i;exact k v H (.here S (hr _ _))
def bD{i j}:SE X (.Constant (.int i) j pos) (eK (.int i)):=Gr N5 λ_ _=>.int i
def LW{b j}:SE X (.Constant (.bool b) j pos) (eK (.bl b)):=Gr Q1 λ_ _=>.bl b
def Gi{j}:SE X (.Constant .none j pos) (eK .bx):=Gr N0 λ_ _=>.bx
def bG{x j}(h:PyData.strOk x=true:=by decide+kernel):SE X (.Constant (.str x) j pos) (eK (.str x)):=Gr NX λ_ _=>.str h
def Qx(g:Gl X x)(hm:X.mg x=none)(d:bootBuiltins x=some (.type n))(hn:x≠"__name__":=by decide)(hd:(x==("__debug__":Str))=false:=by ac_nf):SE X (.Name x pos) (eK (.ty n)):=
 Gr (Kq (v:=.ty n) g hm d rfl hn hd) λ_ _=>.ty n
def yT(h:tM X.K (ak f ma mb) σ H Q):Qm (rS X.K f) (tM X.K ma) (tM X.K mb) σ H Q:=by
 obtain⟨r,j,h,d,z,R,S,e,k⟩:=h;obtain⟨⟨x,n⟩,E,e⟩:=a9 e;obtain⟨⟨y,l⟩,C,A⟩:=a9 e;refine⟨r,j,h,x,n,R,S,E,λv H1 u9=>?_⟩;obtain⟨i,q,G,t⟩:=u9;refine⟨i,j,n,y,l,R.mono q,G,C,λu J u9=>?_⟩;obtain⟨g,o,F,s⟩:=u9;exact⟨g,l,x,y,d,z,F,t.mono o,s,A,λw I p=>k w I (p.step (q.trans o))⟩
def b7(d:pV X (binaryOp op) f)(h:SE X a ma)(g:SE X b mb):SE X (.BinOp a op b pos) (ak f ma mb):=(L5 d h g).imp λ_ _ _=>yT
def M7(d:pV X (compareOp op) f)(h:SE X a ma)(g:SE X b mb)(hm:behindInMarks op b=false):SE X (.Compare a [op] [b] pos) (ak f ma mb):=(Ko d h g hm).imp λ_ _ _=>yT
def qX{g:CmpOp}(n:pV X (compareOp g) f)(p:SE X a ma)(o:SE X b mb)(hm:behindInMarks g b=false):ST X (.Compare a [g] [b] pos) (ay (ak f ma mb)):=
 (JU n p o hm).imp λσ H Q u9=>by
  obtain⟨j,l,h,c,w,R,S,e,k⟩:=u9;obtain⟨⟨x,q⟩,s,i⟩:=a9 e;obtain⟨y,rfl,i⟩:=DT i;cases i;refine yT ⟨j,l,h,.bl c,q,R,S,s,λv u u9=>?_⟩;obtain⟨d,T,t,r⟩:=u9;cases r;exact⟨c,rfl,k d u T t⟩
def LU{i:UnaryOp}{f:D->MH->Option (D×MH)}(q:RW X (unaryOp i) (rU X.K f))(r:SE X a ma):SE X (.UnaryOp i a pos) (i3 f ma):=(QY q r).imp λσ H Q u9=>by
 obtain⟨l,n,h,d,s,R,S,e,k⟩:=u9;obtain⟨⟨x,j⟩,t,e⟩:=a9 e;exact⟨l,n,h,x,j,R,S,t,λv H1 ⟨g,u,y,o⟩=>⟨g,j,x,d,s,y,o,e,λw z p=>k w z (p.step u)⟩⟩
def ar:SA X [] aY:=Hi.imp λσ H Q u9=>by
 obtain⟨g,i,h,d,j,R,S,e,k⟩:=u9;cases e;exact k [] g H (.refl _ _) S .nil
def ab(t:SE X e ma)(hr:SA X es m)(s:starEach (e::es) X.env=(false,eval e X.env)::starEach es X.env:=by ac_nf):SA X (e::es) (af ma m):=
 (C7 t hr s).imp λσ H Q u9=>by
  obtain⟨p,j,h,d,G,R,S,e,k⟩:=u9;obtain⟨⟨x,l⟩,z,e⟩:=a9 e;obtain⟨⟨q,u⟩,y,w⟩:=a9 e;cases w;refine⟨p,j,h,x,l,R,S,z,λv H1 u9=>?_⟩;obtain⟨i,o,C,r⟩:=u9;exact⟨i,j,l,q,u,R.mono o,C,y,λF g E n A rs=>k _ g E (o.trans n) A (.cons (r.mono n) rs)⟩
def kA(m:AM)(n:Nat):Prop:=∀g h d i,m g h=some (d,i)->d.length=n
def aA:kA aY 0:=λd h i g e=>by cases e;rfl
def ae(hr:kA m n):kA (af ma m) (n+1):=λi h q o e=>by
 obtain⟨⟨x,l⟩,p,e⟩:=a9 e;obtain⟨⟨j,k⟩,g,d⟩:=a9 e;cases d;rw[VU,hr _ _ _ _ g]
def cH{q}(h:SA X es m)(hl:kA m n)(hn:n<=sizeLine:=by decide):SE X (.Tuple es q pos) (aq aN m):=(NV h).imp λσ H Q u9=>by
 obtain⟨l,o,h,d,v,R,S,e,k⟩:=u9;obtain⟨⟨x,r⟩,i,e⟩:=a9 e;cases e;refine⟨l,o,h,x,r,R,S,i,λu j w s t g=>⟨by rw[g.length,hl _ _ _ _ i];exact hn,λp hp=>k _ _ (dB.step s (.tup t g hp))⟩⟩
inductive Sh(K:FR)(m:AM)(σ:L2.St)(H:Hp)(Q:VK):Prop where
 | mk (ρ δ h ds h'):bT K ρ H σ δ->bC K ρ h H->(m δ h=some (ds,h'))->(∀ρ1 H1 p vs,cm ρ H ρ1 H1->bC K ρ1 h' H1->H1 p=none->aw K ρ1 H1 vs ds->Q (.ref p) (upd H1 p (.lst vs)))->Sh K m σ H Q
def Vl(K:FR)(m:AM):TE:=λd H Q=>Sh K m d H Q
def qq(X:Cx)(e:Expr)(m:AM):Prop:=PE X e (Vl X.K m)
noncomputable def gd(m:AM):EM:=λd h=>(m d h).map λp=>(.lv p.1,p.2)
noncomputable def xO(m:AM):EM:=λd h=>(m d h).map λp=>(.ob p.2.length,p.2++[.lst p.1])
theorem dB.ob(S:bC K d h H)(r:aw K d H g ds)(hp:H p=none):dB K d H (h++[.lst ds]) (.ob h.length) (.ref p) (upd H p (.lst g)):=
 ⟨d.more p,cm.made S hp,S.made hp ⟨g,aC,r.mono (cm.made S hp).toCh⟩,.ob (show(d.ob++[p])[h.length]?=_ by rw[<-S.len,VY (VG _)];simp)⟩
theorem qq.lv(h:qq X e m):SE X e (gd m):=h.imp λσ H Q u9=>by
 obtain⟨i,j,h,d,u,R,S,e,k⟩:=u9;obtain⟨⟨q,l⟩,o,n⟩:=cY e;cases n;exact⟨i,j,h,q,l,R,S,o,λg v p t T s hp r=>k _ _ (dB.step T (.lv s r hp))⟩
theorem qq.ob(h:qq X e m):SE X e (xO m):=h.imp λσ H Q u9=>by
 obtain⟨i,j,h,d,u,R,S,e,k⟩:=u9;obtain⟨⟨q,l⟩,o,n⟩:=cY e;cases n;exact⟨i,j,h,q,l,R,S,o,λg v p t T s hp r=>k _ _ (dB.step T (.ob s r hp))⟩
def fR(h:SA X es m)(hl:kA m n)(hn:n<=sizeLine:=by decide):qq X (.List es pos) m:=(N4 h).imp λσ H Q ⟨i,j,h,ds,o,R,S,e,k⟩=>
 ⟨i,j,h,ds,o,R,S,e,λl d s q r g=>⟨by rw[g.length,hl _ _ _ _ e];exact hn,λp hp=>k d s p l q r hp g⟩⟩
noncomputable def Vp:EM:=λ_ h=>some (.dv [],h)
def QB:SE X (.Dict [] [] pos) Vp:=Hh.imp λσ H Q ⟨g,i,h,d,j,R,S,e,k⟩ p hp=>by
 cases e;exact k _ _ (.dv S .nil hp)
def F7(h:ST X a mt):ST X (.UnaryOp .Not a pos) (qV mt):=(NI h).imp λσ H Q u9=>by
 obtain⟨g,i,h,c,q,R,S,e,k⟩:=u9;obtain⟨⟨x,j⟩,n,l⟩:=cY e;cases l;exact⟨g,i,h,x,j,R,S,n,λd p T o=>k d p T o⟩
def wx(h:ST X a mt):SW X (.BoolOp .And [a] pos) mt:=JT h
def MT(h:ST X a mt):SW X (.BoolOp .Or [a] pos) mt:=NG h
def AJ{d:List Expr}(r:ST X a mt)(q:SW X (.BoolOp .And (b::d) pos) mu):SW X (.BoolOp .And (a::b::d) pos) (km mt mu):=(NH r q).imp λσ H Q u9=>by
 obtain⟨p,l,h,c,s,R,S,e,k⟩:=u9;obtain⟨⟨x,n⟩,t,i⟩:=a9 e;refine⟨p,l,h,x,n,R,S,t,λg y T o=>?_⟩;cases x with
 | true=>rw[VE rfl] at i ⊢;exact⟨g,l,n,c,s,R.mono T,o,i,λj w u v=>k j w (T.trans u) v⟩
 | false=>rw[VH (by simp)] at i ⊢;cases i;exact k g y T o
def LR{d:List Expr}(r:ST X a mt)(q:SW X (.BoolOp .Or (b::d) pos) mu):SW X (.BoolOp .Or (a::b::d) pos) (D7 mt mu):=(QV r q).imp λσ H Q u9=>by
 obtain⟨p,l,h,c,s,R,S,e,k⟩:=u9;obtain⟨⟨x,n⟩,t,i⟩:=a9 e;refine⟨p,l,h,x,n,R,S,t,λg y T o=>?_⟩;cases x with
 | false=>rw[VH (by simp)] at i ⊢;exact⟨g,l,n,c,s,R.mono T,o,i,λj w u v=>k j w (T.trans u) v⟩
 | true=>rw[VE rfl] at i ⊢;cases i;exact k g y T o
def SW.st(h:SW X a mt):ST X a mt:=PW.pt h
def q9{op}(h:SE X a ma):SE X (.BoolOp op [a] pos) ma:=NY h
def rf{g:List Expr}(t:SE X a ma)(s:SE X (.BoolOp .And (b::g) pos) mb):SE X (.BoolOp .And (a::b::g) pos) (BU ma mb):=(N7 t s).imp λσ H Q u9=>by
 obtain⟨q,l,h,d,u,R,S,e,k⟩:=u9;obtain⟨⟨x,n⟩,w,i⟩:=a9 e;obtain⟨c,rfl,i⟩:=DT i;refine⟨q,l,h,.bl c,n,R,S,w,λv z u9=>?_⟩;obtain⟨j,T,o,r⟩:=u9;cases r;refine⟨c,rfl,?_⟩;cases c with
 | true=>rw[VE rfl] at i ⊢;exact⟨j,l,n,d,u,R.mono T,o,i,λv y p=>k v y (p.step T)⟩
 | false=>rw[VH (by simp)] at i ⊢;cases i;exact k _ _ ⟨j,T,o,.bl _⟩
def Qy{g:List Expr}(t:SE X a ma)(s:SE X (.BoolOp .Or (b::g) pos) mb):SE X (.BoolOp .Or (a::b::g) pos) (UC ma mb):=(QZ t s).imp λσ H Q u9=>by
 obtain⟨q,l,h,d,u,R,S,e,k⟩:=u9;obtain⟨⟨x,n⟩,w,i⟩:=a9 e;obtain⟨c,rfl,i⟩:=DT i;refine⟨q,l,h,.bl c,n,R,S,w,λv z u9=>?_⟩;obtain⟨j,T,o,r⟩:=u9;cases r;refine⟨c,rfl,?_⟩;cases c with
 | false=>rw[VH (by simp)] at i ⊢;exact⟨j,l,n,d,u,R.mono T,o,i,λv y p=>k v y (p.step T)⟩
 | true=>rw[VE rfl] at i ⊢;cases i;exact k _ _ ⟨j,T,o,.bl _⟩
noncomputable def O0(a:EM):EM:=λd h=>(a d h).bind λp=>match p.1 with
 | .bl c=>some (.bl (!c),p.2)
 | _=>none
def M6(n:SE X a ma):SE X (.UnaryOp .Not a pos) (O0 ma):=(NZ n).imp λσ H Q u9=>by
 obtain⟨j,l,h,d,s,R,S,e,k⟩:=u9;obtain⟨⟨x,o⟩,p,i⟩:=a9 e;obtain⟨c,rfl,i⟩:=DT i;cases i;refine⟨j,l,h,.bl c,o,R,S,p,λv t u9=>?_⟩;obtain⟨g,T,q,r⟩:=u9;cases r;exact⟨c,rfl,k _ _ ⟨g,T,q,.bl _⟩⟩
def LV(s:ST X c mt)(u:SE X a ma)(t:SE X b mb):SE X (.IfExp c a b pos) (Lc mt ma mb):=(Hg s u t).imp λσ H Q u9=>by
 obtain⟨r,j,h,d,o,R,S,e,k⟩:=u9;obtain⟨⟨x,l⟩,w,i⟩:=a9 e;refine⟨r,j,h,x,l,R,S,w,λg y T q=>?_⟩;cases x with
 | true=>rw[VE rfl] at i ⊢;exact⟨g,j,l,d,o,R.mono T,q,i,λv n p=>k v n (p.step T)⟩
 | false=>rw[VH (by simp)] at i ⊢;exact⟨g,j,l,d,o,R.mono T,q,i,λv n p=>k v n (p.step T)⟩
noncomputable def yn(d:D)(h:MH):Option Bool:=match d with
 | .bx=>some false
 | .bl b=>some b
 | .int i=>some (i !=0)
 | .str x=>if x.length<=sizeLine then some ((x.length:Int) !=0) else none
 | .tup xs=>some (!xs.isEmpty)
 | .dv g=>some (!g.isEmpty)
 | .ob n=>match h[n]? with
  | some (.lst xs)=>some (!xs.isEmpty)
  | some (.dct g)=>some (!g.isEmpty)
  | _=>none
 | .lv xs=>some (!xs.isEmpty)
 | .ro xs=>some (!xs.isEmpty)
 | .ty _=>none
def iZ(a:EM):TM:=λd h=>(a d h).bind λp=>(yn p.1 p.2).map λc=>(c,p.2)
theorem bq.isEmpty(t:bq K d H us ds):us.isEmpty=ds.isEmpty:=by cases t <;> rfl
def Js{K:FR}{j:Ad}{H:Hp}{h:MH}{v:V}{d:D}{c:Bool}(S:bC K j h H)(r:Rep K j H v d)(e:yn d h=some c):PJ K v H c:=by
 cases r with
 | bx=>cases e;exact rfl
 | bl b=>cases e;exact rfl
 | int i=>cases e;exact rfl
 | str p=>
  unfold yn at e
  by_cases z:‹Str›.length<=sizeLine
  ·simp only[VE z] at e;cases e;exact⟨z,rfl⟩
  ·simp only[VH z] at e;cases e
 | ty n=>exact cb e
 | tup ht l=>cases e;exact .inr (.inl ⟨_,ht.sq,by rw[l.isEmpty]⟩)
 | lv ht n l=>cases e;exact .inl ⟨_,eL.of ht,by rw[l.isEmpty]⟩
 | ro ht l=>cases e;exact .inl ⟨_,ht.sq,by rw[l.isEmpty]⟩
 | dv ht n l=>cases e;exact .inr (.inr ⟨_,ht,by rw[l.isEmpty]⟩)
 | ob hn=>
  unfold yn at e;rename_i a n;cases q:h[n]? with
  | none=>simp only[q] at e;cases e
  | some o=>
   have x:=S.at_ n a o hn q;cases o with
   | lst ds=>simp only[q] at e;cases e;obtain⟨k,g,l⟩:=x;exact .inl ⟨_,eL.of g,by rw[l.isEmpty]⟩
   | dct ds=>simp only[q] at e;cases e;obtain⟨k,g,l⟩:=x;exact .inr (.inr ⟨_,g,by rw[l.isEmpty]⟩)
   | dcH ds=>simp only[q] at e;cases e
def nV(o:SE X a ma)(n:∀d,isTrue a X.env d=(do let v<-d;standAt a.pos;holding [v] (truthy v)):=by intro _;ac_nf):ST X a (iZ ma):=(G0 o n).imp λσ H Q u9=>by
 obtain⟨j,l,h,c,y,R,S,e,k⟩:=u9;obtain⟨⟨x,p⟩,u,t⟩:=a9 e;obtain⟨z,s,q⟩:=cY t;cases q;exact⟨j,l,h,x,p,R,S,u,λv w ⟨g,T,i,r⟩=>⟨c,Js i r s,k g w T i⟩⟩
end
mutual
noncomputable def Lu:D->D->Bool
 | .bx,.bx=>true
 | .bl a,.bl b=>a==b
 | .int a,.int b=>a==b
 | .str a,.str b=>decide (a=b)
 | .ty a,.ty b=>a==b
 | .tup a,.tup b=>x4 a b
 | .lv a,.lv b=>x4 a b
 | .ro a,.ro b=>x4 a b
 | .dv a,.dv b=>IS a b
 | .ob a,.ob b=>a==b
 | _,_=>false
noncomputable def x4:List D->List D->Bool
 | [],[]=>true
 | a::r,b::s=>Lu a b&&x4 r s
 | _,_=>false
noncomputable def IS:List (Key×D)->List (Key×D)->Bool
 | [],[]=>true
 |(k,a)::r,(j,b)::s=>decide (k=j)&&Lu a b&&IS r s
 | _,_=>false
end
mutual
theorem DW:∀(a b:D),Lu a b=true->a=b
 | .bx,b,h=>by cases b <;> first | rfl |(cases h;done)
 | .bl x,b,h=>by cases b <;> first | exact congrArg _ (eq_of_beq h) |(cases h;done)
 | .int x,b,h=>by cases b <;> first | exact congrArg _ (eq_of_beq h) |(cases h;done)
 | .str x,b,h=>by cases b <;> first | exact congrArg _ (WT h) |(cases h;done)
 | .ty x,b,h=>by cases b <;> first | exact congrArg _ (eq_of_beq h) |(cases h;done)
 | .ob x,b,h=>by cases b <;> first | exact congrArg _ (eq_of_beq h) |(cases h;done)
 | .tup x,b,h=>by cases b <;> first | exact congrArg _ (iD _ _ h) |(cases h;done)
 | .lv x,b,h=>by cases b <;> first | exact congrArg _ (iD _ _ h) |(cases h;done)
 | .ro x,b,h=>by cases b <;> first | exact congrArg _ (iD _ _ h) |(cases h;done)
 | .dv x,b,h=>by cases b <;> first | exact congrArg _ (x5 _ _ h) |(cases h;done)
theorem iD:∀(a b:List D),x4 a b=true->a=b
 | [],b,h=>by cases b <;> first | rfl |(cases h;done)
 | x::r,b,h=>by
  cases b with
  | nil=>cases h
  | cons y s=>have h:=V3.mp h;rw[DW _ _ h.1,iD _ _ h.2]
theorem x5:∀(a b:List (Key×D)),IS a b=true->a=b
 | [],b,h=>by cases b <;> first | rfl |(cases h;done)
 |(k,x)::r,b,h=>by
  cases b with
  | nil=>cases h
  | cons y s=>
   obtain⟨j,y⟩:=y;have h:=V3.mp h;have g:=V3.mp h.1;rw[WT g.1,DW _ _ g.2,x5 _ _ h.2]
end
mutual
theorem wj:∀(a:D),Lu a a=true
 | .bx=>rfl
 | .bl x=>XU x
 | .int x=>XU x
 | .str x=>Wa rfl
 | .ty x=>XU x
 | .ob x=>XU x
 | .tup x=>eF x
 | .lv x=>eF x
 | .ro x=>eF x
 | .dv x=>oM x
theorem eF:∀(a:List D),x4 a a=true
 | []=>rfl
 | x::r=>V3.mpr ⟨wj x,eF r⟩
theorem oM:∀(a:List (Key×D)),IS a a=true
 | []=>rfl
 |(k,x)::r=>V3.mpr ⟨V3.mpr ⟨Wa rfl,wj x⟩,oM r⟩
end
def IQ:MO->MO->Bool
 | .lst a,.lst b=>x4 a b
 | .dct a,.dct b=>IS a b
 | .dcH a,.dcH b=>x4 (a.map (·.1)) (b.map (·.1))&&x4 (a.map (·.2)) (b.map (·.2))
 | _,_=>false
theorem zi:∀{a b:List (D×D)},a.map (·.1)=b.map (·.1)->a.map (·.2)=b.map (·.2)->a=b
 | [],[],_,_=>rfl
 | [],_::_,h,_=>by cases h
 | _::_,[],h,_=>by cases h
 |(x,y)::a,(u,v)::b,h,g=>by
  obtain⟨c,d⟩:=List.cons.inj h;obtain⟨g1,g2⟩:=List.cons.inj g;dsimp only at c g1;rw[c,g1,zi d g2]
def DU(h:IQ a b=true):a=b:=by
 cases a <;> cases b <;> first |(cases h;done) | skip
 ·rw[iD _ _ h]
 ·rw[x5 _ _ h]
 ·have h:=V3.mp h;rw[zi (iD _ _ h.1) (iD _ _ h.2)]
def we(a:MO):IQ a a=true:=by
 cases a with
 | lst x=>exact eF x
 | dct x=>exact oM x
 | dcH x=>exact V3.mpr ⟨eF _,eF _⟩
def x6:MH->MH->Bool
 | [],[]=>true
 | a::r,b::s=>IQ a b&&x6 r s
 | _,_=>false
theorem DV:∀{a b:MH},x6 a b=true->a=b
 | [],b,h=>by cases b <;> first | rfl | simp[x6] at h
 | x::r,b,h=>by
  cases b with
  | nil=>simp[x6] at h
  | cons y s=>simp[x6] at h;rw[DU h.1,DV h.2]
noncomputable def bW:SM:=λa h=>some (.nx,a,h)
noncomputable def Nb:SM:=λa h=>some (.bk,a,h)
noncomputable def aj(a b:SM):SM:=λc h=>(a c h).bind λr=>match r.1 with
 | .nx=>b r.2.1 r.2.2
 | _=>some r
noncomputable def aQ(i:Nat)(e:EM):SM:=λa h=>(e a h).bind λp=>some (.nx,a.set i (some p.1),p.2)
noncomputable def fy(e:EM)(g:GM):SM:=λa h=>(e a h).bind λp=>(g p.1 a p.2).bind λq=>some (.nx,q.1,q.2)
noncomputable def cX(e:EM):SM:=λa h=>(e a h).bind λp=>some (.nx,a,p.2)
noncomputable def aR(e:EM):SM:=λa h=>(e a h).bind λp=>some (.rt p.1,a,p.2)
noncomputable def fS(t:TM)(a b:SM):SM:=λc h=>(t c h).bind λp=>if p.1 then a c p.2 else b c p.2
noncomputable def gN(i:Nat):GM:=λd a h=>some (a.set i (some d),h)
abbrev FP:=List D->DS->MH->Option (DS×MH)
noncomputable def bp:FP:=λb a h=>match b with
 | []=>some (a,h)
 | _=>none
noncomputable def ai(g:GM)(u:FP):FP:=λb a h=>match b with
 | []=>none
 | d::r=>(g d a h).bind λp=>u r p.1 p.2
noncomputable def gT(n:Nat)(u:FP):GM:=λd a h=>match d with
 | .tup xs=>if xs.length=n then u xs a h else none
 | _=>none
abbrev W:=List (Nat×MO)
abbrev IM:=DS->MH->Option (List D×W×MH)
def gR:W->MH->Bool
 | [],_=>true
 |(n,o)::r,h=>(match h[n]? with | some u=>IQ u o | none=>false)&&gR r h
def mY(a:W)(g:GM)(b:SM):List D->SM
 | [],c,h=>if gR a h then some (.nx,c,h) else none
 | x::r,c,h=>if gR a h then(g x c h).bind λq=>(b q.1 q.2).bind λz=>match z.1 with
  | .nx=>mY a g b r z.2.1 z.2.2
  | .ct=>mY a g b r z.2.1 z.2.2
  | .bk=>some (.nx,z.2.1,z.2.2)
  | .rt d=>some (.rt d,z.2.1,z.2.2)
  else none
def gC(i:IM)(g:GM)(b:SM):SM:=λa h=>(i a h).bind λp=>mY p.2.1 g b p.1 a p.2.2
noncomputable def fO(c:TM)(b:SM):Nat->SM
 | 0,_,_=>none
 | n+1,a,h=>(c a h).bind λp=>if p.1 then(b a p.2).bind λz=>match z.1 with
   | .nx=>fO c b n z.2.1 z.2.2
   | .ct=>fO c b n z.2.1 z.2.2
   | .bk=>some (.nx,z.2.1,z.2.2)
   | .rt d=>some (.rt d,z.2.1,z.2.2)
  else some (.nx,a,p.2)
section
variable {X:Cx} {a b c e tg iter:Expr} {es:List Expr} {st:Stmt} {sts rest:List Stmt} {pos:Pos} {ma mb:EM} {mt:TM} {ms mu:SM} {m:AM} {g:GM} {gs:FP}
def cz:Jm X [] bW:=JX.imp λE σ H u9=>by
 obtain⟨d,i,h,fl,f,j,R,S,e,k⟩:=u9;cases e;exact k d H (.refl _ _) S σ R
def MW:SS X (.Break pos) Nb:=G5.imp λE σ H u9=>by
 obtain⟨d,i,h,fl,f,j,R,S,e,k⟩:=u9;cases e;exact k d H (.refl _ _) S σ R
def Nm(hh:Jg X.K (aj ms mu) E σ H):Qj (Jg X.K ms) (Jg X.K mu) E σ H:=by
 obtain⟨o,p,h,fl,t,w,R,S,e,k⟩:=hh;obtain⟨⟨x,n,u⟩,r,q⟩:=a9 e;cases x with
 | nx=>exact⟨o,p,h,.nx,n,u,R,S,r,λf l i j v A=>⟨f,n,u,fl,t,w,A,j,q,λs C y z=>k s C (i.trans y) z⟩⟩
 | bk=>cases q;exact⟨o,p,h,.bk,_,_,R,S,r,λf l i j=>k f l i j⟩
 | ct=>cases q;exact⟨o,p,h,.ct,_,_,R,S,r,λf l i j=>k f l i j⟩
 | rt d=>cases q;exact⟨o,p,h,.rt d,_,_,R,S,r,λf l i j=>k f l i j⟩
def aa(f:SS X st ms)(d:Jm X rest mu):Jm X (st::rest) (aj ms mu):=(G1 f d).imp λ_ _ _=>Nm
def aI(d:SS X st ms):Jm X [st] ms:=JW d
def GJ(hh:Jg X.K (aQ i ma) E σ H):Jv (tM X.K ma) (zO i) E σ H:=by
 obtain⟨j,n,h,fl,l,t,R,S,e,k⟩:=hh;obtain⟨⟨x,p⟩,r,q⟩:=a9 e;cases q;exact⟨j,n,h,x,p,R,S,r,λv H1 ⟨d,f,s,o⟩=>k d H1 f s _ ((R.mono f).set o i)⟩
def MV(l:X.N.Nodup)(h:X.N[i]?=some x)(d:Loc X.env.scope x)(k:SE X e ma)(f:swapsWith e (some (.Name x pos')) pos.line X.env=pure false:=by ac_nf)(j:X.fn x=true\/X.env.scope.names.lookup x=some .local:=by first | exact .inl rfl | exact .inr rfl | assumption):SS X (.Assign [.Name x pos'] e pos) (aQ i ma):=(NJ l h d k f j).imp λ_ _ _=>GJ
def JC(p:X.N.Nodup)(n:X.N[i]?=some x)(l:Loc X.env.scope x)(o:X.fn x=true\/X.env.scope.names.lookup x=some .local:=by first | exact .inl rfl | exact .inr rfl | assumption):SG X (.Name x pos) (gN i):=
 (Kn p n l o).imp λv σ H Q u9=>by
  obtain⟨f,q,h,d,j,s,R,S,r,e,k⟩:=u9;cases e;exact k f H _ (.refl _ _) S (R.set r i)
inductive Mp(K:FR)(m:FP)(vs:List V)(σ:L2.St)(H:Hp)(Q:L2.St->Hp->Prop):Prop where
 | mk (ρ δ h ds δ' h'):bT K ρ H σ δ->bC K ρ h H->aw K ρ H vs ds->(m ds δ h=some (δ',h'))->(∀ρ' H' σ',cm ρ H ρ' H'->bC K ρ' h' H'->bT K ρ' H' σ' δ'->Q σ' H')->Mp K m vs σ H Q
noncomputable def Te(K:FR)(m:FP):Mq:=λf d H Q=>Mp K m f d H Q
def Sj(X:Cx)(es:List Expr)(m:FP):Prop:=LC X es (Te X.K m)
def _root_.L2.LC.imp{X:Cx}{e:List Expr}{t j:Mq}(h:LC X e t)(i:∀v d H Q,j v d H Q->t v d H Q):LC X e j:=λf s d H v u Q I r q=>h f s d H v u Q I r (i v d H Q q)
def ig:Sj X [] bp:=Km.imp λv σ H Q u9=>by
 obtain⟨f,j,h,d,i,l,R,S,r,e,k⟩:=u9;cases r with
 | nil=>cases e;exact⟨rfl,k f H σ (.refl _ _) S R⟩
 | cons _ _=>cases e
def bV(i:SG X e g)(w:Sj X es gs)(u:(assignEach (e::es) X.env).map (·.2)=assign e X.env::(assignEach es X.env).map (·.2):=by ac_nf):Sj X (e::es) (ai g gs):=(G9 i w u).imp λv σ H Q u9=>by
 obtain⟨s,t,h,d,o,x,R,S,r,e,k⟩:=u9;cases r with
 | nil=>cases e
 | cons r rs=>
  obtain⟨⟨f,i⟩,z,y⟩:=a9 e;exact⟨_,_,rfl,s,t,h,_,f,i,R,S,r,z,λn I q p E F=>⟨n,f,i,_,o,x,F,E,rs.mono p,y,λl G j A C R2=>k l G j (p.trans A) C R2⟩⟩
def nW(s:X.calm=true)(h:Sj X es gs)(hn:(assignEach es X.env).length=n:=by ac_nf)(i:(assignEach es X.env).findIdx? (·.1)=none:=by ac_nf):SG X (.Tuple es u pos) (gT n gs):=
 (NS s h hn i).imp λv σ H Q ⟨o,p,h,d,f,t,R,S,r,e,k⟩=>by
  cases r <;> first |(exact absurd e (by intro z;cases z)) | skip
  rename_i a q j ht l _;unfold gT at e;dsimp only at e
  by_cases z:j.length=n
  ·rw[VE z] at e;exact⟨a,q,rfl,ht.sq,by rw[l.length];exact z,o,p,h,j,f,t,R,S,l,e,k⟩
  ·rw[VH z] at e;cases e
def fP(w:SE X e ma)(u:SG X tg g)(t:swapsWithSole [tg] e pos.line X.env=pure false:=by ac_nf)(s:swappedStores [tg] e X.env=pure none:=by ac_nf)
  (d:(assignEach [tg] X.env).map (·.2)=[assign tg X.env]:=by ac_nf):SS X (.Assign [tg] e pos) (fy ma g):=(NM w u t s d).imp λE σ H u9=>by
 obtain⟨o,l,h,fl,q,M,R,S,e,k⟩:=u9;obtain⟨⟨x,d⟩,C,A⟩:=a9 e;obtain⟨⟨p,L⟩,y,z⟩:=a9 A;cases z;exact⟨o,l,h,x,d,R,S,C,λv H1 ⟨j,n,I,r⟩=>⟨j,l,d,x,_,_,R.mono n,I,r,y,λi J f F G R2=>k i J (n.trans F) G f R2⟩⟩
def fu(o:SE X e ma)(n:swapsWith e none pos.line X.env=pure false:=by ac_nf):SS X (.Expr e pos) (cX ma):=(J3 o n).imp λE σ H u9=>by
 obtain⟨i,l,h,fl,j,u,R,S,e,k⟩:=u9;obtain⟨⟨x,p⟩,r,q⟩:=a9 e;cases q;exact⟨i,l,h,x,p,R,S,r,λv H1 ⟨d,f,s,t⟩=>k d H1 f s σ (R.mono f)⟩
def bw(n:SE X e ma):SS X (.Return (some e) pos) (aR ma):=(NK n).imp λE σ H u9=>by
 obtain⟨f,j,h,fl,i,t,R,S,e,k⟩:=u9;obtain⟨⟨x,o⟩,q,p⟩:=a9 e;cases p;exact⟨f,j,h,x,o,R,S,q,λv H1 ⟨d,r,s,l⟩=>k d H1 r s v l⟩
def dz(v:ST X c mt)(y:Jm X sa ms)(w:Jm X sb mu):SS X (.If c sa sb pos) (fS mt ms mu):=(QW v y w).imp λE σ H u9=>by
 obtain⟨u,n,h,fl,i,s,R,S,e,k⟩:=u9;obtain⟨⟨x,o⟩,z,j⟩:=a9 e;refine⟨u,n,h,x,o,R,S,z,λf A l t=>?_⟩;cases x with
 | true=>rw[VE rfl] at j ⊢;exact⟨f,n,o,fl,i,s,R.mono l,t,j,λd r p q=>k d r (l.trans p) q⟩
 | false=>rw[VH (by simp)] at j ⊢;exact⟨f,n,o,fl,i,s,R.mono l,t,j,λd r p q=>k d r (l.trans p) q⟩
structure LI(K:FR)(J:It)(ρ:Ad)(H:Hp)(ws:W)(xs:List D):Prop where
 run:∀ρ1 H1 h1,Ch ρ H ρ1 H1->bC K ρ1 h1 H1->gR ws h1=true->∀i:Nat,(xs.length<=i->J.stop i H1)/\∀x,xs[i]?=some x->J.go i H1/\∀v H2,J.LN i H1 v H2->cm ρ1 H1 ρ1 H2/\bC K ρ1 h1 H2/\Rep K ρ1 H2 v x
inductive Se(K:FR)(m:IM)(σ:L2.St)(H:Hp)(R:It->Hp->Prop):Prop where
 | mk (ρ δ h xs ws h'):bT K ρ H σ δ->bC K ρ h H->(m δ h=some (xs,ws,h'))->(∀J ρ1 H1,cm ρ H ρ1 H1->bC K ρ1 h' H1->LI K J ρ1 H1 ws xs->R J H1)->Se K m σ H R
def LQ(K:FR)(m:IM):TI:=λd H R=>Se K m d H R
def SI(X:Cx)(tg iter:Expr)(m:IM):Prop:=PI X tg iter (LQ X.K m)
def _root_.L2.PI.imp(h:PI X tg e t)(i:∀d H Q,j d H Q->t d H Q):PI X tg e j:=λf s d H R I q=>h f s d H R I (i d H R q)
def Nn(hh:Jg X.K (gC mi g ms) E σ H):Qp (LQ X.K mi) (AI X.K g) (Jg X.K ms) E σ H:=by
 obtain⟨ρ,δ,h,fl,z,U,R,S,e,k⟩:=hh;obtain⟨⟨s,L,h1⟩,e1,e2⟩:=a9 e;refine⟨ρ,δ,h,s,L,h1,R,S,e1,λJ I H1 Z S1 It=>?_⟩;refine⟨λi m F y=>∃j p w,m=s.length-i/\i<=s.length/\cm I H1 j y/\bT X.K j y F p/\bC X.K j w y/\mY L g ms (s.drop i) p w=some (fl,z,U),⟨_,I,δ,h1,rfl,Wm _,.refl _ _,R.mono Z,S1,e2⟩,?_⟩;rintro i m F y ⟨j,p,w,rfl,hi,O,R2,S2,u⟩;cases q:s.drop i with
 | nil=>
  rw[q] at u;unfold mY at u
  by_cases M:gR L w=true
  ·rw[VE M] at u;cases u;have hl:s.length<=i:=by have:=congrArg List.length q;rw[Ym,WZ] at this;lia
   exact .inl ⟨(It.run j y _ O S2 M i).1 hl,k j y (Z.trans O) S2 F R2⟩
  ·rw[VH M] at u;cases u
 | cons x r=>
  rw[q] at u;unfold mY at u
  by_cases M:gR L w=true
  ·rw[VE M] at u;have hx:s[i]?=some x:=by
    have:=congrArg (λl=>l[0]?) q
    simpa using this
   have hlt:i < s.length:=(Vz.mp hx).1;have hr:s.drop (i+1)=r:=by
    have:=congrArg List.tail q
    simpa using this
   obtain⟨⟨P,h3⟩,e4,e5⟩:=a9 u;obtain⟨⟨f4,t,N⟩,e6,Y⟩:=a9 e5;obtain⟨hgo,hy⟩:=(It.run j y w O S2 M i).2 x hx;have NN:∀f n o,cm j y f n->bC X.K f N n->bT X.K f n o t->mY L g ms r t N=some (fl,z,U)->
     ∃m',m' < s.length-i/\(∃j p w,m'=s.length-(i+1)/\i+1<=s.length/\cm I H1 j n/\bT X.K j n o p/\bC X.K j w n/\mY L g ms (s.drop (i+1)) p w=some (fl,z,U)):=
    λf n o Q C R5 e8=>⟨s.length-(i+1),by lia,f,t,N,rfl,hlt,O.trans Q,R5,C,by rw[hr];exact e8⟩
   refine .inr ⟨hgo,λo n=>∃f,cm j y f n/\bC X.K f N n/\bT X.K f n o t/\mY L g ms r t N=some (fl,z,U),λo n ⟨f,Q,C,R5,e8⟩=>NN f n o Q C R5 e8,λv H3 y3=>?_⟩;obtain⟨T3,S3,r3⟩:=hy v H3 y3;refine⟨j,p,w,x,P,h3,R2.mono T3,S3,r3,e4,λρ4 H4 σ4 T4 S4 R4=>?_⟩;refine⟨ρ4,P,h3,f4,t,N,R4,S4,e6,λf n Q C=>?_⟩;have A:cm j y f n:=T3.trans (T4.trans Q);cases f4 with
   | nx=>exactλG T=>⟨f,A,C,T,Y⟩
   | ct=>exactλG T=>⟨f,A,C,T,Y⟩
   | bk=>cases Y;exactλG T=>k f n (Z.trans (O.trans A)) C G T
   | rt d=>cases Y;exactλv r=>k f n (Z.trans (O.trans A)) C v r
  ·rw[VH M] at u;cases u
def cA(hp:PassesOwn (model X.prog X.w) X.A X.env X.xe)(j:X.calm=true)(h:SI X tg iter d)(i:SG X tg g)(k:Jm X body ms)(f:∀x,foldedSetIterable iter X.env x=pure x:=by intro _;ac_nf):SS X (.For tg iter body [] pos) (gC d g ms):=
 (NL hp j h i k f).imp λ_ _ _=>Nn
def GH(hh:Jg X.K (fO mt ms n) E σ H):F1 (yq X.K mt) (Jg X.K ms) E σ H:=by
 obtain⟨M,Y,h,fl,z,O,R,S,e,k⟩:=hh;refine⟨λm o L=>∃i j F,cm M H i L/\bT X.K i L o j/\bC X.K i F L/\fO mt ms m j F=some (fl,z,O),⟨n,M,Y,h,.refl _ _,R,S,e⟩,?_⟩;rintro m o L ⟨i,j,F,J,R2,S2,Q⟩;cases m with
 | zero=>cases Q
 | succ m=>
  obtain⟨⟨x,N⟩,e3,I⟩:=a9 Q;refine⟨i,j,F,x,N,R2,S2,e3,λq U u T=>?_⟩;cases x with
  | false=>rw[VH (by simp)] at I ⊢;cases I;exact k q U (J.trans u) T o (R2.mono u)
  | true=>
   rw[VE rfl] at I ⊢;obtain⟨⟨P,l,C⟩,e5,G⟩:=a9 I;refine⟨λy s=>∃f,cm q U f s/\bC X.K f C s/\bT X.K f s y l/\fO mt ms m l C=some (fl,z,O),λy s ⟨f,t,w,R5,Z⟩=>⟨m,W3 m,f,l,C,J.trans (u.trans t),R5,w,Z⟩,?_⟩;refine⟨q,j,N,P,l,C,R2.mono u,T,e5,λf s t w=>?_⟩;cases P with
   | nx=>exactλp A=>⟨f,t,w,A,G⟩
   | ct=>exactλp A=>⟨f,t,w,A,G⟩
   | bk=>cases G;exactλp A=>k f s (J.trans (u.trans t)) w p A
   | rt d=>cases G;exactλv r=>k f s (J.trans (u.trans t)) w v r
def qY(hp:PassesOwn (model X.prog X.w) X.A X.env X.xe)(d:ST X c mt)(f:Jm X body ms):SS X (.While c body [] pos) (fO mt ms n):=(G3 hp d f).imp λ_ _ _=>GH
end
end Sm
namespace L2
open PyProof.Rows
def NR(hl:PE X l r):PI X w l (λj H R=>r j H λx d=>∃a,x=.ref a/\(((∃f,eL X.K d a f)/\R (UT X.K a) d)\/((∃f,i5 X.K d a f)/\R (US X.K a) d))):=by
 intro g s j H R I h;refine cv (hl g s j H _ I h) λv s1 u9=>?_;obtain⟨x,d,c,t,k⟩:=u9;obtain⟨a,e,k⟩:=k;subst e;cases t;rcases k with⟨⟨f,m⟩,q⟩ |⟨⟨f,m⟩,q⟩
 ·obtain⟨i,rv,p,u⟩:=c.list m;refine YL p.isList ?_;refine⟨s1.heap.objs.size,[s1.heap.objs.size],_,_,d,rfl,c.kept (t':=s1.toks) λb o e=>VB _ e,D3 a _,⟨_,VR _ rfl,rfl,rfl⟩,λb n=>?_,q⟩;have e:b=s1.heap.objs.size:=by simpa using n
  subst e;exact c.sY (VG _) (c.aZ.fresh (VG _))
 ·obtain⟨i,rv,p,u⟩:=c.tuple m;refine YF (show s1.heap.IsTuple a i.toArray from p) ?_;refine⟨s1.heap.objs.size,[s1.heap.objs.size],_,_,d,rfl,c.kept (t':=s1.toks) λb o e=>VB _ e,AD a _,⟨_,VR _ rfl,rfl,rfl⟩,λb n=>?_,q⟩;have e:b=s1.heap.objs.size:=by simpa using n
  subst e;exact c.sY (VG _) (c.aZ.fresh (VG _))
end L2
namespace Sm
open L2
noncomputable def b9(d:D)(h:MH):Option (List D×W):=match d with
 | .lv xs=>some (xs,[])
 | .ro xs=>some (xs,[])
 | .tup xs=>some (xs,[])
 | .ob n=>match h[n]? with
  | some (.lst xs)=>some (xs,[(n,.lst xs)])
  | _=>none
 | _=>none
def gI(e:EM):IM:=λa h=>(e a h).bind λp=>(b9 p.1 p.2).map λq=>(q.1,q.2,p.2)
noncomputable def qk(m:AM):IM:=λa h=>(m a h).bind λp=>match p.1 with
 | [.int j]=>if -(2^62)<=j/\j < 2^62 then some ((List.range j.toNat).map λ(k:Nat)=>D.int (k:Int),[],p.2) else none
 | [.int i,.int j]=>if -(2^62)<=i/\i < 2^62/\-(2^62)<=j/\j < 2^62 then some ((List.range (j-i).toNat).map λ(k:Nat)=>D.int (i+(k:Int)),[],p.2) else none
 | _=>none
def xy(hl:∀a b d,Ch f H a b->bC K a d b->gR ws d=true->∃c,aw K a b c xs/\(∀i:Nat,c.length<=i->J.stop i b)/\∀(i:Nat) v,c[i]?=some v->J.go i b/\∀u e,J.LN i b u e->e=b/\u=v):LI K J f H ws xs:=by
 refine⟨λa b d T S p i=>?_⟩;obtain⟨c,l,k,j⟩:=hl a b d T S p;refine⟨λo=>k i (by rw[l.length];exact o),λx m=>?_⟩;obtain⟨v,n,r⟩:=l.got m;obtain⟨g,y⟩:=j i v n;refine⟨g,λu e h=>?_⟩;obtain⟨rfl,rfl⟩:=y u e h;exact⟨.refl _ _,S,r⟩
def ON(hl:∀b d f,Ch h H b d->bC K b f d->gR ws f=true->∃c,aw K b d c xs/\eL K d a c):LI K (UT K a) h H ws xs:=
 xy λb d f T S k=>by
  obtain⟨c,l,q⟩:=hl b d f T S k;refine⟨c,l,λi j=>⟨c,q,j⟩,λi v g=>⟨⟨c,v,q,g⟩,λu m ⟨e,y⟩=>⟨e,?_⟩⟩⟩;have:=y c q;rw[g] at this;exact(Option.some.inj this).symm
def OL(hl:∀b d f,Ch h H b d->bC K b f d->gR ws f=true->∃c,aw K b d c xs/\i5 K d a c):LI K (US K a) h H ws xs:=
 xy λb d f T S k=>by
  obtain⟨c,l,q⟩:=hl b d f T S k;refine⟨c,l,λi j=>⟨c,q,j⟩,λi v g=>⟨⟨c,v,q,g⟩,λu m ⟨e,y⟩=>⟨e,?_⟩⟩⟩;have:=y c q;rw[g] at this;exact(Option.some.inj this).symm
def Ln(a:gR [(n,o)] h=true):h[n]?=some o:=by
 unfold gR at a;cases q:h[n]? with
 | none=>rw[q] at a;cases a
 | some u=>
  rw[q] at a;simp[gR] at a;rw[DU a]
inductive SeqAt(K:FR)(H:Hp)(a:Addr)(vs:List V):Bool->Prop where
 | l:eL K H a vs->SeqAt K H a vs true
 | t:i5 K H a vs->SeqAt K H a vs false
noncomputable def sS:D->Bool
 | .tup _=>false
 | _=>true
def ij(S:bC K p h H)(r:Rep K p H v d)(e:b9 d h=some (xs,ws)):∃a,v=.ref a/\(∃j,SeqAt K H a j (sS d)/\aw K p H j xs)/\
  ∀c g f,Ch p H c g->bC K c f g->gR ws f=true->∃j,aw K c g j xs/\SeqAt K g a j (sS d):=by
 cases r with
 | tup ht l=>
  cases e;refine⟨_,rfl,⟨_,.t ht.sq,l⟩,λc g f T m _=>?_⟩;cases(Rep.tup ht l).mono T with
  | tup f k=>exact⟨_,k,.t f.sq⟩
 | lv ht n l=>
  cases e;refine⟨_,rfl,⟨_,.l (eL.of ht),l⟩,λc g f T m _=>?_⟩;cases(Rep.lv ht n l).mono T with
  | lv f _ k=>exact⟨_,k,.l (eL.of f)⟩
 | ro ht l=>
  cases e;refine⟨_,rfl,⟨_,.l ht.sq,l⟩,λc g f T m _=>?_⟩;cases(Rep.ro ht l).mono T with
  | ro f k=>exact⟨_,k,.l f.sq⟩
 | @ob a n hn=>
  unfold b9 at e;dsimp only at e;cases q:h[n]? with
  | none=>rw[q] at e;cases e
  | some o=>
   rw[q] at e;cases o with
   | dct _=>exact cb e
   | dcH _=>exact cb e
   | lst z=>
    cases e;obtain⟨j,y,l⟩:=S.at_ n a _ hn q;refine⟨a,rfl,⟨j,.l (eL.of y),l⟩,λc g f T m u=>?_⟩;obtain⟨us,w,s⟩:=m.at_ n a _ (T.pre n a hn) (Ln u);exact⟨us,s,.l (eL.of w)⟩
 | bx=>exact cb e
 | bl b=>exact cb e
 | int i=>exact cb e
 | str x=>exact cb e
 | ty x=>exact cb e
 | dv _ _ _=>exact cb e
section
variable {X:Cx} {a b c e tg iter:Expr} {es:List Expr} {pos:Pos} {ma mb:EM} {mt:TM} {ms mu:SM} {m:AM} {g:GM} {gs:FP}
def fQ(h:SE X e ma):SI X tg e (gI ma):=(NR h).imp λσ H Q u9=>by
 obtain⟨A,C,h,xs,ws,N,R,S,e,k⟩:=u9;obtain⟨⟨x,F⟩,L,J⟩:=a9 e;obtain⟨⟨M,w⟩,I,G⟩:=cY J;cases G;refine⟨A,C,h,x,F,R,S,L,λv H1 u9=>?_⟩;obtain⟨i,z,s,E⟩:=u9;obtain⟨a,rfl,⟨y,q,l⟩,st⟩:=ij s E I;refine⟨a,rfl,?_⟩;generalize sS x=b at q st;cases q with
 | l q=>exact .inl ⟨⟨y,q⟩,k _ i H1 z s (ON λd u o p r n=>by obtain⟨us,j,f⟩:=st d u o p r n;cases f with | l f=>exact⟨us,j,f⟩)⟩
 | t q=>exact .inr ⟨⟨y,q⟩,k _ i H1 z s (OL λd u o p r n=>by obtain⟨us,j,f⟩:=st d u o p r n;cases f with | t f=>exact⟨us,j,f⟩)⟩
theorem jY:∀(ns:List Int),aw K ρ H (ns.map V.int) (ns.map D.int)
 | []=>.nil
 | _::r=>.cons (.int _) (jY r)
def OM(f:Int)(n:Nat):LI K (SN f n) ρ H [] ((List.range n).map λ(k:Nat)=>D.int (f+(k:Int))):=by
 refine xy λh w y T S x=>⟨(List.range n).map λ(k:Nat)=>V.int (f+(k:Int)),?_,λi o=>?_,λi v l=>?_⟩
 ·have:=jY (K:=K) (ρ:=h) (H:=w) ((List.range n).map λ(k:Nat)=>f+(k:Int));rw[XO,XO] at this;exact this
 ·rw[Vy,V2] at o;exact o
 ·rw[VN] at l;obtain⟨j,t,s⟩:=cY l;obtain⟨d,r⟩:=Vz.mp t;rw[V2] at d;rw[ZK] at r;subst r;subst s;exact⟨d,λu z ⟨p,q⟩=>⟨p,q⟩⟩
def Em(l:aw K f H d [.int j]):d=[.int j]:=by
 cases l with
 | cons r l=>cases l;cases r;rfl
def cw(t:Gl X "range")(hm:X.mg "range"=none)(u:SA X [a] m)(s:starEach [a] X.env=[(false,eval a X.env)]:=by ac_nf)(hl:kA m 1):SI X tg (.Call (.Name "range" p) [a] [] pos) (qk m):=
 (EA t hm u s).imp λA H Q q=>by
  obtain⟨ρ,o,h,C,E,G,R,S,e,k⟩:=q;obtain⟨⟨x,v⟩,l,f⟩:=a9 e;refine⟨ρ,o,h,x,v,R,S,l,λF i n w y r=>?_⟩;obtain⟨d,rfl⟩:=X4.mp (hl _ _ _ _ l);cases d <;> first | exact absurd f (by intro z;cases z) | skip
  rename_i j;dsimp only at f
  by_cases z:-(2^62)<=j/\j < 2^62
  ·rw[VE z] at f;cases f;refine⟨j,Em r,z.1,z.2,k _ i n w y ?_⟩;have:=OM (K:=X.K) (ρ:=i) (H:=n) 0 j.toNat
   simpa using this
  ·rw[VH z] at f;cases f
noncomputable def gw(d:List (Option Nat))(f:DS):DS:=d.map λo=>o.bind λi=>(f[i]?).join
noncomputable def cj:TM:=λ_ h=>some (true,h)
def a8(d:W)(g:GM)(c:TM)(e:EM):List D->DS->MH->Option (List D×MH)
 | [],_,h=>if gR d h then some ([],h) else none
 | x::r,f,h=>if gR d h then(g x f h).bind λq=>(c q.1 q.2).bind λt=>if t.1 then(e q.1 t.2).bind λy=>(a8 d g c e r q.1 y.2).map λz=>(y.1::z.1,z.2) else a8 d g c e r q.1 t.2 else none
def cF(d:List (Option Nat))(i:IM)(g:GM)(c:TM)(e:EM):AM:=λf h=>(i f h).bind λp=>(a8 p.2.1 g c e p.1 (gw d f) p.2.2).bind λq=>if q.1.length<=sizeLine then some q else none
theorem bT.lO(R:bT K l H σ h)(f:List (Option Nat)):bT K l H (lO f σ) (gw f h):=by
 refine⟨by simp[L2.lO,gw],λi d hd=>?_⟩;unfold gw at hd;rw[VN] at hd;obtain⟨o,q,k⟩:=cY hd;cases o with
 | none=>exact cb k
 | some j=>
  have p:h[j]?=some (some d):=Aax.mp k;obtain⟨v,n,r⟩:=R.at_ j d p;refine⟨v,?_,r⟩;unfold L2.lO;rw[VN,q];simp[n]
def PQ(X:Cx)(d:List Expr)(m:TM):Prop:=Jn X d (yq X.K m)
def bR:PQ X [] cj:=λd s f H Q I hh=>by
 obtain⟨i,j,h,b,l,R,S,e,k⟩:=hh;cases e;exact Kk d s f H Q I (k i H (.refl _ _) S)
def qw(h:ST X c mt):PQ X [c] mt:=Kj h
def CM(hh:tM X.K (gd (cF F mi g mt ma)) σ H Q):F4 F (LQ X.K mi) (AI X.K g) (yq X.K mt) (tM X.K ma) σ H Q:=by
 obtain⟨ρ,δ,h,d,h',R,S,ee,k⟩:=hh;obtain⟨⟨out,h0⟩,ea,e0⟩:=cY ee;cases e0;obtain⟨⟨I,ws,h1⟩,e1,eb⟩:=a9 ea;obtain⟨⟨ys,E⟩,e2,o⟩:=a9 eb;dsimp only at e2 o
 by_cases hz:ys.length<=sizeLine
 ·rw[VE hz] at o;cases o;refine⟨ρ,δ,h,I,ws,h1,R,S,e1,λJ f H1 T1 S1 It l hl=>?_⟩;have nl:¬f.has l:=S1.fresh hl;have Tl:Ch f H1 (f.keep l) (upd H1 l (.lst [])):=Ch.keep hl;refine⟨λi m τ2 p=>∃(j:List Addr)(M:DS)(E:MH)(C:List V)(P bs:List D),m=I.length-i/\i<=I.length/\Ch f H1 ⟨j,l::f.rs⟩ p/\(∀b∈f.rs,p b=H1 b)/\bT X.K ⟨j,l::f.rs⟩ p τ2 M/\bC X.K ⟨j,l::f.rs⟩ E p/\
    p l=some (.lst C)/\aw X.K ⟨j,l::f.rs⟩ p C P/\out=P++bs/\a8 ws g mt ma (I.drop i) M E=some (bs,h0),
   ⟨_,f.ob,gw F δ,h1,[],[],out,rfl,Wm _,Tl,λb L=>ao λz=>nl (.inr (z ▸ L)),((R.mono T1).lO F).mono Tl,S1.keep hl,aC,.nil,rfl,e2⟩,?_⟩
  rintro i m τ2 p ⟨j,M,E,C,P,bs,rfl,hi,T2,U,R2,S2,Y,l2,eo,o⟩;have s:∀b∈f.rs,b∈l::f.rs:=λb L=>VD _ L;have C2:Ch ⟨j,l::f.rs⟩ p ⟨j,f.rs⟩ p:=Ch.free s;have T2':cm f H1 ⟨j,f.rs⟩ p:=⟨T2.trans C2,rfl,U⟩;have S2':bC X.K ⟨j,f.rs⟩ E p:=S2.free s;cases q:I.drop i with
  | nil=>
   rw[q] at o;unfold a8 at o
   by_cases Z:gR ws E=true
   ·rw[VE Z] at o;cases o;rw[Wl] at eo;subst eo;have hle:I.length<=i:=by have:=congrArg List.length q;rw[Ym,WZ] at this;lia
    refine .inl ⟨(It.run _ p _ T2 S2 Z i).1 hle,k _ _ ⟨_,T1.trans T2',S2',.lv Y (λz=>?_) (l2.mono C2)⟩⟩;rcases z with z | z
    ·exact(S2.qy l VF).2 z
    ·exact nl (.inr z)
   ·rw[VH Z] at o;cases o
  | cons x r=>
   rw[q] at o;unfold a8 at o
   by_cases Z:gR ws E=true
   ·rw[VE Z] at o;have hx:I[i]?=some x:=by
     have:=congrArg (λl=>l[0]?) q
     simpa using this
    have hlt:i < I.length:=(Vz.mp hx).1;have hr:I.drop (i+1)=r:=by
     have:=congrArg List.tail q
     simpa using this
    obtain⟨⟨w,h3⟩,e4,e5⟩:=a9 o;obtain⟨⟨t,h4⟩,e6,e7⟩:=a9 e5;dsimp only at e4 e5 e6 e7;obtain⟨hgo,hy⟩:=(It.run _ p E T2 S2 Z i).2 x hx;refine .inr ⟨hgo,λτ5 O=>∃(n:List Addr)(h5:MH)(C:List V)(P bs:List D),Ch f H1 ⟨n,l::f.rs⟩ O/\(∀b∈f.rs,O b=H1 b)/\bT X.K ⟨n,l::f.rs⟩ O τ5 w/\bC X.K ⟨n,l::f.rs⟩ h5 O/\
     O l=some (.lst C)/\aw X.K ⟨n,l::f.rs⟩ O C P/\out=P++bs/\a8 ws g mt ma r w h5=some (bs,h0),?_,?_⟩
    ·rintro τ5 O ⟨n,h5,vs5,as5,bs5,T5,T,R5,S5,hl5,l5,eo5,e5⟩;exact⟨I.length-(i+1),by lia,n,w,h5,vs5,as5,bs5,rfl,hlt,T5,T,R5,S5,hl5,l5,eo5,by rw[hr];exact e5⟩
    ·intro v H3 y3;obtain⟨T3,S3,r3⟩:=hy v H3 y3;refine⟨⟨j,l::f.rs⟩,M,E,x,w,h3,R2.mono T3,S3,r3,e4,λρ4 H4 τ4 T4 S4 R4=>?_⟩;refine⟨ρ4,w,h3,t,h4,R4,S4,e6,λρ5 O T5 S5=>?_⟩;have A:cm ⟨j,l::f.rs⟩ p ρ5 O:=T3.trans (T4.trans T5);obtain⟨n,T⟩:=ρ5;have ers:T=l::f.rs:=A.rs;subst ers;cases t with
     | false=>
      rw[VH (by simp)] at e7;refine OP ?_;exact⟨n,h4,C,P,bs,T2.trans A.toCh,λb L=>(A.res b (s b L)).trans (U b L),R4.mono T5,S5,(A.res l VF).trans Y,l2.mono A.toCh,eo,e7⟩
     | true=>
      rw[VE rfl] at e7;refine OO ?_;obtain⟨⟨y,h6⟩,e8,e9⟩:=a9 e7;obtain⟨⟨zs,h7⟩,e10,e11⟩:=cY e9;cases e11;refine⟨⟨n,l::f.rs⟩,w,h4,y,h6,R4.mono T5,S5,e8,λu H6 u9=>?_⟩;obtain⟨ρ6,T6,S6,r6⟩:=u9;have G:cm ⟨j,l::f.rs⟩ p ρ6 H6:=A.trans T6;obtain⟨N,rs6⟩:=ρ6;have ers:rs6=l::f.rs:=G.rs;subst ers;have hl6:H6 l=some (.lst C):=(G.res l VF).trans Y;have hml:l∈(⟨N,l::f.rs⟩:Ad).rs:=VF;have hlen:C.length < sizeLine:=by
       have h1:=l2.length;have E:=congrArg List.length eo;rw[VM,VU] at E
       lia
      have Cp:Ch ⟨N,l::f.rs⟩ H6 ⟨N,l::f.rs⟩ (upd H6 l (.lst (C++[u]))):=Ch.put hml;refine⟨C,hl6,hlen,N,h6,C++[u],P++[y],zs,(T2.trans G.toCh).trans Cp,λb L=>?_,((R4.mono T5.toCh).mono T6.toCh).mono Cp,S6.put hml,aC,((l2.mono G.toCh).snoc r6).mono Cp,by rw[eo];simp,e10⟩;rw[ao (λ(z:b=l)=>nl (.inr (z ▸ L)))];exact(G.res b (s b L)).trans (U b L)
   ·rw[VH Z] at o;cases o
 ·rw[VH hz] at o;cases o
end
end Sm
namespace Sm
open L2 PyProof.Rows
section
variable {X:Cx} {a b c e tg iter elt:Expr} {es:List Expr} {pos:Pos} {ma mb:EM} {mt:TM} {ms mu:SM} {m:AM} {g:GM} {gs:FP}
def dI(C:bg X N' caps scope)(p:X.calm=true)(l:SI X tg iter j)(n:∀C d f h pl,SG (fE X N' scope C d f h pl) tg g)(i:∀C d f h pl,PQ (fE X N' scope C d f h pl) ifs mt)(o:∀C d f h pl,SE (fE X N' scope C d f h pl) elt ma)(k:∀x,foldedSetIterable iter X.env x=pure x:=by intro _;ac_nf):
  SE X (.ListComp elt [⟨tg,iter,ifs,0⟩] scope pos) (gd (cF caps j g mt ma)):=(zd (g:=AI X.K g) (tc:=yq X.K mt) (te:=tM X.K ma) C p l n i o k).imp λ_ _ _=>CM
def gh(w:X.N.Nodup)(n:X.N[i]?=some y)(p:X.env.scope.names.lookup y=some .local)(C:bg X N' caps scope)(v:X.calm=true)(s:SI X tg iter o)(t:∀C d f j pl,SG (fE X N' scope C d f j pl) tg g)(l:∀C d f j pl,PQ (fE X N' scope C d f j pl) ifs mt)(u:∀C d f j pl,SE (fE X N' scope C d f j pl) elt ma)(k:swapsWith (.ListComp elt [⟨tg,iter,ifs,0⟩] scope pos) (some (.Name y py)) h.line X.env=pure true:=by ac_nf)(r:∀x,foldedSetIterable iter X.env x=pure x:=by intro _;ac_nf):
  SS X (.Assign [.Name y py] (.ListComp elt [⟨tg,iter,ifs,0⟩] scope pos) h) (aQ i (gd (cF caps o g mt ma))):=
 (G4 (g:=AI X.K g) (tc:=yq X.K mt) (te:=tM X.K ma) w n p C v s t l u k r).imp λE z H hh=>by
  have q:=GJ hh;exact CM q
end
inductive Si(K:FR)(n:Nat)(F:Fn)(vs:List V)(H:Hp)(Q:VK):Prop where
 | mk (ρ h ds d h'):bC K ρ h H->aw K ρ H vs ds->(ds.length=n)->(F ds h=some (d,h'))->(∀v H',dB K ρ H h' d v H'->Q v H')->Si K n F vs H Q
def FF(K:FR)(n:Nat)(F:Fn):Sp:=λa H Q _=>Si K n F a H Q
def JF(G:fX X.prog X.w X.K X.mg X.base wm k f fd t (FF X.K n F))(hr:eU k X.A)(y:Gl X x)(hm:X.mg x=some (.ref f))(u:PySem.W.keepIn X.K (.ref f)=true)(C:Binds X.K fd t [])
  (I:SA X (e::es) m) (hl:kA m n) (c:(x==("__debug__":Str))=false:=by ac_nf) (z:starEach (e::es) X.env=(false,eval e X.env)::starEach es X.env:=by ac_nf) (b:(backTo pos (starEach es X.env)).any (·.1)=false:=by ac_nf):
  SE X (.Call (.Name x p) (e::es) [] pos) (aq F m):=(Kp (E:=E0) G hr y hm u C .nil Q2 I c z b).imp λσ H Q u9=>by
 obtain⟨l,o,h,d,J,R,S,e,q⟩:=u9;obtain⟨⟨j,g⟩,i,L⟩:=a9 e;refine⟨l,o,h,j,g,R,S,i,λr a O M N s=>?_⟩;show FF X.K n F (r++[]) O Q E0;rw[Wl];exact⟨a,g,j,d,J,N,s,hl _ _ _ _ i,L,λv T P=>q v T (P.step M)⟩
noncomputable def JJ(r:Fl×DS×MH):Option (D×MH):=match r.1 with
 | .rt d=>some (d,r.2.2)
 | .nx=>some (.bx,r.2.2)
 | _=>none
noncomputable def entry(len:Nat)(a:List D):DS:=a.map some++List.replicate (len-a.length) none
def g0(len:Nat)(a:SM):Fn:=λb h=>(a (entry len b) h).bind JJ
theorem bT.entry{K:FR}{c:Ad}{H:Hp}{e:List V}{b:List D}(N:List Str)(l:aw K c H e b):bT K c H (L2.start N e) (Sm.entry N.length b):=by
 refine⟨by simp[L2.start,Sm.entry,l.length],λi d hd=>?_⟩;unfold Sm.entry at hd;unfold L2.start
 by_cases a:i < b.length
 ·rw[VW (by simpa using a),VN] at hd;obtain⟨j,h,g⟩:=cY hd;cases g;obtain⟨v,f,r⟩:=l.got h;refine⟨v,?_,r⟩;rw[VW (by rw[Vy,l.length];exact a),VN,f];rfl
 ·rw[VY (by simpa using a),Aaz] at hd
  split at hd <;> cases hd
section
variable {P:Program} {w:World} {K:FR} {mg:Str->Option Value} {base:Heap} {x qual:Str} {st:Stmt} {f:Addr} {fd:FuncData} {N ps:List Str} {k:Nat}
def OT(F:Cm K x qual st f fd)(z:au N ps (ah st))(p:∀(a:Value)(A:Around)(outer:List Env)(s:Shared)(H:Hp)(E:XK),eU k (A.deeper (envOfC qual (ah st) s.heap.objs.size f a))->Jm (z7 wm P w K mg base N qual (ah st) f a A outer s H E).P1 (gu st) body):
  fX P w K mg base wm (k+1) f fd ps (FF K ps.length (g0 N.length body)):=by
 refine F.ok z (λo H Q E h=>?_) (λa A outer s H o Q E hr h=>?_)
 ·obtain⟨i,h,j,d,u,S,r,hl,_⟩:=h;rw[r.length];exact hl
 ·obtain⟨i,h,j,d,u,S,r,hl,e,q⟩:=h;refine⟨_,p a A outer s H E hr,?_⟩;obtain⟨⟨fl,g,t⟩,y,c⟩:=a9 e;refine⟨i,entry N.length j,h,fl,g,t,bT.entry N r,S,y,λb G l m=>?_⟩;cases fl with
  | nx=>cases c;exactλn C=>q _ _ ⟨b,l,m,.bx⟩
  | rt d=>cases c;exactλv r=>q _ _ ⟨b,l,m,r⟩
  | bk=>cases c
  | ct=>cases c
end
mutual
noncomputable def fD(n:Nat):D->Bool
 | .tup xs=>cC n xs
 | .lv xs=>cC n xs
 | .ro xs=>cC n xs
 | .dv a=>Lm n a
 | .ob m=>decide (m < n)
 | _=>true
noncomputable def cC(n:Nat):List D->Bool
 | []=>true
 | x::r=>fD n x&&cC n r
noncomputable def Lm(n:Nat):List (Key×D)->Bool
 | []=>true
 |(_,x)::r=>fD n x&&Lm n r
end
def yf(n:Nat):MO->Bool
 | .lst xs=>cC n xs
 | .dct a=>Lm n a
 | .dcH a=>cC n (a.map (·.1))&&cC n (a.map (·.2))
abbrev Ad.cut(ρ:Ad)(n:Nat):Ad:=⟨ρ.ob.take n,ρ.rs⟩
def Ad.nj{b:Ad}{n:Nat}{a:Addr}(h:(b.cut n).has a):b.has a:=h.elim (λm=>.inl (Zv m)) .inr
mutual
theorem Rep.cut{K:FR}{f:Ad}{H:Hp}{n:Nat}{v:V}{d:D}(r:Rep K f H v d)(c:fD n d=true):Rep K (f.cut n) H v d:=by
 cases r with
 | bx=>exact .bx
 | bl b=>exact .bl b
 | int i=>exact .int i
 | str x=>exact .str x
 | ty n=>exact .ty n
 | tup h l=>exact .tup (h.elim (λ⟨a,n⟩=>.inl ⟨a,λm=>n (Ad.nj m)⟩) .inr) (aw.cut l c)
 | lv h n l=>exact .lv h (λm=>n (Ad.nj m)) (aw.cut l c)
 | ro h l=>exact .ro (h.elim (λ⟨a,n⟩=>.inl ⟨a,λm=>n (Ad.nj m)⟩) .inr) (aw.cut l c)
 | dv h n l=>exact .dv h (λm=>n (Ad.nj m)) (bq.cut l c)
 | ob e=>exact .ob ((Ww (WT c)).trans e)
theorem aw.cut{K:FR}{a:Ad}{H:Hp}{n:Nat}{v:List V}{d:List D}(r:aw K a H v d)(c:cC n d=true):aw K (a.cut n) H v d:=by
 cases r with
 | nil=>exact .nil
 | cons r l=>have c:=V3.mp c;exact .cons (Rep.cut r c.1) (aw.cut l c.2)
theorem bq.cut{K:FR}{a:Ad}{H:Hp}{n:Nat}{v:List (Key×V)}{d:List (Key×D)}(r:bq K a H v d)(c:Lm n d=true):bq K (a.cut n) H v d:=by
 cases r with
 | nil=>exact .nil
 | cons r l=>have c:=V3.mp c;exact .cons (Rep.cut r c.1) (bq.cut l c.2)
end
mutual
theorem Rep.clean{K:FR}{a:Ad}{H:Hp}{v:V}{d:D}(r:Rep K a H v d):fD a.ob.length d=true:=by
 cases r with
 | tup h l=>exact aw.clean l
 | lv h n l=>exact aw.clean l
 | ro h l=>exact aw.clean l
 | dv h n l=>exact bq.clean l
 | ob e=>exact Wa (Vz.mp e).1
 | _=>rfl
theorem aw.clean{K:FR}{a:Ad}{H:Hp}{v:List V}{d:List D}(r:aw K a H v d):cC a.ob.length d=true:=by
 cases r with
 | nil=>rfl
 | cons r l=>exact V3.mpr ⟨Rep.clean r,aw.clean l⟩
theorem bq.clean{K:FR}{a:Ad}{H:Hp}{v:List (Key×V)}{d:List (Key×D)}(r:bq K a H v d):Lm a.ob.length d=true:=by
 cases r with
 | nil=>rfl
 | cons r l=>exact V3.mpr ⟨Rep.clean r,bq.clean l⟩
end
theorem Az.cut{K:FR}{d:Ad}{H:Hp}{n:Nat}{a:Addr}{o:MO}(x:Az K d H a o)(c:yf n o=true):Az K (d.cut n) H a o:=by
 cases o with
 | lst ds=>obtain⟨b,e,l⟩:=x;exact⟨b,e,l.cut c⟩
 | dct ds=>obtain⟨b,e,l⟩:=x;exact⟨b,e,l.cut c⟩
 | dcH ds=>obtain⟨us,f,e,l,g,p⟩:=x;have c:=V3.mp c;exact⟨us,f,e,l.cut c.1,g.cut c.2,p⟩
theorem Az.clean{K:FR}{b:Ad}{H:Hp}{a:Addr}{o:MO}(x:Az K b H a o):yf b.ob.length o=true:=by
 cases o with
 | lst ds=>obtain⟨c,e,l⟩:=x;exact l.clean
 | dct ds=>obtain⟨c,e,l⟩:=x;exact l.clean
 | dcH ds=>obtain⟨us,f,e,l,d,p⟩:=x;exact V3.mpr ⟨l.clean,d.clean⟩
noncomputable def AG(n:Nat)(h:MH)(d:D):D:=match d with
 | .ob m=>if m < n then .ob m else match h[m]? with
  | some (.lst xs)=>.lv xs
  | some (.dct a)=>.dv a
  | _=>.ob m
 | d=>d
def leave(h:MH)(d:D)(a:MH):Option (D×MH):=
 if fD h.length (AG h.length a d)&&(x6 (a.take h.length) h||(a.take h.length).all (yf h.length)) then some (AG h.length a d,a.take h.length) else none
def FG(len:Nat)(a:SM):Fn:=λb h=>((a (entry len b) h).bind JJ).bind λp=>leave h p.1 p.2
theorem dB.leave{K:FR}{t:Ad}{H F:Hp}{h i L:MH}{d M:D}{v:V}(S:bC K t h H)(p:dB K t H i d v F)(e:Sm.leave h d i=some (M,L)):dB K t H L M v F:=by
 obtain⟨c,T,k,r⟩:=p;unfold Sm.leave at e
 by_cases y:(fD h.length (AG h.length i d)&&(x6 (i.take h.length) h||(i.take h.length).all (yf h.length)))=true
 ·rw[VE y] at e;cases e;rw[V1] at y;obtain⟨g,s⟩:=y;have O:h.length<=i.length:=by
   rw[<-S.len,<-k.len];refine WR λC=>?_;have f:t.ob[c.ob.length]?=some t.ob[c.ob.length]:=VI C;have:=(Vz.mp (T.pre _ _ f)).1
   lia
  have w:∀(m:Nat) o,m < h.length->i[m]?=some o->yf h.length o=true:=by
   intro m o hm I;rw[Xl] at s;rcases s with s | s
   ·have f:=DV s;have u:h[m]?=some o:=by rw[<-f,Ww hm];exact I
    have A:m < t.ob.length:=by rw[S.len];exact hm
    have:=(S.at_ m _ o (VI A) u).clean;rw[S.len] at this;exact this
   ·rw[Xd] at s;exact s o (VC (show(i.take h.length)[m]?=some o by rw[Ww hm];exact I))
  have P:bC K (c.cut h.length) (i.take h.length) F:=by
   refine⟨by simp[k.len],k.nd.sublist (ZU _ _),λn a o f u=>?_,λb J=>⟨(k.qy b J).1,λm=>(k.qy b J).2 (Zv m)⟩⟩;have hn:n < h.length:=by
    have:=(Vz.mp u).1;rw[V4] at this
    lia
   have f:(c.ob.take h.length)[n]?=some a:=f;rw[Ww hn] at f u;exact(k.at_ n a o f u).cut (w n o hn u)
  refine⟨c.cut h.length,⟨⟨λn a e=>?_,λb o n e=>?_⟩,T.rs,T.res⟩,P,?_⟩
  ·have hn:n < h.length:=by rw[<-S.len];exact(Vz.mp e).1
   show(c.ob.take h.length)[n]?=some a;rw[Ww hn];exact T.pre n a e
  ·obtain⟨n1,f⟩:=T.old b o n e;exact⟨λm=>n1 (Ad.nj m),f⟩
  ·cases d with
   | ob m=>
    unfold AG at g ⊢;dsimp only at g ⊢
    by_cases hm:m < h.length
    ·rw[VE hm] at g ⊢;exact r.cut g
    ·rw[VH hm] at g ⊢;cases r with
     | ob hn=>
      rename_i a;have G:¬(c.cut h.length).has a:=by
       intro z;rcases z with z | z
       ·obtain⟨j,hj⟩:=List.getElem?_of_mem z;have E:j < h.length:=by
         have:=(Vz.mp hj).1;rw[V4] at this
         lia
        rw[Ww E] at hj;have:=(ZW (Vz.mp hj).1 k.nd).mp (hj.trans hn.symm)
        lia
       ·exact(k.qy a z).2 (VC hn)
      cases q:i[m]? with
      | none=>rw[q] at g;exact absurd g (by simp[fD];lia)
      | some o=>
       have x:=k.at_ m a o hn q;cases o with
       | lst xs=>
        rw[q] at g;obtain⟨N,f,l⟩:=x;exact .lv f G (l.cut (by simpa [fD] using g))
       | dct xs=>
        rw[q] at g;obtain⟨N,f,l⟩:=x;exact .dv f G (l.cut (by simpa [fD] using g))
       | dcH xs=>rw[q] at g;exact absurd g (by simp[fD];lia)
   | _=>exact r.cut g
 ·rw[VH y] at e;cases e
section
variable {P:Program} {w:World} {K:FR} {mg:Str->Option Value} {base:Heap} {x qual:Str} {st:Stmt} {f:Addr} {fd:FuncData} {N ps:List Str} {k:Nat}
def cZ(G:fX P w K mg base wm k f fd ps (FF K ps.length (g0 N.length body))):fX P w K mg base wm k f fd ps (FF K ps.length (FG N.length body)):=by
 refine G.imp λl H Q E hh=>?_;obtain⟨a,h,i,d,m,S,r,hl,e,q⟩:=hh;obtain⟨⟨d1,b⟩,g,c⟩:=a9 e;exact⟨a,h,i,d1,b,S,r,hl,g,λv j p=>q v j (p.leave S c)⟩
end
def spT(K:FR):Sp:=λb H Q _=>∃(a:Addr)(ns:List Int),b=[.ref a]/\eL K H a (ns.map V.int)/\ns.length<=63/\∀c,Q (.bl true) c
def KJ{P:Program}{w:World}{K:FR}{mg:Str->Option Value}{base:Heap}{k:Nat}{f:Addr}{h:FuncData}{g:List Str}{F:Fn}(G:fX P w K mg base wm k f h g (FF K 1 F))
  (l:∀ns:List Int,ns.length<=63->∃d,F [.ro (ns.map D.int)] []=some (.bl true,d)):fX P w K mg base wm k f h g (spT K):=by
 refine G.imp λp H Q E hh=>?_;obtain⟨a,ns,rfl,c,hl,q⟩:=hh;obtain⟨d,e⟩:=l ns hl;refine⟨⟨[],[]⟩,[],[.ro (ns.map D.int)],.bl true,d,⟨rfl,Aah,λn a o e=>by simp at e,λb j=>absurd j (by simp)⟩,.cons (.ro ?_ (jY ns)) .nil,rfl,e,λv m ⟨i,T,S,r⟩=>?_⟩
 ·rcases c with c | c
  ·exact .inl ⟨c,λz=>z.elim (λz=>absurd z (by simp)) λz=>absurd z (by simp)⟩
  ·exact .inr (.inr c)
 ·cases r;exact q m
def ye(h:MH)(d:D):Option PyData:=match d with
 | .ob n=>match h[n]? with
  | some (.lst xs)=>(gc xs).map .list
  | _=>none
 | d=>jm d
mutual
theorem Rep.rZ{K:FR}{f:Ad}{H:Hp}{v:V}{d:D}{p:PyData}(r:Rep K f H v d)(e:jm d=some p):Ck K H v p/\p.canLay0=true:=by
 cases r with
 | bx=>cases e;exact⟨.bx,rfl⟩
 | bl b=>cases e;exact⟨.bl b,rfl⟩
 | int i=>cases e;exact⟨.int i,rfl⟩
 | str g=>cases e;exact⟨.str _,by simpa [PyData.canLay0] using g⟩
 | tup h l=>obtain⟨q,c,rfl⟩:=cY e;obtain⟨a,b⟩:=aw.rZ l c;exact⟨.tup h.sq a,by simpa [PyData.canLay0] using b⟩
 | lv h n l=>obtain⟨q,c,rfl⟩:=cY e;obtain⟨a,b⟩:=aw.rZ l c;exact⟨.lst (eL.of h) a,by simpa [PyData.canLay0] using b⟩
 | ro h l=>obtain⟨q,c,rfl⟩:=cY e;obtain⟨a,b⟩:=aw.rZ l c;exact⟨.lst h.sq a,by simpa [PyData.canLay0] using b⟩
 | _=>exact cb e
theorem aw.rZ{K:FR}{c:Ad}{H:Hp}{v:List V}{d:List D}{p:List PyData}(r:aw K c H v d)(e:gc d=some p):tT K H v p/\PyData.canLayAll0 p=true:=by
 cases r with
 | nil=>cases e;exact⟨.nil,rfl⟩
 | cons r l=>
  obtain⟨a,h,g⟩:=a9 e;obtain⟨b,f,rfl⟩:=cY g;obtain⟨a1,a2⟩:=Rep.rZ r h;obtain⟨j,i⟩:=aw.rZ l f;exact⟨.cons a1 j,by simp[PyData.canLayAll0,a2,i]⟩
end
section
variable {K:FR} {ρ:Ad} {H:Hp} {h:MH} {v:V} {d:D}
def qB(S:bC K ρ h H)(r:Rep K ρ H v d)(e:ye h d=some p):Ck K H v p/\p.canLay0=true:=by
 cases r with
 | @ob a n hn=>
  unfold ye at e;dsimp only at e;cases q:h[n]? with
  | none=>rw[q] at e;cases e
  | some o=>
   rw[q] at e;cases o with
   | dct _=>exact cb e
   | dcH _=>exact cb e
   | lst xs=>
    obtain⟨m,g,l⟩:=S.at_ n a _ hn q;obtain⟨b,f,c⟩:=cY e;subst c;obtain⟨k,j⟩:=l.rZ f;exact⟨.lst (eL.of g) k,by simpa [PyData.canLay0] using j⟩
 | bx=>exact Rep.rZ (Rep.bx (ρ:=ρ)) e
 | bl b=>exact Rep.rZ (Rep.bl (ρ:=ρ) b) e
 | int i=>exact Rep.rZ (Rep.int (ρ:=ρ) i) e
 | str x=>exact Rep.rZ (Rep.str (ρ:=ρ) x) e
 | ty n=>exact Rep.rZ (Rep.ty (ρ:=ρ) n) e
 | tup h l=>exact Rep.rZ (.tup h l) e
 | lv h n l=>exact Rep.rZ (.lv h n l) e
 | ro h l=>exact Rep.rZ (.ro h l) e
 | dv h n l=>exact Rep.rZ (.dv h n l) e
noncomputable def cL(d:D)(h:MH):Option (List D):=match d with
 | .lv xs=>some xs
 | .ob n=>match h[n]? with
  | some (.lst xs)=>some xs
  | _=>none
 | _=>none
def cR(S:bC K ρ h H)(r:Rep K ρ H v d)(e:cL d h=some xs):∃a b,v=.ref a/\H a=some (.lst b)/\aw K ρ H b xs:=by
 cases r with
 | @ob a n hn=>
  unfold cL at e;dsimp only at e;cases q:h[n]? with
  | none=>rw[q] at e;cases e
  | some o=>
   rw[q] at e;cases o with
   | dct _=>exact cb e
   | dcH _=>exact cb e
   | lst f=>
    cases e;obtain⟨b,c,l⟩:=S.at_ n a _ hn q;exact⟨a,b,rfl,c,l⟩
 | lv h n l=>cases e;exact⟨_,_,rfl,h,l⟩
 | _=>exact cb e
noncomputable def cc(d:D)(h:MH):Option (List (Key×D)):=match d with
 | .dv a=>some a
 | .ob n=>match h[n]? with
  | some (.dct a)=>some a
  | _=>none
 | _=>none
def iC(S:bC K ρ h H)(r:Rep K ρ H v d)(e:cc d h=some xs):∃a b,v=.ref a/\H a=some (.dK b)/\bq K ρ H b xs:=by
 cases r with
 | @ob a n hn=>
  unfold cc at e;dsimp only at e;cases q:h[n]? with
  | none=>rw[q] at e;cases e
  | some o=>
   rw[q] at e;cases o with
   | lst _=>exact cb e
   | dcH _=>exact cb e
   | dct f=>
    cases e;obtain⟨b,c,l⟩:=S.at_ n a _ hn q;exact⟨a,b,rfl,c,l⟩
 | dv h n l=>cases e;exact⟨_,_,rfl,h,l⟩
 | _=>exact cb e
def qx(S:bC K ρ h H)(r:Rep K ρ H v d)(e:b9 d h=some (xs,ws)):∃a c,v=.ref a/\(eL K H a c\/i5 K H a c)/\aw K ρ H c xs:=by
 obtain⟨a,f,⟨c,q,l⟩,_⟩:=ij S r e;refine⟨a,c,f,?_,l⟩;generalize sS d=b at q;cases q with
 | l q=>exact .inl q
 | t q=>exact .inr q
noncomputable def lG:D->Option Key
 | .int i=>some (.inl i)
 | .str x=>some (.inr x)
 | _=>none
noncomputable def cW(a:List (Key×D))(k:Key):Option D:=(a.find? λb=>decide (b.1=k)).map (·.2)
noncomputable def putD(a:List (Key×D))(k:Key)(v:D):List (Key×D):=
 if(a.any λb=>decide (b.1=k))=true then a.map (λb=>if b.1=k then(b.1,v) else b) else a++[(k,v)]
def gq(r:Rep K ρ H v d)(e:lG d=some k):v=kV k:=by
 cases r with
 | int i=>cases e;rfl
 | str x=>cases e;rfl
 | _=>exact cb e
def bq.val:∀{us:List (Key×V)} {b:List (Key×D)} (k:Key),bq K ρ H us b->(cW b k=none/\iY us k=none)\/∃d v,cW b k=some d/\iY us k=some v/\Rep K ρ H v d:=by
 intro us
 induction us with
 | nil=>intro b k a;cases a;exact .inl ⟨rfl,rfl⟩
 | cons u us c=>
  intro b k a;cases a with | @cons j v _ d ds r l=>
  by_cases z:j=k
  ·exact .inr ⟨d,v,by simp[cW,z],by simp[iY,z],r⟩
  ·have f:cW ((j,d)::ds) k=cW ds k:=by simp only[cW,WQ,z,decide_false]
   have e:iY ((j,v)::us) k=iY us k:=lS z;rw[f,e];exact c k l
theorem bq.length:∀{us:List (Key×V)} {b:List (Key×D)},bq K ρ H us b->us.length=b.length:=by
 intro us
 induction us with
 | nil=>intro b a;cases a;rfl
 | cons u us c=>intro b a;cases a with | cons _ l=>rw[VU,VU,c l]
theorem bq.any(k:Key):∀{us:List (Key×V)} {c:List (Key×D)},bq K ρ H us c->(us.any λe=>decide (e.1=k))=(c.any λe=>decide (e.1=k)):=by
 intro us
 induction us with
 | nil=>intro b a;cases a;rfl
 | cons u us f=>intro b a;cases a with | cons _ l=>rw[XB,XB,f l]
theorem bq.map(r:Rep K ρ H v d):∀{us:List (Key×V)} {e:List (Key×D)},bq K ρ H us e->bq K ρ H (us.map λc=>if c.1=k then(c.1,v) else c) (e.map λc=>if c.1=k then(c.1,d) else c):=by
 intro us
 induction us with
 | nil=>intro b a;cases a;exact .nil
 | cons u us f=>
  intro b a;cases a with | @cons j _ _ _ _ q l=>
  rw[VL,VL]
  by_cases z:j=k
  ·rw[VE z,VE z];exact .cons r (f l)
  ·rw[VH z,VH z];exact .cons q (f l)
def bq.append:∀{us b:List (Key×V)} {ks ls:List (Key×D)},bq K ρ H us ks->bq K ρ H b ls->bq K ρ H (us++b) (ks++ls):=by
 intro us b
 induction us with
 | nil=>intro ks ls a t;cases a;exact t
 | cons u us c=>intro ks ls a t;cases a with | cons r l=>exact .cons r (c l t)
def bq.put(l:bq K ρ H us a)(r:Rep K ρ H v d):bq K ρ H (putK us k v) (putD a k d):=by
 unfold putK putD;rw[l.any k]
 by_cases z:(a.any λb=>decide (b.1=k))=true
 ·rw[VE z,VE z];exact l.map r
 ·rw[VH z,VH z];exact l.append (.cons r .nil)
end
def BP(d e:D)(h:MH):Option (D×MH):=match d,e with
 | .int i,.int j=>some (.int (i+j),h)
 | .str a,.str b=>if a.length+b.length<=sizeLine then some (.str (a++b),h) else none
 | .tup [],.tup _=>none
 | .tup (x::f),.tup c=>if f.length+1+c.length<=sizeLine then some (.tup (x::f++c),h) else none
 | d,e=>(cL d h).bind λf=>(cL e h).bind λc=>if f.length+c.length<=sizeLine then some (.lv (f++c),h) else none
noncomputable def uJ(d e:D)(h:MH):Option (D×MH):=match d,e with
 | .int i,.int j=>some (.int (i-j),h)
 | _,_=>none
noncomputable def mO(i j:Int):Bool:=(decide (-(2^64) < i)&&decide (i < 2^64))||(decide (-(2^64) < j)&&decide (j < 2^64))
def OV(d e:D)(h:MH):Option (D×MH):=match d,e with
 | .int i,.int j=>if mO i j then some (.int (i*j),h) else none
 | _,_=>none
noncomputable def tf(d e:D)(h:MH):Option (D×MH):=match d,e with
 | .int i,.int j=>if 0 < j then some (.int (i % j),h) else none
 | _,_=>none
noncomputable def Ig(d e:D)(h:MH):Option (D×MH):=match d,e with
 | .int i,.int j=>if 0 < j/\j<=10^40 then some (.int (i / j),h) else none
 | _,_=>none
noncomputable def K6(d e:D)(h:MH):Option (D×MH):=match d,e with
 | .int i,.int j=>if 0<=j/\j<=1000000/\i.natAbs < 2^64 then some (.int (i^j.toNat),h) else none
 | _,_=>none
noncomputable def Li(f:Int->Int->Bool)(d e:D)(h:MH):Option (D×MH):=match d,e with
 | .int i,.int j=>some (.bl (f i j),h)
 | _,_=>none
def Mf:=Li λi j=>decide (i < j)
def FJ:=Li λi j=>decide (j < i)
def Rx:=Li λi j=>decide (j<=i)
def Jj(d e:D)(h:MH):Option Bool:=(ye h d).bind λa=>(ye h e).bind λb=>if a.depth<=64/\b.depth<=64 then some (PyData.eqv a b) else none
noncomputable def Us:D->Bool
 | .bx=>true
 | _=>false
def xI(d e:D)(h:MH):Option (D×MH):=match e with
 | .bx=>some (.bl (Us d),h)
 | _=>none
def vT(d e:D)(h:MH):Option (D×MH):=match e with
 | .bx=>some (.bl (!Us d),h)
 | _=>none
noncomputable def cG(d:D)(h:MH):Option (D×MH):=match d with
 | .int i=>some (.int (-i),h)
 | _=>none
def inD(d e:D)(h:MH):Option Bool:=match cc e h with
 | some c=>(lG d).map λk=>(cW c k).isSome
 | none=>match d,e with
  | .str x,.str y=>some (!(Builtin.Str.occurrences y x 0 y.length 1).isEmpty)
  | d,e=>(b9 e h).bind λp=>(ye h d).bind λa=>(gc p.1).bind λbs=>if a.depth<=60/\PyData.depthAll bs<=60 then some (bs.any λb=>PyData.eqv b a) else none
def Fd(d e:D)(h:MH):Option (D×MH):=(inD d e h).map λc=>(.bl c,h)
def oF(d e:D)(h:MH):Option (D×MH):=(inD d e h).map λc=>(.bl (!c),h)
def aB(d e:D)(h:MH):Option (D×MH):=match cc d h with
 | some a=>(lG e).bind λk=>(cW a k).map λz=>(z,h)
 | none=>match d,e with
  | .str z,.int i=>if z.length<=sizeLine then(fq z.cps.toList i).map λc=>(.str ⟨#[c]⟩,h) else none
  | d,.int i=>(b9 d h).bind λp=>(fq p.1 i).map λz=>(z,h)
  | _,_=>none
def jh{K:FR}{a:Ad}{H:Hp}{x:V}{i:Int}(r:Rep K a H x (.int i)):x=.int i:=by cases r;rfl
def Ba{K:FR}{a:Ad}{H:Hp}{x:V}{i:Str}(r:Rep K a H x (.str i)):x=.str i/\PyData.strOk i=true:=by cases r with | str h=>exact⟨rfl,h⟩
def GG{K:FR}{b:Ad}{H:Hp}{x:V}{d:List D}(r:Rep K b H x (.tup d)):∃a c,x=.ref a/\TupAt K b H a c/\aw K b H c d:=by cases r with | tup h l=>exact⟨_,_,rfl,h,l⟩
def xf(t:qr X g (rI C q))(w:∀d e h z b,f d e h=some (z,b)->∃i j,d=.int i/\e=.int j/\C i j/\b=h/\∀l H,Rep X.K l H (q i j) z):pV X g f:=by
 intro a s m H x y v u Q I p o hh;obtain⟨l,h,d,e,z,b,S,rd,r,A,k⟩:=hh;obtain⟨i,j,rfl,rfl,c,rfl,n⟩:=w _ _ _ _ _ A;obtain rfl:=jh rd;obtain rfl:=jh r;exact t a s m H _ _ v u Q I p o ⟨i,j,rfl,rfl,c,k _ _ (.here S (n _ _))⟩
def qG(r:qr X g (L4 q))(t:∀d e h z b,f d e h=some (z,b)->∃i j,d=.int i/\e=.int j/\b=h/\∀c H,Rep X.K c H (q i j) z):pV X g f:=by
 intro a s l H x y v u Q I o n hh;obtain⟨c,h,d,e,z,b,S,rd,p,w,k⟩:=hh;obtain⟨i,j,rfl,rfl,rfl,m⟩:=t _ _ _ _ _ w;obtain rfl:=jh rd;obtain rfl:=jh p;exact r a s l H _ _ v u Q I o n ⟨i,j,rfl,rfl,k _ _ (.here S (m _ _))⟩
def Hm:pV X (binaryOp .Sub) uJ:=qG Og λd e h z b a=>by
 cases d <;> first |(exact cb a) | skip
 cases e <;> first |(exact cb a) | skip
 cases a;exact⟨_,_,rfl,rfl,rfl,λ_ _=>.int _⟩
def N8:pV X (binaryOp .Mult) OV:=xf Oj λd e h z b a=>by
 cases d <;> first |(exact cb a) | skip
 cases e <;> first |(exact cb a) | skip
 rename_i i j;unfold OV at a;dsimp only at a
 by_cases c:mO i j=true
 ·rw[VE c] at a;cases a;refine⟨i,j,rfl,rfl,?_,rfl,λ_ _=>.int _⟩;unfold mO at c;simp only[Xl,V1,Wz] at c;exact c
 ·rw[VH c] at a;cases a
def sy:pV X (binaryOp .Mod) tf:=xf Ol λd e h z b a=>by
 cases d <;> first |(exact cb a) | skip
 cases e <;> first |(exact cb a) | skip
 rename_i i j;unfold tf at a;dsimp only at a
 by_cases c:0 < j
 ·rw[VE c] at a;cases a;exact⟨i,j,rfl,rfl,c,rfl,λ_ _=>.int _⟩
 ·rw[VH c] at a;cases a
def Ob:pV X (binaryOp .FloorDiv) Ig:=xf Hu λd e h z b a=>by
 cases d <;> first |(exact cb a) | skip
 cases e <;> first |(exact cb a) | skip
 rename_i i j;unfold Ig at a;dsimp only at a
 by_cases c:0 < j/\j<=10^40
 ·rw[VE c] at a;cases a;exact⟨i,j,rfl,rfl,c,rfl,λ_ _=>.int _⟩
 ·rw[VH c] at a;cases a
def Ho:pV X (binaryOp .Pow) K6:=xf Oi λd e h z b a=>by
 cases d <;> first |(exact cb a) | skip
 cases e <;> first |(exact cb a) | skip
 rename_i i j;unfold K6 at a;dsimp only at a
 by_cases c:0<=j/\j<=1000000/\i.natAbs < 2^64
 ·rw[VE c] at a;cases a;exact⟨i,j,rfl,rfl,c,rfl,λ_ _=>.int _⟩
 ·rw[VH c] at a;cases a
def IA(a:Li f d e h=some (z,b)):∃i j,d=.int i/\e=.int j/\b=h/\z=.bl (f i j):=by
 cases d <;> first |(exact cb a) | skip
 cases e <;> first |(exact cb a) | skip
 cases a;exact⟨_,_,rfl,rfl,rfl,rfl⟩
def Q3:pV X (compareOp .Lt) Mf:=qG Q6 λd e h z b a=>by
 obtain⟨i,j,rfl,rfl,rfl,rfl⟩:=IA a;exact⟨i,j,rfl,rfl,rfl,λ_ _=>.bl _⟩
def Q5:pV X (compareOp .Gt) FJ:=qG Q7 λd e h z b a=>by
 obtain⟨i,j,rfl,rfl,rfl,rfl⟩:=IA a;exact⟨i,j,rfl,rfl,rfl,λ_ _=>.bl _⟩
def L9:pV X (compareOp .GtE) Rx:=qG Q8 λd e h z b a=>by
 obtain⟨i,j,rfl,rfl,rfl,rfl⟩:=IA a;exact⟨i,j,rfl,rfl,rfl,λ_ _=>.bl _⟩
def FW:RW X (unaryOp .USub) (rU X.K cG):=by
 intro a s c H x v Q I e hh;obtain⟨f,h,d,z,g,S,rd,b,k⟩:=hh;cases rd <;> first |(exact cb b) | skip
 cases b;exact ME a s c H _ v Q I e ⟨_,rfl,k _ _ (.here S (.int _))⟩
def Pj(d e:D)(h:MH):Option (D×MH):=(cL d h).bind λb=>(cL e h).bind λa=>if b.length+a.length<=sizeLine then some (D.lv (b++a),h) else none
def Sw(d e:D)(h:MH)(p:D×MH):Prop:=(∃i j,d=.int i/\e=.int j)\/(∃a b,d=.str a/\e=.str b)\/(∃x f c,d=.tup (x::f)/\e=.tup c)\/Pj d e h=some p
def x8{d e:D}{h:MH}{p:D×MH}(z:Pj d e h=some p):Sw d e h p:=.inr (.inr (.inr z))
def Ii{d e:D}{h:MH}{p:D×MH}(c:BP d e h=some p):Sw d e h p:=by
 cases d with
 | int i=>cases e with
  | int j=>exact .inl ⟨i,j,rfl,rfl⟩
  | _=>exact x8 c
 | str a=>cases e with
  | str b=>exact .inr (.inl ⟨a,b,rfl,rfl⟩)
  | _=>exact x8 c
 | tup xs=>cases e with
  | tup f=>cases xs with
   | nil=>exact cb c
   | cons x xs=>exact .inr (.inr (.inl ⟨x,xs,f,rfl,rfl⟩))
  | _=>cases xs <;> exact x8 c
 | _=>exact x8 c
def Oc:pV X (binaryOp .Add) BP:=by
 intro f s o H x y v u Q I t r hh;obtain⟨Z,h,d,e,z,O,S,rd,C,g,k⟩:=hh;have n:((cL d h).bind λm=>(cL e h).bind λl=>if m.length+l.length<=sizeLine then some (D.lv (m++l),h) else none)=some (z,O)->wpAny (model X.prog X.w) X.A (binaryOp .Add v u) (EP X f o Q) X.xe s:=by
  intro g;obtain⟨m,Y,T⟩:=a9 g;obtain⟨l,U,G⟩:=a9 T
  by_cases c:m.length+l.length<=sizeLine
  ·rw[VE c] at G;cases G;obtain⟨a,J,rfl,R,N⟩:=cR S rd Y;obtain⟨b,us,rfl,P,M⟩:=cR S C U;exact Hw f s o H _ _ v u Q I t r ⟨a,b,J,us,rfl,rfl,R,P,by rw[N.length,M.length];exact c,λp hp=>k _ _ (.lv S (N.append M) hp)⟩
  ·rw[VH c] at G;cases G
 rcases(Ii g:(∃i j,d=.int i/\e=.int j)\/(∃a b,d=.str a/\e=.str b)\/(∃x m l,d=.tup (x::m)/\e=.tup l)\/Pj d e h=some (z,O)) with⟨i,j,rfl,rfl⟩ |⟨a,b,rfl,rfl⟩ |⟨x0,m,l,rfl,rfl⟩ | z
 ·cases g;obtain rfl:=jh rd;obtain rfl:=jh C;exact Oo f s o H _ _ v u Q I t r ⟨_,_,rfl,rfl,k _ _ (.here S (.int _))⟩
 ·unfold BP at g;dsimp only at g
  by_cases c:a.length+b.length<=sizeLine
  ·rw[VE c] at g;cases g;obtain⟨rfl,F⟩:=Ba rd;obtain⟨rfl,L⟩:=Ba C;exact Br f s o H _ _ v u Q I t r ⟨a,b,rfl,rfl,c,k _ _ (.here S (.str (Ea F L)))⟩
  ·rw[VH c] at g;cases g
 ·unfold BP at g;dsimp only at g
  by_cases c:m.length+1+l.length<=sizeLine
  ·rw[VE c] at g;cases g;obtain⟨a,J,rfl,F,q⟩:=GG rd;obtain⟨b,us,rfl,L,E⟩:=GG C;refine Kt f s o H _ _ v u Q I t r ⟨a,b,J,us,rfl,rfl,F.sq,L.sq,?_,?_,λz=>?_,λ_ p hp=>k _ _ (.tup S (q.append E) hp)⟩
   ·intro z;rw[z] at q;cases q
   ·rw[q.length,E.length];exact c
   ·rw[z] at E;cases E;rw[Wl] at k;exact k _ _ (.here S (.tup F q))
  ·rw[VH c] at g;cases g
 ·exact n z
def kg(b:p.canLay0=true)(a:p.depth<=64):SeqAt.shaped p=true:=by
 unfold PySem.SeqAt.shaped;rw[b,Wa a];rfl
def CK{K:FR}{a:Ad}{H:Hp}{v:V}{d:D}(r:Rep K a H v d):decide (v=V.bx)=Us d:=by
 cases r <;> rfl
def N9:pV X (compareOp .Is) xI:=by
 intro a s c H x y v u Q I g f hh;obtain⟨j,h,d,e,z,l,S,rd,i,b,k⟩:=hh;cases e <;> first |(exact cb b) | skip
 cases b;cases i;refine Om a s c H _ _ v u Q I g f ⟨rfl,?_⟩;rw[CK rd];exact k _ _ (.here S (.bl _))
def Kr:pV X (compareOp .IsNot) vT:=by
 intro a s c H x y v u Q I g f hh;obtain⟨j,h,d,e,z,l,S,rd,i,b,k⟩:=hh;cases e <;> first |(exact cb b) | skip
 cases b;cases i;refine Ks a s c H _ _ v u Q I g f ⟨rfl,?_⟩;rw[CK rd];exact k _ _ (.here S (.bl _))
theorem wk{us:List Value}{c:List PyData}{a:List Addr}(H:ReadsAll h us c a)(e:∀u d a,u∈us->Reads h u d a->d∈c->f u=PyData.eqv d p):us.any f=c.any λb=>PyData.eqv b p:=by
 cases H with
 | nil=>rfl
 | cons r l=>rw[XB,XB,e _ _ _ VF r VF,wk l λu d a g hr hd=>e u d a (VD _ g) hr (VD _ hd)]
open Classical in
noncomputable def Io(h:Heap)(p:PyData)(u:Value):Bool:=if q:∃d a,Reads h u d a/\d.canLay0=true then PyData.eqv q.choose p else false
def xN(r:Reads h u d a)(c:d.canLay0=true):Io h p u=PyData.eqv d p:=by
 have q:∃d a,Reads h u d a/\d.canLay0=true:=⟨d,a,r,c⟩;unfold Io;rw[dif_pos q];obtain⟨f,b,e⟩:=q.choose_spec;rw[PySem.SeqAt.Reads.unique _ _ _ _ _ e b r]
theorem dq:∀{a:List PyData} {d:PyData},PyData.canLayAll0 a=true->d∈a->d.canLay0=true
 | x::r,d,c,m=>by
  simp only[PyData.canLayAll0,V1] at c;rcases VS.mp m with rfl | m
  ·exact c.1
  ·exact dq c.2 m
theorem oI:∀{a:List PyData} {d:PyData},d∈a->d.depth<=PyData.depthAll a
 | x::r,d,m=>by
  simp only[PyData.depthAll];rcases VS.mp m with rfl | m
  ·lia
  ·have:=oI m;lia
theorem oj{us:List Value}{c:List PyData}{a:List Addr}(H:ReadsAll h us c a)(y:Value)(b:y∈us):∃d a,Reads h y d a/\d∈c:=by
 cases H with
 | nil=>cases b
 | cons r l=>
  rcases VS.mp b with rfl | b
  ·exact⟨_,_,r,VF⟩
  ·obtain⟨d,a,a1,a2⟩:=oj l y b;exact⟨d,a,a1,VD _ a2⟩
def in_of(hu:X.A.units+64 < cLine)(I:L2.Inv X pins σ H s)(F:L2.RelV x v)(M:L2.RelV y u)(S:bC X.K ρ h H)(rd:Rep X.K ρ H x d)(N:Rep X.K ρ H y e){c:Bool}(o:inD d e h=some c){Q:Bool->Shared->Prop}(q:∀i,L2.Inv X pins σ H i->Q c i):
  wpAny (model X.prog X.w) X.A (compareOp .In v u) (λr i=>∃c,r=.bool c/\Q c i) X.xe s/\wpAny (model X.prog X.w) X.A (compareOp .NotIn v u) (λr i=>∃c,r=.bool (!c)/\Q c i) X.xe s:=by
 unfold inD at o;cases O:cc e h with
 | some kvs=>
  rw[O] at o;obtain⟨k,U,T⟩:=cY o;obtain⟨a,us,rfl,ha,l⟩:=iC S N O;obtain rfl:u=Value.ref a:=M;have ek:=gq rd U;subst ek;have g:nK H a (kV k) (iY us k):=nK.k ha;have ec:(iY us k).isSome=c:=by
   rw[<-T];rcases l.val k with⟨J,G⟩ |⟨d,v,J,G,_⟩
   ·rw[J,G];rfl
   ·rw[J,G];rfl
  refine⟨UD (by lia) I g F λi I'=>⟨c,by rw[ec],q i I'⟩,Le (by lia) I g F λi I'=>⟨c,by rw[ec],q i I'⟩⟩
 | none=>
  rw[O] at o;dsimp only at o;have z:((b9 e h).bind λp=>(ye h d).bind λa=>(gc p.1).bind λbs=>if a.depth<=60/\PyData.depthAll bs<=60 then some (bs.any λb=>PyData.eqv b a) else none)=some c->
    wpAny (model X.prog X.w) X.A (compareOp .In v u) (λr i=>∃c,r=.bool c/\Q c i) X.xe s/\wpAny (model X.prog X.w) X.A (compareOp .NotIn v u) (λr i=>∃c,r=.bool (!c)/\Q c i) X.xe s:=by
   intro o;obtain⟨⟨xs,ws⟩,U,T⟩:=a9 o;obtain⟨p,e3,e4⟩:=a9 T;obtain⟨bs,e5,L⟩:=a9 e4
   by_cases w:p.depth<=60/\PyData.depthAll bs<=60
   ·rw[VE w] at L;cases L;obtain⟨a,vs,rfl,n,l⟩:=qx S N U;obtain rfl:u=Value.ref a:=M;obtain⟨r1,c1⟩:=qB S rd e3;obtain⟨r2,Y⟩:=l.rZ e5;obtain⟨as,ra⟩:=r1.reads I F;have C:∀f:List Value,Vals vs f->(∀y,y∈f->PySem.SeqAt.EqAt X.A.in1 s y v (Io s.heap p y))/\f.any (Io s.heap p)=bs.any λb=>PyData.eqv b p:=by
     intro f rv;obtain⟨bs',rb⟩:=r2.reads I rv;refine⟨λy E=>?_,wk rb λu d as _ hr hd=>xN hr (dq Y hd)⟩;obtain⟨d,Z,hr,hd⟩:=oj rb y E;rw[xN hr (dq Y hd)];refine Ze d p _ s y v Z as hr ra (dq Y hd) c1 ?_;have J:=oI hd;have G:min d.depth p.depth<=d.depth:=Zl _ _;show X.A.units+1+min d.depth p.depth < cLine;have h3:=w.2
     lia
    rcases n with n | n
    ·obtain⟨f,rv,pl,_⟩:=I.list n;obtain⟨R,P⟩:=C f rv;have m:∀y,y∈f.toArray->PySem.SeqAt.EqAt X.A.in1 s y v (Io s.heap p y):=λy E=>R y (by simpa using E);have j:f.toArray.any (Io s.heap p)=bs.any λb=>PyData.eqv b p:=by rw[<-P];simp
     exact⟨PySem.SeqAt.in_listAt _ pl.isList m ⟨_,rfl,by rw[j];exact q s I⟩,PySem.SeqAt.notIn_listAt _ pl.isList m ⟨_,rfl,by rw[j];exact q s I⟩⟩
    ·obtain⟨f,rv,pl,_⟩:=I.tuple n;obtain⟨R,P⟩:=C f rv;have m:∀y,y∈f.toArray->PySem.SeqAt.EqAt X.A.in1 s y v (Io s.heap p y):=λy E=>R y (by simpa using E);have j:f.toArray.any (Io s.heap p)=bs.any λb=>PyData.eqv b p:=by rw[<-P];simp
     exact⟨PySem.SeqAt.in_tupleAt _ pl m ⟨_,rfl,by rw[j];exact q s I⟩,PySem.SeqAt.notIn_tupleAt _ pl m ⟨_,rfl,by rw[j];exact q s I⟩⟩
   ·rw[VH w] at L;cases L
  split at o
  ·cases o;cases rd;cases N;obtain⟨t,rfl⟩:=F;obtain⟨t',rfl⟩:=M;exact⟨in_str ⟨_,rfl,q s I⟩,notIn_str ⟨_,rfl,q s I⟩⟩
  ·exact z o
def Q4(n:X.A.units+64 < cLine):pV X (compareOp .In) Fd:=by
 intro a s i H x y v u Q I l j hh;obtain⟨w,h,d,e,z,C,S,rd,m,p,k⟩:=hh;obtain⟨c,t,q⟩:=cY p;cases q;refine cv (in_of n I l j S rd m t (Q:=λg b=>g=c/\L2.Inv X a i H b) λb f=>⟨rfl,f⟩).1 λr b u9=>?_;obtain⟨g,hr,o,f⟩:=u9;subst hr;subst o;exact⟨.bl _,H,f,rfl,k _ _ (.here S (.bl _))⟩
def Hq(n:X.A.units+64 < cLine):pV X (compareOp .NotIn) oF:=by
 intro a s i H x y v u Q I l j hh;obtain⟨w,h,d,e,z,C,S,rd,m,p,k⟩:=hh;obtain⟨c,t,q⟩:=cY p;cases q;refine cv (in_of n I l j S rd m t (Q:=λg b=>g=c/\L2.Inv X a i H b) λb f=>⟨rfl,f⟩).2 λr b u9=>?_;obtain⟨g,hr,o,f⟩:=u9;subst hr;subst o;exact⟨.bl _,H,f,rfl,k _ _ (.here S (.bl _))⟩
def Lw{K:FR}{a:Ad}{H:Hp}{b:List V}{c:List D}{i:Int}{d:D}(l:aw K a H b c)(e:fq c i=some d):∃v,fq b i=some v/\Rep K a H v d:=by
 unfold fq at e;obtain⟨j,h,g⟩:=a9 e;obtain⟨v,f,r⟩:=l.got g;exact⟨v,by unfold fq;rw[l.length,h];exact f,r⟩
def Fc{d e z:D}{h o:MH}(a:aB d e h=some (z,o)):o=h/\((∃b k,cc d h=some b/\lG e=some k/\cW b k=some z)\/(∃x i c,d=.str x/\e=.int i/\x.length<=sizeLine/\fq x.cps.toList i=some c/\z=.str ⟨#[c]⟩)\/∃i j l,e=.int i/\b9 d h=some (j,l)/\fq j i=some z):=by
 unfold aB at a
 split at a
 ·obtain⟨ky,n,m⟩:=a9 a;obtain⟨p,g,f⟩:=cY m;cases f;exact⟨rfl,.inl ⟨_,ky,‹_›,n,g⟩⟩
 ·split at a
  ·split at a
   ·obtain⟨c,g,f⟩:=cY a;cases f;exact⟨rfl,.inr (.inl ⟨_,_,c,rfl,rfl,‹_›,g,rfl⟩)⟩
   ·cases a
  ·obtain⟨⟨j,l⟩,n,m⟩:=a9 a;obtain⟨p,g,f⟩:=cY m;cases f;exact⟨rfl,.inr (.inr ⟨_,j,l,rfl,n,g⟩)⟩
  ·cases a
def Rh(hu:X.A.units+64 < cLine):P6 X (rS X.K aB):=by
 intro b f j s t H x y v u Q I p o hh q;obtain⟨ρ,h,d,e,z,h',S,rd,E,Y,k⟩:=hh;obtain⟨rfl,R⟩:=Fc Y;rcases R with⟨P,ky,O,J,n⟩ |⟨x0,i,ch,rfl,rfl,c,n,rfl⟩ |⟨i,xs,ws,rfl,J,n⟩
 ·obtain⟨a,us,rfl,T,l⟩:=iC S rd O;obtain rfl:v=Value.ref a:=p;have U:=gq E J;subst U;rcases l.val ky with⟨G,M⟩ |⟨d',w,G,M,r⟩
  ·rw[G] at n;cases n
  ·rw[G] at n;cases n;have g:nK H a (kV ky) (some w):=by rw[<-M];exact nK.k T
   exact tail_any (z6 I g) YW.lookup (Fi (by lia) I g o λw' s3 Z C=>⟨w,H,Z,C,k _ _ (.here S r)⟩) q
 ·obtain⟨rfl,F⟩:=Ba rd;obtain rfl:=jh E;exact OK b f j s t H _ _ v u Q I p o ⟨x0,i,ch,rfl,rfl,c,n,k _ _ (.here S (.str (D9 F n)))⟩ q
 ·obtain⟨a,L,rfl,m,l⟩:=qx S rd J;obtain⟨w,N,r⟩:=Lw l n;obtain rfl:=jh E;rcases m with m | m
  ·exact KO b f j s t H _ _ v u Q I p o ⟨a,L,i,w,rfl,rfl,m,N,k _ _ (.here S r)⟩ q
  ·exact OJ b f j s t H _ _ v u Q I p o ⟨a,L,i,w,rfl,rfl,m,N,k _ _ (.here S r)⟩ q
def QA(e:X.A.units+64 < cLine)(h:SE X a d)(g:SE X b c)(f:iG b:=by unfold iG;intro _ _;ac_nf):SE X (.Subscript a b pos) (ak aB d c):=(L6 (Rh e) h g f).imp λ_ _ _=>yT
abbrev PM:=DS->MH->Option (Option Int×MH)
noncomputable def sr:PM:=λ_ h=>some (none,h)
noncomputable def sx(e:EM):PM:=λa h=>(e a h).bind λp=>match p.1 with
 | .int i=>some (some i,p.2)
 | _=>none
inductive Sa(K:FR)(m:PM)(σ:L2.St)(H:Hp)(Q:Option Int->Hp->Prop):Prop where
 | mk (ρ δ h b h'):bT K ρ H σ δ->bC K ρ h H->(m δ h=some (b,h'))->(∀ρ' H',cm ρ H ρ' H'->bC K ρ' h' H'->Q b H')->Sa K m σ H Q
noncomputable def Vj(K:FR)(m:PM):TO:=λa H Q=>Sa K m a H Q
def SP'(X:Cx)(e:Option Expr)(m:PM):Prop:=PO X e (Vj X.K m)
def CA:SP' X none sr:=λa s c H Q I hh=>by
 obtain⟨d,f,h,b,g,R,S,e,k⟩:=hh;cases e;exact Kg a s c H Q I (k d H (.refl _ _) S)
def Cz(l:SE X e j):SP' X (some e) (sx j):=λa s f H Q I hh=>by
 obtain⟨g,i,h,b,q,R,S,e,k⟩:=hh;obtain⟨⟨x,p⟩,m,d⟩:=a9 e;cases x <;> first |(cases d;done) | skip
 cases d;refine Kf l a s f H Q I ⟨g,i,h,_,_,R,S,m,λv o u9=>?_⟩;obtain⟨c,T,n,r⟩:=u9;cases r;exact⟨_,rfl,k c o T n⟩
noncomputable def cutD(a:List D)(b c:Option Int):List D:=(a.drop (HT.cn a.length 0 b)).take (HT.cn a.length a.length c-HT.cn a.length 0 b)
def Rw(d:D)(a b:Option Int)(h:MH):Option (D×MH):=match d with
 | .str z=>if z.length<=sizeLine then some (.str (Txt.slice z a b),h) else none
 | .tup xs=>if HT.cn xs.length 0 a=0/\HT.cn xs.length xs.length b=xs.length then none else some (.tup (cutD xs a b),h)
 | d=>(b9 d h).map λp=>(.lv (cutD p.1 a b),h)
inductive So(K:FR)(x:V)(lo hi:Option Int)(H:Hp)(Q:VK):Prop where
 | mk (ρ h d z h'):bC K ρ h H->Rep K ρ H x d->(Rw d lo hi h=some (z,h'))->(∀v H',dB K ρ H h' z v H'->Q v H')->So K x lo hi H Q
def Vn(K:FR):V->Option Int->Option Int->Hp->VK->Prop:=λx a b H Q=>So K x a b H Q
theorem aw.tE{K:FR}{a:Ad}{H:Hp}{b:List V}{e:List D}(l:aw K a H b e)(c d:Option Int):aw K a H (L2.tE b c d) (cutD e c d):=by
 unfold L2.tE cutD;rw[l.length];exact(l.drop _).take _
def LS:PL X (Vn X.K):=by
 intro b s m H x v r o f i n Q I t C pl u hh;obtain⟨O,h,d,z,M,S,rd,e,k⟩:=hh;have g:sS d=true->((b9 d h).map λp=>(D.lv (cutD p.1 f i),h))=some (z,M)->∃T L,typeLookup (.type T) "__getitem__"=pure (some (.builtin L))/\s.TypeIs v T/\wpAny (model X.prog X.w) X.A (getItem v (.ref n)) (EP X b m Q) X.xe s:=by
  intro J E;obtain⟨⟨j,P⟩,N,E⟩:=cY E;cases E;obtain⟨a,rfl,⟨G,q,l⟩,_⟩:=ij S rd N;rw[J] at q;cases q with
  | l q=>exact JA b s m H _ v r o f i n Q I t C pl u ⟨a,G,rfl,q,λp hp=>k _ _ (.lv S (l.tE f i) hp)⟩
 cases d with
 | str x0=>
  unfold Rw at e;dsimp only at e
  by_cases c:x0.length<=sizeLine
  ·rw[VE c] at e;cases e;cases rd with | str y=>
   exact MZ b s m H _ v r o f i n Q I t C pl u ⟨x0,rfl,c,k _ _ (.here S (.str (yt _ _ y)))⟩
  ·rw[VH c] at e;cases e
 | tup j=>
  unfold Rw at e;dsimp only at e
  by_cases c:HT.cn j.length 0 f=0/\HT.cn j.length j.length i=j.length
  ·rw[VE c] at e;cases e
  ·rw[VH c] at e;cases e;cases rd with | tup h0 F=>
   exact MY b s m H _ v r o f i n Q I t C pl u ⟨_,_,rfl,h0.sq,by rw[F.length];exact c,λp hp=>k _ _ (.tup S (F.tE f i) hp)⟩
 | _=>exact g rfl e
def Gq{x:Str}{g:String}{p pos:Pos}{e:Expr}{es:List Expr}{f:Fn}{m:AM}(s:f7 X (.builtin g) f)(r:Gl X x)(hm:X.mg x=none)(q:bootBuiltins x=some (.builtin g))(t:SA X (e::es) m)(hn:x≠"__name__":=by decide)(c:(x==("__debug__":Str))=false:=by ac_nf)
  (he:starEach (e::es) X.env=(false,eval e X.env)::starEach es X.env:=by ac_nf) (b:(backTo pos (starEach es X.env)).any (·.1)=false:=by ac_nf):SE X (.Call (.Name x p) (e::es) [] pos) (aq f m):=
 (zf s r hm q t hn c he b).imp λσ H Q u9=>by
  obtain⟨l,n,h,d,u,R,S,e,k⟩:=u9;obtain⟨⟨j,i⟩,y,w⟩:=a9 e;exact⟨l,n,h,j,i,R,S,y,λE a F z A o=>⟨a,i,j,d,u,A,o,w,λv C P=>k v C (P.step z)⟩⟩
def Gp{x:Str}{g:String}{p pos:Pos}{e:Expr}{es:List Expr}{f:Fn}{m:AM}(s:f7 X (.type g) f)(r:Gl X x)(hm:X.mg x=none)(q:bootBuiltins x=some (.type g))(t:SA X (e::es) m)(hn:x≠"__name__":=by decide)(c:(x==("__debug__":Str))=false:=by ac_nf)
  (he:starEach (e::es) X.env=(false,eval e X.env)::starEach es X.env:=by ac_nf) (b:(backTo pos (starEach es X.env)).any (·.1)=false:=by ac_nf):SE X (.Call (.Name x p) (e::es) [] pos) (aq f m):=
 (vq s r hm q t hn c he b).imp λσ H Q u9=>by
  obtain⟨l,n,h,d,u,R,S,e,k⟩:=u9;obtain⟨⟨j,i⟩,y,w⟩:=a9 e;exact⟨l,n,h,j,i,R,S,y,λE a F z A o=>⟨a,i,j,d,u,A,o,w,λv C P=>k v C (P.step z)⟩⟩
def cM:Fn:=λb h=>match b with
 | [.str z]=>if z.length<=sizeLine then some (.int z.length,h) else none
 | [d]=>match cc d h with
  | some a=>some (.int a.length,h)
  | none=>(b9 d h).map λp=>(.int p.1.length,h)
 | _=>none
noncomputable def OY:Fn:=λa h=>match a with
 | [.int i]=>some (.int (if i < 0 then -i else i),h)
 | _=>none
noncomputable def Sx(d:D)(h:MH):Option String:=match d with
 | .bx=>some "NoneType"
 | .bl _=>some "bool"
 | .int _=>some "int"
 | .str _=>some "str"
 | .tup _=>some "tuple"
 | .lv _=>some "list"
 | .dv _=>some "dict"
 | .ob n=>match h[n]? with
  | some (.lst _)=>some "list"
  | some (.dct _)=>some "dict"
  | _=>none
 | _=>none
noncomputable def Cu(t n:String):Bool:=t==n||(t=="bool"&&n=="int")
def xH:Fn:=λa h=>match a with
 | [d,.ty n]=>if n∈["int","str","bool","tuple","list","dict"] then(Sx d h).map λt=>(.bl (Cu t n),h) else none
 | _=>none
def bJ:Fn:=λa h=>match a with
 | [d]=>(b9 d h).map λp=>(.tup p.1,h)
 | _=>none
noncomputable def uO:List D->Option (List Bool)
 | []=>some []
 | .bl b::r=>(uO r).map λbs=>b::bs
 | _=>none
def OX:Fn:=λb h=>match b with
 | [d]=>(cL d h).bind λa=>(uO a).map λbs=>(.bl (bs.all id),h)
 | _=>none
def OW:Fn:=λb h=>match b with
 | [d]=>(cL d h).bind λa=>(uO a).map λbs=>(.bl (bs.any id),h)
 | _=>none
def rep1{K:FR}{a:Ad}{H:Hp}{b:List V}{d:D}(l:aw K a H b [d]):∃v,b=[v]/\Rep K a H v d:=by
 cases l with
 | cons r l=>cases l;exact⟨_,rfl,r⟩
def rep2{K:FR}{a:Ad}{H:Hp}{b:List V}{d e:D}(l:aw K a H b [d,e]):∃v u,b=[v,u]/\Rep K a H v d/\Rep K a H u e:=by
 cases l with
 | cons r l=>cases l with
  | cons c l=>cases l;exact⟨_,_,rfl,r,c⟩
def O7:f7 X (.builtin "len") cM:=by
 intro e s g H G us Q I r hh;obtain⟨E,h,C,z,u,S,l,b,k⟩:=hh
 match C,l,b with
 | [],_,b=>cases b
 | _::_::_,_,b=>exact absurd b (by unfold cM;split <;> simp_all)
 | [d],l,b=>
  obtain⟨v,rfl,rd⟩:=rep1 l;have i:(match cc d h with | some f=>some (D.int f.length,h) | none=>(b9 d h).map λp=>(D.int p.1.length,h))=some (z,u)->wpAny (model X.prog X.w) X.A (call (.builtin "len") us) (EP X e g Q) X.xe s:=by
   intro b;cases q:cc d h with
   | some f=>
    rw[q] at b;cases b;obtain⟨a,j,rfl,t,lk⟩:=iC S rd q;refine Fv e s g H _ us Q I r ⟨a,j,rfl,t,k _ _ ?_⟩;rw[lk.length];exact .here S (.int _)
   | none=>
    rw[q] at b;obtain⟨⟨F,w⟩,y,x⟩:=cY b;cases x;obtain⟨a,m,rfl,o,n⟩:=qx S rd y;refine xW e s g H _ us Q I r ⟨a,m,rfl,o,k _ _ ?_⟩;rw[n.length];exact .here S (.int _)
  cases d with
  | str x0=>
   unfold cM at b;dsimp only at b
   by_cases c:x0.length<=sizeLine
   ·rw[VE c] at b;cases b;cases rd;exact xV e s g H _ us Q I r ⟨x0,rfl,c,k _ _ (.here S (.int _))⟩
   ·rw[VH c] at b;cases b
  | _=>exact i b
def Pb:f7 X (.builtin "abs") OY:=by
 intro b s c H g us Q I r hh;obtain⟨f,h,e,z,i,S,l,a,k⟩:=hh
 match e,l,a with
 | [],_,a=>cases a
 | d::_::_,_,a=>cases d <;> exact cb a
 | [d],l,a=>
  obtain⟨v,rfl,rd⟩:=rep1 l;cases rd <;> first |(exact cb a) | skip
  cases a;exact II b s c H _ us Q I r ⟨_,rfl,k _ _ (.here S (.int _))⟩
def hV:f7 X (.type "tuple") bJ:=by
 intro e s g H y us Q I r hh;obtain⟨u,h,o,z,A,S,l,c,k⟩:=hh
 match o,l,c with
 | [],_,c=>cases c
 | _::_::_,_,c=>cases c
 | [d],l,c=>
  obtain⟨v,rfl,rd⟩:=rep1 l;obtain⟨⟨x,w⟩,f,n⟩:=cY c;cases n;obtain⟨a,rfl,⟨i,q,j⟩,_⟩:=ij S rd f;refine uN e s g H _ us Q I r ⟨a,i,rfl,?_⟩;generalize m:sS d=b at q;cases q with
  | l q=>exact .inl ⟨q,λp hp=>k _ _ (.tup S j hp)⟩
  | t q=>
   refine .inr ⟨q,k _ _ ?_⟩;cases rd <;> first |(cases m;done) | skip
   cases f;exact .here S (.tup ‹_› ‹_›)
def IP{K:FR}{d:Ad}{H:Hp}:∀{b:List V} {c:List D} {bs:List Bool},aw K d H b c->uO c=some bs->b=bs.map V.bl:=by
 intro b
 induction b with
 | nil=>intro c bs a e;cases a;cases e;rfl
 | cons v b f=>
  intro c bs a e;cases a with | cons r l=>
  cases r <;> first |(cases e;done) | skip
  obtain⟨i,h,g⟩:=cY e;cases g;rw[f l h];rfl
def Pa(i:X.calm=true):f7 X (.builtin "all") OX:=by
 intro c s f H u us Q I r hh;obtain⟨q,h,p,z,x,S,l,b,k⟩:=hh
 match p,l,b with
 | [],_,b=>cases b
 | _::_::_,_,b=>cases b
 | [d],l,b=>
  obtain⟨v,rfl,rd⟩:=rep1 l;obtain⟨t,o,n⟩:=a9 b;obtain⟨bs,m,j⟩:=cY n;cases j;obtain⟨a,w,rfl,e,g⟩:=cR S rd o;rw[IP g m] at e;exact IH i c s f H _ us Q I r ⟨a,bs,rfl,eL.of e,k _ _ (.here S (.bl _))⟩
def O9(i:X.calm=true):f7 X (.builtin "any") OW:=by
 intro c s f H u us Q I r hh;obtain⟨q,h,p,z,x,S,l,b,k⟩:=hh
 match p,l,b with
 | [],_,b=>cases b
 | _::_::_,_,b=>cases b
 | [d],l,b=>
  obtain⟨v,rfl,rd⟩:=rep1 l;obtain⟨t,o,n⟩:=a9 b;obtain⟨bs,m,j⟩:=cY n;cases j;obtain⟨a,w,rfl,e,g⟩:=cR S rd o;rw[IP g m] at e;exact IG i c s f H _ us Q I r ⟨a,bs,rfl,eL.of e,k _ _ (.here S (.bl _))⟩
def Dq{K:FR}{t n:String}(ht:t∈["NoneType","bool","int","str","tuple","list","dict"])(hn:n∈["int","str","bool","tuple","list","dict"]):PySem.W.kitOne K (.type t) (.type n)=some (Cu t n):=by
 simp only[VS,List.mem_nil_iff,or_false] at ht hn;rcases ht with rfl | rfl | rfl | rfl | rfl | rfl | rfl <;> rcases hn with rfl | rfl | rfl | rfl | rfl | rfl <;> rfl
def BN{c:List D}{z:D}{h b:MH}(a:xH c h=some (z,b)):∃d n t,c=[d,.ty n]/\n∈["int","str","bool","tuple","list","dict"]/\Sx d h=some t/\z=.bl (Cu t n)/\b=h:=by
 unfold xH at a
 split at a
 ·split at a
  ·obtain⟨t,f,e⟩:=cY a;cases e;exact⟨_,_,t,rfl,‹_›,f,rfl,rfl⟩
  ·cases a
 ·cases a
def MG{K:FR}{g:Ad}{H:Hp}{h:MH}{v:V}{d:D}{t:String}(S:bC K g h H)(rd:Rep K g H v d)(c:Sx d h=some t):t∈["NoneType","bool","int","str","tuple","list","dict"]/\(ny K H v (.type t)\/t="tuple"/\∃a e,v=.ref a/\i5 K H a e):=by
 cases rd with
 | bx=>cases c;exact⟨by decide,.inl .bx⟩
 | bl b=>cases c;exact⟨by decide,.inl (.bl b)⟩
 | int i=>cases c;exact⟨by decide,.inl (.int i)⟩
 | str h0=>cases c;exact⟨by decide,.inl (.str _)⟩
 | ty _=>exact cb c
 | ro _ _=>exact cb c
 | lv h0 _ _=>cases c;exact⟨by decide,.inl (.lst h0)⟩
 | dv h0 _ _=>cases c;exact⟨by decide,.inl (.dK h0)⟩
 | tup h0 j=>cases c;exact⟨by decide,.inr ⟨rfl,_,_,rfl,h0.sq⟩⟩
 | @ob a m hm=>
  unfold Sx at c;dsimp only at c;cases q:h[m]? with
  | none=>rw[q] at c;cases c
  | some o=>
   rw[q] at c;have x:=S.at_ m a o hm q;cases o with
   | lst _=>cases c;obtain⟨e,f,_⟩:=x;exact⟨by decide,.inl (.lst f)⟩
   | dct _=>cases c;obtain⟨e,f,_⟩:=x;exact⟨by decide,.inl (.dK f)⟩
   | dcH _=>exact cb c
def oJ:f7 X (.builtin "isinstance") xH:=by
 intro b s f H E us Q I r hh;obtain⟨C,h,J,z,G,S,l,y,k⟩:=hh;obtain⟨d,n,t,rfl,hn,A,rfl,rfl⟩:=BN y;obtain⟨v,u,rfl,rd,i⟩:=rep2 l;cases i;have c:=k (.bl (Cu t n)) H (.here S (.bl _));obtain⟨hm,e |⟨rfl,a,F,rfl,q⟩⟩:=MG S rd A
 ·exact IF b s f H _ us Q I r ⟨v,n,_,_,rfl,e,Dq hm hn,c⟩
 ·obtain⟨u1,u2,rfl,m,j⟩:=Vals.two r;obtain rfl:u1=Value.ref a:=m;obtain rfl:u2=Value.type n:=j;obtain⟨p,_,⟨o,x,w,_⟩,_⟩:=I.tuple q;exact W2 PySem.W.kitx_tuple I.xx ⟨o,x,w⟩ (Dq (t:="tuple") (by decide) hn) (λz=>nomatch z) λg=>⟨.bl _,H,I.tok g,rfl,c⟩
def DX(m:AM):AM:=λa h=>(m a h).bind λp=>match p.1 with
 | [d]=>(b9 d p.2).map λq=>(q.1,p.2)
 | _=>none
def CF(y:Gl X x)(hm:X.mg x=none)(t:bootBuiltins x=some (.type "list"))(A:SA X [e] m)(hl:kA m 1)(hn:x≠"__name__":=by decide)(f:(x==("__debug__":Str))=false:=by ac_nf)(z:starEach [e] X.env=(false,eval e X.env)::starEach [] X.env:=by ac_nf)(c:(backTo pos (starEach [] X.env)).any (·.1)=false:=by ac_nf):qq X (.Call (.Name x p) [e] [] pos) (DX m):=
 (vq xU y hm t A hn f z c).imp λM H Q q=>by
  obtain⟨n,o,h,d,P,R,S,e,k⟩:=q;obtain⟨⟨I,C⟩,i,G⟩:=a9 e;refine⟨n,o,h,I,C,R,S,i,λO b L J j r=>?_⟩;obtain⟨d,rfl⟩:=X4.mp (hl _ _ _ _ i);obtain⟨⟨N,w⟩,F,E⟩:=cY G;cases E;obtain⟨v,rfl,rd⟩:=rep1 r;obtain⟨a,g,rfl,u,s⟩:=qx j rd F;exact⟨a,g,rfl,u,λl hl=>k b L l g J j hl s⟩
def uK(o i v:D)(h:MH):Option MH:=match o with
 | .ob n=>match h[n]? with
  | some (.lst xs)=>match i with
   | .int j=>(uH xs.length j).map λp=>h.set n (.lst (xs.set p v))
   | _=>none
  | some (.dct a)=>(lG i).bind λk=>if a.length < sizeLine then some (h.set n (.dct (putD a k v))) else none
  | _=>none
 | _=>none
def uI(o i:EM):GM:=λv a h=>(o a h).bind λp=>(i a p.2).bind λq=>(uK p.1 q.1 v q.2).map λb=>(a,b)
inductive Mt(K:FR)(o i v:V)(H:Hp)(Q:Hp->Prop):Prop where
 | mk (ρ h a b c h'):bC K ρ h H->Rep K ρ H o a->Rep K ρ H i b->Rep K ρ H v c->(uK a b c h=some h')->(∀ρ' H',cm ρ H ρ' H'->bC K ρ' h' H'->Q H')->Mt K o i v H Q
def TZ(K:FR):V->V->V->Hp->(Hp->Prop)->Prop:=λo i v H Q=>Mt K o i v H Q
def JY(R:X.A.units+64 < cLine):LB X (TZ X.K):=by
 intro g s J H o i v ov M u Q I ro C rv hh;obtain⟨e,h,a,b,c,U,S,L,F,E,d,k⟩:=hh;cases L <;> first |(exact cb d) | skip
 rename_i a n hn;unfold uK at d;dsimp only at d;cases q:h[n]? with
 | none=>rw[q] at d;cases d
 | some w=>
  rw[q] at d;have x:=S.at_ n a w hn q;have G:=VC hn;cases w with
  | lst xs=>
   dsimp only at d;cases F <;> first |(exact cb d) | skip
   rename_i j;obtain⟨p,t,f⟩:=cY d;cases f;obtain⟨y,r,l⟩:=x;have T:cm e H e (upd H a (.lst (y.set p v))):=cm.wrote S G;exact set_list g s J H _ _ v ov M u Q I ro C rv ⟨a,y,j,p,rfl,rfl,r,by rw[l.length];exact t,k e _ T (S.wrote hn ⟨_,aC,(l.set E p).mono T.toCh⟩)⟩
  | dct m=>
   dsimp only at d;obtain⟨ky,t,f⟩:=a9 d
   by_cases z:m.length < sizeLine
   ·rw[VE z] at f;cases f;obtain⟨us,r,l⟩:=x;have N:=gq F t;subst N;obtain rfl:ov=Value.ref a:=ro;have T:cm e H e (upd H a (.dK (putK us ky v))):=cm.wrote S G;exact Fh (by lia) I (LK.k r (by rw[l.length];exact z)) C rv λP O=>⟨_,O,k e _ T (S.wrote hn ⟨_,aC,(l.put E).mono T.toCh⟩)⟩
   ·rw[VH z] at f;cases f
  | dcH _=>exact cb d
def nX (z:X.A.units+64 < cLine) (C:SE X o mo) (E:SE X i w) (F:∀v,assign (.Subscript o i pos) X.env v=(do
   let ov<-holding [v] (eval o X.env);let a<-holding [v,ov] (eval i X.env)
   standAt pos
   holding [v,ov,a] (setItem ov a v)
   release [v,ov,a] []):=by intro _;ac_nf):SG X (.Subscript o i pos) (uI mo w):=
 (Hb C E (JY z) F).imp λv σ H Q u9=>by
  obtain⟨q,l,h,d,s,Z,R,S,r,e,k⟩:=u9;obtain⟨⟨x,n⟩,N,M⟩:=a9 e;obtain⟨⟨y,m⟩,L,J⟩:=a9 M;obtain⟨Y,I,G⟩:=cY J;cases G;exact⟨q,l,h,x,n,R,S,N,λov H1 ⟨j,c,T,u⟩=>⟨j,l,n,y,m,R.mono c,T,L,λa H2 ⟨g,b,P,t⟩=>
   ⟨g,m,x,y,d,_,P,u.mono b,t,r.mono (c.trans b).toCh,I,λf U p O=>k f U σ (c.trans (b.trans p)) O (R.mono (c.trans (b.trans p)).toCh)⟩⟩⟩
abbrev FO:=D->List D->MH->Option (D×MH)
inductive U9(K:FR)(f:FO)(x:V)(vs:List V)(H:Hp)(Q:VK):Prop where
 | mk (ρ h d ds z h'):bC K ρ h H->Rep K ρ H x d->aw K ρ H vs ds->(f d ds h=some (z,h'))->(∀v H',dB K ρ H h' z v H'->Q v H')->U9 K f x vs H Q
def rM(K:FR)(f:FO):V->List V->Hp->VK->Prop:=λx a H Q=>U9 K f x a H Q
noncomputable def eM(a:D->MH->Bool)(f:FO)(o:EM)(m:AM):EM:=λb h=>(o b h).bind λp=>if a p.1 p.2 then(m b p.2).bind λq=>f p.1 q.1 q.2 else none
def bu(d:D)(h:MH):Bool:=(cL d h).isSome
def HK(d:D)(h:MH):Bool:=(cc d h).isSome
noncomputable def bS:FO:=λd a h=>match d,a with
 | .ob n,[y]=>match h[n]? with
  | some (.lst xs)=>if xs.length < sizeLine then some (.bx,h.set n (.lst (xs++[y]))) else none
  | _=>none
 | _,_=>none
def iz:FO:=λd b h=>match d,b with
 | .ob n,[y]=>match h[n]? with
  | some (.lst xs)=>(cL y h).bind λa=>if xs.length+a.length<=sizeLine then some (.bx,h.set n (.lst (xs++a))) else none
  | _=>none
 | _,_=>none
noncomputable def zA:FO:=λd a h=>match d,a with
 | .ob n,[]=>match h[n]? with
  | some (.lst xs)=>(xs[xs.length-1]?).map λy=>(y,h.set n (.lst xs.dropLast))
  | _=>none
 | _,_=>none
def eZ{K:FR}{b:Ad}{H:Hp}{h:MH}{v:V}{d:D}(S:bC K b h H)(r:Rep K b H v d)(e:bu d h=true):MI K "list" v H:=by
 obtain⟨i,g⟩:=Y3.mp e;obtain⟨a,c,rfl,f,_⟩:=cR S r g;exact .inl ⟨rfl,c,eL.of f⟩
def MF{K:FR}{b:Ad}{H:Hp}{h:MH}{v:V}{d:D}(S:bC K b h H)(r:Rep K b H v d)(e:HK d h=true):MI K "dict" v H:=by
 obtain⟨i,g⟩:=Y3.mp e;obtain⟨a,c,rfl,f,_⟩:=iC S r g;exact .inr (.inr (.inl ⟨rfl,.inl ⟨c,f⟩⟩))
def pX{T t:String}{name:Str}{o e:Expr}{es:List Expr}{g a:Pos}{f:FO}{C:EM}{m:AM}{isT:D->MH->Bool}(U:∀{K:FR} {q:Ad} {H:Hp} {h:MH} {v:V} {d:D},bC K q h H->Rep K q H v d->isT d h=true->MI K T v H)
  (M:PlainAttrs T) (slot:Slot T name t) (u:typeOf (.builtin t)=pure (.type "method_descriptor")) (hm:LG X t (rM X.K f)) (O:SE X o C) (P:SA X (e::es) m)
  (j:attributeBase o name X.env (eval o X.env)=eval o X.env:=by ac_nf)
  (l:((backTo a (starEach (e::es) X.env)).all (λx=>!x.1)&&(backToKw a (keywordEach [] X.env)).all (λx=>x.1.isSome)
   &&decide ((e::es).length+([]:List Keyword).length+(if([]:List Keyword).isEmpty then 0 else 1) < 30))=true:=by ac_nf)
  (i:(g.endLine==a.line)=true:=by ac_nf) (N:starEach (e::es) X.env=(false,eval e X.env)::starEach es X.env:=by ac_nf) (b:(backTo a (starEach es X.env)).any (·.1)=false:=by ac_nf):
  SE X (.Call (.Attribute o name g) (e::es) [] a) (eM isT f C m):=(Q0 M slot u hm O P j l i N b).imp λσ H Q u9=>by
 obtain⟨q,z,h,d,Y,R,S,e,k⟩:=u9;obtain⟨⟨x,y⟩,e1,n⟩:=a9 e;dsimp only at n
 by_cases c:isT x y=true
 ·rw[VE c] at n;obtain⟨⟨F,E⟩,e3,Z⟩:=a9 n;exact⟨q,z,h,x,y,R,S,e1,λv H1 ⟨s,I,J,A⟩=>⟨U J A c,s,z,y,F,E,R.mono I,J,e3,λvs r H2 G S2 L=>⟨r,E,x,F,d,Y,S2,A.mono G,L,Z,λw H3 p=>k w H3 (p.step (I.trans G))⟩⟩⟩
 ·rw[VH c] at n;cases n
def Qz{T q:String}{name:Str}{o:Expr}{b a:Pos}{f:FO}{u:EM}{g:D->MH->Bool}(E:∀{K:FR} {m:Ad} {H:Hp} {h:MH} {v:V} {d:D},bC K m h H->Rep K m H v d->g d h=true->MI K T v H)
  (A:PlainAttrs T) (slot:Slot T name q) (r:typeOf (.builtin q)=pure (.type "method_descriptor")) (hm:LG X q (rM X.K f)) (C:SE X o u)
  (j:attributeBase o name X.env (eval o X.env)=eval o X.env:=by ac_nf) (i:(b.endLine==a.line)=true:=by ac_nf):
  SE X (.Call (.Attribute o name b) [] [] a) (eM g f u aY):=(N6 A slot r hm C j i).imp λσ H Q u9=>by
 obtain⟨m,z,h,d,F,R,S,e,k⟩:=u9;obtain⟨⟨x,s⟩,G,l⟩:=a9 e;dsimp only at l
 by_cases c:g x s=true
 ·rw[VE c] at l;exact⟨m,z,h,x,s,R,S,G,λv H1 ⟨n,I,y,t⟩=>⟨E y t c,n,s,x,[],d,F,y,t,.nil,l,λw J p=>k w J (p.step I)⟩⟩
 ·rw[VH c] at l;cases l
def BA{K:FR}{b:Ad}{H:Hp}{h:MH}{n:Nat}{d:List D}{v:V}(S:bC K b h H)(r:Rep K b H v (.ob n))(q:h[n]?=some (.lst d)):∃a c,v=.ref a/\b.ob[n]?=some a/\H a=some (.lst c)/\aw K b H c d:=by
 cases r with
 | ob hn=>obtain⟨c,e,l⟩:=S.at_ n _ _ hn q;exact⟨_,c,rfl,hn,e,l⟩
def g7:LG X "list.append" (rM X.K bS):=by
 intro e s j H x A v us Q I o rs hh;obtain⟨f,h,d,t,z,C,S,rd,l,b,k⟩:=hh;cases d <;> first |(exact cb b) | skip
 rename_i n
 match t,l,b with
 | [],_,b=>exact cb b
 | _::_::_,_,b=>exact cb b
 | [y],l,b=>
  unfold bS at b;dsimp only at b;cases q:h[n]? with
  | none=>rw[q] at b;cases b
  | some w=>
   rw[q] at b;cases w with
   | dct _=>exact cb b
   | dcH _=>exact cb b
   | lst m=>
    dsimp only at b
    by_cases c:m.length < sizeLine
    ·rw[VE c] at b;cases b;obtain⟨a,g,rfl,hn,r,i⟩:=BA S rd q;obtain⟨u,rfl,p⟩:=rep1 l;have T:cm f H f (upd H a (.lst (g++[u]))):=cm.wrote S (VC hn);exact vF e s j H _ _ v us Q I o rs ⟨a,g,u,rfl,rfl,r,by rw[i.length];exact c,k _ _ ⟨f,T,S.wrote hn ⟨_,aC,(i.snoc p).mono T.toCh⟩,.bx⟩⟩
    ·rw[VH c] at b;cases b
def oz:LG X "list.extend" (rM X.K iz):=by
 intro f s r H x M v us Q I C rs hh;obtain⟨i,h,d,L,z,N,S,rd,l,e,k⟩:=hh;cases d <;> first |(exact cb e) | skip
 rename_i n
 match L,l,e with
 | [],_,e=>exact cb e
 | _::_::_,_,e=>exact cb e
 | [y],l,e=>
  unfold iz at e;dsimp only at e;cases q:h[n]? with
  | none=>rw[q] at e;cases e
  | some w=>
   rw[q] at e;cases w with
   | dct _=>exact cb e
   | dcH _=>exact cb e
   | lst A=>
    dsimp only at e;obtain⟨t,G,g⟩:=a9 e
    by_cases c:A.length+t.length<=sizeLine
    ·rw[VE c] at g;cases g;obtain⟨a,m,rfl,hn,J,p⟩:=BA S rd q;obtain⟨u,rfl,E⟩:=rep1 l;obtain⟨b,j,rfl,F,o⟩:=cR S E G;have T:cm i H i (upd H a (.lst (m++j))):=cm.wrote S (VC hn);exact EK f s r H _ _ v us Q I C rs ⟨a,b,m,j,rfl,rfl,J,F,by rw[p.length,o.length];exact c,k _ _ ⟨i,T,S.wrote hn ⟨_,aC,(p.append o).mono T.toCh⟩,.bx⟩⟩
    ·rw[VH c] at g;cases g
def Oy:LG X "list.pop" (rM X.K zA):=by
 intro c s i H x E v us Q I j rs hh;obtain⟨e,h,d,A,z,F,S,rd,l,b,k⟩:=hh;cases d <;> first |(exact cb b) | skip
 rename_i n
 match A,l,b with
 | _::_,_,b=>exact cb b
 | [],l,b=>
  unfold zA at b;dsimp only at b;cases q:h[n]? with
  | none=>rw[q] at b;cases b
  | some w=>
   rw[q] at b;cases w with
   | dct _=>exact cb b
   | dcH _=>exact cb b
   | lst C=>
    dsimp only at b;obtain⟨y,r,p⟩:=cY b;cases p;obtain⟨a,g,rfl,hn,t,f⟩:=BA S rd q;cases l;obtain⟨u,o,m⟩:=f.got r;have T:cm e H e (upd H a (.lst g.dropLast)):=cm.wrote S (VC hn);exact Ow c s i H _ _ v us Q I j rs ⟨a,g,u,rfl,rfl,t,by rw[f.length];exact o,k _ _ ⟨e,T,S.wrote hn ⟨_,aC,f.dropLast.mono T.toCh⟩,m.mono T.toCh⟩⟩
end Sm
namespace Sb
open L2 PyProof.Rows
open Builtin.SmallTypes (nextOf ownedTupleIsFree ownedTupleHandOut)
noncomputable def kn:Bool->String
 | true=>"list_iterator"
 | false=>"tuple_iterator"
def At(b:Bool)(h:Heap)(j l:Addr)(i:Nat):Prop:=∃o,h.get? j=some o/\o.cls=.type (kn b)/\o.data=.fields #[.ref l,.int i 0]
def Of(b:Bool)(h:Heap)(l:Addr)(a:Array Value):Prop:=match b with
 | true=>h.IsList l a
 | false=>h.IsTuple l a
def At.up(x:At b h j l i)(k:∀o,h.get? j=some o->a.get? j=some o):At b a j l i:=let⟨o,e,r⟩:=x;⟨o,k o e,r⟩
def At.lt(x:At b h j l i):j < h.objs.size:=let⟨_,e,_⟩:=x;VP e
theorem Of.data(x:Of b h l items):∃o n,h.get? l=some o/\o.data=.seq items n:=by
 cases b with
 | true=>obtain⟨o,e,_,n,d⟩:=(show h.IsList l items from x);exact⟨o,n,e,d⟩
 | false=>obtain⟨o,e,_,n,d⟩:=(show h.IsTuple l items from x);exact⟨o,n,e,d⟩
def Of.up(x:Of b h l items)(k:∀o,h.get? l=some o->a.get? l=some o):Of b a l items:=by
 cases b with
 | true=>obtain⟨o,e,r⟩:=(show h.IsList l items from x);exact⟨o,k o e,r⟩
 | false=>obtain⟨o,e,r⟩:=(show h.IsTuple l items from x);exact⟨o,k o e,r⟩
def sH(hj:At b s.heap j l i)(hl:Of b s.heap l items)(h:items[i]?=some x)(k:∀e,At b e j l (i+1)->Heap.SameBut j s.heap e->Q x {s with heap:=e}):wpAny (model P w) A (nextOf (.ref j)) Q E s:=by
 cases b with
 | true=>exact wpAny_nextOf_list_item (show s.heap.IsListIter j l i from hj) (show s.heap.IsList l items from hl) h k
 | false=>
  have d:s.heap.IsTupleIter j l i:=hj;obtain⟨o,a,g,c⟩:=d;obtain⟨n,m,_,p,f⟩:=(show s.heap.IsTuple l items from hl);unfold nextOf;refine Vx (Wo (name:=Str.ofString "__next__") (show s.TypeIs (.ref j) "tuple_iterator" from⟨o,a,g⟩) Ys
   (Wj Ys (show s.TypeIs (.ref j) "tuple_iterator" from⟨o,a,g⟩) AaK ?_ (AaF _)))
  show wpAny _ _ (field (.ref j) 0 >>=_) _ _ s;refine Vx (Wv a c (x:=.ref l) rfl ?_);show wpAny _ _ (if(Value.ref l==Value.none)=true then _ else _) _ _ s;rw[VH (show ¬((Value.ref l==Value.none)=true) by exact V8)];show wpAny _ _ (field (.ref j) 1 >>=_) _ _ s;refine Vx (Wv a c (x:=.int i 0) rfl ?_);show wpAny _ _ (seqItems? (.ref l) >>=_) _ _ s;refine Vx (WM m f ?_);simp only[Wc,h];refine Vx (Y6 a c (by simp) (VA ⟨x,rfl,VA (k _ ?_ (Yz ..))⟩));exact⟨_,Xc _ a (ZJ (Ye c _)),(Aad ..).trans g,by rw[Ye c];simp[rawInt]⟩
def zx(hh:A.handled=none)(hj:At b s.heap j l i)(hl:Of b s.heap l items)(n:items[i]?=none)(k:∀f e,Heap.ExtBut j s.heap f->(∃o,f.get? e=some o/\o.cls=.type "StopIteration")->E (.ref e) {s with heap:=f}):wpAny (model P w) A (nextOf (.ref j)) Q E s:=by
 cases b with
 | true=>exact wpAny_nextOf_list_end hh (show s.heap.IsListIter j l i from hj) (show s.heap.IsList l items from hl) n k
 | false=>
  have d:s.heap.IsTupleIter j l i:=hj;obtain⟨o,c,p,h⟩:=d;obtain⟨r,q,_,t,g⟩:=(show s.heap.IsTuple l items from hl);unfold nextOf;refine Vx (Wo (name:=Str.ofString "__next__") (show s.TypeIs (.ref j) "tuple_iterator" from⟨o,c,p⟩) Ys
   (Wj Ys (show s.TypeIs (.ref j) "tuple_iterator" from⟨o,c,p⟩) AaK ?_ (AaF _)))
  show wpAny _ _ (field (.ref j) 0 >>=_) _ _ s;refine Vx (Wv c h (x:=.ref l) rfl ?_);show wpAny _ _ (if(Value.ref l==Value.none)=true then _ else _) _ _ s;rw[VH (show ¬((Value.ref l==Value.none)=true) by exact V8)];show wpAny _ _ (field (.ref j) 1 >>=_) _ _ s;refine Vx (Wv c h (x:=.int i 0) rfl ?_);show wpAny _ _ (seqItems? (.ref l) >>=_) _ _ s;refine Vx (WM q g ?_);simp only[Wc,n];refine Vx (Xe (Vx (Y6 c h (by simp) ?_)));show wpAny _ _ (newExc (.type "StopIteration") [] >>=_) _ _ _;refine Vx ?_;simp only[newExc,newTuple];refine Vx (Ws ?_ (by size_fits));refine Vx (m:=firstArgMember _ _) (wpAny_of_eq (a:=Value.none) (by first |(simp only[firstArgMember];rfl) | rfl) ?_);refine Ws ?_ (by size_fits);simp only[raiseNew];refine Vx (wpAny_handled ?_)
  first | rw[hh] | rw[show A.in1.handled=none from hh]
  refine Vx (VA (wpAny_throw (k _ _ (((Yz ..).extBut.push _).push _) ⟨_,VR _ rfl,rfl⟩)))
open Builtin.SmallTypes (nextOf ownedTupleIsFree ownedTupleHandOut)
variable {P:Program} {w:World} {A:Around} {E:Value->Shared->Prop} {s:Shared} {b c:Bool}
def HJ(x:Of b s.heap l items)(k:Q (.ref s.heap.objs.size) {s with heap:=s.heap.push {cls:=.type (kn b),data:=.fields #[.ref l,.int 0 0]}}):wpAny (model P w) A (pyIter (.ref l)) Q E s:=by
 cases b with
 | true=>exact YL (show s.heap.IsList l items from x) k
 | false=>exact YF (show s.heap.IsTuple l items from x) k
def Ff{e j l:Addr}{i:Nat}{R:Array Value}{x old:Value}{Q:Option Value->Shared->Prop}(hE:IsEnum s.heap e j i old)(hj:At b s.heap j l i)(hl:Of b s.heap l R)(hx:R[i]?=some x)(ne:e≠j)
  (k:∀h',IsEnumOut h' e j ((i:Int)+1) x s.heap.objs.size->At b h' j l (i+1)->h'.get? s.heap.objs.size=some {cls:=.type "tuple",data:=.seq #[.int i s.toks,x]}->h'.objs.size=s.heap.objs.size+1->
   (∀a o,a≠e->a≠j->s.heap.get? a=some o->h'.get? a=some o)->Q (some (.ref s.heap.objs.size)) {s with heap:=h',toks:=s.toks+1}):wpAny (model P w) A (pyNext (.ref e)) Q E s:=by
 have hT:s.TypeIs (.ref e) "enumerate":=⟨_,hE,rfl⟩;unfold pyNext;refine Vx (XI (Wo (name:=Str.ofString "__next__") hT Yj (Wj Yj hT F.entry_enumerate_next ?_ (F.args_enumerate_next_1 _))));obtain⟨hp,g,d,N,os⟩:=s;show wpAny _ _ (field (.ref e) 2 >>=_) _ _ _;refine Vx (Wv hE rfl (x:=.ref j) rfl (Vx (sH hj hl hx λf X t=>?_)));replace t:Heap.SameBut j hp f:=t;have M:IsEnum f e j i old:=(t.2 e ne).trans hE;show wpAny _ _ (field (.ref e) 3 >>=_) _ _ ⟨f,g,d,N,os⟩;refine Vx (Wv M rfl (x:=rawInt i) rfl ?_);show wpAny _ _ (field (.ref e) 4 >>=_) _ _ ⟨f,g,d,N,os⟩;refine Vx (Wv M rfl (x:=.none) rfl ?_);show wpAny _ _ (mkInt i >>=_) _ _ ⟨f,g,d,N,os⟩;refine Vx (wpAny_mkInt ?_);show wpAny _ _ (setField (.ref e) 3 (rawInt ((i:Int)+1)) >>=_) _ _ ⟨f,g,d,N+1,os⟩;refine Vx (wpAny_setField_rec M (by simp) λu L r=>?_);replace r:Heap.SameBut e f u:=r;replace L:IsEnum u e j ((i:Int)+1) old:=L;show wpAny _ _ (setField (.ref e) 4 .none >>=_) _ _ ⟨u,g,d,N+1,os⟩;refine Vx (wpAny_setField_rec L (by simp) λm J p=>?_);replace p:Heap.SameBut e u m:=p;replace J:IsEnum m e j ((i:Int)+1) old:=J;show wpAny _ _ (newTuple [.int i N,x] >>=_) _ _ ⟨m,g,d,N+1,os⟩;refine Vx (Y7 ?_);have I:IsEnum (m.push {cls:=.type "tuple",data:=.seq #[.int i N,x]}) e j ((i:Int)+1) old:=VB _ J;generalize n:m.push {cls:=.type "tuple",data:=.seq #[.int i N,x]}=h at I;have sz:m.objs.size=hp.objs.size:=by rw[p.1,r.1,t.1]
 have lte:e < hp.objs.size:=VP hE;have tp:h.get? hp.objs.size=some {cls:=.type "tuple",data:=.seq #[.int i N,x]}:=by rw[<-n,<-sz];exact VR _ rfl
 have Z:h.objs.size=hp.objs.size+1:=by rw[<-n,WV,sz]
 have Y:∀a o,a≠e->a≠j->hp.get? a=some o->h.get? a=some o:=λa o z1 z2 q=>by
  rw[<-n];exact VB _ (p.extBut a o z1 (r.extBut a o z1 (t.extBut a o z2 q)))
 have j₄:At b h j l (i+1):=X.up λo q=>by rw[<-n];exact VB _ (p.extBut j o (WO ne) (r.extBut j o (WO ne) q))
 show wpAny _ _ (ownedTupleIsFree (.ref e) >>=_) _ _ ⟨h,g,d,N+1,os⟩;rw[sz];clear n J p L r M t X sz m u f;refine Vx ?_;unfold ownedTupleIsFree;refine Vx (Wv I rfl (x:=.none) rfl (VA ?_));simp only[Yi];refine Vx (Xe (Vx (Wv I rfl (x:=old) rfl (Vx (wpAny_setField_rec I (by simp) λH U C=>?_)))));replace C:Heap.SameBut e h H:=C;replace U:IsEnum H e j ((i:Int)+1) x:=U;show wpAny _ _ (ownedTupleHandOut (.ref e) (.ref hp.objs.size) >>=_) _ _ ⟨H,g,d,N+1,os⟩;refine Vx ?_;unfold ownedTupleHandOut;refine Vx (wpAny_setField_rec U (by simp) λO T y=>?_);replace y:Heap.SameBut e H O:=y;replace T:IsEnumOut O e j ((i:Int)+1) x hp.objs.size:=T;refine wpAny_setField_rec T (by simp) λG S v=>?_;replace v:Heap.SameBut e O G:=v;replace S:IsEnumOut G e j ((i:Int)+1) x hp.objs.size:=S;have up:∀a o,a≠e->h.get? a=some o->G.get? a=some o:=λa o z q=>v.extBut a o z (y.extBut a o z (C.extBut a o z q));refine Vx (Zi (VA ⟨_,rfl,VA (k G S (j₄.up λo q=>up j o (WO ne) q) (up _ _ (X1 lte) tp) ?_ λa o z1 z2 q=>up a o z1 (Y a o z1 z2 q))⟩));rw[v.1,y.1,C.1,Z]
def Iq{e j l:Addr}{i:Nat}{a:Array Value}{old:Value}{Q:Option Value->Shared->Prop}(hh:A.handled=none)(h:IsEnum s.heap e j i old)(hj:At b s.heap j l i)(hl:Of b s.heap l a)(m:a[i]?=none)
  (k:∀f,Heap.ExtBut j s.heap f->Q none {s with heap:=f}):wpAny (model P w) A (pyNext (.ref e)) Q E s:=by
 have g:s.TypeIs (.ref e) "enumerate":=⟨_,h,rfl⟩;unfold pyNext;refine Vx (XI (Wo (name:=Str.ofString "__next__") g Yj (Wj Yj g F.entry_enumerate_next ?_ (F.args_enumerate_next_1 _))));show wpAny _ _ (field (.ref e) 2 >>=_) _ _ _;refine Vx (Wv h rfl (x:=.ref j) rfl (Vx (zx hh hj hl m λf y d u9=>?_)));obtain⟨o,n,p⟩:=u9;exact Vx (Xg (T:="StopIteration") (b:=true) ⟨o,n,p⟩ X6 (VA (k _ d)))
def Fe(x:Of b s.heap l items)(k:∀e,IsEnum e (s.heap.objs.size+1) s.heap.objs.size 0 .none->At b e s.heap.objs.size l 0->e.objs.size=s.heap.objs.size+2->(∀a o,s.heap.get? a=some o->e.get? a=some o)->Q (.ref (s.heap.objs.size+1)) {s with heap:=e}):
  wpAny (model P w) A (call (.type "enumerate") [.ref l]) Q E s:=by
 cases b with
 | true=>exact call_enumerate_list (show s.heap.IsList l items from x) k
 | false=>
  have p:PySem.Meets (Builtin.«enumerate.__new__» ⟨[.type "enumerate",.ref l],[]⟩) (λ_ R s=>s.heap.IsTuple l items/\
    R (.ok (.ret (.ref (s.heap.push {cls:=.type "tuple_iterator",data:=.fields #[.ref l,.int 0 0]}).objs.size)))
     {s with heap:=(s.heap.push {cls:=.type "tuple_iterator",data:=.fields #[.ref l,.int 0 0]}).push {cls:=.type "enumerate",data:=.fields #[.none,.bool false,.ref s.heap.objs.size,rawInt 0,.none,.none]}}):=
   .of_wp λprog w A R s h=>by
    obtain⟨hp,g,d,m,os⟩:=s;obtain⟨hl,h⟩:=h;have n:=sub_enumerate;have f:Heap.IsTuple (Shared.heap ⟨hp,g,d,m,os⟩) l items:=hl;obtain⟨o0,t,v,r,u⟩:=id f
    wp_walk
    refine wpAny_stack_any λst=>VA ?_
    split
    ·rename_i c _ _ _ _ _;cases(c==Value.type "enumerate")
     ·wp_walk using YF f
      exact⟨_,rfl,h⟩
     ·wp_walk using YF f
      exact⟨_,rfl,h⟩
    ·wp_walk using YF f
     exact⟨_,rfl,h⟩
  refine callType_new F.called_enumerate (by decide) (F.typeCall_enumerate_1 _) (F.newCall_enumerate_1 _) (λobj=>F.args_object_init_2 obj _) F.entry_enumerate_new p ⟨x,?_⟩;have i:(s.heap.push {cls:=.type "tuple_iterator",data:=.fields #[.ref l,.int 0 0]}).objs.size=s.heap.objs.size+1:=WV ..;show _/\_;rw[i];have j:IsEnum ((s.heap.push {cls:=.type "tuple_iterator",data:=.fields #[.ref l,.int 0 0]}).push
    {cls:=.type "enumerate",data:=.fields #[.none,.bool false,.ref s.heap.objs.size,rawInt 0,.none,.none]}) (s.heap.objs.size+1) s.heap.objs.size 0 .none:=by
   have q:=VR (s.heap.push {cls:=.type "tuple_iterator",data:=.fields #[.ref l,.int 0 0]}) (o:={cls:=.type "enumerate",data:=.fields #[.none,.bool false,.ref s.heap.objs.size,rawInt 0,.none,.none]}) rfl;rw[i] at q;exact q
  refine⟨⟨_,j,rfl⟩,k _ j ⟨_,VB _ (VR _ rfl),rfl,rfl⟩ (by rw[WV,i]) λa o q=>VB _ (VB _ q)⟩
end Sb
namespace Sb
open L2 PyProof.Rows
open Builtin.SmallTypes (nextOf ownedTupleIsFree ownedTupleHandOut)
structure Zp(z T U p q l m:Addr):Prop where
 Tz:T≠z
 Uz:U≠z
 pz:p≠z
 qz:q≠z
 TU:T≠U
 Tp:T≠p
 Tq:T≠q
 Up:U≠p
 Uq:U≠q
 pq:p≠q
 lz:l≠z
 lU:l≠U
 lp:l≠p
 lq:l≠q
 mz:m≠z
 mU:m≠U
 mp:m≠p
 mq:m≠q
def yi (D:Zp z T U p q l m) (X:IsZip s.heap z T U .none) (hT:IsPair s.heap T (.ref p) (.ref q)) (hU:IsPair s.heap U u v) (h1:At b s.heap p l i) (h2:At c s.heap q m i) (hl:Of b s.heap l xs) (hm:Of c s.heap m ys) (hx:xs[i]?=some x) (hy:ys[i]?=some y) (k:∀M,IsZip M z T U (rawInt s.heap.objs.size)->IsPair M U x y->At b M p l (i+1)->At c M q m (i+1)->IsPair M s.heap.objs.size x y->M.objs.size=s.heap.objs.size+1->
   (∀a o,a≠z->a≠U->a≠p->a≠q->s.heap.get? a=some o->M.get? a=some o)->Q (some (.ref s.heap.objs.size)) {s with heap:=M}):wpAny (model P w) A (pyNext (.ref z)) Q E s:=by
 have ty:s.TypeIs (.ref z) "zip":=⟨_,X,rfl⟩;unfold pyNext;refine Vx (XI (Wo (name:=Str.ofString "__next__") ty XR (Wj XR ty Zs ?_ (Zk _))));show wpAny _ _ (field (.ref z) 2 >>=_) _ _ _;refine Vx (Wv X rfl (x:=.bool false) rfl ?_);show wpAny _ _ (field (.ref z) 3 >>=_) _ _ _;refine Vx (Wv X rfl (x:=.ref T) rfl (Vx (WM hT rfl ?_)));show wpAny _ _ (ownedTupleIsFree (.ref z) >>=_) _ _ _;refine Vx ?_;unfold ownedTupleIsFree;refine Vx (Wv X rfl (x:=.none) rfl (VA ?_));simp only[Yi];refine Vx (Xe (Vx (Wv X rfl (x:=.ref U) rfl (Vx (wpAny_setField_rec X (by simp) λk₁ G f=>?_)))));replace G:IsZip k₁ z T U .ellipsis:=G;refine Vx ?_;simp only[List.zipIdx_cons,List.zipIdx_nil,YN,Zx];refine Vx (Vx (ZZ ?_));show wpAny _ _ (nextOf (.ref p) >>=_) _ _ _;refine Vx (sH (h1.up λo e=>f.extBut _ o D.pz e) (hl.up λo e=>f.extBut _ o D.lz e) hx λk₂ p₂ h=>VA ?_);have O:IsPair k₂ U u v:=h.extBut _ _ D.Up (f.extBut _ _ D.Uz hU);refine Vx (WM O rfl (Vx (ZO O λk₃ J g=>Vx (Zi (VA ?_)))));replace J:IsPair k₃ U x v:=J;refine Vx (Vx (ZZ ?_));show wpAny _ _ (nextOf (.ref q) >>=_) _ _ _;refine Vx (sH (h2.up λo e=>g.extBut _ o D.Uq.symm (h.extBut _ o D.pq.symm (f.extBut _ o D.qz e))) (hm.up λo e=>g.extBut _ o D.mU (h.extBut _ o D.mp (f.extBut _ o D.mz e))) hy λk₄ q₄ n=>VA ?_);have N:IsPair k₄ U x v:=n.extBut _ _ D.Uq J;refine Vx (WM N rfl (Vx (ZO N λd C j=>Vx (Zi (VA (VA ?_))))));replace C:IsPair d U x y:=C;refine Vx (WM C rfl (Vx (Y7 ?_)));have sz:d.objs.size=s.heap.objs.size:=by rw[j.1,n.1,g.1,h.1,f.1]
 have L:IsZip d z T U .ellipsis:=j.extBut _ _ D.Uz.symm (n.extBut _ _ D.qz.symm (g.extBut _ _ D.Uz.symm (h.extBut _ _ D.pz.symm G)));have S:∀a o,a≠z->a≠U->a≠p->a≠q->s.heap.get? a=some o->d.get? a=some o:=λa o a1 a2 a3 a4 e=>j.extBut _ _ a2 (n.extBut _ _ a4 (g.extBut _ _ a2 (h.extBut _ _ a3 (f.extBut _ _ a1 e))));have p₅:At b d p l (i+1):=p₂.up λo e=>j.extBut _ o D.Up.symm (n.extBut _ o D.pq (g.extBut _ o D.Up.symm e));have q₅:At c d q m (i+1):=q₄.up λo e=>j.extBut _ o D.Uq.symm e;have Z:z < d.objs.size:=VP L;show wpAny _ _ (ownedTupleHandOut (.ref z) (.ref d.objs.size) >>=_) _ _ _;refine Vx ?_;unfold ownedTupleHandOut;have Y:IsZip (d.push {cls:=.type "tuple",data:=.seq #[x,y]}) z T U .ellipsis:=VB _ L;refine Vx (wpAny_setField_rec Y (by simp) λk₇ F I=>?_);replace F:IsZip k₇ z T U (rawInt d.objs.size):=F;refine wpAny_setField_rec F (by simp) λr t H=>?_;replace t:IsZip r z T U (rawInt d.objs.size):=t;have up:∀a o,a≠z->d.get? a=some o->r.get? a=some o:=λa o a1 e=>H.extBut _ _ a1 (I.extBut _ _ a1 (VB _ e));have R:IsPair r d.objs.size x y:=H.extBut _ _ (X1 Z) (I.extBut _ _ (X1 Z) (VR _ rfl));have s8:r.objs.size=d.objs.size+1:=by rw[H.1,I.1,WV]
 rw[sz] at t R s8;refine VA ⟨_,rfl,VA ?_⟩;show Q (some (.ref d.objs.size)) _;rw[sz];exact k r t (up _ _ D.Uz C) (p₅.up λo e=>up _ o D.pz e) (q₅.up λo e=>up _ o D.qz e) R s8 λa o a1 a2 a3 a4 e=>up a o a1 (S a o a1 a2 a3 a4 e)
def Cn(hh:A.handled=none)(D:Zp z T U p q l m)(J:IsZip s.heap z T U .none)(hT:IsPair s.heap T (.ref p) (.ref q))(hU:IsPair s.heap U u v)(h1:At b s.heap p l i)(h2:At c s.heap q m i)(hl:Of b s.heap l xs)(hm:Of c s.heap m X)(he:xs[i]?=none\/X[i]?=none)(k:∀H,(∀a o,a≠z->a≠U->a≠p->a≠q->s.heap.get? a=some o->H.get? a=some o)->Q none {s with heap:=H}):wpAny (model P w) A (pyNext (.ref z)) Q E s:=by
 have ty:s.TypeIs (.ref z) "zip":=⟨_,J,rfl⟩;unfold pyNext;refine Vx (XI (Wo (name:=Str.ofString "__next__") ty XR (Wj XR ty Zs ?_ (Zk _))));have fin:∀H e,(∀a o,a≠z->a≠U->a≠p->a≠q->s.heap.get? a=some o->H.get? a=some o)->(∃o,H.get? e=some o/\o.cls=.type "StopIteration")->
   (λe s'=>wpAny (model P w) A (isInstance e (.type "StopIteration")) (λr L=>(if r=true then Q none L else E e L)) E s') (.ref e) {s with heap:=H}:=λH e up ⟨o,ho,hc⟩=>
  Xg (T:="StopIteration") (b:=true) ⟨o,ho,hc⟩ X6 (by rw[VE rfl];exact k H up)
 show wpAny _ _ (field (.ref z) 2 >>=_) _ _ _;refine Vx (Wv J rfl (x:=.bool false) rfl ?_);show wpAny _ _ (field (.ref z) 3 >>=_) _ _ _;refine Vx (Wv J rfl (x:=.ref T) rfl (Vx (WM hT rfl ?_)));show wpAny _ _ (ownedTupleIsFree (.ref z) >>=_) _ _ _;refine Vx ?_;unfold ownedTupleIsFree;refine Vx (Wv J rfl (x:=.none) rfl (VA ?_));simp only[Yi];refine Vx (Xe (Vx (Wv J rfl (x:=.ref U) rfl (Vx (wpAny_setField_rec J (by simp) λO j d=>?_)))));replace j:IsZip O z T U .ellipsis:=j;refine Vx ?_;simp only[List.zipIdx_cons,List.zipIdx_nil,YN,Zx];refine Vx (Vx (ZZ ?_));show wpAny _ _ (nextOf (.ref p) >>=_) _ _ _;cases ex:xs[i]? with
 | none=>
  refine Vx (zx hh (h1.up λo e=>d.extBut _ o D.pz e) (hl.up λo e=>d.extBut _ o D.lz e) ex λn e f u9=>?_);obtain⟨R,h,t⟩:=u9;have C:IsZip n z T U .ellipsis:=f _ _ D.pz.symm j;have S:e≠z:=λr=>by subst r;rw[C] at h;cases h;simp at t
  refine wpAny_setField_rec C (by simp) λN _ g=>?_;refine Vx (Xg (T:="StopIteration") (b:=true) ⟨R,g.extBut _ _ S h,t⟩ X6 (VA (k _ λa o a1 _ a3 _ r=>g.extBut _ _ a1 (f _ _ a3 (d.extBut _ _ a1 r)))))
 | some x=>
  have ey:X[i]?=none:=by rcases he with r | r;rw[ex] at r;cases r;exact r
  refine Vx (sH (h1.up λo e=>d.extBut _ o D.pz e) (hl.up λo e=>d.extBut _ o D.lz e) ex λn Y f=>VA ?_);have I:IsPair n U u v:=f.extBut _ _ D.Up (d.extBut _ _ D.Uz hU);refine Vx (WM I rfl (Vx (ZO I λN U₃ g=>Vx (Zi (VA ?_)))));refine Vx (Vx (ZZ ?_));show wpAny _ _ (nextOf (.ref q) >>=_) _ _ _;refine Vx (zx hh (h2.up λo e=>g.extBut _ o D.Uq.symm (f.extBut _ o D.pq.symm (d.extBut _ o D.qz e))) (hm.up λo e=>g.extBut _ o D.mU (f.extBut _ o D.mp (d.extBut _ o D.mz e))) ey λM e G u9=>?_);obtain⟨R,h,t⟩:=u9;have y:IsZip M z T U .ellipsis:=G _ _ D.qz.symm (g.extBut _ _ D.Uz.symm (f.extBut _ _ D.pz.symm j));have S:e≠z:=λr=>by subst r;rw[y] at h;cases h;simp at t
  refine wpAny_setField_rec y (by simp) λZ _ F=>?_;refine Vx (Xg (T:="StopIteration") (b:=true) ⟨R,F.extBut _ _ S h,t⟩ X6 (VA (k _ λa o a1 a2 a3 a4 r=>F.extBut _ _ a1 (G _ _ a4 (g.extBut _ _ a2 (f.extBut _ _ a3 (d.extBut _ _ a1 r)))))))
abbrev g1(b:Bool)(h:Heap)(l:Addr):Heap:=h.push {cls:=.type (kn b),data:=.fields #[.ref l,.int 0 0]}
abbrev g2(b c:Bool)(h:Heap)(l m:Addr):Heap:=(g1 b h l).push {cls:=.type (kn c),data:=.fields #[.ref m,.int 0 0]}
abbrev g3(b c:Bool)(h:Heap)(l m:Addr):Heap:=(g2 b c h l m).push {cls:=.type "tuple",data:=.seq #[.ref h.objs.size,.ref (g1 b h l).objs.size]}
abbrev g4(b c:Bool)(h:Heap)(l m:Addr):Heap:=(g3 b c h l m).push {cls:=.type "tuple",data:=.seq #[.none,.none]}
abbrev g5(b c:Bool)(h:Heap)(l m:Addr):Heap:=(g4 b c h l m).push {cls:=.type "zip",data:=.fields #[.none,.bool false,.bool false,.ref (g2 b c h l m).objs.size,.ref (g3 b c h l m).objs.size]}
def Jp(b c:Bool)(l m:Addr)(f a:Array Value):PySem.Meets (Builtin.«zip.__new__» ⟨[.type "zip",.ref l,.ref m],[]⟩) (λ_ R s=>Of b s.heap l f/\Of c s.heap m a/\R (.ok (.ret (.ref (g4 b c s.heap l m).objs.size))) {s with heap:=g5 b c s.heap l m}):=
 .of_wp λprog w A R s h=>by
  obtain⟨hp,g,d,i,os⟩:=s;obtain⟨hl,hm,h⟩:=h;have j:=sub_zip;have k:Of b (Shared.heap ⟨hp,g,d,i,os⟩) l f:=hl;have L2:Of c (Shared.heap ⟨hp.push {cls:=.type (kn b),data:=.fields #[.ref l,.int 0 0]},g,d,i,os⟩) m a:=hm.up λo e=>VB _ e
  wp_walk using HJ k,HJ L2
  exact⟨_,rfl,h⟩
def yh (hl:Of b s.heap l xs) (hm:Of c s.heap m r) (k:∀d,IsZip d (s.heap.objs.size+4) (s.heap.objs.size+2) (s.heap.objs.size+3) .none->IsPair d (s.heap.objs.size+2) (.ref s.heap.objs.size) (.ref (s.heap.objs.size+1))->IsPair d (s.heap.objs.size+3) .none .none->
   At b d s.heap.objs.size l 0->At c d (s.heap.objs.size+1) m 0->d.objs.size=s.heap.objs.size+5->(∀a o,s.heap.get? a=some o->d.get? a=some o)->Q (.ref (s.heap.objs.size+4)) {s with heap:=d}):
  wpAny (model P w) A (call (.type "zip") [.ref l,.ref m]) Q E s:=by
 refine callType_new F.called_zip (by decide) (F.typeCall_zip_2 _ _) (F.newCall_zip_2 _ _) (λobj=>F.args_object_init_3 obj _ _) F.entry_zip_new (Jp b c l m xs r) ⟨hl,hm,?_⟩;have h:(g1 b s.heap l).objs.size=s.heap.objs.size+1:=WV ..;have g:(g2 b c s.heap l m).objs.size=s.heap.objs.size+2:=by rw[WV,h]
 have f:(g3 b c s.heap l m).objs.size=s.heap.objs.size+3:=by rw[WV,g]
 have e:(g4 b c s.heap l m).objs.size=s.heap.objs.size+4:=by rw[WV,f]
 have q:(g5 b c s.heap l m).objs.size=s.heap.objs.size+5:=by rw[WV,e]
 have i:(g5 b c s.heap l m).get? (g4 b c s.heap l m).objs.size=some _:=VR _ rfl;have j:(g5 b c s.heap l m).get? (g3 b c s.heap l m).objs.size=some _:=VB _ (VR _ rfl);have n:(g5 b c s.heap l m).get? (g2 b c s.heap l m).objs.size=some _:=VB _ (VB _ (VR _ rfl));have p:(g5 b c s.heap l m).get? (g1 b s.heap l).objs.size=some _:=VB _ (VB _ (VB _ (VR _ rfl)));have t:(g5 b c s.heap l m).get? s.heap.objs.size=some _:=VB _ (VB _ (VB _ (VB _ (VR _ rfl))));show _/\_;rw[g,f,e] at i;rw[h,g] at n;rw[f] at j;rw[h] at p;rw[e];exact⟨⟨_,i,rfl⟩,k _ i n j ⟨_,t,rfl,rfl⟩ ⟨_,p,rfl,rfl⟩ q λa o x=>VB _ (VB _ (VB _ (VB _ (VB _ x))))⟩
section
variable {X:Cx} {pins:List (Addr×Obj)} {σ:L2.St} {H:Hp} {s:Shared} {h':Heap} {fp:List Addr}
def qv(I:L2.Inv X pins σ H s)(k:∀b o,b∉fp->s.heap.get? b=some o->h'.get? b=some o)(f:∀b∈fp,eG X pins H b):L2.Inv X pins σ H {s with heap:=h',toks:=t'}:=by
 have d:∀b u,H b=some u->b∉fp:=λb u e z=>by rw[(f b z).1] at e;cases e
 have g:X.env.locals∉fp:=λz=>(f _ z).2.1 rfl;refine I.step (g':=s.gens) (d':=s.drawn) (ch:=fp) (λb i=>?_) (λb o _ _ a e _=>k b o a e) (λb o _ _ a e _=>⟨o.slots,k b o a e⟩) (λ_ _ _ _ n=>n)
  (λb o a e=>⟨o,k b o a e⟩) (λ_ _ e=>e) (λ_ _ _ e=>e) (λb x e=>⟨#[],by rw[e];simp⟩) (λm hm=>?_) (λb u e=>?_) I.bare
 ·obtain⟨f0,t,y,p,l,j⟩:=f b i;exact⟨p,t,l,j⟩
 ·obtain⟨o,es,w,h,r⟩:=hm;exact⟨o,es,w,k _ o g h,r⟩
 ·refine(I.aZ b u e).t5 (λc v a q=>k c v ?_ q) (λ_ q=>q) λ_ _ q=>q;rcases a with z | z
  ·rw[z];exact d b u e
  ·exact d c _ z
def Cr(I:L2.Inv X pins σ H s)(k:∀b o,b∉fp->s.heap.get? b=some o->h'.get? b=some o)(g:∀b∈fp,eG X pins H b)(l:∀b∈fp,b < s.heap.objs.size)(ht:h'.get? s.heap.objs.size=some {cls:=.type "tuple",data:=.seq us.toArray n})(r:Vals vs us)(i:vs.length<=sizeLine):L2.Inv X pins σ (upd H s.heap.objs.size (.tup vs)) {s with heap:=h',toks:=t'}:=by
 have d:∀b u,H b=some u->b∉fp:=λb u e z=>by rw[(g b z).1] at e;cases e
 have h:X.env.locals∉fp:=λz=>(g _ z).2.1 rfl;have hp:H s.heap.objs.size=none:=I.aZ.fresh (VG _);have np:∀b o,s.heap.get? b=some o->b≠s.heap.objs.size:=λb o e=>V6 (VP e);have f:∀b u,H b=some u->b≠s.heap.objs.size:=λb u e=>aO e hp;refine I.step (g':=s.gens) (d':=s.drawn) (ch:=fp) (λb p=>?_) (λb o _ _ a e _=>k b o a e) (λb o _ _ a e _=>⟨o.slots,k b o a e⟩) (λb o _ e n=>by rw[ao (np b o e)];exact n)
  (λb o a e=>⟨o,k b o a e⟩) (λb _ e=>by rw[ao (f b _ e)];exact e) (λb _ _ e=>by rw[ao (f b _ e)];exact e) (λb E e=>⟨#[],by rw[ao (f b _ e),e];simp⟩) (λm hm=>?_) (λb u e=>?_) I.bare
 ·obtain⟨f0,A,F,x,w,t⟩:=g b p;exact⟨x,A,w,t⟩
 ·obtain⟨o,es,C,j,q⟩:=hm;exact⟨o,es,C,k _ o h j,q⟩
 ·by_cases z:b=s.heap.objs.size
  ·subst z;rw[aC] at e;cases e;exact⟨i,us,r,⟨_,ht,rfl,⟨n,rfl⟩,rfl⟩⟩
  ·rw[ao z] at e;refine(I.aZ b u e).t5 (λc v a q=>k c v ?_ q) (λc q=>?_) λc u q=>?_
   ·rcases a with y | y
    ·rw[y];exact d b u e
    ·exact d c _ y
   ·rw[ao (f _ _ q)];exact q
   ·rw[ao (f _ _ q)];exact q
end
def kz(b:Bool)(K:FR)(H:Hp)(l:Addr)(a:List V):Prop:=match b with
 | true=>eL K H l a
 | false=>i5 K H l a
def kz.of(I:L2.Inv X pins σ H s)(q:kz b X.K H l xs):∃a:List Value,Vals xs a/\Of b s.heap l a.toArray:=by
 cases b with
 | true=>obtain⟨a,r,p,_⟩:=I.list (show eL X.K H l xs from q);exact⟨a,r,p.isList⟩
 | false=>obtain⟨a,r,p,_⟩:=I.tuple (show i5 X.K H l xs from q);exact⟨a,r,p⟩
def kz.inj(I:L2.Inv X pins σ H s)(q:kz b X.K H l xs)(a:kz b X.K H l c):xs=c:=by
 cases b with
 | true=>exact I.zG q a
 | false=>exact I.uT q a
def Vc(b:Bool)(K:FR)(l:Addr):It:=
 ⟨λi H=>∃a x,kz b K H l a/\a[i]?=some x,λi H x c=>∃p y,H p=none/\x=.ref p/\c=upd H p (.tup [.int (i:Int),y])/\∀a,kz b K H l a->a[i]?=some y,λi H=>∃a,kz b K H l a/\a.length<=i⟩
def Vb(b c:Bool)(K:FR)(l m:Addr):It:=
 ⟨λi H=>∃a d x y,kz b K H l a/\kz c K H m d/\a[i]?=some x/\d[i]?=some y,
  λi H x e=>∃p u v,H p=none/\x=.ref p/\e=upd H p (.tup [u,v])/\(∀a,kz b K H l a->a[i]?=some u)/\∀a,kz c K H m a->a[i]?=some v,
  λi H=>∃a d,kz b K H l a/\kz c K H m d/\(a.length<=i\/d.length<=i)⟩
def D4{P:Program}{w:World}{K:FR}{es:List Expr}{k0:Nat}{pos:Pos}(b:Bool)(l e j:Addr)(ne:e≠j):Turn P w K (.Tuple es k0 pos) (Vc b K l) [e,j] e (λi h=>(∃old,IsEnum h e j i old)/\At b h j l i) where
 mem:=by simp
 obj:=λi h st a c=>by
  obtain⟨⟨old,d⟩,o,m,_,d2⟩:=st;simp at c;rcases c with rfl | rfl
  ·exact⟨_,d,λv z=>by cases z⟩
  ·exact⟨o,m,λv z=>by rw[d2] at z;cases z⟩
 keep:=λi h h' ⟨⟨old,d⟩,m⟩ k=>⟨⟨old,k e (by simp) _ d⟩,m.up λo q=>k j (by simp) o q⟩
 item:=by
  intro X N J R T i g s Y H E I y st L;subst N J R;obtain⟨Z,x,t,G⟩:=L;obtain⟨⟨old,d⟩,m⟩:=st;obtain⟨C,rv,O⟩:=t.of I;obtain⟨u,hu,ru⟩:=rv.get G;have p:∀a∈[e,j],a < s.heap.objs.size:=λa c=>by
   simp at c;rcases c with rfl | rfl
   ·exact VP d
   ·exact m.lt
  refine Ff d m O (x:=u) (by simpa using hu) ne λh' a1 a2 a3 a4 a5=>⟨_,rfl,wpAny_letOwnedTupleGo_enum a1 λS b1 U=>?_⟩;have hp:H s.heap.objs.size=none:=I.aZ.fresh (VG _);have I1:=Cr (t':=s.toks+1) (vs:=[.int (i:Int),x]) (us:=[.int i s.toks,u]) (n:=0) I (λa o c q=>a5 a o (λz=>c (by simp[z])) (λz=>c (by simp[z])) q) y p a3 (.cons ⟨_,rfl⟩ (.cons ru .nil)) (show 2<=sizeLine by decide);have r:∀a∈[e,j],eG X g (upd H s.heap.objs.size (.tup [.int (i:Int),x])) a:=λa c=>by
   obtain⟨f0,f⟩:=y a c;exact⟨by rw[ao (V6 (p a c))];exact f0,f⟩
  have I2:=qv (t':=s.toks+1) I1 (h':=S) (λa o c q=>U.extBut a o (λz=>c (by simp[z])) q) r;exact⟨.ref s.heap.objs.size,_,I2,rfl,⟨_,x,hp,rfl,rfl,λys hy=>by rw[hy.inj I t];exact G⟩,⟨⟨_,by simpa using b1⟩,a2.up λo q=>U.extBut j o (WO ne) q⟩,λa c=>(r a c).1⟩
 done:=by
  intro X N J R T i g s Y H E I y st L;subst N J R;obtain⟨Z,t,G⟩:=L;obtain⟨⟨old,d⟩,m⟩:=st;obtain⟨C,rv,O⟩:=t.of I;have hl:=rv.length;exact Iq (I.ok.hd T) d m O (by simp;lia) λh' eb=>⟨rfl,qv (t':=s.toks) I (λa o c q=>eb a o (λz=>c (by simp[z])) q) y⟩
 self:=λA i s Q E ⟨⟨old,d⟩,_⟩ q=>by
  have M:s.TypeIs (.ref e) "enumerate":=⟨_,d,rfl⟩;refine Z7 M F.slot_enumerate_iter (Wj F.slot_enumerate_iter M F.entry_enumerate_iter ?_ (F.args_enumerate_iter_1 _));show wpAny _ _ (ret (.ref e)) _ _ s;exact VA ⟨_,rfl,"enumerate",_,M,Yj.lookup,q⟩
def FY{P:Program}{w:World}{K:FR}{es:List Expr}{k0:Nat}{pos:Pos}(b c:Bool)(z T U p q l m:Addr)(D:Zp z T U p q l m):
  Turn P w K (.Tuple es k0 pos) (Vb b c K l m) [z,T,U,p,q] z (λi h=>IsZip h z T U .none/\IsPair h T (.ref p) (.ref q)/\(∃u v,IsPair h U u v)/\At b h p l i/\At c h q m i) where
 mem:=by simp
 obj:=λi h st a d=>by
  obtain⟨L,t,⟨u,v,J⟩,⟨o4,G,_,d4⟩,⟨o5,F,_,d5⟩⟩:=st;simp at d;rcases d with rfl | rfl | rfl | rfl | rfl
  ·exact⟨_,L,λv z=>by cases z⟩
  ·exact⟨_,t,λv z=>by cases z⟩
  ·exact⟨_,J,λv z=>by cases z⟩
  ·exact⟨o4,G,λv z=>by rw[d4] at z;cases z⟩
  ·exact⟨o5,F,λv z=>by rw[d5] at z;cases z⟩
 keep:=λi h h' ⟨L,t,⟨u,v,J⟩,G,F⟩ k=>⟨k z (by simp) _ L,k T (by simp) _ t,⟨u,v,k U (by simp) _ J⟩,G.up λo e=>k p (by simp) o e,F.up λo e=>k q (by simp) o e⟩
 item:=by
  intro X hP hw hK hc i C s σ H E I hf st hg;subst hP hw hK;obtain⟨xs,ys,x,y,j,g,hx,hy⟩:=hg;obtain⟨L,t,⟨u,v,J⟩,G,F⟩:=st;obtain⟨is1,N,R⟩:=j.of I;obtain⟨is2,M,O⟩:=g.of I;obtain⟨u1,hu1,ru1⟩:=N.get hx;obtain⟨u2,hu2,ru2⟩:=M.get hy;have S:∀a∈[z,T,U,p,q],a < s.heap.objs.size:=λa d=>by
   simp at d;rcases d with rfl | rfl | rfl | rfl | rfl
   ·exact VP L
   ·exact VP t
   ·exact VP J
   ·exact G.lt
   ·exact F.lt
  refine yi D L t J G F R O (x:=u1) (y:=u2) (by simpa using hu1) (by simpa using hu2) λh' a1 a2 a3 a4 a5 a6 a7=>⟨_,rfl,wpAny_letOwnedTupleGo_zip a1 λh'' b1 Z=>?_⟩;have hp:H s.heap.objs.size=none:=I.aZ.fresh (VG _);have I1:=Cr (t':=s.toks) (vs:=[x,y]) (us:=[u1,u2]) (n:=0) I (h':=h') (fp:=[z,T,U,p,q]) (λa o d e=>a7 a o (λr=>d (by simp[r])) (λr=>d (by simp[r])) (λr=>d (by simp[r])) (λr=>d (by simp[r])) e) hf S a5 (.cons ru1 (.cons ru2 .nil)) (show 2<=sizeLine by decide);have Y:∀a∈[z,T,U,p,q],eG X C (upd H s.heap.objs.size (.tup [x,y])) a:=λa d=>by
   obtain⟨f0,f⟩:=hf a d;exact⟨by rw[ao (V6 (S a d))];exact f0,f⟩
  have I2:=qv (t':=s.toks) I1 (h':=h'') (fp:=[z,T,U,p,q]) (λa o d e=>Z.extBut a o (λr=>d (by simp[r])) e) Y;have hT':=a7 T _ D.Tz D.TU D.Tp D.Tq t;exact⟨.ref s.heap.objs.size,_,I2,rfl,⟨_,x,y,hp,rfl,rfl,λzs hz=>by rw[hz.inj I j];exact hx,λzs hz=>by rw[hz.inj I g];exact hy⟩,
   ⟨b1,Z.extBut T _ D.Tz hT',⟨_,_,Z.extBut U _ D.Uz a2⟩,a3.up λo e=>Z.extBut p o D.pz e,a4.up λo e=>Z.extBut q o D.qz e⟩,λa d=>(Y a d).1⟩
 done:=by
  intro X hP hw hK hc i C s σ H E I hf st hg;subst hP hw hK;obtain⟨xs,ys,j,g,hx⟩:=hg;obtain⟨L,t,⟨u,v,J⟩,G,F⟩:=st;obtain⟨is1,N,R⟩:=j.of I;obtain⟨is2,M,O⟩:=g.of I;have hl1:=N.length;have hl2:=M.length;exact Cn (I.ok.hd hc) D L t J G F R O (by simp;lia) λh' eb=>⟨rfl,qv (t':=s.toks) I (fp:=[z,T,U,p,q]) (λa o d e=>eb a o (λr=>d (by simp[r])) (λr=>d (by simp[r])) (λr=>d (by simp[r])) (λr=>d (by simp[r])) e) hf⟩
 self:=λA i s Q E st h=>wpAny_pyIter_zip st.1 h
def boot_zip:bootBuiltins "zip"=some (.type "zip"):=by decide+kernel
def Fy:bootBuiltins "enumerate"=some (.type "enumerate"):=by decide+kernel
def LM(n l m:Nat)(hl:l < n)(hm:m < n):Zp (n+4) (n+2) (n+3) n (n+1) l m:=by
 constructor <;> (intro h;have h:(_:Nat)=_:=h;lia)
def Kl(E:Gl X "enumerate")(hm:X.mg "enumerate"=none)(G:PA X [a] r)(z:starEach [a] X.env=[(false,eval a X.env)]:=by ac_nf):
  PI X (.Tuple es k0 i) (.Call (.Name "enumerate" p) [a] [] pos) (λj H R=>r j H λm g=>∃l b,m=[.ref l]/\(∃k,kz b X.K g l k)/\R (Vc b X.K l) g):=by
 intro d s j H R I h;refine Call_ (fU I E hm Fy (WC (cv (G pos d s j H _ I h) λus s1 u9=>?_) z rfl));obtain⟨m,g,f,v,x⟩:=u9;obtain⟨l,b,e,⟨k,C⟩,q⟩:=x;subst e;obtain⟨u,rfl,t⟩:=Vals.one v;obtain rfl:u=Value.ref l:=t;obtain⟨y,rv,J⟩:=C.of f;refine Fe J λo a1 a2 a3 a4=>?_;have L:L2.Inv X d j g {s1 with heap:=o}:=f.kept (t':=s1.toks) a4;have F:∀c∈[s1.heap.objs.size+1,s1.heap.objs.size],eG X d g c:=λc n=>by
  simp at n;rcases n with rfl | rfl
  ·exact f.sY (Yx _) (f.aZ.fresh (Yx _))
  ·exact f.sY (VG _) (f.aZ.fresh (VG _))
 have T:=D4 (P:=X.prog) (w:=X.w) (K:=X.K) (es:=es) (k0:=k0) (pos:=i) b l (s1.heap.objs.size+1) s1.heap.objs.size (Nat.succ_ne_self _);refine T.self X.A 0 {s1 with heap:=o} _ X.xe ⟨⟨_,a1⟩,a2⟩ ?_;exact⟨_,[s1.heap.objs.size+1,s1.heap.objs.size],_,_,g,rfl,L,T,⟨⟨_,a1⟩,a2⟩,F,q⟩
def NQ(hg:Gl X "zip")(hm:X.mg "zip"=none)(ha:PA X [a,t] M)(Z:starEach [a,t] X.env=[(false,eval a X.env),(false,eval t X.env)]:=by ac_nf)(k:starEach [t] X.env=[(false,eval t X.env)]:=by ac_nf):
  PI X (.Tuple es k0 i) (.Call (.Name "zip" p) [a,t] [] pos) (λy H R=>M y H λE g=>∃l m b c,E=[.ref l,.ref m]/\(∃z,kz b X.K g l z)/\(∃z,kz c X.K g m z)/\R (Vb b c X.K l m) g):=by
 intro f s y H R I h;refine Call_ (fU I hg hm boot_zip (WC (cv (ha pos f s y H _ I h) λus s1 ⟨E,g,x,O,Q⟩=>?_) (by rw[Z,k]) (by rw[k];rfl)));obtain⟨l,m,b,c,e,⟨z,hq⟩,⟨ys,C⟩,q⟩:=Q;subst e;obtain⟨u,v,rfl,N,j⟩:=Vals.two O;obtain rfl:u=Value.ref l:=N;obtain rfl:v=Value.ref m:=j;obtain⟨Y,rv,G⟩:=hq.of x;obtain⟨F,j,r⟩:=C.of x;refine yh G r λJ a1 a2 a3 a4 L a6 a7=>?_;have I2:L2.Inv X f y g {s1 with heap:=J}:=x.kept (t':=s1.toks) a7;have hf:∀d∈[s1.heap.objs.size+4,s1.heap.objs.size+2,s1.heap.objs.size+3,s1.heap.objs.size,s1.heap.objs.size+1],eG X f g d:=λd hd=>by
  simp at hd;have:s1.heap.objs.size<=d:=by lia
  exact x.sY this (x.aZ.fresh this)
 have U:l < s1.heap.objs.size:=by obtain⟨o,n,e,_⟩:=G.data;exact VP e
 have S:m < s1.heap.objs.size:=by obtain⟨o,n,e,_⟩:=r.data;exact VP e
 have D:Zp (s1.heap.objs.size+4) (s1.heap.objs.size+2) (s1.heap.objs.size+3) s1.heap.objs.size (s1.heap.objs.size+1) l m:=LM _ _ _ U S;have T:=FY (P:=X.prog) (w:=X.w) (K:=X.K) (es:=es) (k0:=k0) (pos:=i) b c _ _ _ _ _ l m D;refine T.self X.A 0 {s1 with heap:=J} _ X.xe ⟨a1,a2,⟨_,_,a3⟩,a4,L⟩ ?_;exact⟨_,[s1.heap.objs.size+4,s1.heap.objs.size+2,s1.heap.objs.size+3,s1.heap.objs.size,s1.heap.objs.size+1],_,_,g,rfl,I2,T,⟨a1,a2,⟨_,_,a3⟩,a4,L⟩,hf,q⟩
end Sb
namespace Sm
open L2 PyProof.Rows
noncomputable def iV:Nat->List D->List D
 | _,[]=>[]
 | k,x::r=>.tup [.int (k:Int),x]::iV (k+1) r
noncomputable def nN:List D->List D->List D
 | x::r,y::s=>.tup [x,y]::nN r s
 | _,_=>[]
theorem kh:∀(a:List D)(k i:Nat),(iV k a)[i]?=(a[i]?).map λx=>.tup [.int ((k+i:Nat):Int),x]
 | [],k,i=>by simp[iV]
 | x::r,k,0=>by simp[iV]
 | x::r,k,i+1=>by
  show(iV (k+1) r)[i]?=_;rw[kh r (k+1) i];simp only[WS];congr 1
  funext y
  rw[show k+1+i=k+(i+1) by lia]
theorem bF:∀(a:List D)(k:Nat),(iV k a).length=a.length
 | [],_=>rfl
 | _::r,k=>by simp[iV,bF r (k+1)]
theorem yj:∀(b a:List D)(i:Nat),(nN b a)[i]?=(b[i]?).bind λx=>(a[i]?).map λy=>.tup [x,y]
 | [],_,i=>by simp[nN]
 | _::_,[],i=>by simp[nN]
 | x::r,y::s,0=>by simp[nN]
 | x::r,y::s,i+1=>by
  show(nN r s)[i]?=_;rw[yj r s i];simp
theorem oR:∀(b a:List D),(nN b a).length=min b.length a.length
 | [],_=>by simp[nN]
 | _::_,[]=>by simp[nN]
 | x::r,y::s=>by simp[nN,oR r s]
def SeqAt.Cy{K:FR}{H:Hp}{a:Addr}{c:List V}{b:Bool}(q:SeqAt K H a c b):Sb.kz b K H a c:=by
 cases q with
 | l q=>exact q
 | t q=>exact q
def B3(a:gR (ws++b) h=true):gR ws h=true/\gR b h=true:=by
 induction ws with
 | nil=>exact⟨rfl,a⟩
 | cons x r c=>
  obtain⟨n,o⟩:=x;simp only[Yn,gR,V1] at a ⊢;obtain⟨e,d⟩:=c a.2;exact⟨⟨a.1,e⟩,d⟩
def jB(m:AM):IM:=λa h=>(m a h).bind λp=>match p.1 with
 | [d]=>(b9 d p.2).map λq=>(iV 0 q.1,q.2,p.2)
 | _=>none
def OR(m:AM):IM:=λa h=>(m a h).bind λp=>match p.1 with
 | [d,e]=>(b9 d p.2).bind λq=>(b9 e p.2).map λr=>(nN q.1 r.1,q.2++r.2,p.2)
 | _=>none
def OD{c:Type}{l:List c}(h:l.length=2):∃a b,l=[a,b]:=by
 cases l with
 | nil=>cases h
 | cons a l=>obtain⟨b,rfl⟩:=X4.mp (Nat.succ.inj h);exact⟨a,b,rfl⟩
def fv(O:Gl X "enumerate")(hm:X.mg "enumerate"=none)(T:SA X [a] m)(hl:kA m 1)(N:starEach [a] X.env=[(false,eval a X.env)]:=by ac_nf):SI X (.Tuple es k0 r) (.Call (.Name "enumerate" p) [a] [] pos) (jB m):=
 (Sb.Kl O hm T N).imp λσ H Q G=>by
  obtain⟨E,F,h,xs,c,h',R,S,e,k⟩:=G;obtain⟨⟨ds,Z⟩,A,e2⟩:=a9 e;refine⟨E,F,h,ds,Z,R,S,A,λvs j H1 T1 C J=>?_⟩;obtain⟨d,rfl⟩:=X4.mp (hl _ _ _ _ A);obtain⟨⟨ys,w⟩,e3,e4⟩:=cY e2;cases e4;obtain⟨v,rfl,rd⟩:=rep1 J;obtain⟨a,rfl,⟨us,q,l⟩,st⟩:=ij C rd e3;refine⟨a,sS d,rfl,⟨us,q.Cy⟩,k _ j H1 T1 C ⟨λg H2 Y T2 b P i=>?_⟩⟩;obtain⟨c,s,n⟩:=st g H2 Y T2 b P;refine⟨λt=>⟨c,n.Cy,by rw[s.length];rw[bF] at t;exact t⟩,λx f=>?_⟩;rw[kh] at f;obtain⟨y,ey,f⟩:=cY f;subst f;obtain⟨v,z,rv⟩:=s.got ey;refine⟨⟨c,v,n.Cy,z⟩,λu H3 u9=>?_⟩;obtain⟨p,I,hp,M,U,L⟩:=u9;subst M;subst U;have o:I=v:=by have:=L c n.Cy;rw[z] at this;exact(Option.some.inj this).symm
  subst o;refine⟨cm.laid b hp,b.laid hp,.tup (.inl ⟨.inl aC,b.fresh hp⟩) (.cons ?_ (.cons (rv.mono (cm.laid b hp).toCh) .nil))⟩;rw[WG];exact .int _
def M0(hg:Gl X "zip")(hm:X.mg "zip"=none)(ha:SA X [a,b] m)(hl:kA m 2)(hs:starEach [a,b] X.env=[(false,eval a X.env),(false,eval b X.env)]:=by ac_nf)(L:starEach [b] X.env=[(false,eval b X.env)]:=by ac_nf):
  SI X (.Tuple es k0 O) (.Call (.Name "zip" p) [a,b] [] pos) (OR m):=
 (Sb.NQ hg hm ha hs L).imp λσ H Q zz=>by
  obtain⟨ρ,δ,h,xs,s,h',R,S,e,k⟩:=zz;obtain⟨⟨ds,h1⟩,Z,e2⟩:=a9 e;refine⟨ρ,δ,h,ds,h1,R,S,Z,λvs t H1 T1 N r1=>?_⟩;obtain⟨d,d',rfl⟩:=OD (hl _ _ _ _ Z);obtain⟨⟨ys,w⟩,e3,e4⟩:=a9 e2;obtain⟨⟨zs,w'⟩,e5,e6⟩:=cY e4;cases e6;obtain⟨v,z,rfl,rd,F⟩:=rep2 r1;obtain⟨a,rfl,⟨us,q,l⟩,st⟩:=ij N rd e3;obtain⟨a',rfl,⟨A,q',l'⟩,C⟩:=ij N F e5;refine⟨a,a',sS d,sS d',rfl,⟨us,q.Cy⟩,⟨A,q'.Cy⟩,k _ t H1 T1 N ⟨λn H2 U T2 g hc i=>?_⟩⟩;obtain⟨c1,c2⟩:=B3 hc;obtain⟨s,P,G⟩:=st n H2 U T2 g c1;obtain⟨c,o,f⟩:=C n H2 U T2 g c2;refine⟨λT=>⟨s,c,G.Cy,f.Cy,by rw[P.length,o.length];rw[oR] at T;dsimp only at T;lia⟩,λx j=>?_⟩;rw[yj] at j;obtain⟨y,ey,j⟩:=a9 j;obtain⟨y',M,j⟩:=cY j;subst j;obtain⟨v,Y,rv⟩:=P.got ey;obtain⟨z,r,E⟩:=o.got M;refine⟨⟨s,c,v,z,G.Cy,f.Cy,Y,r⟩,λu H3 u9=>?_⟩;obtain⟨p,x1,x2,hp,hu,hH,J,I⟩:=u9;subst hu;subst hH;have z1:x1=v:=by have:=J s G.Cy;rw[Y] at this;exact(Option.some.inj this).symm
  have z2:x2=z:=by have:=I c f.Cy;rw[r] at this;exact(Option.some.inj this).symm
  subst z1;subst z2;exact⟨cm.laid g hp,g.laid hp,.tup (.inl ⟨.inl aC,g.fresh hp⟩) (.cons (rv.mono (cm.laid g hp).toCh) (.cons (E.mono (cm.laid g hp).toCh) .nil))⟩
def xK(ls:List (Key×D)):List (Key×D)->Option Bool
 | []=>some true
 |(k,v)::r=>match cW ls k with
  | none=>some false
  | some u=>(jm v).bind λa=>(jm u).bind λb=>if a.depth<=60/\b.depth<=60 then(xK ls r).map λc=>PyData.eqv a b&&c else none
def Iu(ks ls:List (Key×D)):Option Bool:=if ks.length=ls.length then xK ls ks else some false
def Jk(d e:D)(h:MH):Option Bool:=match cc d h,cc e h with
 | some ks,some ls=>Iu ks ls
 | _,_=>Jj d e h
def b6(d e:D)(h:MH):Option (D×MH):=(Jk d e h).map λc=>(.bl c,h)
def jE(d e:D)(h:MH):Option (D×MH):=(Jk d e h).map λc=>(.bl (!c),h)
def K0(hu:X.A.units+64 < cLine)(I:L2.Inv X pins σ H s)(M:bq X.K w H C ls)(F:KV C m):
  ∀{us:List (Key×V)} {ks:List (Key×D)} {h:List (Key×Value)} {c:Bool},bq X.K w H us ks->KV us h->xK ls ks=some c->PySem.W.KeqHits X.A.in1 s m h c:=by
 intro us
 induction us with
 | nil=>
  intro ks h c a g e;cases a;cases g;cases e;exact .nil
 | cons u0 us N=>
  intro ks h c a g e;cases a with | @cons k v _ d _ r l=>
  cases g with
  | cons g E=>
   rename_i p h;obtain⟨Z,y⟩:=p;obtain⟨u,t⟩:=g;dsimp only at u t;subst u;simp only[xK] at e;have f:=F.val k;rcases M.val k with⟨o,n⟩ |⟨d',Y,o,n,L⟩
   ·rw[o] at e;cases e;rw[n] at f;refine .miss ?_;cases q:valueAt m k with
    | none=>rfl
    | some _=>rw[q] at f;exact f.elim
   ·rw[o] at e;obtain⟨a,R,e⟩:=a9 e;obtain⟨b,Q,e⟩:=a9 e
    by_cases z:a.depth<=60/\b.depth<=60
    ·rw[VE z] at e;obtain⟨c',P,O⟩:=cY e;subst O;rw[n] at f;cases q:valueAt m k with
     | none=>rw[q] at f;exact f.elim
     | some x=>
      rw[q] at f;obtain⟨J,T⟩:=r.rZ R;obtain⟨G,S⟩:=L.rZ Q;obtain⟨U,j⟩:=J.reads I t;obtain⟨bs,i⟩:=G.reads I f;refine .hit q (Ze a b _ s y x U bs j i T S ?_) (N l E P);have:min a.depth b.depth<=a.depth:=Zl _ _;show X.A.units+1+min a.depth b.depth < cLine
      lia
    ·rw[VH z] at e;cases e
def Ip(F:X.A.units+64 < cLine)(I:L2.Inv X pins σ H s)(L:L2.RelV x v)(J:L2.RelV y u)(S:bC X.K G h H)(rd:Rep X.K G H x d)(M:Rep X.K G H y e)(f:Jk d e h=some c):
  (∀Q:Value->Shared->Prop,Q (.bool c) s->wpAny (model X.prog X.w) X.A (compareOp .Eq v u) Q X.xe s)/\∀Q:Value->Shared->Prop,Q (.bool (!c)) s->wpAny (model X.prog X.w) X.A (compareOp .NotEq v u) Q X.xe s:=by
 have data:Jj d e h=some c->(∀Q:Value->Shared->Prop,Q (.bool c) s->wpAny (model X.prog X.w) X.A (compareOp .Eq v u) Q X.xe s)/\∀Q:Value->Shared->Prop,Q (.bool (!c)) s->wpAny (model X.prog X.w) X.A (compareOp .NotEq v u) Q X.xe s:=by
  intro f;obtain⟨a,e3,e4⟩:=a9 f;obtain⟨b,e5,r⟩:=a9 e4
  by_cases w:a.depth<=64/\b.depth<=64
  ·rw[VE w] at r;cases r;obtain⟨r1,Y⟩:=qB S rd e3;obtain⟨Z,U⟩:=qB S M e5;obtain⟨as,j⟩:=r1.reads I L;obtain⟨bs,i⟩:=Z.reads I J;exact⟨λQ q=>eq_dataH j i (kg Y w.1) (kg U w.2) F q,λQ q=>ne_dataH j i (kg Y w.1) (kg U w.2) F q⟩
  ·rw[VH w] at r;cases r
 unfold Jk at f;cases n:cc d h with
 | none=>rw[n] at f;exact data f
 | some ks=>
  cases E:cc e h with
  | none=>rw[n,E] at f;exact data f
  | some ls=>
   rw[n,E] at f;obtain⟨a,us,rfl,ha,P⟩:=iC S rd n;obtain⟨b,ws,rfl,hb,O⟩:=iC S M E;obtain rfl:v=Value.ref a:=L;obtain rfl:u=Value.ref b:=J;obtain⟨_,p,l,j,C⟩:=vW I.aZ ha;obtain⟨_,o,k,i,t⟩:=vW I.aZ hb;have T:l.length=ks.length:=by rw[<-P.length];exact(Paired.length j).symm
   have R:k.length=ls.length:=by rw[<-O.length];exact(Paired.length i).symm
   dsimp only[Iu] at f
   by_cases z:ks.length=ls.length
   ·rw[VE z] at f;have g:=K0 F I O i P j f;have m:(l.length==k.length&&c)=c:=by rw[T,R,z,XU,Aaq]
    exact⟨λQ q=>PySem.W.keq_eq p o C t (by lia) (λ_=>g) (by rw[m];exact q),λQ q=>PySem.W.keq_ne p o C t (by lia) (λ_=>g) (by rw[m];exact q)⟩
   ·rw[VH z] at f;cases f;have m:(l.length==k.length&&false)=false:=Zz _;have N:l.length=k.length->PySem.W.KeqHits X.A.in1 s k l false:=λq=>absurd (by rw[<-T,<-R];exact q) z;exact⟨λQ q=>PySem.W.keq_eq p o C t (by lia) N (by rw[m];exact q),λQ q=>PySem.W.keq_ne p o C t (by lia) N (by rw[m];exact q)⟩
def Ht(i:X.A.units+64 < cLine):pV X (compareOp .Eq) b6:=by
 intro a s n H x y v u Q I f b hh;obtain⟨o,h,d,e,z,p,S,rd,g,j,k⟩:=hh;obtain⟨c,m,l⟩:=cY j;cases l;exact(Ip i I f b S rd g m).1 _ ⟨.bl _,H,I,rfl,k _ _ (.here S (.bl _))⟩
def Hr(i:X.A.units+64 < cLine):pV X (compareOp .NotEq) jE:=by
 intro a s n H x y v u Q I f b hh;obtain⟨o,h,d,e,z,p,S,rd,g,j,k⟩:=hh;obtain⟨c,m,l⟩:=cY j;cases l;exact(Ip i I f b S rd g m).2 _ ⟨.bl _,H,I,rfl,k _ _ (.here S (.bl _))⟩
def iy(b:List (Key×D))(c:List (Key×D)):List (Key×D):=c.foldl (λa p=>putD a p.1 p.2) b
def bq.merge{K:FR}{f:Ad}{H:Hp}:∀{c:List (Key×V)} {e:List (Key×D)} {acc:List (Key×V)} {ac:List (Key×D)},bq K f H acc ac->bq K f H c e->bq K f H (bz acc c) (iy ac e):=by
 intro c
 induction c with
 | nil=>intro e acc ac a b;cases b;exact a
 | cons x c g=>intro e acc ac a b;cases b with | @cons k v _ d _ r l=>exact g (acc:=putK acc k v) (ac:=putD ac k d) (a.put r) l
def xZ:bootBuiltins "list"=some (.type "list"):=by decide+kernel
def eT:bootBuiltins "tuple"=some (.type "tuple"):=by decide+kernel
def Lq:bootBuiltins "dict"=some (.type "dict"):=by decide+kernel
def Lr:bootBuiltins "bool"=some (.type "bool"):=by decide+kernel
def IL:bootBuiltins "int"=some (.type "int"):=by decide+kernel
def IK:bootBuiltins "str"=some (.type "str"):=by decide+kernel
def Pt:bootBuiltins "len"=some (.builtin "len"):=by decide+kernel
def Px:bootBuiltins "abs"=some (.builtin "abs"):=by decide+kernel
def cy:bootBuiltins "isinstance"=some (.builtin "isinstance"):=by decide+kernel
def Pw:bootBuiltins "all"=some (.builtin "all"):=by decide+kernel
def Pu:bootBuiltins "any"=some (.builtin "any"):=by decide+kernel
noncomputable def MD(a:Scope)(x:Str):Bool:=match a.names.lookup x with
 | some .local=>true
 | some .cell=>true
 | some .free=>true
 | _=>false
noncomputable def KA(a:Scope)(x:Str):Bool:=match a.names.lookup x with
 | some .local=>true
 | some .cell=>true
 | _=>false
noncomputable def SH(X:Cx)(x:Str):Bool:=X.fn x||(match X.env.scope.names.lookup x with
 | some .local=>true
 | _=>false)
def MC(h:MD sc x=true):RV sc x:=by
 unfold MD at h
 split at h <;> first |(cases h;done) | skip
 ·exact .inl ‹_›
 ·exact .inr (.inl ‹_›)
 ·exact .inr (.inr ‹_›)
def HE(h:KA sc x=true):Loc sc x:=by
 unfold KA at h
 split at h <;> first |(cases h;done) | skip
 ·exact .inl ‹_›
 ·exact .inr ‹_›
def HV(h:SH X x=true):X.fn x=true\/X.env.scope.names.lookup x=some .local:=by
 unfold SH at h;rw[Xl] at h;rcases h with h | h
 ·exact .inl h
 ·split at h
  ·exact .inr ‹_›
  ·cases h
def sv(i:Nat)(c:X.N[i]?=some x:=by ac_nf)(b:MD X.env.scope x=true:=by ac_nf)(hd:(x==("__debug__":Str))=false:=by ac_nf)(a:(x==("__classdict__":Str))=false:=by ac_nf):SE X (.Name x pos) (aP i):=M4 c (MC b) hd a
def sset(i:Nat)(h:X.N.Nodup)(g:SE X e a)(d:X.N[i]?=some x:=by ac_nf)(b:KA X.env.scope x=true:=by ac_nf)(c:swapsWith e (some (.Name x pos')) pos.line X.env=pure false:=by ac_nf)(f:SH X x=true:=by ac_nf):SS X (.Assign [.Name x pos'] e pos) (aQ i a):=MV h d (HE b) g c (HV f)
def sgn(i:Nat)(d:X.N.Nodup)(b:X.N[i]?=some x:=by ac_nf)(a:KA X.env.scope x=true:=by ac_nf)(c:SH X x=true:=by ac_nf):SG X (.Name x pos) (gN i):=JC d b (HE a) (HV c)
noncomputable def Gw(i j:Nat)(m:AM):SM:=λc h=>(m c h).bind λp=>match p.1 with
 | [a,b]=>some (.nx,(c.set i (some a)).set j (some b),p.2)
 | _=>none
def MX(i j:Nat){kt l c}(O:X.N.Nodup)(hl:kA m 2)(M:X.calm=true)(z:i≠j)(P:PS X (.Assign [.Tuple [.Name x w,.Name y py] kt pt] (.Tuple [a,b] l c) pos) (Ql i j (U0 X.K m))):
  SS X (.Assign [.Tuple [.Name x w,.Name y py] kt pt] (.Tuple [a,b] l c) pos) (Gw i j m):=P.imp λE J H s=>by
 obtain⟨p,r,h,fl,q,Q,R,S,e,k⟩:=s;obtain⟨⟨F,A⟩,n,C⟩:=a9 e;refine⟨p,r,h,F,A,R,S,n,λL f I o G t=>?_⟩;obtain⟨d,T,rfl⟩:=OD (hl _ _ _ _ n);cases C;obtain⟨v,u,rfl,rd,g⟩:=rep2 t;exact⟨v,u,rfl,k f I o G _ (((R.mono o.toCh).set rd i).set g j)⟩
structure Df(P:Program)(w:World)(K:FR)(mg:Str->Option Value)(base:Heap)(nm:Str)(k:Nat)(ps:List Str)(n:Nat)(F:Fn):Prop where
 ex:∃(f:Addr)(fd:FuncData),fX P w K mg base wm k f fd ps (FF K n F)/\PySem.W.keepIn K (.ref f)=true/\Binds K fd ps []/\mg nm=some (.ref f)
def QC(d:Df X.prog X.w X.K X.mg X.base nm k r n F)(hr:eU h X.A)(i:k<=h)(o:SA X (e::es) m)(hl:kA m n)(j:Gl X nm:=by unfold Gl;ac_nf)(b:(nm==("__debug__":Str))=false:=by ac_nf)(l:starEach (e::es) X.env=(false,eval e X.env)::starEach es X.env:=by ac_nf)(a:(backTo pos (starEach es X.env)).any (·.1)=false:=by ac_nf):SE X (.Call (.Name nm p) (e::es) [] pos) (aq F m):=by
 obtain⟨f,s,G,g,q,c⟩:=d.ex;exact JF G (hr.mono i) j c g q o hl b l a
def ix{P:Program}{w:World}{K:FR}{mg:Str->Option Value}{base:Heap}{k n:Nat}{f:Addr}{c:FuncData}{b:List Str}:fX P w K mg base wm k f c b (FF K n λ_ _=>none):=
 ⟨λa H Q E hh=>(by obtain⟨_,_,_,_,_,_,_,_,e,_⟩:=hh;cases e),λA outer s H args us a Q E _ _ _ _ hh=>(by obtain⟨_,_,_,_,_,_,_,_,e,_⟩:=hh;cases e)⟩
end Sm
namespace L2
open PyProof.Rows
abbrev TK:=St->Hp->(St->Hp->Prop)->Prop
def PM(B:Cx)(c:Sem Unit)(t:TK):Prop:=
 ∀(a:List (Addr×Obj)) (s:Shared) (d:St) (H:Hp) (N:St->Hp->Prop),Inv B a d H s->t d H N->wpAny (model B.prog B.w) B.A c (λ_ f=>∃b e,Inv B a b e f/\N b e) B.xe s
def yd(J:It)(g:TG)(o:TT)(n:TK)(N:St->Hp->Prop)(f:St)(q:Hp):Prop:=
 ∃W:Nat->Nat->St->Hp->Prop,(∃m,W 0 m f q)/\∀i m h d,W i m h d->
  (J.stop i d/\N h d)\/(J.go i d/\∃j:St->Hp->Prop,(∀c e,j c e->∃k,k < m/\W (i+1) k c e)/\∀x e,J.LN i d x e->g x h e λa p=>
   o a p λb l=>if b=true then n a l j else j a l)
noncomputable def nQ(e:Expr)(d:Nat)(h:Expr)(b:List Expr)(f:Sem Unit)(p:Pos)(a g:Value)(env:Env):Sem Fin:=do
 standAt p
 match<-pyNext a with
 | none=>pure (.done .next)
 | some v=>
  letOwnedTupleGo h a v
  assign h env v
  let mut ok:=true
  for c in b do
   if ok then ok<-isTrue c env (eval c env)
  if ok then f
  again (.compLoop e d a g env)
noncomputable def emitSet(a:Expr)(b:Value)(env:Env):Sem Unit:=do let v<-eval a env;standAt a.pos;let _<-call (.builtin "set.add") [b,v]
def D2(a c d:Expr)(e:List Expr)(f:Scope)(pos:Pos)(g b:Value)(env:Env):
  compTurn (.SetComp a [⟨c,d,e,0⟩] f pos) 0 g b env=nQ (.SetComp a [⟨c,d,e,0⟩] f pos) 0 c e (emitSet a b env) d.pos g b env:=by rfl
noncomputable def m8(k v:Expr)(d:Addr)(env:Env):Sem Unit:=do
 let a<-eval k env;let b<-holding [a] (eval v env)
 standAt {k.pos with endLine:=v.pos.endLine,endCol:=v.pos.endCol}
 holding [a,b] (dictSet d a b)
def AF(k v a b:Expr)(c:List Expr)(e:Scope)(pos:Pos)(f:Value)(d:Addr)(env:Env):
  compTurn (.DictComp k v [⟨a,b,c,0⟩] e pos) 0 f (.ref d) env=nQ (.DictComp k v [⟨a,b,c,0⟩] e pos) 0 a c (m8 k v d env) b.pos f (.ref d) env:=by rfl
structure Plain(e:Expr):Prop where
 loop:∀(P:Program)(w:World)(d:Nat)(it acc:Value)(env:Env),(model P w).den (.compLoop e d it acc env)=(compTurn e d it acc env).onRaise (λx=>do noteFrame x env;theTreesLotGoes x)
 start:∀(P:Program)(w:World)(d:Nat)(it acc:Value)(env:Env),(model P w).den (.compStart e d it acc env)=(compStart e d it acc env).onRaise (λx=>do noteFrame x env;standAt theWindowsPlace)
 ul:∀(A:Around)(d:Nat)(it acc:Value)(env:Env),A.under (.compLoop e d it acc env)=A
 us:∀(A:Around)(d:Nat)(it acc:Value)(env:Env),A.under (.compStart e d it acc env)=A
def Ex(a:Expr)(c:List Comprehension)(b:Scope)(pos:Pos):Plain (.SetComp a c b pos):=⟨λ_ _ _ _ _ _=>rfl,λ_ _ _ _ _ _=>rfl,λ_ _ _ _ _=>rfl,λ_ _ _ _ _=>rfl⟩
def Bm(k v:Expr)(b:List Comprehension)(a:Scope)(pos:Pos):Plain (.DictComp k v b a pos):=⟨λ_ _ _ _ _ _=>rfl,λ_ _ _ _ _ _=>rfl,λ_ _ _ _ _=>rfl,λ_ _ _ _ _=>rfl⟩
def RC(hk:Plain e)(ht:compTurn e d (.ref it) acc B.env=nQ e d tg ifs act p (.ref it) acc B.env)(hc:B.calm=true)(hx:B.xe=λ_ _=>False)(hg:PG B tg g)(U:Jn B ifs tc)(hm:PM B act tm)(I:Inv B pins τ H s)(T:Turn B.prog B.w B.K tg J C it R)(st:R 0 s.heap)(hf:∀b∈C,eG B pins H b)(hw:yd J g tc tm N τ H):
  codeAny (model B.prog B.w) B.A (.compLoop e d (.ref it) acc B.env) (λr P=>r=.ok .next/\∃a c,Inv B pins a c P/\N a c) s:=by
 obtain⟨W,⟨m0,w0⟩,G⟩:=hw;have j:∀{c:Hp},(∀b∈C,c b=none)->∀b∈C,eG B pins c b:=λhn b l=>⟨hn b l,(hf b l).2⟩;have up:∀{α:Type} {t:Sem α} {Q:α->Shared->Prop} {E:Value->Shared->Prop} {s:Shared},wpAny (model B.prog B.w) B.A t Q B.xe s->wpAny (model B.prog B.w) B.A t Q E s:=λh=>Qg (hx ▸ h);refine codeAny_loop rfl (λn P=>∃i a c,Inv B pins a c P/\R i P.heap/\(∀b∈C,c b=none)/\W i n a c) ?_ m0 ⟨0,_,_,I,st,λb l=>(hf b l).1,w0⟩;rintro n s4 ⟨i,k,Z,J4,L,O,w4⟩;rw[hk.ul,hk.loop];refine wpAny_noted ?_;rw[ht];unfold nQ;rcases G i n k Z w4 with⟨stop,qn⟩ |⟨go,N',hN,step⟩
 ·refine Vx (Xm (Vx (WL (T.done B rfl rfl rfl hc i pins s4 k Z _ J4 (j O) L stop) (λr s5 M=>?_) λ_ _ e=>e)));obtain⟨hr,J5⟩:=M;subst hr;exact VA ⟨rfl,_,_,J5,qn⟩
 ·refine Vx (Xm (Vx (WL (T.item B rfl rfl rfl hc i pins s4 k Z _ J4 (j O) L go) (λr s5 M=>?_) λ_ _ e=>e)));obtain⟨u,hr,M⟩:=M;subst hr;refine Vx (WL M (λ_ s6 h6=>?_) λ_ _ e=>e);obtain⟨x,H6,J6,r6,y6,y,X⟩:=h6;have Y:=J6.pinned (j X) (T.obj _ _ y);refine Vx (WL (up (hg _ s6 k H6 x u _ Y r6 (step x H6 y6))) (λ_ s7 h7=>?_) λ_ _ e=>e);obtain⟨v,H7,J7,q7⟩:=h7;have again:∀{f:St} {q:Hp} {z:Shared},Inv B (pins++oq C s6.heap) f q z->N' f q->
    ∃m,m < n/\∃i a c,Inv B pins a c z/\R i z.heap/\(∀b∈C,c b=none)/\W i m a c:=λ{f q z} F n8=>by
   obtain⟨m',hm,w8⟩:=hN f q n8;refine⟨m',hm,i+1,f,q,F.i7,T.keep _ _ _ y λb l o e=>(F.pin (b,o) (Wf _ (Wf _ (eA l e)))).1,λb l=>?_,w8⟩;obtain⟨o,e,d⟩:=T.obj _ _ y b l;exact(F.pin (b,o) (Wf _ (Wf _ (eA l e)))).2.1
  refine Vx (WL (up (U _ s7 v H7 _ J7 q7)) (λok z h8=>?_) λ_ _ e=>e);obtain⟨q,F,q8⟩:=h8;cases ok with
  | false=>exact VA ⟨rfl,again F (by simpa using q8)⟩
  | true=>
   have S:tm v q N':=by simpa using q8
   refine Vx (WL (up (hm _ z v q _ F S)) (λ_ s9 h9=>?_) λ_ _ e=>e);obtain⟨τ9,H9,J9,n9⟩:=h9;exact VA ⟨rfl,again J9 n9⟩
def O4{env:Env}{g c:Value}{a:Expr}{prog:Program}{w:World}{A:Around}{s:Shared}{R:Result->Shared->Prop}(k:Plain e)(i:(clausesOf e)[d]?=some ⟨l,a,ifs,0⟩)
  (h0:codeAny (model prog w) A (.compLoop e d g c env) R s)
  (h:wpAny (model prog w) A (pyIter g) (λb f=>codeAny (model prog w) A (.compLoop e d b c env) R f) (notedBy (model prog w) A env λx f=>R (.error x) f) s):
  codeAny (model prog w) A (.compStart e d g c env) R s:=by
 refine codeAny_of_tree ?_;rw[k.us,k.start];refine wpAny_notedAt ?_;unfold compStart;rw[i];show wpAny _ _ (ask >>=_) _ _ s;refine Vx (X5 (wpAny_ite ?_))
 split
 ·first
   | exact Vx (VA (VA (And.intro rfl h0)))
   | exact VA (And.intro rfl h0)
 ·first
   | exact Vx (Xe (Vx (Xm (Vx (WL h (λb f j=>VA (And.intro rfl j)) λ_ _ x=>x)))))
   |(refine Vx (Xe ?_);show wpAny _ _ (standAt a.pos >>=_) _ _ s;exact Vx (Xm (Vx (WL h (λb f j=>VA (And.intro rfl j)) λ_ _ x=>x))))
def LD(X:Cx)(d:Sem Value)(o:Addr->HO):Prop:=∀(a:List (Addr×Obj)) (s:Shared) (b:St) (H:Hp) (Q:Value->Shared->Prop) (E:Value->Shared->Prop),Inv X a b H s->
 (∀(obj:Obj)(c:Nat),Inv X a b (upd H s.heap.objs.size (o s.heap.objs.size)) {s with heap:=s.heap.push obj,toks:=c}->Q (.ref s.heap.objs.size) {s with heap:=s.heap.push obj,toks:=c})->wpAny (model X.prog X.w) X.A d Q E s
def nR(a:List (Option Nat))(d:TI)(o:Addr->HO)(g:TG)(f:TT)(e:Addr->TK):TE:=λb H Q=>d b H λJ c=>∀l,c l=none->yd J g f (e l) (λ_ h=>Q (.ref l) h) (lO a b) (upd c l (o l))
section
variable {X:Cx} {N':List Str} {caps:List (Option Nat)} {scope:Scope} {e tg iter:Expr} {ifs:List Expr} {p:Pos} {wi:TI} {g:TG} {tc:TT} {tm:Addr->TK} {o:Addr->HO} {na:Sem Value} {act:Addr->Env->Sem Unit}
def Ph(S:bg X N' caps scope)(hc:X.calm=true)(hk:Plain e)(hcl:(clausesOf e)[0]?=some ⟨tg,iter,ifs,0⟩)(ht:∀(U l:Addr)(env:Env),compTurn e 0 (.ref U) (.ref l) env=nQ e 0 tg ifs (act l env) p (.ref U) (.ref l) env)
  (hA:LD X na o) (hg:∀C a f i pl,PG (fE X N' scope C a f i pl) tg g) (hif:∀C a f i pl,Jn (fE X N' scope C a f i pl) ifs tc)
  (hm:∀C a f i pl l,PM (fE X N' scope C a f i pl) (act l (fE X N' scope C a f i pl).env) (tm l)) {d:List (Addr×Obj)} {Y:St} {H:Hp} {s:Shared} {U:Addr} {i:List Addr} {tn:Nat->Heap->Prop} {J:It}
  (I:Inv X d Y H s) (T:Turn X.prog X.w X.K tg J i U tn) (st:tn 0 s.heap) (hf:∀b∈i,eG X d H b) {Q:VK} {RR:Value->Addr->Result->Shared->Prop} {E:Value->Shared->Prop}
  (h:∀l,H l=none->yd J g tc (tm l) (λ_ R=>Q (.ref l) R) (lO caps Y) (upd H l (o l)))
  (hRR:∀(l C:Addr)(R:Hp)(L:Shared),R C=none->C≠X.env.locals->X.s₀.heap.objs.size<=C->(∀x c,X.env.cells.lookup x=some c->c≠C)->(∀p∈X.pn++d,p.1≠C)->(∃m,L.heap.Ns C m)->Inv X d Y R L->
   (∀h'':Heap,(∀b u,b≠C->L.heap.get? b=some u->h''.get? b=some u)->Inv X d Y R {L with heap:=h''})->Q (.ref l) R->RR (.ref l) C (.ok .next) L):
  wpAny (model X.prog X.w) X.A na (λacc a=>wpAny (model X.prog X.w) X.A (newFunctionEnv scope X.env.globals (gL X.env scope.names []) [] X.env.qual none .none (some X.env)) (λP Z=>
   codeAny (model X.prog X.w) X.A (.compStart e 0 (.ref U) acc {P with scope:=relabel scope X.env}) (RR acc P.locals) Z) E a) E s:=by
 have hw:=h s.heap.objs.size I.fresh;refine hA d s Y H _ _ I λobj t' G=>wpAny_newFunctionEnv S.BB (by intro y hy;simp at hy) (λM t n=>?_) S.kind;have N:∀b∈i,b < s.heap.objs.size:=λb j=>by
  obtain⟨o,e,_⟩:=T.obj 0 _ st b j;exact VP e
 have F:∀b∈i,eG X d (upd H s.heap.objs.size (o s.heap.objs.size)) b:=λb j=>⟨by rw[ao (V6 (N b j))];exact(hf b j).1,(hf b j).2⟩;have k:∀b u,(s.heap.push obj).get? b=some u->M.get? b=some u:=λb u e=>n.extBut b u (V6 (VP e)) (VB _ e);have st3:tn 0 M:=T.keep 0 _ _ st λb j o e=>k b o (VB _ e);have O:∀b∈i,b < (s.heap.push obj).objs.size:=λb j=>by
  have:=N b j;rw[WV];exact Nat.lt_succ_of_lt this
 have J0:=Inv.block S G hc F O t k (t₄:=t');have fpB:∀b∈i,eG (fE X N' scope (s.heap.push obj).objs.size {s with heap:=s.heap.push obj,toks:=t'} (upd H s.heap.objs.size (o s.heap.objs.size)) i d) [] (upd H s.heap.objs.size (o s.heap.objs.size)) b:=λb j=>by
  obtain⟨f0,f1,f2,f3,f4,f5⟩:=F b j;refine⟨f0,V6 (O b j),λz=>?_,.inl j,λx c e=>f4 x c (S.look G.ok e),λp hp=>?_⟩
  ·rcases VS.mp (G.nU b z) with q | q
   ·exact f1 q
   ·exact f2 q
  ·rcases Wk.mp hp with q | q
   ·exact f5 p q
   ·cases q
 have lp:=RC hk (ht U s.heap.objs.size _) rfl rfl (hg _ _ _ _ _) (hif _ _ _ _ _) (hm _ _ _ _ _ s.heap.objs.size) J0 T st3 fpB hw;refine Aab (O4 hk hcl lp (T.self X.A 0 _ _ _ st3 lp)) λr L hr=>?_;obtain⟨rfl,τ,R,J,q⟩:=hr;refine hRR _ _ R L J.free ?_ ?_ ?_ ?_ ?_ ?_ ?_ q
 ·exact(V6 G.lt).symm
 ·exact G.sz
 ·intro x c e z;obtain⟨v,o,ho,_⟩:=G.cell x c e;exact V6 (VP ho) z
 ·intro p hp z;obtain⟨e,_⟩:=G.pin p hp;exact V6 (VP e) z
 ·obtain⟨m,hm,_⟩:=J.loc;exact⟨m,hm⟩
 ·have:=Inv.qu S G F J (h'':=L.heap) λb u _ e=>e;exact this
 ·exactλh'' hs=>Inv.qu S G F J hs
def ze(S:bg X N' caps scope)(O:X.calm=true)(G:Plain e)(j:clausesOf e=⟨tg,iter,ifs,0⟩::gs)(ht:∀(n l:Addr)(env:Env),compTurn e 0 (.ref n) (.ref l) env=nQ e 0 tg ifs (act l env) p (.ref n) (.ref l) env)(Y:LD X na o)(L:PI X tg iter wi)(M:∀C a c f pl,PG (fE X N' scope C a c f pl) tg g)(r:∀C a c f pl,Jn (fE X N' scope C a c f pl) ifs tc)(hm:∀C a c f pl l,PM (fE X N' scope C a c f pl) (act l (fE X N' scope C a c f pl).env) (tm l))(N:eval e X.env=comprehension e scope X.env p0 na false (eval iter X.env))(F:∀x,foldedSetIterable iter X.env x=pure x:=by intro _;rfl):PE X e (nR caps wi o g tc tm):=by
 intro d s z H Q I h;rw[N];refine Zn (use:=none) j F (lM (S.has I.ok)) S.kind S.names (cv (L d s z H _ I h) λv s1 h1=>cv h1 λE s2 Z=>?_);obtain⟨n,f,tn,J,H2,e,I2,T,k,f2,R⟩:=Z;subst e;refine Ph (RR:=λy C=>compPost (model X.prog X.w) X.A X.xe none (EP X d z Q) y C) S O G (by rw[j];rfl) ht Y M r hm I2 T k f2 R ?_;intro l C H' s' _ _ _ _ _ hm _ U q;obtain⟨m,hm⟩:=hm;exact⟨m,hm,λt i=>⟨.ref l,H',U t λb u P e=>i.extBut b u P e,rfl,q⟩⟩
end
end L2
namespace Sm
open L2 PyProof.Rows
structure Ac(α:Type)where
 at_:FR->Ad->Hp->Addr->α->Prop
 mono:∀{K:FR} {ρ ρ':Ad} {H H':Hp} {l:Addr} {a:α},at_ K ρ H l a->Ch ρ H ρ' H'->H' l=H l->at_ K ρ' H' l a
abbrev MK(α:Type):=DS->MH->α->Option (DS×MH×α)
def fk{e:Type}(b:W)(g:GM)(c:TM)(m:MK e):List D->MK e
 | [],d,h,a=>if gR b h then some (d,h,a) else none
 | x::r,d,h,a=>if gR b h then(g x d h).bind λq=>(c q.1 q.2).bind λt=>if t.1 then(m q.1 t.2 a).bind λz=>fk b g c m r z.1 z.2.1 z.2.2 else fk b g c m r q.1 t.2 a else none
structure lQ(l:Addr)(ρ:Ad)(H:Hp)(ρ':Ad)(H':Hp):Prop where
 ch:Ch ρ H ρ' H'
 rs:ρ'.rs=ρ.rs
 res:∀b∈ρ.rs,b≠l->H' b=H b
theorem lQ.refl:lQ l a H a H:=⟨.refl _ _,rfl,λ_ _ _=>rfl⟩
theorem lQ.trans(a:lQ l f H d H1)(b:lQ l d H1 c g):lQ l f H c g:=⟨a.ch.trans b.ch,b.rs.trans a.rs,λx e n=>(b.res x (a.rs ▸ e) n).trans (a.res x e n)⟩
def cm.UZ(a:cm d H c H1):lQ l d H c H1:=⟨a.toCh,a.rs,λb e _=>a.res b e⟩
inductive Sd{α:Type}(K:FR)(A:Ac α)(l:Addr)(m:MK α)(τ:L2.St)(H:Hp)(N:L2.St->Hp->Prop):Prop where
 | mk (ρ δ h a δ' h' a'):bT K ρ H τ δ->bC K ρ h H->l∈ρ.rs->A.at_ K ρ H l a->(m δ h a=some (δ',h',a'))->(∀ρ' H' τ',lQ l ρ H ρ' H'->bC K ρ' h' H'->bT K ρ' H' τ' δ'->A.at_ K ρ' H' l a'->N τ' H')->Sd K A l m τ H N
def Ju{a:Type}(K:FR)(A:Ac a)(l:Addr)(m:MK a):TK:=λb H N=>Sd K A l m b H N
section
variable {α:Type} {K:FR} {A:Ac α} {l:Addr} {g:GM} {mt:TM} {m:MK α}
def JL(It:LI K J ρ H ws xs)(T1:Ch ρ H d H1)(R:bT K d H1 τ δ)(S:bC K d h H1)(hl:l∈d.rs)(hA:A.at_ K d H1 l a)(e:fk ws g mt m xs δ h a=some (z,h',a'))(k:∀b f o,lQ l d H1 b f->bC K b h' f->bT K b f o z->A.at_ K b f l a'->N o f):yd J (AI K g) (yq K mt) (Ju K A l m) N τ H1:=by
 refine⟨λi n o f=>∃(b:Ad)(w:DS)(E:MH)(a2:α),n=xs.length-i/\i<=xs.length/\lQ l d H1 b f/\bT K b f o w/\bC K b E f/\A.at_ K b f l a2/\fk ws g mt m (xs.drop i) w E a2=some (z,h',a'),
  ⟨_,d,δ,h,a,rfl,Wm _,.refl,R,S,hA,e⟩,?_⟩
 rintro i n o f ⟨b,w,E,a2,rfl,hi,F,R2,S2,M,j⟩;have L:l∈b.rs:=by rw[F.rs];exact hl
 cases q:xs.drop i with
 | nil=>
  rw[q] at j;unfold fk at j
  by_cases C:gR ws E=true
  ·rw[VE C] at j;cases j;have hle:xs.length<=i:=by have:=congrArg List.length q;rw[Ym,WZ] at this;lia
   exact .inl ⟨(It.run _ f _ (T1.trans F.ch) S2 C i).1 hle,k _ _ _ F S2 R2 M⟩
  ·rw[VH C] at j;cases j
 | cons x r=>
  rw[q] at j;unfold fk at j
  by_cases C:gR ws E=true
  ·rw[VE C] at j;have hx:xs[i]?=some x:=by
    have:=congrArg (λl=>l[0]?) q
    simpa using this
   have hlt:i < xs.length:=(Vz.mp hx).1;have hr:xs.drop (i+1)=r:=by
    have:=congrArg List.tail q
    simpa using this
   obtain⟨⟨u,h3⟩,e4,T⟩:=a9 j;obtain⟨⟨t,h4⟩,e6,O⟩:=a9 T;dsimp only at e4 T e6 O;obtain⟨hgo,hy⟩:=(It.run _ f E (T1.trans F.ch) S2 C i).2 x hx;refine .inr ⟨hgo,λG y=>∃(c:Ad)(s:DS)(Q:MH)(U:α),lQ l d H1 c y/\bT K c y G s/\bC K c Q y/\A.at_ K c y l U/\fk ws g mt m r s Q U=some (z,h',a'),?_,?_⟩
   ·rintro G y ⟨c,s,Q,U,P,R5,X,Y,T⟩;exact⟨xs.length-(i+1),by lia,c,s,Q,U,rfl,hlt,P,R5,X,Y,by rw[hr];exact T⟩
   ·intro v H3 y3;obtain⟨T3,S3,r3⟩:=hy v H3 y3;refine⟨b,w,E,x,u,h3,R2.mono T3.toCh,S3,r3,e4,λρ4 H4 τ4 T4 S4 R4=>?_⟩;refine⟨ρ4,u,h3,t,h4,R4,S4,e6,λc y P X=>?_⟩;have p:cm b f c y:=T3.trans (T4.trans P);have Y:A.at_ K c y l a2:=A.mono M p.toCh (p.res l L);cases t with
    | false=>
     rw[VH (by simp)] at O;exact OP ⟨c,u,h4,a2,F.trans p.UZ,R4.mono P.toCh,X,Y,O⟩
    | true=>
     rw[VE rfl] at O;obtain⟨⟨I,h6,a6⟩,e8,e9⟩:=a9 O;refine OO ⟨c,u,h4,a2,I,h6,a6,R4.mono P.toCh,X,by rw[p.rs];exact L,Y,e8,λZ H7 τ7 T7 S7 R7 A7=>?_⟩;exact⟨Z,I,h6,a6,(F.trans p.UZ).trans T7,R7,S7,A7,e9⟩
  ·rw[VH C] at j;cases j
def yU(Y:∀f H l,A.at_ K f (upd H l (o l)) l a0)(hh:∃f p h r s t n y E,bT K f H σ p/\bC K f h H/\X p h=some (r,s,t)/\fk s g mt m r (gw e p) t a0=some (n,y,E)/\∀l d v,cm f H d v->bC K d y v->¬d.has l->A.at_ K d v l E->Q (.ref l) v):
  nR e (LQ K X) o (AI K g) (yq K mt) (λl=>Ju K A l m) σ H Q:=by
 obtain⟨f,p,h,r,s,t,n,y,E,R,S,e1,Z,k⟩:=hh;refine⟨f,p,h,r,s,t,R,S,e1,λJ a L N P It l hl=>?_⟩;have M:¬a.has l:=P.fresh hl;have F:Ch a L (a.keep l) (upd L l (o l)):=Ch.keep hl;refine JL It F (((R.mono N.toCh).lO e).mono F) (P.keep hl) (VF) (Y _ _ _) Z λw u U I O R2 A2=>?_;obtain⟨i,x⟩:=w;have C:x=l::a.rs:=I.rs;subst C;have c:∀b∈a.rs,b∈l::a.rs:=λb j=>VD _ j;have T:Ch ⟨i,l::a.rs⟩ u ⟨i,a.rs⟩ u:=Ch.free c;have q:∀b∈a.rs,b≠l:=λb j z=>M (.inr (z ▸ j));have G:cm a L ⟨i,a.rs⟩ u:=⟨(F.trans I.ch).trans T,rfl,λb j=>(I.res b (c b j) (q b j)).trans (ao (q b j))⟩;refine k l _ u (N.trans G) (O.free c) (λz=>?_) (A.mono A2 T rfl);rcases z with z | z
 ·exact(O.qy l VF).2 z
 ·exact M (.inr z)
end
def U6{b:Type}(X:Cx)(a:Addr->Env->Sem Unit)(A:Ac b)(m:MK b):Prop:=∀l,L2.PM X (a l X.env) (Ju X.K A l m)
def _root_.L2.PM.imp(h:L2.PM X a t)(i:∀b H Q,d b H Q->t b H Q):L2.PM X a d:=λc s b H Q I q=>h c s b H Q I (i b H Q q)
section
variable {α:Type} {X:Cx} {A:Ac α} {g:GM} {mt:TM} {m:MK α} {mi:IM} {e tg iter:Expr} {ifs:List Expr} {d:Nat} {p:Pos} {act:Addr->Env->Sem Unit}
end
end Sm
namespace L2
open PyProof.Rows
theorem lJ:∀(a:List α)(i:Nat)(x:α),a[i]?=some x->(x::a.eraseIdx i).Perm a
 | y::r,0,x,h=>by
  rw[AaA] at h;cases h;exact .refl _
 | y::r,i+1,x,h=>by
  rw[WS] at h;exact(List.Perm.swap y x _).trans ((lJ r i x h).cons y)
theorem Cq:∀(n:Nat)(c:List α)(s:Shared)(Q:List α->Shared->Prop),n=c.length->(∀g d,g.Perm c->Q g {s with drawn:=d})->wpAny M A (drawOrder n c) Q E s
 | 0,c,s,Q,e,h=>by
  have:c=[]:=Z0 e.symm;subst this;exact VA (h [] s.drawn (.refl _))
 | n+1,[],s,Q,e,h=>by cases e
 | n+1,x::r,s,Q,e,h=>by
  unfold drawOrder;refine Vx (show wpAny M A (choose .order (x::r).length) _ E s fromλk p hΓ=>?_);unfold choose;rw[Sem.wp_choose];refine⟨by simp,?_⟩;have b:M.w.draws .order (s.drawn.get .order) % (x::r).length < (x::r).length:=Aag _ (by simp);generalize M.w.draws .order (s.drawn.get .order) % (x::r).length=i at b ⊢;have j:(x::r)[i]?=some ((x::r)[i]):=VI b;generalize (x::r)[i]=y at j;show Sem.wp M k (pure i) _ _ p _;refine(VA (M:=M) (A:=A) (E:=E) (a:=i) (s:={s with drawn:=s.drawn.bump .order}) ?_) k p hΓ;rw[j];have f:n=((x::r).eraseIdx i).length:=by rw[Aaj b,<-e];rfl
  refine Vx (Cq n _ _ _ f λg d l=>VA ?_);exact h (y::g) d ((l.cons y).trans (lJ _ _ _ j))
theorem C0(nx:Nat->Nat):∀(fuel k:Nat)(left:List α)(out:Array α),fuel=left.length->(pickOrder.go nx fuel k left out).toList.Perm (out.toList++left)
 | 0,k,left,out,e=>by
  have:left=[]:=Z0 e.symm;subst this;unfold pickOrder.go;rw[Wl]
 | fuel+1,k,left,out,e=>by
  unfold pickOrder.go;have a:nx k % left.length < left.length:=Aag _ (by lia);have b:left[nx k % left.length]?=some (left[nx k % left.length]):=VI a;generalize left[nx k % left.length]=y at b;rw[b];dsimp only;refine(C0 nx fuel (k+1) _ _ (by rw[Aaj a];lia)).trans ?_;rw[Array.toList_push,Wg];exact(lJ _ _ _ b).append_left _
def vp(nx:Nat->Nat)(a:Array α):(pickOrder nx a).toList.Perm a.toList:=by
 unfold pickOrder;have:=C0 nx a.size 0 a.toList #[] (by simp)
 simpa using this
def sZ{b:Type}(es:Array (b×Value)){a:List Nat}(hp:a.Perm (List.range es.size)):(a.filterMap λk=>(es[k]?).map (·.2)).Perm (es.toList.map (·.2)):=by
 refine(hp.filterMap _).trans (List.Perm.of_eq ?_);have:∀l:List (b×Value),(List.range l.length).filterMap (λk=>(l[k]?).map (·.2))=l.map (·.2):=by
  intro l;have d:(List.range l.length).filterMap (λk=>(l[k]?).map (·.2))=((List.range l.length).filterMap λk=>l[k]?).map (·.2):=by
   rw[List.map_filterMap]
  rw[d,List.filterMap_getElem?_range_length]
 have c:=this es.toList
 simpa using c
def entry_set_iter':entryFor table "set.__iter__"=some Builtin.«frozenset.__iter__»:=entryFor_alias (id':="frozenset.__iter__") (by ac_nf) rfl (by decide+kernel) (by ac_nf)
def cP:Slot "set_iterator" "__next__" "set_iterator.__next__":=.of (owner:="set_iterator") (n:="__next__") (by rw[AaD,ZI];ac_nf) (by decide+kernel) (by decide+kernel) (by decide+kernel) (by first | exact .inl (by decide+kernel) | exact .inr (by decide+kernel)) (by rw[isSubtype_type];ac_nf)
def kT:entryFor table "set_iterator.__next__"=some Builtin.«set_iterator.__next__»:=entryFor_of_fast (by ac_nf)
def nv(a:Value):argsOk "set_iterator.__next__" ⟨[a],[]⟩:=by unfold argsOk;ac_nf
def wpAny_of_eq'(e:m=m')(h:wpAny M A m' Q E s):wpAny M A m Q E s:=e ▸ h
section
variable {P:Program} {w:World} {A:Around} {E:Value->Shared->Prop} {s:Shared} {a:Addr} {ks:List Str}
def xE(f:s.heap.get? J=some o)(hd:o.data=.fields fs)(g:k < fs.size)(h:∀d c,(∀b u,b≠J->s.heap.get? b=some u->d.get? b=some u)->d.get? J=some c->c.cls=o.cls->c.data=.fields (fs.setIfInBounds k x)->Q () {s with heap:=d}):wpAny M A (setField (.ref J) k x) Q E s:=by
 refine Y6 f hd g (h _ _ (λb u i e=>(XH _ _ (WO i)).trans e) (Xc _ f (ZJ (Ye hd _))) (Aad ..) ?_);rw[Ye hd]
def D0(b:s.heap.get? a=some ob)(c:ob.data=.set es e t)(d:t.fits es.size=true)(ht:w.params.followText "set-order"=true)(h:Q (pickOrder (w.params.setOrder a e) es) s):wpAny (model P w) A (setWalk a) Q E s:=by
 unfold setWalk setsByText;refine Vx (Xp b c d ?_);dsimp only;refine Vx (Vx (X5 (VA ?_)));rw[VE (show(model P w).w.params.followText "set-order"=true from ht)];exact Vx (X5 (VA h))
def vC(b:s.heap.get? a=some ob)(c:ob.data=.set es f t)(d:t.fits es.size=true)(ht:w.params.followText "set-order"=true)(h:Q (((pickOrder (w.params.setOrder a f) es)[i]?).map λe=>(e.2,k)) s):wpAny (model P w) A (setNext a k i f) Q E s:=by
 unfold setNext setsByText;refine Vx (Xp b c d ?_);dsimp only;refine Vx (Vx (X5 (VA ?_)));rw[VE (show(model P w).w.params.followText "set-order"=true from ht)];simp only[Xf,V0,↓reduceIte];exact Vx (D0 b c d ht (VA h))
def wA{J:Addr}(hh:A.handled=none)(g:∀f,(∀b o,s.heap.get? b=some o->f.get? b=some o)->Q none {s with heap:=f}):
  wpAny (model P w) A.in1 (do let x<-newExc (.type "StopIteration") [];raiseNew x:Sem Fin) (λd c=>∃v,d=Fin.done (Flow.ret v)/\wpAny (model P w) A (pure (some v)) Q E c)
   (λe c=>wpAny (model P w) A (do let b<-isInstance e (.type "StopIteration");if b=true then pure none else throw e) Q E c) s:=by
 refine Vx ?_;simp only[newExc,newTuple];refine Vx (Ws ?_ (by size_fits));refine Vx (m:=firstArgMember _ _) (wpAny_of_eq (a:=Value.none) (by first | rfl |(simp only[firstArgMember];rfl)) (Ws ?_ (by size_fits)));simp only[raiseNew];refine Vx (wpAny_handled ?_);rw[show A.in1.handled=none from hh];refine Vx (VA (wpAny_throw ?_));refine Vx (Xg (T:="StopIteration") (b:=true) (show Shared.TypeIs _ (.ref _) _ from⟨_,VR _ rfl,rfl⟩) X6 ?_);exact VA (g _ λb o e=>VB _ (VB _ e))
end
def t6:splitId "set.__len__"=some ("set","__len__"):=by ac_nf
def sub_set_set:isSubtype (.type "set") (.type "set")=pure true:=by rw[isSubtype_type];ac_nf
def q5:typeLookup (.type "set") (Str.ofString "__len__")=pure (some (.builtin "set.__len__")):=F.slot_set_len.lookup
noncomputable def FH(a b:Str):Bool:=!ltCps b.cps.toList a.cps.toList
def iA:FH a b=true↔strKind.kle a.cps.toList b.cps.toList:=by
 unfold FH KeyOrd.kle;rw[ltCps_eq];simp
def vO(a b c:Str)(e:FH a b=true)(d:FH b c=true):FH a c=true:=iA.mpr (KeyOrd.kle_trans (iA.mp e) (iA.mp d))
def ER(a b:Str):(FH a b||FH b a)=true:=by
 rw[Xl]
 by_cases z:strKind.klt b.cps.toList a.cps.toList
 ·exact .inr (iA.mpr (KeyOrd.kle_of_klt z))
 ·exact .inl (iA.mpr (KeyOrd.kle_of_not_klt z))
def HH(a b:Str)(d:FH a b=true)(c:FH b a=true):a=b:=by
 have:=KeyOrd.kle_antisymm (iA.mp d) (iA.mp c);cases a;cases b;congr 1;exact YK.mp this
def iL(ks:List Str):List Str:=ks.mergeSort FH
def ie(ks:List Str):(iL ks).Perm ks:=List.mergeSort_perm _ _
def wC(ks:List Str):(iL ks).Pairwise λa b=>FH a b=true:=Aay vO ER ks
theorem vi:∀(l:List Str)(p:Str),risingS p l=true->(p::l).Pairwise λa b=>FH a b=true
 | [],p,_=>by simp
 | x::r,p,h=>by
  have c:(!ltCps x.cps.toList p.cps.toList&&risingS x r)=true:=h;rw[V1] at c;have e:=vi r x c.2;refine X3.mpr ⟨λy d=>?_,e⟩;rcases VS.mp d with rfl | d
  ·exact c.1
  ·exact vO _ _ _ c.1 ((X3.mp e).1 y d)
def F9(hp:ss.Perm ks)(h:sortedS ss=true):ss=iL ks:=by
 refine Y5 (λa b _ _=>HH a b) ?_ (wC ks) (hp.trans (ie ks).symm)
 match ss,h with
 | [],_=>exact .nil
 | x::r,h=>exact vi r x h
def EE:LD X newDict (λ_=>.dK []):=λb s c H Q E I h=>by
 unfold newDict;exact Ws (h _ s.toks (I.laid (a:=s.heap.objs.size) (o:=.dK []) (t':=s.toks) (λ_ _ q=>VB _ q) (VG _) (m9 s.heap I.big)))
def MP(e d:TE)(l:Addr):TK:=λb H N=>e b H λx f=>d b f λy c=>∃a kk,c l=some (.dK a)/\x=kV kk/\a.length < sizeLine/\N b (upd c l (.dK (putK a kk y)))
def Ki(C:PE B k n)(u:PE B v m):PM B (m8 k v l B.env) (MP n m l):=λa s f H N I h=>by
 unfold m8;refine Vx (cv (C a s f H _ I h) λQ o G=>?_);obtain⟨x,M,L,r,t⟩:=G;refine Vx (Wh (cv (u a o f M _ L t) λO P F=>?_));obtain⟨y,S,i,p,c,kk,e,rfl,R,n2⟩:=F;refine Vx (Xm (Wh ?_));obtain⟨z,hd,j,b,dd⟩:=vW i.aZ e;have g:j.length<=sizeLine:=by rw[<-b.length];exact z
 have hl:(putK c kk y).length<=sizeLine:=by have:=gp c kk y;lia
 refine wpAny_dictSet_pairs (hsz:=g) (jA r) dd λJ d w=>?_;have E:∃q,J.get? l=some q:=let⟨q,_,_,A,_⟩:=d;⟨q,A⟩;exact⟨f,_,gv i (by rw[e];exact True.intro) w E (xP hl hd (b.put kk p) d),n2⟩
end L2
namespace Sm
open L2 PyProof.Rows
noncomputable def SJ:Ac (List (Key×D)) where
 at_:=λK b H l a=>∃us,H l=some (.dK us)/\bq K b H us a
 mono:=λ⟨c,e,r⟩ T q=>⟨c,q.trans e,r.mono T⟩
def mD(k v:EM):MK (List (Key×D)):=λb h a=>(k b h).bind λp=>(v b p.2).bind λq=>(lG p.1).bind λkk=>if a.length < sizeLine then some (b,q.2,putD a kk q.1) else none
theorem lQ.put{K:FR}(T:cm d H a H1)(hl:l∈d.rs):lQ l d H a (upd H1 l o):=by
 have c:l∈a.rs:=by rw[T.rs];exact hl
 exact⟨T.toCh.trans (Ch.put c),T.rs,λb e n=>(ao n).trans (T.res b e)⟩
def bq.len{K:FR}{a:Ad}{H:Hp}:∀{us:List (Key×V)} {ks:List (Key×D)},bq K a H us ks->us.length=ks.length:=λr=>r.length
def Jz(J:SE X k mk)(j:SE X v I):U6 X (λl env=>m8 k v l env) SJ (mD mk I):=λl=>(Ki J j).imp λA H N ⟨C,n,h,a,E,Y,Z,R,S,hl,⟨o,j,p⟩,e,kk⟩=>by
 obtain⟨⟨x,q⟩,O,M⟩:=a9 e;obtain⟨⟨y,U⟩,s,L⟩:=a9 M;obtain⟨c,r,f⟩:=a9 L;dsimp only at s r f
 by_cases i:a.length < sizeLine
 ·rw[VE i] at f;cases f;refine⟨C,n,h,x,q,R,S,O,λu H1 ⟨g,m,Q,G⟩=>⟨g,n,q,y,_,R.mono m.toCh,Q,s,λu2 w ⟨b,t,P,F⟩=>⟨o,c,((m.trans t).res l hl).trans j,gq G r,by rw[p.len];exact i,?_⟩⟩⟩;have T:=m.trans t;have d:l∈b.rs:=by rw[T.rs];exact hl
  have z:Ch b w b (upd w l (.dK (putK o c u2))):=Ch.put d;exact kk b _ A (lQ.put (K:=X.K) T hl) (P.put d) ((R.mono T.toCh).mono z) ⟨_,aC,((p.mono T.toCh).put F).mono z⟩
 ·rw[VH i] at f;cases f
end Sm
namespace L2
open PyProof.Rows
def Inv.draw(I:Inv X pins σ H s)(d:Drawn):Inv X pins σ H {s with drawn:=d}:=⟨I.ok,I.os,I.bare,I.base,I.loc,I.cell,I.free,I.iU,I.pin,I.aZ,I.len⟩
def D1{us:List Value}{b:List Str}(a:StrsAre us b):Vals (b.map V.str) us:=by
 induction a with
 | nil=>exact .nil
 | cons x t r c=>exact .cons ⟨t,rfl⟩ c
end L2
namespace Sm
open L2 PyProof.Rows
def Ry{b:Type}(a:List (Option Nat))(i:IM)(g:GM)(c:TM)(m:MK b)(e:b)(out:b->D):EM:=λd h=>(i d h).bind λp=>(fk p.2.1 g c m p.1 (gw a d) p.2.2 e).map λq=>(out q.2.2,q.2.1)
section
variable {α:Type} {K:FR} {A:Ac α} {g:GM} {mt:TM} {m:MK α}
def Np(u:∀b H l,A.at_ K b (upd H l (o l)) l a0)(c:∀b H l a,A.at_ K b H l a->¬b.has l->Rep K b H (.ref l) (out a))(hh:tM K (Ry e s g mt m a0 out) σ H Q):nR e (LQ K s) o (AI K g) (yq K mt) (λl=>Ju K A l m) σ H Q:=by
 obtain⟨b,p,h,d,G,R,S,v,k⟩:=hh;obtain⟨⟨q,r,t⟩,z,y⟩:=a9 v;obtain⟨⟨i,F,C⟩,x,w⟩:=cY y;cases w;exact yU u ⟨b,p,h,q,r,t,i,_,C,R,S,z,x,λl f I T E n j=>k _ _ ⟨f,T,E,c _ _ _ _ j n⟩⟩
def QF{b:List (Option Nat)}{d:IM}{m:MK (List (Key×D))}{c:L2.St}{H:Hp}{Q:VK}(hh:tM K (Ry b d g mt m [] .dv) c H Q):nR b (LQ K d) (λ_=>.dK []) (AI K g) (yq K mt) (λl=>Ju K SJ l m) c H Q:=
 Np (A:=SJ) (o:=λ_=>.dK []) (a0:=[]) (out:=.dv) (λf H l=>show ∃us,_ from⟨[],aC,.nil⟩) (λf H l a h n=>by obtain⟨us,e,r⟩:=h;exact .dv e n r) hh
end
section
variable {X:Cx} {k v tg iter elt tg2 iter2:Expr} {pos:Pos} {mk mv me:EM} {mt mt2:TM} {g g2:GM} {N':List Str} {caps:List (Option Nat)} {scope:Scope} {ifs ifs2:List Expr} {mi mi2:IM}
def Gn(C:bg X N' caps scope)(m:X.calm=true)(i:SI X tg iter mi)(j:∀C a b c pl,SG (fE X N' scope C a b c pl) tg g)(d:∀C a b c pl,PQ (fE X N' scope C a b c pl) ifs mt)
  (h:∀C a b c pl,SE (fE X N' scope C a b c pl) k mk) (e:∀C a b c pl,SE (fE X N' scope C a b c pl) v mv) (f:∀x,foldedSetIterable iter X.env x=pure x:=by intro _;ac_nf):
  SE X (.DictComp k v [⟨tg,iter,ifs,0⟩] scope pos) (Ry caps mi g mt (mD mk mv) [] .dv):=
 (ze (g:=AI X.K g) (tc:=yq X.K mt) (tm:=λl=>Ju X.K SJ l (mD mk mv)) C m (Bm ..) rfl (λn l env=>AF ..) EE i j d (λC a b c pl l=>Jz (h C a b c pl) (e C a b c pl) l) rfl f).imp λ_ _ _=>
  QF
theorem vf{K:FR}{b:Ad}{H:Hp}:∀(a:List Str),(∀k∈a,PyData.strOk k=true)->aw K b H (a.map V.str) (a.map D.str)
 | [],_=>.nil
 | x::r,h=>.cons (.str (h x VF)) (vf r λk c=>h k (VD _ c))
end
end Sm
namespace L2
open PyProof.Rows
section
variable {X:Cx} {e st:Expr} {te ts:TE} {pos p2:Pos}
end
end L2
namespace Sm
open L2 PyProof.Rows
section
variable {X:Cx} {e st a b c:Expr} {ma ms mb mc:EM} {pos p2:Pos}
abbrev LA:=DS->MH->Option (List (Key×D)×MH)
noncomputable def Hj:LA:=λ_ h=>some ([],h)
def cV(k v:EM)(r:LA):LA:=λd h=>(k d h).bind λp=>(v d p.2).bind λq=>(lG p.1).bind λkk=>(r d q.2).map λz=>((kk,q.1)::z.1,z.2)
inductive R6(K:FR)(m:LA)(σ:L2.St)(H:Hp)(Q:List (V×V)->Hp->Prop):Prop where
 | mk (ρ δ h kvs h'):bT K ρ H σ δ->bC K ρ h H->(m δ h=some (kvs,h'))->(∀us ρ' H',cm ρ H ρ' H'->bC K ρ' h' H'->bq K ρ' H' us kvs->Q (us.map λkv=>(kV kv.1,kv.2)) H')->R6 K m σ H Q
def Vi(K:FR)(m:LA):L2.St->Hp->(List (V×V)->Hp->Prop)->Prop:=λd H Q=>R6 K m d H Q
def SP(X:Cx)(pos:Pos)(g:List (Option Expr))(d:List Expr)(m:LA):Prop:=∃f,PV X pos g d f/\∀h H Q,Vi X.K m h H Q->wu f h H Q
def AL:SP X pos [] [] Hj:=⟨[],Ke,λσ H Q u9=>by
 obtain⟨d,g,h,f,i,R,S,e,k⟩:=u9;cases e;exact k [] d H (.refl _ _) S .nil⟩
def cE(J:SE X F mk)(I:SE X s E)(hr:SP X pos ks t m):SP X pos (some F::ks) (s::t) (cV mk E m):=by
 obtain⟨w,M,L⟩:=hr;refine⟨_,G6 J I M,λσ H Q u9=>?_⟩;obtain⟨q,i,h,G,h',R,S,O,k⟩:=u9;obtain⟨⟨x,n⟩,e1,e2⟩:=a9 O;obtain⟨⟨y,l⟩,e3,Z⟩:=a9 e2;obtain⟨kk,Y,U⟩:=a9 Z;obtain⟨⟨r,hz⟩,T,P⟩:=cY U;cases P;refine⟨q,i,h,x,n,R,S,e1,λv H1 ⟨g,j,S1,C⟩=>⟨g,i,n,y,l,R.mono j.toCh,S1,e3,λu H2 u9=>?_⟩⟩;obtain⟨f,p,S2,A⟩:=u9;refine L σ H2 _ ⟨f,i,l,r,_,(R.mono j.toCh).mono p.toCh,S2,T,λus d H3 o S3 z=>?_⟩;have N:=gq C Y;subst N;exact k ((kk,u)::us) d H3 ((j.trans p).trans o) S3 (.cons (A.mono o.toCh) z)
def Mg(m:LA):EM:=λd h=>(m d h).bind λp=>if p.1.length<=15 then some (.dv (iy [] p.1),p.2) else none
def JE(h:SP X pos keys vals m)(E:keys.all (·.isSome)=true)(hl:keys.length=vals.length)(U:keys≠[])(hp:∀j,PV X pos keys vals j->PE X (.Dict keys vals pos) (F3 j)):SE X (.Dict keys vals pos) (Mg m):=by
 obtain⟨j,N,M⟩:=h;refine(hp j N).imp λσ H Q ⟨f,L,h,d,Y,R,S,O,k⟩ p l=>?_;obtain⟨⟨q,T⟩,P,t⟩:=a9 O;dsimp only at t
 by_cases z:q.length<=15
 ·rw[VE z] at t;cases t;have F:Ch f H (f.keep p) (upd H p (.dK [])):=Ch.keep l;have C:¬f.has p:=S.fresh l;refine M σ _ _ ⟨f.keep p,L,h,q,_,R.mono F,S.keep l,P,λus v o u G A=>?_⟩;have x:o p=some (.dK []):=(u.res p VF).trans aC;refine⟨x,us,rfl,by rw[A.len];exact z,?_⟩;obtain⟨g,w⟩:=v;have y:w=p::f.rs:=u.rs;subst y;have s:p∈(⟨g,p::f.rs⟩:Ad).rs:=VF;have i:∀b∈f.rs,b∈p::f.rs:=λb n=>VD _ n;have r:∀b∈f.rs,b≠p:=λb n z=>C (.inr (z ▸ n));have I:Ch ⟨g,p::f.rs⟩ o ⟨g,p::f.rs⟩ (upd o p (.dK (bz [] us))):=Ch.put s;have J:Ch ⟨g,p::f.rs⟩ (upd o p (.dK (bz [] us))) ⟨g,f.rs⟩ (upd o p (.dK (bz [] us))):=Ch.free i;refine k _ _ ⟨⟨g,f.rs⟩,⟨((F.trans u.toCh).trans I).trans J,rfl,λb n=>?_⟩,(G.put s).free i,.dv aC (λz=>?_) ((bq.merge .nil A).mono (I.trans J))⟩
  ·show upd o p _ b=H b;rw[ao (r b n),u.res b (i b n)];exact ao (r b n)
  ·rcases z with z | z
   ·exact(G.qy p VF).2 z
   ·exact C (.inr z)
 ·rw[VH z] at t;cases t
end
end Sm
namespace L2
open PyProof.Rows
open HT in
def D5{t c:Addr}{a:Array Value}{j i:Value}{b e:Option Int}{Q:Value->Shared->Prop}(ht:IsTup s.heap t a)(k:s.heap.IsSliceOf c j i .none)(pl:IsPart j b)(l:IsPart i e)
  (hw:cn a.size 0 b=0/\cn a.size a.size e=a.size) (h:Q (.ref t) s):wpAny (model prog w) A (getItem (.ref t) (.ref c)) Q E s:=by
 obtain⟨os,d,f,m⟩:=id k;have g:s.TypeIs (.ref c) "slice":=⟨os,d,f⟩;unfold getItem
 try with_reducible refine Wh ?_
 first | refine Vx (VA ?_) | skip
 refine Vx (wpAny_sequenceKey ht.typeIs (by decide) ?_);refine Vx (Wo (name:=Str.ofString "__getitem__") ht.typeIs WW (Wj WW ht.typeIs entry_tuple_getitem ?_ (args_tuple_getitem _ _)));show wpAny _ _ (Builtin.Tuple.tupleItemsOf (.ref t) >>=_) _ _ s;refine Vx (tupleItemsOf_ ht (Vx (Yt g ?_)));rw[VE (by decide)];refine Vx (gS k pl l ?_);show wpAny _ _ (if(((cn a.size 0 b:Nat):Int)==0&&(1:Int)==1&&(cn a.size a.size e-cn a.size 0 b)==a.size)=true then _ else _) _ _ s;rw[VE (by rw[hw.1,hw.2];simp)];unfold Builtin.Tuple.tupleIsExact;simp only[bind_assoc,pure_bind];refine Vx (Yt ht.typeIs ?_);rw[VE (by decide)]
 first
  | exact Vx (Xe (VA ⟨_,rfl,VA h⟩))
  | exact Vx (Xe (Vx (VA (VA ⟨_,rfl,VA h⟩))))
def TQ(K:FR):V->Option Int->Option Int->Hp->VK->Prop:=λx c d H Q=>∃a b,x=.ref a/\i5 K H a b/\(HT.cn b.length 0 c=0/\HT.cn b.length b.length d=b.length)/\Q (.ref a) H
def Ga:PL X (TQ X.K):=by
 intro d s l H x v n m p u o Q I f k pl g h;obtain⟨a,e,rfl,i,j,q⟩:=h;cases f;obtain⟨c,r,ht,t⟩:=I.tuple i;have b:c.toArray.size=e.length:=by rw[VZ];exact r.length.symm
 exact⟨"tuple",_,WW.lookup,ht.typeIs,D5 ht k pl g (by rw[b];exact j) ⟨.ref a,H,I,rfl,q⟩⟩
end L2
namespace Sm
open L2 PyProof.Rows
section
variable {X:Cx}
def td(d:D)(a b:Option Int)(h:MH):Option (D×MH):=match d with
 | .tup xs=>if HT.cn xs.length 0 a=0/\HT.cn xs.length xs.length b=xs.length then some (.tup xs,h) else some (.tup (cutD xs a b),h)
 | d=>Rw d a b h
def fW(a:EM)(l u:PM):EM:=λb h=>(a b h).bind λp=>(l b p.2).bind λq=>(u b q.2).bind λr=>td p.1 q.1 r.1 r.2
inductive Ms(K:FR)(x:V)(lo hi:Option Int)(H:Hp)(Q:VK):Prop where
 | mk (ρ h d z h'):bC K ρ h H->Rep K ρ H x d->(td d lo hi h=some (z,h'))->(∀v H',dB K ρ H h' z v H'->Q v H')->Ms K x lo hi H Q
def TY(K:FR):V->Option Int->Option Int->Hp->VK->Prop:=λx a b H Q=>Ms K x a b H Q
def MU:PL X (TY X.K):=by
 intro a s g H x v j i e f l Q I m p pl o hh;obtain⟨q,h,d,z,r,S,rd,b,k⟩:=hh;cases d with
 | tup xs=>
  unfold td at b;dsimp only at b
  by_cases c:HT.cn xs.length 0 e=0/\HT.cn xs.length xs.length f=xs.length
  ·rw[VE c] at b;cases b;have n:=rd;cases rd with | tup h0 t=>
   exact Ga a s g H _ v j i e f l Q I m p pl o ⟨_,_,rfl,h0.sq,by rw[t.length];exact c,k _ _ (.here S n)⟩
  ·rw[VH c] at b;exact LS a s g H x v j i e f l Q I m p pl o ⟨q,h,_,z,r,S,rd,by unfold Rw;dsimp only;rw[VH c];exact b,k⟩
 | _=>exact LS a s g H x v j i e f l Q I m p pl o ⟨q,h,_,z,r,S,rd,b,k⟩
def Gh{a:Expr}{q r:Option Expr}{pos E:Pos}{o:EM}{n m:PM}(G:SE X a o)(hl:SP' X q n)(F:SP' X r m):SE X (.Subscript a (.Slice q r none E) pos) (fW o n m):=
 (Hf MU G hl F).imp λσ H Q u9=>by
  obtain⟨A,g,h,d,I,R,S,e,k⟩:=u9;obtain⟨⟨x,y⟩,P,O⟩:=a9 e;obtain⟨⟨l,t⟩,N,M⟩:=a9 O;obtain⟨⟨u,s⟩,L,J⟩:=a9 M;exact⟨A,g,h,x,y,R,S,P,λv H1 ⟨f,j,Y,C⟩=>⟨f,g,y,l,t,R.mono j.toCh,Y,N,λc H2 i U=>⟨c,g,t,u,s,(R.mono j.toCh).mono i.toCh,U,L,λb H3 z T=>
   ⟨b,s,x,d,I,T,C.mono (i.trans z).toCh,J,λw Z p=>k w Z (p.step (j.trans (i.trans z)))⟩⟩⟩⟩
noncomputable def zV:Fn:=λa h=>match a with
 | [.bl b]=>some (.int (if b then 1 else 0),h)
 | _=>none
def O8:f7 X (.type "int") zV:=by
 intro b s g H j us Q I r hh;obtain⟨i,h,f,z,h',S,l,a,k⟩:=hh
 match f,l,a with
 | [],_,a=>exact cb a
 | _::_::_,_,a=>exact absurd a (by unfold zV;split <;> simp_all)
 | [d],l,a=>
  obtain⟨v,rfl,rd⟩:=rep1 l;cases rd <;> first |(exact cb a) | skip
  cases a;obtain⟨u,rfl,c⟩:=Vals.one r;cases c;exact call_int_bool ⟨.int _,H,I.kept (t':=s.toks+1) (h':=s.heap) λ_ _ e=>e,⟨_,rfl⟩,k _ _ (.here S (.int _))⟩
def jF(d e:D)(h:MH):Option (D×MH):=match d,e with
 | .str x,.int n=>if x.length<=1000/\0<=n/\n<=1000/\PyData.strOk (Txt.mul x n)=true then some (.str (Txt.mul x n),h) else none
 | d,e=>OV d e h
def iw:pV X (binaryOp .Mult) jF:=by
 intro b s l H x y v u Q I i g hh;obtain⟨m,h,d,e,z,h',S,rd,j,a,k⟩:=hh;unfold jF at a
 split at a
 ·rename_i f n
  by_cases c:f.length<=1000/\0<=n/\n<=1000/\PyData.strOk (Txt.mul f n)=true
  ·rw[VE c] at a;cases a;cases rd;cases j;obtain⟨A,rfl⟩:=i;obtain⟨w,rfl⟩:=g;obtain⟨t,C,r,q⟩:=c;refine SB.mul ⟨?_,λ_ _=>?_,λ_ _=>?_⟩ λt' o=>⟨.str _,H,I.kept (t':=o) (h':=s.heap) λ_ _ e=>e,⟨t',rfl⟩,k _ _ (.here S (.str q))⟩
   ·rw[V5 (by lia),V5 (by lia)];rfl
   ·have p:(9007199254740991:Int)<=(2^63-1) / n:=by
     refine Int.le_ediv_of_mul_le (by lia) ?_;have:9007199254740991*n<=9007199254740991*1000:=Int.mul_le_mul_of_nonneg_left r (by decide)
     lia
    lia
   ·have p:f.length*n.toNat<=1000*1000:=Nat.mul_le_mul t (by lia);refine V5 ?_;have:=Xh
    lia
  ·rw[VH c] at a;cases a
 ·exact N8 b s l H x y v u Q I i g ⟨m,h,_,_,z,h',S,rd,j,a,k⟩
end
end Sm
namespace L2
open PyProof.Rows
section
variable {X:Cx} {e st:Expr} {te ts:TE} {pos p2:Pos}
end
end L2
namespace Sm
open L2 PyProof.Rows
section
variable {X:Cx} {e st:Expr} {ma ms:EM} {pos p2:Pos}
end
end Sm
namespace L2
open PyProof.Rows
open HT in
def IE{t b:Addr}{e j:List Value}{Q:Value->Shared->Prop}(ht:IsTup s.heap t e.toArray)(q:IsTup s.heap b j.toArray)(p:e=[])(h:Q (.ref b) s):wpAny (model prog w) A (binaryOp .Add (.ref t) (.ref b)) Q E s:=by
 obtain⟨⟨r,dd,data,o⟩,k,l,n,hd⟩:=id ht;obtain⟨⟨m,g,i,f⟩,a,d,n2,c⟩:=id q;simp only at l hd d c;subst l hd d c;exact concat_meets ⟨_,k,rfl⟩ ⟨_,a,rfl⟩ Aak seq_tuple_add Zf Za (Y2 _ _)
   (tuple_addW0 t b e.toArray j.toArray n n2 dd g o f (by simp[p])) ⟨k,a,h⟩
def Hv:qr X (binaryOp .Add) (λx y H Q=>∃a b c,x=.ref a/\y=.ref b/\i5 X.K H a []/\i5 X.K H b c/\Q (.ref b) H):=by
 intro d s o H x y v u Q I g f h;obtain⟨a,b,c,rfl,rfl,n,m,q⟩:=h;cases g;cases f;obtain⟨l,i,k,_⟩:=I.tuple n;obtain⟨e,p,j,_⟩:=I.tuple m;exact IE k j (i.qH.mpr rfl) ⟨.ref b,H,I,rfl,q⟩
end L2
namespace Sm
open L2 PyProof.Rows
def aT(d e:D)(h:MH):Option (D×MH):=match d,e with
 | .tup [],.tup a=>some (.tup a,h)
 | d,e=>BP d e h
def dN:pV X (binaryOp .Add) aT:=by
 intro a s g H x y v u Q I j i hh;obtain⟨l,h,d,e,z,p,S,rd,f,b,k⟩:=hh;unfold aT at b
 split at b
 ·cases b;have c:=f;cases rd with | tup o m=>cases f with | tup n q=>
  cases m;exact Hv a s g H _ _ v u Q I j i ⟨_,_,_,rfl,rfl,o.sq,n.sq,k _ _ (.here S c)⟩
 ·exact Oc a s g H _ _ v u Q I j i ⟨l,h,_,_,z,p,S,rd,f,b,k⟩
noncomputable def Fb:Fn:=λa h=>match a with
 | [.int i,.int j]=>some (.int (if j < i then j else i),h)
 | _=>none
noncomputable def uL:Fn:=λa h=>match a with
 | [.int i,.int j]=>some (.int (if j > i then j else i),h)
 | _=>none
def O5(g:X.calm=true):f7 X (.builtin "min") Fb:=by
 intro b s c H m us Q I r hh;obtain⟨j,h,i,z,n,S,l,a,k⟩:=hh
 match i,l,a with
 | [],_,a=>exact cb a
 | [_],_,a=>exact absurd a (by unfold Fb;split <;> simp_all)
 | _::_::_::_,_,a=>exact absurd a (by unfold Fb;split <;> simp_all)
 | [d,e],l,a=>
  obtain⟨v,w,rfl,rd,f⟩:=rep2 l;cases rd <;> first |(exact cb a) | skip
  cases f <;> first |(exact cb a) | skip
  cases a;exact Ft g b s c H _ us Q I r ⟨_,_,rfl,k _ _ (.here S (.int _))⟩
def O6(g:X.calm=true):f7 X (.builtin "max") uL:=by
 intro b s c H m us Q I r hh;obtain⟨j,h,i,z,n,S,l,a,k⟩:=hh
 match i,l,a with
 | [],_,a=>exact cb a
 | [_],_,a=>exact absurd a (by unfold uL;split <;> simp_all)
 | _::_::_::_,_,a=>exact absurd a (by unfold uL;split <;> simp_all)
 | [d,e],l,a=>
  obtain⟨v,w,rfl,rd,f⟩:=rep2 l;cases rd <;> first |(exact cb a) | skip
  cases f <;> first |(exact cb a) | skip
  cases a;exact Fu g b s c H _ us Q I r ⟨_,_,rfl,k _ _ (.here S (.int _))⟩
def Rf:FO:=λd c h=>(cc d h).bind λb=>match c with
 | [k]=>(lG k).map λa=>((cW b a).getD .bx,h)
 | [k,x]=>(lG k).map λa=>((cW b a).getD x,h)
 | _=>none
def Oz(C:X.A.units+1 < cLine):LG X "dict.get" (rM X.K Rf):=by
 intro w s U H x xs v us Q I M rs hh;obtain⟨Y,h,d,R,z,h',S,rd,l,O,k⟩:=hh;obtain⟨N,P,b⟩:=a9 O;obtain⟨a,ws,rfl,E,lk⟩:=iC S rd P;obtain rfl:v=Value.ref a:=M
 match R,l,b with
 | [],_,b=>exact cb b
 | [y],l,b=>
  obtain⟨f,r,q⟩:=cY b;cases q;obtain⟨F,rfl,g⟩:=rep1 l;obtain⟨u,rfl,m⟩:=Vals.one rs;have p:=gq g r;subst p;refine O3 C I (nK.k E) m λG L t n=>⟨_,H,t,n,k _ _ ?_⟩;rcases lk.val f with⟨e,c⟩ |⟨T,J,e,c,o⟩
  ·rw[e,c];exact .here S .bx
  ·rw[e,c];exact .here S o
 | [y,x0],l,b=>
  obtain⟨f,r,q⟩:=cY b;cases q;obtain⟨F,Z,rfl,g,i⟩:=rep2 l;obtain⟨u,u2,rfl,m,j⟩:=Vals.two rs;have p:=gq g r;subst p;refine O2 C I (nK.k E) m j λG L t n=>⟨_,H,t,n,k _ _ ?_⟩;rcases lk.val f with⟨e,c⟩ |⟨T,J,e,c,o⟩
  ·rw[e,c];exact .here S i
  ·rw[e,c];exact .here S o
 | _::_::_::_,_,b=>exact absurd b (by simp)
end Sm
namespace L2
open PyProof.Rows
section
variable {X:Cx} {a b:Expr} {rest:List Expr} {pos:Pos} {ta tb:TE}
end
end L2
namespace Sm
open L2 PyProof.Rows
section
variable {X:Cx} {a b:Expr} {pos:Pos} {ma mb:EM}
end
end Sm
namespace L2
open PyProof.Rows
end L2
namespace Sm
open L2 PyProof.Rows
def Pq:bootBuiltins "min"=some (.builtin "min"):=by decide+kernel
def Pr:bootBuiltins "max"=some (.builtin "max"):=by decide+kernel
section
variable {X:Cx} {g:GM} {mt:TM} {ma:EM}
def Fo(R:bT X.K a H1 σ δ)(S1:bC X.K a h1 H1)(It:LI X.K J a H1 ws xs)(e2:a8 ws g mt ma xs (gw p δ) h1=some (out,h0))(hz:out.length<=sizeLine)(hl:H1 l=none)(k:∀H H' e,cm a H1 H H'->bC X.K H h0 H'->H' l=some (.lst e)->aw X.K H H' e out->Q (.ref l) H'):Mx J (AI X.K g) (yq X.K mt) (tM X.K ma) l Q (lO p σ) (upd H1 l (.lst [])):=by
 have nl:¬a.has l:=S1.fresh hl;have Tl:Ch a H1 (a.keep l) (upd H1 l (.lst [])):=Ch.keep hl;refine⟨λi m T f=>∃(c:List Addr)(C:DS)(A:MH)(e:List V)(G bs:List D),m=xs.length-i/\i<=xs.length/\Ch a H1 ⟨c,l::a.rs⟩ f/\(∀b∈a.rs,f b=H1 b)/\bT X.K ⟨c,l::a.rs⟩ f T C/\bC X.K ⟨c,l::a.rs⟩ A f/\
   f l=some (.lst e)/\aw X.K ⟨c,l::a.rs⟩ f e G/\out=G++bs/\a8 ws g mt ma (xs.drop i) C A=some (bs,h0),
  ⟨_,a.ob,gw p δ,h1,[],[],out,rfl,Wm _,Tl,λb w=>ao λz=>nl (.inr (z ▸ w)),(R.lO p).mono Tl,S1.keep hl,aC,.nil,rfl,e2⟩,?_⟩
 rintro i m T f ⟨c,C,A,e,G,bs,rfl,hi,T2,L,R2,S2,M,l2,eo,o⟩;have h:∀b∈a.rs,b∈l::a.rs:=λb w=>VD _ w;have C2:Ch ⟨c,l::a.rs⟩ f ⟨c,a.rs⟩ f:=Ch.free h;have T2':cm a H1 ⟨c,a.rs⟩ f:=⟨T2.trans C2,rfl,L⟩;have S2':bC X.K ⟨c,a.rs⟩ A f:=S2.free h;cases q:xs.drop i with
 | nil=>
  rw[q] at o;unfold a8 at o
  by_cases N:gR ws A=true
  ·rw[VE N] at o;cases o;rw[Wl] at eo;subst eo;have hle:xs.length<=i:=by have:=congrArg List.length q;rw[Ym,WZ] at this;lia
   exact .inl ⟨(It.run _ f _ T2 S2 N i).1 hle,k _ _ e T2' S2' M (l2.mono C2)⟩
  ·rw[VH N] at o;cases o
 | cons x r=>
  rw[q] at o;unfold a8 at o
  by_cases N:gR ws A=true
  ·rw[VE N] at o;have hx:xs[i]?=some x:=by
    have:=congrArg (λl=>l[0]?) q
    simpa using this
   have hlt:i < xs.length:=(Vz.mp hx).1;have hr:xs.drop (i+1)=r:=by
    have:=congrArg List.tail q
    simpa using this
   obtain⟨⟨j,h3⟩,e4,e5⟩:=a9 o;obtain⟨⟨t,h4⟩,e6,e7⟩:=a9 e5;dsimp only at e4 e5 e6 e7;obtain⟨hgo,hy⟩:=(It.run _ f A T2 S2 N i).2 x hx;refine .inr ⟨hgo,λS F=>∃(d:List Addr)(h5:MH)(e:List V)(G bs:List D),Ch a H1 ⟨d,l::a.rs⟩ F/\(∀b∈a.rs,F b=H1 b)/\bT X.K ⟨d,l::a.rs⟩ F S j/\bC X.K ⟨d,l::a.rs⟩ h5 F/\
    F l=some (.lst e)/\aw X.K ⟨d,l::a.rs⟩ F e G/\out=G++bs/\a8 ws g mt ma r j h5=some (bs,h0),?_,?_⟩
   ·rintro S F ⟨d,h5,vs5,as5,bs5,P,I,R5,S5,hl5,l5,eo5,e5⟩;exact⟨xs.length-(i+1),by lia,d,j,h5,vs5,as5,bs5,rfl,hlt,P,I,R5,S5,hl5,l5,eo5,by rw[hr];exact e5⟩
   ·intro v H3 y3;obtain⟨T3,S3,r3⟩:=hy v H3 y3;refine⟨⟨c,l::a.rs⟩,C,A,x,j,h3,R2.mono T3,S3,r3,e4,λρ4 H4 τ4 T4 S4 R4=>?_⟩;refine⟨ρ4,j,h3,t,h4,R4,S4,e6,λY F P S5=>?_⟩;have n:cm ⟨c,l::a.rs⟩ f Y F:=T3.trans (T4.trans P);obtain⟨d,I⟩:=Y;have O:I=l::a.rs:=n.rs;subst O;cases t with
    | false=>
     rw[VH (by simp)] at e7;refine OP ?_;exact⟨d,h4,e,G,bs,T2.trans n.toCh,λb w=>(n.res b (h b w)).trans (L b w),R4.mono P,S5,(n.res l VF).trans M,l2.mono n.toCh,eo,e7⟩
    | true=>
     rw[VE rfl] at e7;refine OO ?_;obtain⟨⟨y,h6⟩,e8,e9⟩:=a9 e7;obtain⟨⟨zs,h7⟩,e10,e11⟩:=cY e9;cases e11;refine⟨⟨d,l::a.rs⟩,j,h4,y,h6,R4.mono P,S5,e8,λu H6 u9=>?_⟩;obtain⟨U,T6,S6,r6⟩:=u9;have s:cm ⟨c,l::a.rs⟩ f U H6:=n.trans T6;obtain⟨E,rs6⟩:=U;have O:rs6=l::a.rs:=s.rs;subst O;have hl6:H6 l=some (.lst e):=(s.res l VF).trans M;have Z:l∈(⟨E,l::a.rs⟩:Ad).rs:=VF;have hlen:e.length < sizeLine:=by
      have h1:=l2.length;have A:=congrArg List.length eo;rw[VM,VU] at A
      lia
     have Cp:Ch ⟨E,l::a.rs⟩ H6 ⟨E,l::a.rs⟩ (upd H6 l (.lst (e++[u]))):=Ch.put Z;refine⟨e,hl6,hlen,E,h6,e++[u],G++[y],zs,(T2.trans s.toCh).trans Cp,λb w=>?_,((R4.mono P.toCh).mono T6.toCh).mono Cp,S6.put Z,aC,((l2.mono s.toCh).snoc r6).mono Cp,by rw[eo];simp,e10⟩;rw[ao (λ(z:b=l)=>nl (.inr (z ▸ w)))];exact(s.res b (h b w)).trans (L b w)
  ·rw[VH N] at o;cases o
noncomputable def HX:D->Bool
 | .int _=>true
 | .str _=>true
 | _=>false
def GF{K:FR}{b a:Ad}{H c:Hp}{v:V}{d:D}(r:Rep K b H v d)(f:HX d=true):Rep K a c v d:=by
 cases r with
 | int i=>exact .int i
 | str h=>exact .str h
 | _=>cases f
end
end Sm
namespace L2
open PyProof.Rows
def D8:∀{a:List Str} {us:List Value},Vals (a.map V.str) us->StrsAre us a
 :=by
 intro a
 induction a with
 | nil=>intro us q;cases q;exact .nil
 | cons x r b=>intro us q;cases q with | cons q l=>obtain⟨t,rfl⟩:=q;exact .cons x t (b l)
def B5:eX X (.builtin "sorted") (λg H Q=>∃a c,g=[.ref a]/\eL X.K H a (c.map V.str)/\c.length < 64/\∀l,H l=none->Q (.ref l) (upd H l (.lst ((iL c).map V.str)))):=by
 intro i s A H g us Q I r h;obtain⟨a,c,rfl,t,w,q⟩:=h;obtain⟨u,rfl,m⟩:=vals1 r;cases m;obtain⟨d,rv,p,C⟩:=I.list t;have v:=D8 rv;have j:d.length=c.length:=by have:=rv.length;rw[Vy] at this;exact this.symm
 refine sorted_strs p.isList v (by lia) λout k z y x=>?_;have:=F9 y x;subst this;have hl:s.heap.objs.size<=s.heap.objs.size+1:=Yx _;obtain⟨e,n⟩:=sortedAll_at s.heap d out;have f:((iL c).map V.str).length<=sizeLine:=by rw[Vy,(ie c).length_eq,Xh];lia
 refine⟨.ref (s.heap.objs.size+1),_,I.laid (t':=s.toks) (o:=.lst ((iL c).map V.str)) (λb o q=>sortedAll_old q) hl ⟨f,out.toList,e,D1 z,?_⟩,rfl,q _ (I.aZ.fresh hl)⟩;rw[n]
end L2
namespace Sm
open L2 PyProof.Rows
noncomputable def sU:List D->Option (List Int)
 | []=>some []
 | .int i::r=>(sU r).map λa=>i::a
 | _=>none
theorem zK:∀{a:List D} {ns:List Int},sU a=some ns->a=ns.map D.int
 | [],_,e=>by cases e;rfl
 | d::r,ns,e=>by
  cases d <;> first |(exact cb e) | skip
  obtain⟨f,c,b⟩:=cY (show(sU r).map _=some ns from e);cases b;rw[zK c];rfl
theorem vR:∀(ns:List Int),sU (ns.map D.int)=some ns
 | []=>rfl
 | n::r=>by show(sU (r.map D.int)).map _=_;rw[vR r];rfl
def Bc{K:FR}{c:Ad}{H:Hp}:∀{b:List V} {ns:List Int},aw K c H b (ns.map D.int)->b=ns.map V.int:=by
 intro b ns
 induction ns generalizing b with
 | nil=>intro a;cases a;rfl
 | cons n r d=>intro a;cases a with | cons q l=>cases q;rw[d l];rfl
noncomputable def qW:List D->Option (List Str)
 | []=>some []
 | .str i::r=>(qW r).map λa=>i::a
 | _=>none
theorem yr:∀{a:List D} {ns:List Str},qW a=some ns->a=ns.map D.str
 | [],_,e=>by cases e;rfl
 | d::r,ns,e=>by
  cases d <;> first |(exact cb e) | skip
  obtain⟨f,c,b⟩:=cY (show(qW r).map _=some ns from e);cases b;rw[yr c];rfl
theorem uU:∀(ns:List Str),qW (ns.map D.str)=some ns
 | []=>rfl
 | n::r=>by show(qW (r.map D.str)).map _=_;rw[uU r];rfl
def Bb{K:FR}{c:Ad}{H:Hp}:∀{a:List V} {ns:List Str},aw K c H a (ns.map D.str)->a=ns.map V.str/\∀k∈ns,PyData.strOk k=true
 :=by
 intro a ns
 induction ns generalizing a with
 | nil=>intro q;cases q;exact⟨rfl,λ_ h=>(nomatch h)⟩
 | cons n r d=>
  intro q;cases q with | cons q l=>
  cases q with
  | str h=>
   obtain⟨e,f⟩:=d l;refine⟨by rw[e];rfl,λk b=>?_⟩;rcases VS.mp b with rfl | b
   ·exact h
   ·exact f k b
def Ia:Fn:=λb h=>match b with
 | [d]=>(cL d h).bind λa=>(qW a).bind λns=>if ns.length < 64 then some (.lv ((iL ns).map D.str),h) else none
 | _=>none
def Iy:f7 X (.builtin "sorted") Ia:=by
 intro e s i H A us Q I r hh;obtain⟨w,h,u,z,E,S,l,b,k⟩:=hh
 match u,l,b with
 | [],_,b=>exact cb b
 | _::_::_,_,b=>exact cb b
 | [d],l,b=>
  obtain⟨v,rfl,rd⟩:=rep1 l;obtain⟨y,t,q⟩:=a9 b;obtain⟨ns,p,g⟩:=a9 q
  by_cases c:ns.length < 64
  ·rw[VE c] at g;cases g;obtain⟨a,C,rfl,n,j⟩:=cR S rd t;have:=yr p;subst this;obtain⟨o,f⟩:=Bb j;subst o;refine B5 e s i H _ us Q I r ⟨a,ns,rfl,eL.of n,c,λl hl=>k _ _ (.lv S (vf _ λx m=>f x ((ie ns).mem_iff.mp m)) hl)⟩
  ·rw[VH c] at g;cases g
section
variable {α:Type} {K:FR} {A:Ac α} {l:Addr} {g:GM} {mt:TM} {m:MK α}
mutual
theorem Rep.calm(f:∀a,j.has a->k.has a){v:V}{d:D}(r:Rep K k H v d)(c:fD 0 d=true):Rep K j H v d:=by
 cases r with
 | bx=>exact .bx
 | bl b=>exact .bl b
 | int i=>exact .int i
 | str h=>exact .str h
 | ty n=>exact .ty n
 | tup h l=>exact .tup (h.elim (λ⟨a,n⟩=>.inl ⟨a,λz=>n (f _ z)⟩) .inr) (aw.calm f l c)
 | lv h n l=>exact .lv h (λz=>n (f _ z)) (aw.calm f l c)
 | ro h l=>exact .ro (h.elim (λ⟨a,n⟩=>.inl ⟨a,λz=>n (f _ z)⟩) .inr) (aw.calm f l c)
 | dv h n l=>exact .dv h (λz=>n (f _ z)) (bq.calm f l c)
 | ob e=>simp[fD] at c
theorem aw.calm(f:∀a,b.has a->h.has a){e:List V}{d:List D}(r:aw K h H e d)(c:cC 0 d=true):aw K b H e d:=by
 cases r with
 | nil=>exact .nil
 | cons r l=>have c:=V3.mp c;exact .cons (Rep.calm f r c.1) (aw.calm f l c.2)
theorem bq.calm(f:∀a,b.has a->h.has a){e:List (Key×V)}{d:List (Key×D)}(r:bq K h H e d)(c:Lm 0 d=true):bq K b H e d:=by
 cases r with
 | nil=>exact .nil
 | cons r l=>have c:=V3.mp c;exact .cons (Rep.calm f r c.1) (bq.calm f l c.2)
end
end
section
variable {X:Cx} {k v tg iter:Expr} {pos:Pos} {mk mv:EM} {mt:TM} {g:GM} {N':List Str} {caps:List (Option Nat)} {scope:Scope} {ifs:List Expr} {mi:IM}
end
def wa:bootBuiltins "sorted"=some (.builtin "sorted"):=by decide+kernel
end Sm
namespace L2
open PyProof.Rows
def i5.off{K:FR}{H:Hp}{a d:Addr}{b:List V}{o:HO}(h:i5 K H a b)(hd:H d=none):i5 K (upd H d o) a b:=by
 rcases h with h | h
 ·rcases h with h |⟨u,h⟩
  ·exact .inl (.inl (by rw[ao (aO h hd)];exact h))
  ·exact .inl (.inr ⟨u,by rw[ao (aO h hd)];exact h⟩)
 ·exact .inr h
end L2
namespace Sm
open L2 PyProof.Rows
end Sm
namespace L2
open PyProof.Rows
end L2
namespace Sm
open L2 PyProof.Rows
end Sm
namespace Hd
open PySem.W PyProof.Rows L2 Sm
noncomputable def KS(_:Obj):Bool:=true
def KL(h:Heap)(a:Addr):Option (Addr×Obj):=match h.get? a with
 | some o=>if KS o then some (a,o) else none
 | none=>none
def aJ(h:Heap):Frag:=(List.range h.objs.size).filterMap (KL h)
theorem oB(h:Heap)(a:Addr):∀l:List Addr,(l.filterMap (KL h)).lookup a=if a∈l then(KL h a).map (·.2) else none
 | []=>rfl
 | b::r=>by
  have c:=oB h a r
  by_cases d:a=b
  ·subst d;rw[VE VF];rw[Xk];cases e:KL h a with
   | none=>
    dsimp only;rw[c,e]
    split <;> rfl
   | some p=>
    have hp:p.1=a:=by
     unfold KL at e
     split at e
     ·split at e
      ·cases e;rfl
      ·cases e
     ·cases e
    obtain⟨g,i⟩:=p;dsimp only at hp;subst hp;simp
  ·have hm:(a∈b::r)↔a∈r:=by simp[d]
   rw[Xk];cases e:KL h b with
   | none=>dsimp only;rw[c];simp only[hm]
   | some p=>
    have hp:p.1=b:=by
     unfold KL at e
     split at e
     ·split at e
      ·cases e;rfl
      ·cases e
     ·cases e
    obtain⟨g,i⟩:=p;dsimp only at hp;subst hp;have f:(a==g)=false:=by simpa using d
    rw[WE,f];dsimp only;rw[c];simp only[hm]
def j8(e:h.get? a=some o)(f:KS o=true):(aJ h).lookup a=some o:=by
 unfold aJ;rw[oB,VE]
 ·unfold KL;rw[e];dsimp only;rw[VE f];rfl
 ·rw[WY];exact VP e
def KN(h:Heap):(aJ h).In h:=λa o e=>by
 unfold aJ at e;rw[oB] at e
 split at e
 ·unfold KL at e;cases g:h.get? a with
  | none=>rw[g] at e;cases e
  | some b=>
   rw[g] at e;dsimp only at e
   split at e
   ·cases e;rfl
   ·cases e
 ·cases e
noncomputable def posOf(s:Stmt):Pos:=match s with
 | .FunctionDef _ _ _ _ _ _ _ _ _ p=>p
 | _=>⟨0,0,0,0⟩
def rY(n:Str)(s:Stmt):DefRec:=⟨n,ng s,gu s,ah s,posOf s⟩
def Lg(r:h.CodeRec cd q):codeIn (aJ h) cd q=true:=by
 obtain⟨c,o,a,t,rfl,g,d,e⟩:=r;have f:KS o=true:=rfl;unfold codeIn;dsimp only;rw[j8 g f];obtain⟨j,i,k,b⟩:=o;dsimp only at d;subst d;dsimp only;obtain⟨l⟩:=a;cases l with
 | nil=>cases e
 | cons x l=>cases l with
  | nil=>cases e
  | cons y r=>cases y <;> first |(cases e;simp;done) |(cases e;done)
def Me{q:Program}{b:List Str}{i:ExcName->Option Value}{mg t:Str->Option Value}{h:Heap}(T:Top q b i mg t h){n:Str}{st:Stmt}(e:(recsOf q).find? (λe=>e.name==n)=some (rY n st)):
  ∃f u,mg n=some (.ref f)/\Cm (aJ h) n n st f u:=by
 have hm:rY n st∈recsOf q:=List.mem_of_find?_eq_some e;obtain⟨a,o,s,j,k,m,g,d,c⟩:=T.fn _ hm;have f:KS o=true:=rfl;have lk:=j8 g f;have kp:keepIn (aJ h) (.ref a)=true:=by
  unfold keepIn;dsimp only;rw[lk];obtain⟨r,p,v,l⟩:=o;dsimp only at d;subst d;rfl
 obtain⟨r,p,v,l⟩:=o;dsimp only at d;subst d;exact⟨a,_,m,⟨r,p,.none,k,s,_,j,_,l,rfl,lk,Lg c⟩,kp⟩
def _root_.L2.Cm.one{K:Frag}{x a:Str}{st:Stmt}{f:Addr}{g:FuncData}{p:Str}(F:Cm K x a st f g)
  (h:∀(kV b d:Value)(e:Option Addr)(c ct:Value)(u:Value),bindArgs (PySem.W.fnOf x a (ng st) (gu st) (ah st) .none kV b d e c ct) ⟨[u],[]⟩=pure [(p,u)]) (s:Shared) (u:Value):BindsTo s g ⟨[u],[]⟩ [(p,u)]:=by
 obtain⟨l,k,kV,b,d,e,c,ct,i,rfl,lk,j⟩:=F.ex;exact .of_eq (h kV b d e c ct u)
def OS{l:OpenLaw}{q:Program}{c:List Str}{C:(Str->Option Value)->Heap->Prop}{A:World->Heap->Prop}{d:DefRec}{k:Nat}(hn:l.most=some 63)(r:d.params.defaults=[])(hr:eU k callerA)
  (F:∀(w:World)(s₀:Shared)(mg p:Str->Option Value)(h:Heap),Ground q c [] C w s₀ mg p h->A w h->∃(v:Addr)(t:FuncData),mg d.name=some (.ref v)/\(∀(s:Shared)(u:Value),BindsTo s t ⟨[u],[]⟩ [("_law_script",u)])/\
   ∀base:Heap,(aJ h).In base->base.Ns mainGlobals mg->fX l.prog w (aJ h) mg base wm k v t ["_law_script"] (spT (aJ h))):
  WalkO q c C A l.row.toRowW d [] (λf x=>PySem.call f x):=by
 refine Att.Ak hn r λw s₀ y mg p v o P S O a x ns G Y Q hd I n m j i E=>?_;obtain⟨N,t,e,J,M⟩:=F w s₀ mg p _ G Y;rw[e] at n;cases n;exact HI (KN _) G.T.g G.T.b G.T.builtins G.T.nolimit E m j (VJ i (by decide)) hr M J (λH R L=>⟨a,ns,rfl,L,i,λ_=>rfl⟩) λ_ _ _ z=>z
noncomputable def freeOk(q:Program)(a b:List Str):Bool:=b.all λx=>!startupNames.contains x&&!(looseW q a).contains x&&!((recsOf q).map (·.name)).contains x&&!((litsOf q).map (·.1)).contains x&&!((clssOf q (looseW q a)).map (·.name)).contains x
def bY(T:Top q (looseW q loose) a mg c h)(e:freeOk q loose xs=true)(b:x∈xs):mg x=none:=by
 have:=Xd.mp e x b;simp only[V1,Bool.not_eq_true',List.contains_eq_mem,Aat] at this;exact T.free x this.1.1.1.1 this.1.1.1.2 this.1.1.2 this.1.2 this.2
end Hd
namespace Sm
open L2
noncomputable def Rg(f:Expr->Option D):List Expr->Option (List D)
 | []=>some []
 | e::es=>(f e).bind λd=>(Rg f es).bind λa=>some (d::a)
def kD:Nat->Expr->Option D
 | 0,_=>none
 | n+1,e=>match e with
  | .Constant .none _ _=>some .bx
  | .Constant (.bool b) _ _=>some (.bl b)
  | .Constant (.int i) _ _=>some (.int i)
  | .Constant (.str x) _ _=>if PyData.strOk x then some (.str x) else none
  | .UnaryOp .USub (.Constant (.int i) _ _) _=>some (.int (-i))
  | .Tuple es _ _=>(Rg (kD n) es).bind λa=>if a.length<=1000 then some (.tup a) else none
  | .List es _=>(Rg (kD n) es).bind λa=>if a.length<=1000 then some (.lv a) else none
  | .Dict [] [] _=>some (.dv [])
  | _=>none
noncomputable def aK(a:List D):AM:=λ_ h=>some (a,h)
def RT(a:List D):kA (aK a) a.length:=λb h c d e=>by cases e;rfl
section
variable {X:Cx}
def F6(h:kD n e=some d)(es:List Expr):starEach (e::es) X.env=(false,eval e X.env)::starEach es X.env:=by
 cases n with
 | zero=>exact cb h
 | succ n=>cases e <;> first | rfl |(exfalso;exact(nomatch h))
theorem wO(c:∀{e:Expr} {d:D},f e=some d->SE X e (eK d))(b:∀{e:Expr} {d:D},f e=some d->∀es:List Expr,starEach (e::es) X.env=(false,eval e X.env)::starEach es X.env):
  ∀{es:List Expr} {a:List D},Rg f es=some a->SA X es (aK a)
 | [],a,h=>by cases h;exact ar
 | e::es,a,h=>by
  unfold Rg at h;obtain⟨d,g,h⟩:=a9 h;obtain⟨r,i,h⟩:=a9 h;cases h;exact(ab (c g) (wO c b i) (b g es):SA X _ (af (eK d) (aK r)))
theorem de:∀(n:Nat) {e:Expr} {d:D},kD n e=some d->SE X e (eK d)
 | 0,_,_,h=>by cases h
 | n+1,e,d,h=>by
  cases e <;> first |(exact cb h) | skip
  case Constant c _ _=>
   cases c <;> first |(exact cb h) | skip
   case none=>cases h;exact Gi
   case bool=>cases h;exact LW
   case int=>cases h;exact bD
   case str x=>
    have h:(if PyData.strOk x then some (D.str x) else none)=some d:=h
    by_cases f:PyData.strOk x=true
    ·rw[VE f] at h;cases h;exact bG f
    ·rw[VH f] at h;cases h
  case UnaryOp o e _=>
   cases o <;> first |(exact cb h) | skip
   cases e <;> first |(exact cb h) | skip
   rename_i c _ _;cases c <;> first |(exact cb h) | skip
   cases h;exact(LU FW bD:SE X _ (i3 cG (eK _)))
  case Tuple es _ _=>
   obtain⟨b,g,a⟩:=a9 h
   by_cases hl:b.length<=1000
   ·rw[VE hl] at a;cases a;exact(cH (wO (de n) F6 g) (RT b) (VJ hl (by decide)):SE X _ (aq aN (aK b)))
   ·rw[VH hl] at a;cases a
  case List es _=>
   obtain⟨b,g,a⟩:=a9 h
   by_cases hl:b.length<=1000
   ·rw[VE hl] at a;cases a;exact(qq.lv (fR (wO (de n) F6 g) (RT b) (VJ hl (by decide))):SE X _ (gd (aK b)))
   ·rw[VH hl] at a;cases a
  case Dict ks i _=>
   cases ks <;> first |(exact cb h) | skip
   cases i <;> first |(exact cb h) | skip
   cases h;exact QB
end
end Sm
namespace L2
open PyProof.Rows
noncomputable def kB(ns:List Int):List Int:=ns.mergeSort λa b=>decide (a<=b)
def ic(ns:List Int):(kB ns).Perm ns:=List.mergeSort_perm _ _
def wB(ns:List Int):(kB ns).Pairwise (·<=·):=by
 have:=Aay (le:=λa b:Int=>decide (a<=b)) (λa b c e d=>by simp at e d ⊢;lia) (λa b=>by simp;lia) ns;exact this.imp λh=>by simpa using h
def F8(hp:ss.Perm ns)(h:ss.Pairwise (·<=·)):ss=kB ns:=
 Y5 (λa b _ _ d c=>Int.le_antisymm d c) h (wB ns) (hp.trans (ic ns).symm)
def B6:eX X (.builtin "sorted") (λg H Q=>∃a c,g=[.ref a]/\eL X.K H a (c.map V.int)/\c.length < 64/\∀l,H l=none->Q (.ref l) (upd H l (.lst ((kB c).map V.int)))):=by
 intro i s A H g us Q I r h;obtain⟨a,c,rfl,t,w,q⟩:=h;obtain⟨u,rfl,m⟩:=vals1 r;cases m;obtain⟨d,rv,p,C⟩:=I.list t;have v:=intsAre_of rv;have j:d.length=c.length:=by have:=rv.length;rw[Vy] at this;exact this.symm
 refine sorted_ints p.isList v (by lia) λout k z y x=>?_;have:=F8 y x;subst this;have hl:s.heap.objs.size<=s.heap.objs.size+1:=Yx _;obtain⟨e,n⟩:=sortedAll_at s.heap d out;have f:((kB c).map V.int).length<=sizeLine:=by rw[Vy,(ic c).length_eq,Xh];lia
 refine⟨.ref (s.heap.objs.size+1),_,I.laid (t':=s.toks) (o:=.lst ((kB c).map V.int)) (λb o q=>sortedAll_old q) hl ⟨f,out.toList,e,nP z,?_⟩,rfl,q _ (I.aZ.fresh hl)⟩;rw[n]
end L2
namespace Sm
open L2 PyProof.Rows
def Ib:Fn:=λb h=>match b with
 | [d]=>(cL d h).bind λa=>(sU a).bind λns=>if ns.length < 64 then some (.lv ((kB ns).map D.int),h) else none
 | _=>none
theorem repL_ints'{K:FR}{a:Ad}{H:Hp}:∀(ns:List Int),aw K a H (ns.map V.int) (ns.map D.int)
 | []=>.nil
 | n::r=>.cons (.int n) (repL_ints' r)
def Iz:f7 X (.builtin "sorted") Ib:=by
 intro e s g H u us Q I r hh;obtain⟨q,h,p,z,x,S,l,b,k⟩:=hh
 match p,l,b with
 | [],_,b=>exact cb b
 | _::_::_,_,b=>exact cb b
 | [d],l,b=>
  obtain⟨v,rfl,rd⟩:=rep1 l;obtain⟨t,o,n⟩:=a9 b;obtain⟨ns,m,f⟩:=a9 n
  by_cases c:ns.length < 64
  ·rw[VE c] at f;cases f;obtain⟨a,w,rfl,j,i⟩:=cR S rd o;have:=zK m;subst this;have:=Bc i;subst this;exact B6 e s g H _ us Q I r ⟨a,ns,rfl,eL.of j,c,λl hl=>k _ _ (.lv S (repL_ints' _) hl)⟩
  ·rw[VH c] at f;cases f
def tu(m:LA):EM:=λa h=>(m a h).bind λp=>if p.1.length<=15 then some (.ob p.2.length,p.2++[.dct (iy [] p.1)]) else none
def yC(h:SP X pos keys vals m)(T:keys.all (·.isSome)=true)(hl:keys.length=vals.length)(h0:keys≠[])(hp:∀l,PV X pos keys vals l->PE X (.Dict keys vals pos) (F3 l)):SE X (.Dict keys vals pos) (tu m):=by
 obtain⟨l,h1,h2⟩:=h;refine(hp l h1).imp λσ H Q ⟨j,Z,h,d,h',R,S,ee,k⟩ p s=>?_;obtain⟨⟨y,E⟩,i,g⟩:=a9 ee;dsimp only at g
 by_cases z:y.length<=15
 ·rw[VE z] at g;cases g;have U:Ch j H (j.keep p) (upd H p (.dK [])):=Ch.keep s;have nl:¬j.has p:=S.fresh s;refine h2 σ _ _ ⟨j.keep p,Z,h,y,_,R.mono U,S.keep s,i,λus I G F t P=>?_⟩;have L:G p=some (.dK []):=(F.res p VF).trans aC;refine⟨L,us,rfl,by rw[P.len];exact z,?_⟩;obtain⟨c,J⟩:=I;have O:J=p::j.rs:=F.rs;subst O;have N:p∈(⟨c,p::j.rs⟩:Ad).rs:=VF;have w:p∉c:=(t.qy p N).2;have q:∀b∈j.rs,b≠p:=λb f z=>nl (.inr (z ▸ f));generalize C:upd G p (.dK (bz [] us))=Y;have r:∀b,b≠p->Y b=G b:=λb f=>by rw[<-C,ao f]
  have u:Ch ⟨c,p::j.rs⟩ G ⟨c++[p],j.rs⟩ Y:=by
   refine⟨λn a e=>?_,λb o v eb=>⟨λz=>?_,?_⟩⟩
   ·show(c++[p])[n]?=_;rw[VW (Vz.mp e).1];exact e
   ·rcases z with z | z
    ·rcases Wk.mp z with z | z
     ·exact v (.inl z)
     ·exact v (.inr (by rw[VQ.mp z];exact VF))
    ·exact v (.inr (VD _ z))
   ·rw[r b (λz=>v (.inr (by rw[z];exact VF)))];exact eb
  refine k _ _ ⟨⟨c++[p],j.rs⟩,⟨(U.trans F.toCh).trans u,rfl,λb f=>?_⟩,?_,.ob (by show(c++[p])[E.length]?=_;rw[<-t.len];simp)⟩
  ·rw[r b (q b f),F.res b (VD _ f)];exact ao (q b f)
  ·refine⟨by show(c++[p]).length=_;simp;exact t.len,?_,λn a x i g=>?_,λb f=>?_⟩
   ·show(c++[p]).Nodup;rw[Y0];exact⟨t.nd,by simp,λa E b f z=>w (by rw[<-VQ.mp f,<-z];exact E)⟩
   ·have i:(c++[p])[n]?=some a:=i;have A:c.length=E.length:=t.len
    by_cases hn:n < c.length
    ·rw[VW hn] at i;rw[VW (by lia)] at g;exact(t.at_ n a x i g).mono u (r a λz=>w (z ▸ VC i))
    ·have l1:=(Vz.mp i).1;simp at l1;have M:n=c.length:=by lia
     subst M;rw[VY (VG _)] at i;rw[VY (by lia),A] at g;simp at i g;subst i;subst g;exact⟨bz [] us,by rw[<-C];exact aC,(bq.merge .nil P).mono u⟩
   ·obtain⟨⟨o,eo⟩,v⟩:=t.qy b (VD _ f);refine⟨⟨o,by rw[r b (q b f)];exact eo⟩,λz=>?_⟩;rcases Wk.mp z with z | z
    ·exact v z
    ·exact q b f (VQ.mp z)
 ·rw[VH z] at g;cases g
def K5(d e:D)(h:MH):Option (D×MH):=match e with
 | .int n=>(cL d h).bind λa=>if 0<=n/\n<=1000/\a.length<=1000 then some (.lv (List.replicate n.toNat a).flatten,h) else none
 | _=>none
theorem aw.rep{K:FR}{a:Ad}{H:Hp}{b:List V}{c:List D}(h:aw K a H b c):∀k:Nat,aw K a H (List.replicate k b).flatten (List.replicate k c).flatten
 | 0=>.nil
 | k+1=>by
  rw[XA,XA,Yc,Yc];exact h.append (aw.rep h k)
def Hn:pV X (binaryOp .Mult) K5:=by
 intro b s m H x y v u Q I q p hh;obtain⟨A,h,d,e,z,E,S,rd,r,j,k⟩:=hh;cases e <;> first |(exact cb j) | skip
 rename_i n;obtain⟨g,w,f⟩:=a9 (show(cL d h).bind _=_ from j)
 by_cases c:0<=n/\n<=1000/\g.length<=1000
 ·rw[VE c] at f;cases f;obtain⟨a,o,rfl,t,i⟩:=cR S rd w;cases r;have C:g.length*n.toNat<=1000*1000:=Nat.mul_le_mul c.2.2 (by lia);exact Oh b s m H _ _ v u Q I q p ⟨a,n,o,rfl,rfl,t,by lia,by lia,by rw[i.length,show sizeLine=16777216 from rfl];lia,λl hl=>k _ _ (.lv S (i.rep _) hl)⟩
 ·rw[VH c] at f;cases f
end Sm
namespace L2
open PyProof.Rows
theorem uR:∀(us:List Value)(o:Nat),(∀(j:Nat) v,us[j]?=some v->∃t,v=.int ((o:Int)+j) t)->Vals ((List.range' o us.length).map λ(k:Nat)=>V.int k) us
 | [],_,_=>.nil
 | u::r,o,h=>by
  rw[VU,List.range'_succ,VL];obtain⟨t,e⟩:=h 0 u rfl;refine .cons ⟨t,by rw[e];simp⟩ (uR r (o+1) λj v a=>?_);obtain⟨t,e⟩:=h (j+1) v (by simpa using a);exact⟨t,by rw[e];congr 1;lia⟩
def EB(U:X.calm=true)(C:Gl X "list")(z:X.mg "list"=none)(A:Gl X "range")(y:X.mg "range"=none)(m:bootBuiltins "list"=some (.type "list"))(Y:PA X [a] M)(S:starEach [a] X.env=[(false,eval a X.env)]):
  PE X (.Call (.Name "list" p) [.Call (.Name "range" R) [a] [] d] [] pos) (λw H Q=>M w H λF x=>∃j:Int,F=[.int j]/\0<=j/\j<=1000/\∀l,x l=none->Q (.ref l) (upd x l (.lst ((List.range j.toNat).map λ(k:Nat)=>V.int k)))):=by
 intro f s w H Q I h;refine XM (fU I C z m ?_);refine WC ?_ rfl rfl;show wpAny _ _ (spliced ((false,eval (.Call (.Name "range" R) [a] [] d) X.env)::backTo pos (starEach [] X.env))) _ _ s;refine Z1 ?_;refine XM (fU I A y boot_range (WC (cv (Y d f s w H _ I h) λus s1 u9=>?_) S rfl));obtain⟨F,x,J,O,P⟩:=u9;obtain⟨j,e,j0,j1,q⟩:=P;subst e;cases O with
 | cons r N=>
  cases N;obtain⟨t,rfl⟩:=r;refine call_range_1 ?_;have G:Inv X f w x {s1 with heap:=s1.heap.push {cls:=.type "range",data:=.fields #[.int 0 s1.toks,.int j t,.int 1 (s1.toks+1)]},toks:=s1.toks+1+1}:=J.kept λb o e=>VB _ e;refine Aae ?_;refine call_list_range (n:=j.toNat) (J.ok.hd U) (IsRange.new ..) (small_one (by lia) (by lia) (by lia) (by lia)) (by rw[rangeSize_one];split <;> lia) (by lia) λh' L c Z T E g=>?_;have u:c.toList.length=j.toNat:=by rw[XT];exact g.1
  have m:Vals ((List.range j.toNat).map λ(k:Nat)=>V.int k) c.toList:=by
   have:=uR c.toList 0 λi v m=>by
    obtain⟨t,e⟩:=g.2 i v (by simpa using m);exact⟨t,by rw[e];congr 1;simp⟩
   rw[u] at this;rw[List.range_eq_range'];exact this
  refine⟨.ref _,_,G.laid (t':=L) (o:=.lst ((List.range j.toNat).map λ(k:Nat)=>V.int k)) T (VG _) ⟨by rw[Vy,V2,Xh];lia,c.toList,Z,m,?_⟩,rfl,q _ (G.aZ.fresh (VG _))⟩;rw[E]
end L2
namespace Sm
open L2 PyProof.Rows
noncomputable def PD(m:AM):AM:=λa h=>(m a h).bind λp=>match p.1 with
 | [.int j]=>if 0<=j/\j<=1000 then some ((List.range j.toNat).map λ(k:Nat)=>D.int k,p.2) else none
 | _=>none
theorem rN{K:FR}{a:Ad}{H:Hp}:∀l:List Nat,aw K a H (l.map λ(k:Nat)=>V.int k) (l.map λ(k:Nat)=>D.int k)
 | []=>.nil
 | n::r=>.cons (.int n) (rN r)
def Ec(w:X.calm=true)(n:Gl X "list")(g:X.mg "list"=none)(i:Gl X "range")(f:X.mg "range"=none)(t:bootBuiltins "list"=some (.type "list"))(x:SA X [a] m)(u:starEach [a] X.env=[(false,eval a X.env)]:=by ac_nf):
  qq X (.Call (.Name "list" p) [.Call (.Name "range" G) [a] [] o] [] pos) (PD m):=(EB w n g i f t x u).imp λσ H Q ⟨q,r,h,ds,J,R,S,e,k⟩=>by
 obtain⟨⟨E,I⟩,y,b⟩:=a9 e;dsimp only at b
 split at b
 ·rename_i j
  split at b
  ·rename_i c;cases b;refine⟨q,r,h,_,_,R,S,y,λF d C z A s=>?_⟩;obtain⟨v,rfl,rd⟩:=rep1 s;cases rd;exact⟨j,rfl,c.1,c.2,λl hl=>k d C l _ z A hl (rN _)⟩
  ·cases b
 ·cases b
def PF(e d:EM):AM:=λa h=>(e a h).bind λp=>(d a p.2).bind λq=>(cL p.1 q.2).bind λc=>(cL q.1 q.2).bind λb=>if c.length+b.length<=sizeLine then some (c++b,q.2) else none
def M3(I:SE X a F)(G:SE X b E):qq X (.BinOp a .Add b pos) (PF F E):=(L5 Hw I G).imp λσ H Q ⟨z,j,h,ds,h',R,S,e,k⟩=>by
 obtain⟨⟨x,o⟩,T,P⟩:=a9 e;obtain⟨⟨y,M⟩,s,O⟩:=a9 P;obtain⟨xs,r,N⟩:=a9 O;obtain⟨Z,q,g⟩:=a9 N;dsimp only at s r q
 split at g
 ·rename_i c;cases g;refine⟨z,j,h,x,o,R,S,T,λv H1 ⟨f,w,U,C⟩=>⟨f,j,o,y,M,R.mono w.toCh,U,s,λu Y u9=>?_⟩⟩;obtain⟨d,t,i,A⟩:=u9;obtain⟨a,l,rfl,L,n⟩:=cR i (C.mono t.toCh) r;obtain⟨b,us,rfl,J,m⟩:=cR i A q;exact⟨a,b,l,us,rfl,rfl,L,J,by rw[n.length,m.length];exact c,λp hp=>k d Y p (l++us) (w.trans t) i hp (n.append m)⟩
 ·cases g
end Sm
namespace Sm
open L2
theorem r8:∀cs:List Int,gc (cs.map D.int)=some (cs.map PyData.int)
 | []=>rfl
 | c::r=>by simp only[VL,gc,jm,r8 r,VO,Wt]
theorem lK:∀cs:List Int,PyData.depthAll (cs.map PyData.int)=0
 | []=>rfl
 | c::r=>by simp only[VL,PyData.depthAll,lK r,PyData.depth];rfl
def E9{h:MH}{c:Nat}{cs:List Int}(a:h[c]?=some (.lst (cs.map D.int))):jE (.ob c) (.lv []) h=some (.bl (!cs.isEmpty),h):=by
 simp only[jE,Jk,cc,a,Jj,ye,r8,jm,gc,Wt,VO,PyData.depth,lK];cases cs <;> rfl
def jG(hn:h[n]?=some (.lst xs))(e:fq xs i=some d):aB (.ob n) (.int i) h=some (d,h):=by
 simp only[aB,cc,hn,b9,VO,e,Wt]
def DC(hn:h[n]?=some (.lst xs)):cM [.ob n] h=some (.int xs.length,h):=by
 simp only[cM,cc,hn,b9,Wt]
def xF(hn:h[n]?=some (.lst xs))(e:uH xs.length i=some p):uK (.ob n) (.int i) d h=some (h.set n (.lst (xs.set p d))):=by
 simp only[uK,hn,e,Wt]
def IW(cs:List Int)(i:Int)(b:0<=i)(c:i < cs.length):∃z,fq (cs.map D.int) i=some (.int z):=by
 have a:i.toNat < cs.length:=by lia
 refine⟨cs[i.toNat]'a,?_⟩;have e:((i.toNat:Nat):Int)=i:=YQ b;have q:fq (cs.map D.int) ((i.toNat:Nat):Int)=some (D.int (cs[i.toNat]'a)):=kj (by rw[VN,VI a];rfl);rw[e] at q;exact q
def IV(b:0<=i)(c:i < xs.length):∃v,fq xs i=some v/\v∈xs:=by
 have a:i.toNat < xs.length:=by lia
 have e:((i.toNat:Nat):Int)=i:=YQ b;have q:fq xs ((i.toNat:Nat):Int)=some (xs[i.toNat]'a):=kj (VI a);rw[e] at q;exact⟨_,q,YI a⟩
end Sm
namespace Sm
def Rn{b:Type}(o:Option b)(Q:b->Prop):Prop:=∃a,o=some a/\Q a
def rv(e:o=some a)(q:Q a):Rn o Q:=⟨a,e,q⟩
def Rn.imp(r:Rn o Q)(f:∀a,Q a->b a):Rn o b:=let⟨a,e,q⟩:=r;⟨a,e,f a q⟩
def aS(r:Rn o λa=>Rn (f a) Q):Rn (o.bind f) Q:=by
 obtain⟨a,e,b,c,q⟩:=r;exact⟨b,by rw[e];exact c,q⟩
def A9(r:Rn o λa=>Q (f a)):Rn (o.map f) Q:=by
 obtain⟨a,e,q⟩:=r;exact⟨f a,by rw[e];rfl,q⟩
def gV(e:a[i]?=some (some d))(q:Q (d,h)):Rn (aP i a h) Q:=⟨(d,h),by unfold aP;rw[e];rfl,q⟩
def QL(q:Q (d,h)):Rn (eK d a h) Q:=⟨_,rfl,q⟩
def Bi(r:Rn (a c h) λp=>Rn (b c p.2) λq=>Rn (f p.1 q.1 q.2) Q):Rn (ak f a b c h) Q:=aS (r.imp λ_ r=>aS r)
def TC(r:Rn (a b h) λp=>Rn (f p.1 p.2) Q):Rn (i3 f a b h) Q:=aS r
def CO(q:Q ([],h)):Rn (aY a h) Q:=⟨_,rfl,q⟩
def iq(r:Rn (a b h) λp=>Rn (m b p.2) λq=>Q (p.1::q.1,q.2)):Rn (af a m b h) Q:=aS (r.imp λ_ r=>aS (r.imp λ_ q=>⟨_,rfl,q⟩))
def JN(r:Rn (m a h) λp=>Rn (f p.1 p.2) Q):Rn (aq f m a h) Q:=aS r
def TN(r:Rn (t d h) λp=>(p.1=true->Rn (a d p.2) Q)/\(p.1=false->Rn (b d p.2) Q)):Rn (Lc t a b d h) Q:=aS (r.imp λp u9=>by
 obtain⟨f,e⟩:=u9;obtain⟨c,h⟩:=p;cases c with
 | true=>exact f rfl
 | false=>exact e rfl)
def NC(r:Rn (a b h) λp=>∃c,p.1=.bl c/\Q (c,p.2)):Rn (ay a b h) Q:=aS (r.imp λp ⟨c,e,q⟩=>⟨(c,p.2),by rw[e],q⟩)
def Nr(r:Rn (a b h) λp=>∃c,yn p.1 p.2=some c/\Q (c,p.2)):Rn (iZ a b h) Q:=aS (r.imp λp ⟨c,e,q⟩=>⟨(c,p.2),by rw[e];rfl,q⟩)
def Nt(r:Rn (t a h) λp=>Q (!p.1,p.2)):Rn (Sm.qV t a h) Q:=A9 r
def Nu(r:Rn (a d h) λp=>(p.1=true->Rn (b d p.2) Q)/\(p.1=false->Q (false,p.2))):Rn (Sm.km a b d h) Q:=aS (r.imp λp u9=>by
 obtain⟨f,e⟩:=u9;obtain⟨c,h⟩:=p;cases c with
 | true=>exact f rfl
 | false=>exact⟨_,rfl,e rfl⟩)
def QG(r:Rn (a d h) λp=>(p.1=true->Q (true,p.2))/\(p.1=false->Rn (b d p.2) Q)):Rn (Sm.D7 a b d h) Q:=aS (r.imp λp u9=>by
 obtain⟨f,e⟩:=u9;obtain⟨c,h⟩:=p;cases c with
 | true=>exact⟨_,rfl,f rfl⟩
 | false=>exact e rfl)
def QR(r:Rn (a d h) λp=>∃c,p.1=.bl c/\(c=true->Rn (b d p.2) Q)/\(c=false->Q (.bl false,p.2))):Rn (BU a b d h) Q:=aS (r.imp λp u9=>by
 obtain⟨c,e,g,f⟩:=u9;rw[e];cases c with
 | true=>exact g rfl
 | false=>exact⟨_,rfl,f rfl⟩)
def TF(r:Rn (a d h) λp=>∃c,p.1=.bl c/\(c=true->Q (.bl true,p.2))/\(c=false->Rn (b d p.2) Q)):Rn (UC a b d h) Q:=aS (r.imp λp u9=>by
 obtain⟨c,e,g,f⟩:=u9;rw[e];cases c with
 | true=>exact⟨_,rfl,g rfl⟩
 | false=>exact f rfl)
def QK(r:Rn (a b h) λp=>∃c,p.1=.bl c/\Q (.bl (!c),p.2)):Rn (O0 a b h) Q:=aS (r.imp λp d=>by obtain⟨c,e,q⟩:=d;exact⟨_,by rw[e],q⟩)
def TL(r:Rn (m a h) λp=>Q (.lv p.1,p.2)):Rn (gd m a h) Q:=A9 r
def TH(r:Rn (m a h) λp=>Q (.ob p.2.length,p.2++[.lst p.1])):Rn (xO m a h) Q:=A9 r
def GS(r:Rn (m c h) λp=>∃d a b,p.1=[d]/\b9 d p.2=some (a,b)/\Q (a,p.2)):Rn (DX m c h) Q:=aS (r.imp λp ⟨d,a,b,e,f,q⟩=>⟨(a,p.2),by rw[e];dsimp only;rw[f];rfl,q⟩)
def QH(q:Q (none,h)):Rn (sr a h) Q:=⟨_,rfl,q⟩
def QI(r:Rn (a b h) λp=>∃i,p.1=.int i/\Q (some i,p.2)):Rn (sx a b h) Q:=aS (r.imp λp d=>by obtain⟨c,e,q⟩:=d;exact⟨_,by rw[e],q⟩)
abbrev SQ:=Fl×DS×MH->Prop
def GO(q:Q (.nx,a,h)):Rn (bW a h) Q:=⟨_,rfl,q⟩
def Nv(q:Q (.bk,a,h)):Rn (Nb a h) Q:=⟨_,rfl,q⟩
def qS(b:SM)(Q:SQ):SQ:=λr=>match r.1 with
 | .nx=>Rn (b r.2.1 r.2.2) Q
 | _=>Q r
def jj(r:Rn (a e h) (qS b Q)):Rn (aj a b e h) Q:=aS (r.imp λp q=>by
 obtain⟨f,c,g⟩:=p;cases f with
 | nx=>exact q
 | bk=>exact⟨_,rfl,q⟩
 | ct=>exact⟨_,rfl,q⟩
 | rt d=>exact⟨_,rfl,q⟩)
def L0(r:Rn (e a h) λp=>Q (.nx,a.set i (some p.1),p.2)):Rn (aQ i e a h) Q:=aS (r.imp λ_ q=>⟨_,rfl,q⟩)
def L3(r:Rn (e a h) λp=>Rn (g p.1 a p.2) λq=>Q (.nx,q.1,q.2)):Rn (fy e g a h) Q:=aS (r.imp λ_ r=>aS (r.imp λ_ q=>⟨_,rfl,q⟩))
def GU(r:Rn (e a h) λp=>Q (.nx,a,p.2)):Rn (cX e a h) Q:=aS (r.imp λ_ q=>⟨_,rfl,q⟩)
def GQ(r:Rn (e a h) λp=>Q (.rt p.1,a,p.2)):Rn (aR e a h) Q:=aS (r.imp λ_ q=>⟨_,rfl,q⟩)
def GP(r:Rn (t d h) λp=>(p.1=true->Rn (a d p.2) Q)/\(p.1=false->Rn (b d p.2) Q)):Rn (fS t a b d h) Q:=aS (r.imp λp u9=>by
 obtain⟨f,e⟩:=u9;obtain⟨c,h⟩:=p;cases c with
 | true=>exact f rfl
 | false=>exact e rfl)
def QJ(r:Rn (m c h) λp=>∃a b,p.1=[a,b]/\Q (.nx,(c.set i (some a)).set j (some b),p.2)):Rn (Gw i j m c h) Q:=aS (r.imp λp d=>by obtain⟨a,b,e,q⟩:=d;exact⟨_,by rw[e],q⟩)
def Et(q:Q (a.set i (some d),h)):Rn (gN i d a h) Q:=⟨_,rfl,q⟩
def NA(r:Rn (o a h) λp=>Rn (i a p.2) λq=>Rn (uK p.1 q.1 v q.2) λb=>Q (a,b)):Rn (Sm.uI o i v a h) Q:=aS (r.imp λ_ r=>aS (r.imp λ_ r=>A9 r))
def Nz(hn:xs.length=n)(r:Rn (u xs a h) Q):Rn (gT n u (.tup xs) a h) Q:=by
 unfold gT;dsimp only;rw[VE hn];exact r
def gW(r:Rn (g d a h) λp=>Rn (u xs p.1 p.2) Q):Rn (ai g u (d::xs) a h) Q:=aS r
def wZ(q:Q (a,h)):Rn (bp [] a h) Q:=⟨_,rfl,q⟩
def El(Q:D×MH->Prop):SQ:=λr=>match r.1 with
 | .rt d=>Q (d,r.2.2)
 | .nx=>Q (.bx,r.2.2)
 | _=>False
def Ue(q:Q (d,h)):El Q (.rt d,a,h):=q
def Ug(q:Q (.bx,h)):El Q (.nx,a,h):=q
def FZ(r:Rn (b a h) Q):qS b Q (.nx,a,h):=r
def SY(q:Q (.rt d,a,h)):qS b Q (.rt d,a,h):=q
def S8(q:Q (.bk,a,h)):qS b Q (.bk,a,h):=q
def zD(I:DS->MH->Prop)(Q:SQ):SQ:=λz=>match z.1 with
 | .nx=>I z.2.1 z.2.2
 | .ct=>I z.2.1 z.2.2
 | .bk=>Q (.nx,z.2.1,z.2.2)
 | .rt d=>Q (.rt d,z.2.1,z.2.2)
def Ul(q:I a h):zD I Q (.nx,a,h):=q
def Um(q:Q (.nx,a,h)):zD I Q (.bk,a,h):=q
def Uk(q:Q (.rt d,a,h)):zD I Q (.rt d,a,h):=q
def br(r:Rn (b (entry len ds) h) (El Q)):Rn (g0 len b ds h) Q:=aS (r.imp λp q=>by
 obtain⟨f,a,c⟩:=p;cases f with
 | nx=>exact⟨_,rfl,q⟩
 | rt d=>exact⟨_,rfl,q⟩
 | bk=>exact q.elim
 | ct=>exact q.elim)
def QP(r:Rn (i a h) λp=>Rn (mY p.2.1 g b p.1 a p.2.2) Q):Rn (gC i g b a h) Q:=aS r
def cB:∀{c:List D} {a:DS} {h:MH} (I:Nat->DS->MH->Prop),I 0 a h->(∀i a h,i<=c.length->I i a h->gR ws h=true)->
  (∀i x a h,c[i]?=some x->I i a h->Rn (g x a h) λq=>Rn (b q.1 q.2) (zD (I (i+1)) Q))->(∀a h,I c.length a h->Q (.nx,a,h))->Rn (mY ws g b c a h) Q:=by
 intro c
 induction c with
 | nil=>
  intro a h I j l _ m;unfold mY;rw[VE (l 0 a h (VG _) j)];exact⟨_,rfl,m a h j⟩
 | cons x c o=>
  intro a h I j l ht m;unfold mY;rw[VE (l 0 a h (Wm _) j)];obtain⟨q,t,z,s,k⟩:=ht 0 x a h rfl j;rw[t];show Rn ((b q.1 q.2).bind _) Q;rw[s];obtain⟨f,e,n⟩:=z;have next:I 1 e n->Rn (mY ws g b c e n) Q:=λr=>o (λi=>I (i+1)) r (λi a h hl=>l (i+1) a h (Xu hl)) (λi x a h p=>ht (i+1) x a h (by simpa using p)) m
  cases f with
  | nx=>exact next k
  | ct=>exact next k
  | bk=>exact⟨_,rfl,k⟩
  | rt d=>exact⟨_,rfl,k⟩
def dm(r:Rn (e c h) λp=>∃a b,b9 p.1 p.2=some (a,b)/\Q (a,b,p.2)):Rn (gI e c h) Q:=aS (r.imp λp ⟨a,b,e,q⟩=>⟨(a,b,p.2),by rw[e];rfl,q⟩)
def gE(r:Rn (m a h) λp=>∃j:Int,p.1=[.int j]/\-(2^62)<=j/\j < 2^62/\Q ((List.range j.toNat).map λ(k:Nat)=>D.int (k:Int),[],p.2)):Rn (qk m a h) Q:=aS (r.imp λp u9=>by
 obtain⟨j,e,c,b,q⟩:=u9;rw[e];dsimp only;rw[VE ⟨c,b⟩];exact⟨_,rfl,q⟩)
def Nx(r:Rn (m g h) λp=>∃d e c b f a,p.1=[d,e]/\b9 d p.2=some (c,f)/\b9 e p.2=some (b,a)/\Q (nN c b,f++a,p.2)):Rn (OR m g h) Q:=
 aS (r.imp λp i=>by obtain⟨d,e,c,b,f,a,l,k,j,q⟩:=i;exact⟨_,by rw[l];dsimp only;rw[k];dsimp only[Option.bind_some];rw[j];rfl,q⟩)
def fA(r:Rn (m c h) λp=>∃d a b,p.1=[d]/\b9 d p.2=some (a,b)/\Q (iV 0 a,b,p.2)):Rn (jB m c h) Q:=
 aS (r.imp λp e=>by obtain⟨d,a,b,g,f,q⟩:=e;exact⟨_,by rw[g];dsimp only;rw[f];rfl,q⟩)
def NB(r:Rn (i b h) λp=>Rn (a8 p.2.1 g c e p.1 (gw a b) p.2.2) λq=>q.1.length<=sizeLine/\Q q):Rn (cF a i g c e b h) Q:=
 aS (r.imp λp r=>aS (r.imp λq ⟨d,f⟩=>⟨q,by rw[VE d],f⟩))
def CS(k:gR ws h=true)(f:D->Option D)(J:DS->Prop):∀{b:List D} {a:DS},J a->
  (∀x∈b,∀a,J a->Rn (g x a h) λq=>q.2=h/\Rn (c q.1 h) λt=>t.2=h/\J q.1/\(t.1=true->∃y,f x=some y/\Rn (e q.1 h) λp=>p=(y,h))/\(t.1=false->f x=none))->
  a8 ws g c e b a h=some (b.filterMap f,h):=by
 intro b
 induction b with
 | nil=>
  intro a _ _;unfold a8;rw[VE k];rfl
 | cons x b d=>
  intro a o ht;unfold a8;rw[VE k];obtain⟨⟨m,z⟩,u,rfl,⟨t,w⟩,l,rfl,v,j,i⟩:=ht x VF a o;rw[u];dsimp only[Option.bind_some] at l j i ⊢;rw[l];dsimp only[Option.bind_some];have d:=d v λy n=>ht y (VD _ n);cases t with
  | true=>
   obtain⟨y,s,p,r,rfl⟩:=j rfl;rw[VE rfl,r];dsimp only[Option.bind_some];rw[d,Xk,s];rfl
  | false=>
   rw[VH (by simp),d,Xk,i rfl]
def y8(h:k∉a.map (·.1)):putD a k v=a++[(k,v)]:=by
 unfold putD;rw[VH];intro z;obtain⟨p,hp,e⟩:=YJ.mp z;exact h (V7.mpr ⟨p,hp,WT e⟩)
def DG(hd:cc d h=some a)(b:cW a (.inr x)=some v):aB d (.str x) h=some (v,h):=by
 simp only[aB,hd,lG,VO,b,Wt]
end Sm
namespace Sm
def Nq(q:Q (d,h))(e:a[i]?=some (some d):=by with_unfolding_all rfl):Rn (aP i a h) Q:=gV e q
def QN(r:Rn (u xs a h) Q)(hn:xs.length=n:=by with_unfolding_all rfl):Rn (gT n u (.tup xs) a h) Q:=Nz hn r
end Sm
namespace Sm
open L2
def JQ:∀(i:List D)(P:List D->DS->MH->α->Prop)(b:DS)(h:MH)(a:α),P i b h a->
  (∀x r b h a,P (x::r) b h a->gR ws h=true/\Rn (g x b h) λq=>Rn (c q.1 q.2) λt=>if t.1=true then Rn (m q.1 t.2 a) λz=>P r z.1 z.2.1 z.2.2 else P r q.1 t.2 a)->
  (∀b h a,P [] b h a->gR ws h=true/\Q (b,h,a))->Rn (fk ws g c m i b h a) Q:=by
 intro r
 induction r with
 | nil=>
  intro P b h a p _ d;obtain⟨f,q⟩:=d b h a p;exact⟨_,by unfold fk;rw[VE f],q⟩
 | cons x r j=>
  intro P b h a p step d;obtain⟨f,q,o,t,n,e⟩:=step x r b h a p;unfold fk;rw[VE f,o];show Rn ((c q.1 q.2).bind _) Q;rw[n];show Rn (if t.1=true then _ else _) Q
  by_cases z:t.1=true
  ·rw[VE z] at e ⊢;obtain⟨y,l,k⟩:=e;rw[l];exact j P _ _ _ k step d
  ·rw[VH z] at e ⊢;exact j P _ _ _ e step d
def QQ{b:Type}{a:List (Option Nat)}{i:IM}{g:GM}{c:TM}{m:MK b}{e:b}{out:b->D}{Q:D×MH->Prop}(hh:Rn (i d h) λp=>Rn (fk p.2.1 g c m p.1 (gw a d) p.2.2 e) λq=>Q (out q.2.2,q.2.1)):Rn (Ry a i g c m e out d h) Q:=
 aS (hh.imp λp r=>A9 r)
def TJ(hh:Rn (k b h) λp=>Rn (v b p.2) λq=>∃kk,lG p.1=some kk/\a.length < sizeLine/\Q (b,q.2,putD a kk q.1)):Rn (mD k v b h a) Q:=
 aS (hh.imp λp r=>aS (r.imp λq u9=>by obtain⟨kk,c,l,k⟩:=u9;rw[c];show Rn (if a.length < sizeLine then _ else _) Q;rw[VE l];exact⟨_,rfl,k⟩))
def CN(hh:Rn (k a h) λp=>Rn (v a p.2) λq=>∃kk,lG p.1=some kk/\Rn (r a q.2) λz=>Q ((kk,q.1)::z.1,z.2)):Rn (cV k v r a h) Q:=
 aS (hh.imp λp x=>aS (x.imp λq u9=>by obtain⟨kk,b,y⟩:=u9;rw[b];exact A9 y))
def Bj(hh:Rn (a b h) λp=>Rn (l b p.2) λq=>Rn (u b q.2) λr=>Rn (td p.1 q.1 r.1 r.2) Q):Rn (fW a l u b h) Q:=aS (hh.imp λ_ x=>aS (x.imp λ_ y=>aS y))
def P7(q:Q (.tup ds,h)):Rn (aN ds h) Q:=⟨_,rfl,q⟩
def P9(q:Q (.int (-a),h)):Rn (cG (.int a) h) Q:=⟨_,rfl,q⟩
def w_add(q:Q (.int (a+b),h)):Rn (aT (.int a) (.int b) h) Q:=⟨_,rfl,q⟩
def w_sub(q:Q (.int (a-b),h)):Rn (uJ (.int a) (.int b) h) Q:=⟨_,rfl,q⟩
def w_lt(q:Q (.bl (decide (a < b)),h)):Rn (Mf (.int a) (.int b) h) Q:=⟨_,rfl,q⟩
def SR(q:Q (.bl (decide (b < a)),h)):Rn (FJ (.int a) (.int b) h) Q:=⟨_,rfl,q⟩
def SU(q:Q (.bl (decide (b<=a)),h)):Rn (Rx (.int a) (.int b) h) Q:=⟨_,rfl,q⟩
def Qf(q:Q (.bl (a==b),h)):Rn (b6 (.int a) (.int b) h) Q:=⟨_,rfl,q⟩
def Qa(q:Q (.bl (!(a==b)),h)):Rn (jE (.int a) (.int b) h) Q:=⟨_,rfl,q⟩
def Qe(q:Q (.bl (x==y),h)):Rn (b6 (.str x) (.str y) h) Q:=⟨_,rfl,q⟩
def Qd(q:Q (d,h)):Rn (aB (.tup (d::r)) (.int 0) h) Q:=⟨_,by
 show((fq (d::r) 0).map λz=>(z,h))=_;have:fq (d::r) 0=some d:=by unfold fq;rw[show uH (d::r).length 0=some 0 by unfold uH;simp;try lia];rfl
 rw[this];rfl,q⟩
def Qc(q:Q (e,h)):Rn (aB (.tup (d::e::r)) (.int 1) h) Q:=⟨_,by
 show((fq (d::e::r) 1).map λz=>(z,h))=_;have:fq (d::e::r) 1=some e:=by unfold fq;rw[show uH (d::e::r).length 1=some 1 by unfold uH;simp;try lia];rfl
 rw[this];rfl,q⟩
def Qb(q:Q (f,h)):Rn (aB (.tup (d::e::f::r)) (.int 2) h) Q:=⟨_,by
 show((fq (d::e::f::r) 2).map λz=>(z,h))=_;have:fq (d::e::f::r) 2=some f:=by unfold fq;rw[show uH (d::e::f::r).length 2=some 2 by unfold uH;simp;try lia];rfl
 rw[this];rfl,q⟩
def Mz(q:Q (.int r.length,h)):Rn (cM [.tup r] h) Q:=⟨_,rfl,q⟩
def MA(q:Q (.int r.length,h)):Rn (cM [.lv r] h) Q:=⟨_,rfl,q⟩
inductive tW{α β:Type}(R:α->β->Prop):List α->List β->Prop where
 | nil:tW R [] []
 | cons {x y xs ys}:R x y->tW R xs ys->tW R (x::xs) (y::ys)
theorem tW.length{c:List α}{b:List β}(a:tW R c b):b.length=c.length:=by
 induction a with
 | nil=>rfl
 | cons _ t d=>rw[VU,VU,d]
def tW.right{c:List α}{b:List β}(a:tW R c b):∀y∈b,∃x∈c,R x y:=by
 induction a with
 | nil=>exactλ_ h=>(nomatch h)
 | cons r t d=>
  intro y h;rcases VS.mp h with rfl | h
  ·exact⟨_,VF,r⟩
  ·obtain⟨x,e,r⟩:=d y h;exact⟨x,VD _ e,r⟩
def qC(R:D->D->Prop):∀{xs:List D} {δ:DS} {h:MH} (J:Nat->DS->MH->Prop),J 0 δ h->(∀i δ h,i<=xs.length->J i δ h->gR ws h=true)->
  (∀i x δ h,xs[i]?=some x->J i δ h->Rn (g x δ h) λq=>Rn (e q.1 q.2) λy=>R x y.1/\J (i+1) q.1 y.2)->Rn (a8 ws g cj e xs δ h) λp=>tW R xs p.1/\∃b,J xs.length b p.2:=by
 intro xs
 induction xs with
 | nil=>
  intro δ h J c d _;unfold a8;rw[VE (d 0 δ h (VG _) c)];exact⟨_,rfl,.nil,δ,c⟩
 | cons x xs m=>
  intro δ h J c d ht;unfold a8;rw[VE (d 0 δ h (Wm _) c)];obtain⟨⟨k,s⟩,u,⟨y,w⟩,f,r,j⟩:=ht 0 x δ h rfl c;dsimp only at f r j;obtain⟨⟨l,o⟩,t,a,b,v⟩:=m (λi=>J (i+1)) j (λi δ h hl=>d (i+1) δ h (Xu hl)) λi y δ h n=>ht (i+1) y δ h (by simpa using n);refine⟨(y::l,o),?_,.cons r a,b,v⟩;rw[u];dsimp only[Option.bind_some];show((some (true,s)).bind _)=_;dsimp only[Option.bind_some];rw[VE rfl,f];dsimp only[Option.bind_some];rw[t];rfl
def w5(R:D->D->Prop):∀{xs:List D} {δ:DS} {h:MH} (J:Nat->DS->MH->Prop),J 0 δ h->(∀i δ h,i<=xs.length->J i δ h->gR ws h=true)->
  (∀i x δ h,xs[i]?=some x->J i δ h->Rn (g x δ h) λq=>Rn (c q.1 q.2) λt=>(t.1=true->Rn (e q.1 t.2) λy=>R x y.1/\J (i+1) q.1 y.2)/\(t.1=false->J (i+1) q.1 t.2))->Rn (a8 ws g c e xs δ h) λp=>p.1.length<=xs.length/\(∀y∈p.1,∃x∈xs,R x y)/\∃b,J xs.length b p.2:=by
 intro xs
 induction xs with
 | nil=>
  intro δ h J f j _;unfold a8;rw[VE (j 0 δ h (VG _) f)];exact⟨_,rfl,VG _,λ_ z=>(nomatch z),δ,f⟩
 | cons x xs F=>
  intro δ h J f j ht;unfold a8;rw[VE (j 0 δ h (Wm _) f)];obtain⟨⟨E,O⟩,L,⟨t,N⟩,C,A,w⟩:=ht 0 x δ h rfl f;dsimp only at C A w;rw[L];dsimp only[Option.bind_some];rw[C];dsimp only[Option.bind_some];have next:=λ{b:DS} {H:MH} (k:J 1 b H)=>F (λi=>J (i+1)) k (λi δ h hl=>j (i+1) δ h (Xu hl)) λi y δ h G=>ht (i+1) y δ h (by simpa using G)
  cases t with
  | true=>
   obtain⟨⟨y,M⟩,I,r,k⟩:=A rfl;dsimp only at r k;obtain⟨⟨m,o⟩,s,l,a,b,v⟩:=next k
   refine⟨(y::m,o),?_,Xu l,λz d=>?_,b,v⟩
   ·rw[VE rfl,I];dsimp only[Option.bind_some];rw[s];rfl
   ·rcases VS.mp d with rfl | d
    ·exact⟨x,VF,r⟩
    ·obtain⟨u,n,r⟩:=a z d;exact⟨u,VD _ n,r⟩
  | false=>
   obtain⟨⟨m,o⟩,s,l,a,b,v⟩:=next (w rfl)
   refine⟨(m,o),?_,W6 l,λz d=>?_,b,v⟩
   ·rw[VH (by decide),s]
   ·obtain⟨u,n,r⟩:=a z d;exact⟨u,VD _ n,r⟩
def RF(r:Rn (e a h) λp=>Rn (b (a.set i (some p.1)) p.2) Q):Rn (aj (aQ i e) b a h) Q:=jj (L0 (r.imp λ_ q=>FZ q))
def RK(r:Rn (e a h) λp=>Rn (g p.1 a p.2) λq=>Rn (b q.1 q.2) Q):Rn (aj (fy e g) b a h) Q:=jj (L3 (r.imp λ_ q=>q.imp λ_ q=>FZ q))
def Po(r:Rn (e a h) λp=>Rn (b a p.2) Q):Rn (aj (cX e) b a h) Q:=jj (GU (r.imp λ_ q=>FZ q))
def Vr(r:Rn (m a h) λq=>Q (d::q.1,q.2))(e:a[i]?=some (some d):=by with_unfolding_all rfl):Rn (af (aP i) m a h) Q:=iq (gV e r)
def Vs(r:Rn (m a h) λq=>Q (d::q.1,q.2)):Rn (af (eK d) m a h) Q:=iq (QL r)
def UJ(r:Rn (f [d] h) Q)(e:a[i]?=some (some d):=by with_unfolding_all rfl):Rn (aq f (af (aP i) aY) a h) Q:=JN (iq (gV e (CO r)))
def UI(r:Rn (f [d,c] h) Q)(e:a[i]?=some (some d):=by with_unfolding_all rfl)(b:a[j]?=some (some c):=by with_unfolding_all rfl):Rn (aq f (af (aP i) (af (aP j) aY)) a h) Q:=JN (iq (gV e (iq (gV b (CO r)))))
def UH(r:Rn (f [d,l,c] h) Q)(e:a[i]?=some (some d):=by with_unfolding_all rfl)(g:a[j]?=some (some l):=by with_unfolding_all rfl)(b:a[k]?=some (some c):=by with_unfolding_all rfl):Rn (aq f (af (aP i) (af (aP j) (af (aP k) aY))) a h) Q:=JN (iq (gV e (iq (gV g (iq (gV b (CO r)))))))
def RH(r:Rn (f d c h) Q)(e:a[i]?=some (some d):=by with_unfolding_all rfl):Rn (ak f (aP i) (eK c) a h) Q:=Bi (gV e (QL r))
def RG(r:Rn (f d c h) Q)(e:a[i]?=some (some d):=by with_unfolding_all rfl)(b:a[j]?=some (some c):=by with_unfolding_all rfl):Rn (ak f (aP i) (aP j) a h) Q:=Bi (gV e (gV b r))
def UE(r:Rn (b a h) λq=>Rn (f d q.1 q.2) Q)(e:a[i]?=some (some d):=by with_unfolding_all rfl):Rn (ak f (aP i) b a h) Q:=Bi (gV e r)
def UG(r:Rn (a b h) λq=>Rn (f q.1 c q.2) Q):Rn (ak f a (eK c) b h) Q:=Bi (r.imp λ_ r=>QL r)
def RJ(q:Q ((c.set i (some a)).set j (some b),h)):Rn (gT 2 (ai (gN i) (ai (gN j) bp)) (.tup [a,b]) c h) Q:=Nz rfl (gW (Et (gW (Et (wZ q)))))
def RI(q:Q (((d.set i (some a)).set j (some b)).set k (some c),h)):Rn (gT 3 (ai (gN i) (ai (gN j) (ai (gN k) bp))) (.tup [a,b,c]) d h) Q:=Nz rfl (gW (Et (gW (Et (gW (Et (wZ q)))))))
def Pl(q:Q (.rt d,a,h))(e:a[i]?=some (some d):=by with_unfolding_all rfl):Rn (aR (aP i) a h) Q:=GQ (gV e q)
def Pm(q:Q (.rt d,a,h)):Rn (aR (eK d) a h) Q:=GQ (QL q)
end Sm
namespace L2
open PyProof.Rows
abbrev Uj:Hp:=λ_=>none
structure Tab(P:Program)(w:World)(K:FR)(mg:Str->Option Value)(nm:Str)(tb:List (Str×List Int)):Prop where
 ex:∃(a:Addr)(o:Obj)(es:Array DictEntry)(ep:Nat)(kvs:List (Str×Value)),mg nm=some (.ref a)/\K.lookup a=some o/\o.ExactDict/\o.data=.dict es ep/\(a==sysModules)=false/\KeysOf (strKind P w) es/\Pairs (strKind P w) es.toList kvs/\(kvs.map (·.1)).Nodup/\
  Sm.tW (λ(x:Str×List Int)(y:Str×Value)=>x.1=y.1/\∃(t:Addr)(u:Obj)(its:Array Value)(n:Nat),y.2=.ref t/\K.lookup t=some u/\u.cls=.type "tuple"/\u.dict=none/\u.data=.seq its n/\its.size<=sizeLine/\IntsAre its.toList x.2) tb kvs
def D6{K:FR}:∀{f:List (Str×List Int)} {c:List (Str×Value)},Sm.tW (λ(x:Str×List Int)(y:Str×Value)=>x.1=y.1/\∃(t:Addr)(u:Obj)(d:Array Value)(n:Nat),y.2=.ref t/\K.lookup t=some u/\u.cls=.type "tuple"/\u.dict=none/\u.data=.seq d n/\d.size<=sizeLine/\IntsAre d.toList x.2) f c->∀x:Str,
  (∀i,f.lookup x=some i->∃t,valueAt c x=some (.ref t)/\∀H,i5 K H t (i.map V.int))/\(valueAt c x).isSome=(f.lookup x).isSome:=by
 intro f c h
 induction h with
 | nil=>exactλx=>⟨λi e=>(nomatch e),rfl⟩
 | @cons p q f c r l w=>
  intro x;obtain⟨a,g⟩:=p;obtain⟨b,v⟩:=q;obtain⟨s,t,u,d,n,o,G,F,E,C,A,m⟩:=r;dsimp only at s o m;subst s;subst o
  by_cases k:x=a
  ·subst k;have j:valueAt ((x,Value.ref t)::c) x=some (.ref t):=by unfold valueAt;simp
   have hl:((x,g)::f).lookup x=some g:=by simp
   refine⟨λi e=>?_,by rw[j,hl];rfl⟩;rw[hl] at e;cases e;exact⟨t,j,λH=>.inr ⟨u,d,n,G,F,C,A,nP m,E⟩⟩
  ·have j:valueAt ((a,Value.ref t)::c) x=valueAt c x:=by
    unfold valueAt;rw[AaH (by simpa using λz=>k z.symm)]
   have hl:((a,g)::f).lookup x=f.lookup x:=by
    rw[WE,show(x==a)=false by simpa using k]
   rw[j,hl];exact w x
def Tab.dict(T:Tab X.prog X.w X.K X.mg nm c)(I:Inv X pins σ H s):∃(a:Addr)(b:List (Str×Value)),X.mg nm=some (.ref a)/\(a==sysModules)=false/\s.heap.DictOf (strKind X.prog X.w) a b/\∀x:Str,
  (∀d,c.lookup x=some d->∃t,valueAt b x=some (.ref t)/\∀H,i5 X.K H t (d.map V.int))/\(valueAt b x).isSome=(c.lookup x).isSome:=by
 obtain⟨a,o,es,n,b,m,l,k,j,i,h,g,f,e⟩:=T.ex;exact⟨a,b,m,i,⟨o,es,n,I.xx a o l,k,j,h,g,f⟩,D6 e⟩
def NW(T:Tab X.prog X.w X.K X.mg nm r)(F:Gl X nm)(E:PE X i o)(C:LF i)(hd:(nm==("__debug__":Str))=false):
  PE X (.Subscript (.Name nm p) i pos) (λg H Q=>o g H λy L=>∃x f,y=.str x/\r.lookup x=some f/\∀t,i5 X.K Uj t (f.map V.int)->Q (.ref t) L):=by
 intro b s g H Q I h;obtain⟨a,z,hm,A,dd,N⟩:=T.dict I;refine Jx YW.lookup C (Dn I F hm (cv (E b s g H _ I h) λM s2 u9=>?_) hd);obtain⟨y,J,n,v,x,f,G,l,q⟩:=u9;subst G;obtain⟨t,rfl⟩:=v;obtain⟨O,k,c,m,d,j⟩:=T.dict n;rw[hm] at c;cases c;obtain⟨u,e,sq⟩:=(j x).1 f l;exact⟨d.typeIs,wpAny_getItem_of (by show Value.isStrOf x (.str x t)=true;unfold Value.isStrOf;simp) d.mapOf e ⟨.ref u,J,n.tok _,rfl,q u (sq _)⟩⟩
end L2
namespace Sm
open L2 PyProof.Rows
noncomputable def OU(a:List (Str×List Int))(d:D)(h:MH):Option (D×MH):=match d with
 | .str x=>(a.lookup x).map λb=>(.tup (b.map D.int),h)
 | _=>none
def M5(T:Tab X.prog X.w X.K X.mg nm j)(o:SE X i m)(q:Gl X nm:=by unfold Gl;ac_nf)(n:LF i:=by unfold LF;intro _ _;ac_nf)(hd:(nm==("__debug__":Str))=false:=by ac_nf):SE X (.Subscript (.Name nm p) i pos) (i3 (OU j) m):=
 (NW T q o n hd).imp λσ H Q ⟨f,g,h,d,E,R,S,e,k⟩=>by
  obtain⟨⟨x,r⟩,z,a⟩:=a9 e;dsimp only at a;refine⟨f,g,h,x,r,R,S,z,λv H1 u9=>?_⟩;obtain⟨b,A,C,l⟩:=u9;unfold OU at a
  split at a
  ·rename_i y;obtain⟨c,u,s⟩:=cY a;cases s;cases l;exact⟨_,c,rfl,u,λt sq=>k _ _ ⟨b,A,C,.tup (.inr sq) (repL_ints' c)⟩⟩
  ·cases a
end Sm
namespace Hd
open PySem.W PyProof.Rows L2 Sm
abbrev Sub(h h':Heap):Prop:=∀b o,h.get? b=some o->h'.get? b=some o
def AX(k:Sub h b)(x:rowAt h e=some r):rowAt b e=some r:=by
 unfold rowAt at x ⊢
 split at x
 ·split at x
  ·split at x
   ·rename_i u a;rw[k _ _ a];exact x
   ·cases x
  ·cases x
 ·cases x
theorem o9(k:Sub h a):∀{es:List DictEntry} {r:List (Str×Int×List Int)},k5 h es=some r->k5 a es=some r
 | [],_,x=>x
 | e::es,r,x=>by
  unfold k5 at x ⊢;obtain⟨y,c,x⟩:=Zb.mp x;obtain⟨d,b,x⟩:=WB.mp x;rw[AX k c,o9 k b];exact congrArg some x
def AH(k:Sub h c)(x:tabAt h nm=some r):tabAt c nm=some r:=by
 have f:∀v,h.nsMap mainGlobals nm=some v->c.nsMap mainGlobals nm=some v:=λv e=>by
  unfold Heap.nsMap at e ⊢
  split at e
  ·rename_i o b;rw[k _ _ b];exact e
  ·cases e
 unfold tabAt at x ⊢
 split at x
 ·rename_i a i;rw[f _ i];dsimp only
  split at x
  ·cases x
  ·rename_i d;rw[VH d]
   split at x
   ·rename_i o b;rw[k _ _ b];dsimp only
    split at x
    ·rename_i g;rw[VE g]
     split at x
     ·exact o9 k x
     ·cases x
    ·cases x
   ·cases x
 ·cases x
theorem zJ:∀{b:List Value} {a:List Int},Dt b=some a->IntsAre b a
 | [],_,e=>by cases e;exact .nil
 | v::r,a,e=>by
  cases v <;> first |(exact cb e) | skip
  obtain⟨f,d,c⟩:=WB.mp (show(Dt r).map _=some a from e);subst c;exact .cons _ _ (zJ d)
def Ab(h:DL v t=true):v=.type t:=by
 unfold DL at h
 split at h
 ·rw[WT h]
 ·cases h
theorem rE:∀{es:List DictEntry} {d:List (Str×List Int)},k5 h es=some (d.map λx=>(x.1,hashStr w x.1,x.2))->
  ∃b:List (Str×Value),(∀e∈es,∃k,(PySem.strKind P w).is k e.key=true/\e.hash=(PySem.strKind P w).hash k)/\Pairs (PySem.strKind P w) es b/\b.map (·.1)=d.map (·.1)/\
   tW (λ(x:Str×List Int)(y:Str×Value)=>x.1=y.1/\∃(t:Addr)(u:Obj)(c:Array Value)(n:Nat),y.2=.ref t/\(aJ h).lookup t=some u/\u.cls=.type "tuple"/\u.dict=none/\u.data=.seq c n/\c.size<=sizeLine/\IntsAre c.toList x.2) d b
 | [],d,x=>by
  have p:d=[]:=by
   have:=Option.some.inj x;exact List.map_eq_nil_iff.mp this.symm
  subst p;exact⟨[],λ_ z=>(nomatch z),.nil,rfl,.nil⟩
 | e::es,d,x=>by
  unfold k5 at x;obtain⟨y,a,x⟩:=Zb.mp x;obtain⟨O,M,x⟩:=WB.mp x;cases d with
  | nil=>cases x
  | cons q d=>
   rw[VL] at x;obtain⟨rfl,rfl⟩:=List.cons.inj x;obtain⟨b,G,F,E,C⟩:=rE (P:=P) M;unfold rowAt at a
   split at a
   ·rename_i l m A
    split at a
    ·rename_i t r
     split at a
     ·rename_i u s
      split at a
      ·rename_i i;rw[V1] at i
       split at a
       ·rename_i c n hd
        split at a
        ·rename_i v;obtain⟨o,L,j⟩:=WB.mp a;have J:l=q.1:=congrArg (·.1) j;have I:e.hash=hashStr w q.1:=congrArg (·.2.1) j;have H:o=q.2:=congrArg (·.2.2) j;have g:(PySem.strKind P w).is q.1 e.key=true:=by rw[A,J];show Value.isStrOf q.1 (.str q.1 m)=true;unfold Value.isStrOf;simp
         refine⟨(q.1,.ref t)::b,λN f=>?_,.cons g r F,by rw[VL,VL,E],.cons ⟨rfl,t,u,c,n,rfl,j8 s rfl,Ab i.1,by simpa using i.2,hd,VJ v (by decide),by rw[<-H];exact zJ L⟩ C⟩;rcases VS.mp f with rfl | f
         ·exact⟨q.1,g,I⟩
         ·exact G N f
        ·cases a
       ·cases a
      ·cases a
     ·cases a
    ·cases a
   ·cases a
def tab_of(x:tabAt h nm=some (d.map λx=>(x.1,hashStr w x.1,x.2)))(g:h.Ns mainGlobals mg)(nd:(d.map (·.1)).Nodup):Tab P w (aJ h) mg nm d:=by
 unfold tabAt at x
 split at x
 ·rename_i a k
  split at x
  ·cases x
  ·rename_i f
   split at x
   ·rename_i o i
    split at x
    ·rename_i b;rw[V1,V1] at b
     split at x
     ·rename_i es s hd;obtain⟨c,p,n,m,l⟩:=rE (P:=P) x;have hm:mg nm=some (.ref a):=by
       obtain⟨t,q,r,g1,g2,_,g3⟩:=g;rw[<-g3 nm,<-k];unfold Heap.nsMap;rw[g1];dsimp only;rw[g2]
      exact⟨a,o,es,s,c,hm,j8 i rfl,⟨Ab b.1.1,by simpa using b.1.2,WT b.2⟩,hd,by simpa using f,λe j=>p e (Xx.mpr j),n,by rw[m];exact nd,l⟩
     ·cases x
    ·cases x
   ·cases x
 ·cases x
end Hd
namespace L2
open PyProof.Rows
end L2
namespace Sm
open L2 PyProof.Rows
end Sm
namespace Sb
open L2 PyProof.Rows
open Builtin.SmallTypes (nextOf ownedTupleIsFree ownedTupleHandOut)
abbrev lR(h:Heap)(z T U:Addr)(t:Addr)(f:Bool):Prop:=
 h.get? z=some {cls:=.type "zip",dict:=none,data:=.fields #[rawInt t,.bool f,.bool false,.ref T,.ref U],slots:=#[]}
def alive(b:s.heap.get? a=some o)(h:Q (some o) s):wpAny (model P w) A (loadIfAlive a) Q E s:=by
 have c:Q (s.heap.get? a) s:=by rw[b];exact h
 exactλ_ _ _=>c
def seen(d:lR s.heap z T U t f)(k:∀a,lR a z T U t true->Heap.SameBut z s.heap a->C false {s with heap:=a}):
  wpAny (model P w) A (if(Value.bool f !=Value.bool true)=true then do setField (.ref z) 1 (.bool true);pure false else pure false) C E s:=by
 cases f with
 | true=>rw[VH (by decide)];exact VA (k s.heap d (Heap.SameBut.refl ..))
 | false=>
  rw[VE (by decide)];refine Vx (wpAny_setField_rec d (by simp) λa b c=>VA (k a ?_ c));exact b
def Jo (D:Zp z T U p q l m) (u:lR s.heap z T U t f) (ht:s.heap.get? t=some Y) (M:IsPair s.heap T (.ref p) (.ref q)) (X:At b s.heap p l i) (S:At c s.heap q m i) (hl:Of b s.heap l xs) (hm:Of c s.heap m N) (R:xs[i]?=some x) (O:N[i]?=some y) (k:∀r,lR r z T U t true->At b r p l (i+1)->At c r q m (i+1)->IsPair r s.heap.objs.size x y->r.objs.size=s.heap.objs.size+1->
   (∀a o,a≠z->a≠p->a≠q->s.heap.get? a=some o->r.get? a=some o)->Q (some (.ref s.heap.objs.size)) {s with heap:=r}):wpAny (model P w) A (pyNext (.ref z)) Q E s:=by
 have ty:s.TypeIs (.ref z) "zip":=⟨_,u,rfl⟩;unfold pyNext;refine Vx (XI (Wo (name:=Str.ofString "__next__") ty XR (Wj XR ty Zs ?_ (Zk _))));show wpAny _ _ (field (.ref z) 2 >>=_) _ _ _;refine Vx (Wv u rfl (x:=.bool false) rfl ?_);show wpAny _ _ (field (.ref z) 3 >>=_) _ _ _;refine Vx (Wv u rfl (x:=.ref T) rfl (Vx (WM M rfl ?_)));show wpAny _ _ (ownedTupleIsFree (.ref z) >>=_) _ _ _;refine Vx ?_;unfold ownedTupleIsFree;refine Vx (Wv u rfl (x:=rawInt t) rfl ?_);show wpAny _ _ (loadIfAlive ((t:Int).toNat) >>=_) _ _ _;rw[Wc];refine Vx (alive ht ?_);simp only[Option.isNone_some,V0,WK];refine Vx (Wv u rfl (x:=.bool f) rfl ?_);refine seen u λI C d=>?_;simp only[V0,WK];have J:IsPair I T (.ref p) (.ref q):=d.extBut _ _ D.Tz M;refine Vx ?_;rw[<-XF];simp only[YN,Zx];refine Vx (Vx (Wh ?_));show wpAny _ _ (nextOf (.ref p) >>=_) _ _ _;refine Vx (sH (X.up λo e=>d.extBut _ o D.pz e) (hl.up λo e=>d.extBut _ o D.lz e) R λL H h=>VA ?_);refine VA ?_;refine Vx (Vx (Wh ?_));show wpAny _ _ (nextOf (.ref q) >>=_) _ _ _;refine Vx (sH (S.up λo e=>h.extBut _ o D.pq.symm (d.extBut _ o D.qz e)) (hm.up λo e=>h.extBut _ o D.mp (d.extBut _ o D.mz e)) O λg F j=>VA ?_);refine VA ?_;refine VA ?_;dsimp only;refine Vx (Y7 ?_ (hsz:=by show 2<=sizeLine;rw[Xh];lia));have sz:g.objs.size=s.heap.objs.size:=by rw[j.1,h.1,d.1]
 have v:lR g z T U t true:=j.extBut _ _ D.qz.symm (h.extBut _ _ D.pz.symm C);have n:∀a o,a≠z->a≠p->a≠q->s.heap.get? a=some o->g.get? a=some o:=λa o a1 a3 a4 e=>j.extBut _ _ a4 (h.extBut _ _ a3 (d.extBut _ _ a1 e));have G:At b g p l (i+1):=H.up λo e=>j.extBut _ o D.pq e;refine VA ⟨_,rfl,VA ?_⟩;show Q (some (.ref g.objs.size)) _;rw[sz];refine k (g.push {cls:=.type "tuple",data:=.seq #[x,y]}) (VB _ v) (G.up λo e=>VB _ e) (F.up λo e=>VB _ e) ?_ (by rw[WV,sz]) λa o a1 a3 a4 e=>VB _ (n a o a1 a3 a4 e);rw[<-sz];exact VR _ rfl
def yg(hh:A.handled=none)(D:Zp z T U p q l m)(n:lR s.heap z T U t f)(ht:s.heap.get? t=some S)(N:IsPair s.heap T (.ref p) (.ref q))(J:At b s.heap p l i)(O:At c s.heap q m i)(hl:Of b s.heap l xs)(hm:Of c s.heap m F)(M:xs[i]?=none\/F[i]?=none)(k:∀L,(∀a o,a≠z->a≠p->a≠q->s.heap.get? a=some o->L.get? a=some o)->Q none {s with heap:=L}):wpAny (model P w) A (pyNext (.ref z)) Q E s:=by
 have ty:s.TypeIs (.ref z) "zip":=⟨_,n,rfl⟩;unfold pyNext;refine Vx (XI (Wo (name:=Str.ofString "__next__") ty XR (Wj XR ty Zs ?_ (Zk _))));show wpAny _ _ (field (.ref z) 2 >>=_) _ _ _;refine Vx (Wv n rfl (x:=.bool false) rfl ?_);show wpAny _ _ (field (.ref z) 3 >>=_) _ _ _;refine Vx (Wv n rfl (x:=.ref T) rfl (Vx (WM N rfl ?_)));show wpAny _ _ (ownedTupleIsFree (.ref z) >>=_) _ _ _;refine Vx ?_;unfold ownedTupleIsFree;refine Vx (Wv n rfl (x:=rawInt t) rfl ?_);show wpAny _ _ (loadIfAlive ((t:Int).toNat) >>=_) _ _ _;rw[Wc];refine Vx (alive ht ?_);simp only[Option.isNone_some,V0,WK];refine Vx (Wv n rfl (x:=.bool f) rfl ?_);refine seen n λI C d=>?_;simp only[V0,WK];refine Vx ?_;rw[<-XF];simp only[YN,Zx];refine Vx (Vx (Wh ?_));show wpAny _ _ (nextOf (.ref p) >>=_) _ _ _;cases ex:xs[i]? with
 | none=>
  refine Vx (zx hh (J.up λo e=>d.extBut _ o D.pz e) (hl.up λo e=>d.extBut _ o D.lz e) ex λv e g u9=>?_);obtain⟨y,h,j⟩:=u9;refine Vx (Xg (T:="StopIteration") (b:=true) ⟨y,h,j⟩ X6 (VA (k _ λa o a1 a3 _ r=>g _ _ a3 (d.extBut _ _ a1 r))))
 | some x=>
  have R:F[i]?=none:=by rcases M with r | r;rw[ex] at r;cases r;exact r
  refine Vx (sH (J.up λo e=>d.extBut _ o D.pz e) (hl.up λo e=>d.extBut _ o D.lz e) ex λv G g=>VA ?_);refine VA ?_;refine Vx (Vx (Wh ?_));show wpAny _ _ (nextOf (.ref q) >>=_) _ _ _;refine Vx (zx hh (O.up λo e=>g.extBut _ o D.pq.symm (d.extBut _ o D.qz e)) (hm.up λo e=>g.extBut _ o D.mp (d.extBut _ o D.mz e)) R λH e u u9=>?_);obtain⟨y,h,j⟩:=u9;refine Vx (Xg (T:="StopIteration") (b:=true) ⟨y,h,j⟩ X6 (VA (k _ λa o a1 a3 a4 r=>u _ _ a4 (g.extBut _ _ a3 (d.extBut _ _ a1 r)))))
structure Ly(b c:Bool)(lo:Nat)(z T U p q l m:Addr)(i:Nat)(h:Heap):Prop where
 TB:IsZip h z T U .none\/∃t f ot,lR h z T U t f/\h.get? t=some ot/\lo<=t
 T_:IsPair h T (.ref p) (.ref q)
 U_:∃u v,IsPair h U u v
 p_:At b h p l i
 q_:At c h q m i
def Dw{a:Nat}{t d:Addr}(h:a<=t)(hd:d < a):t≠d:=λe=>absurd (VX hd h) (by rw[e];exact WI _)
def Ly.but{g:Nat}{z T U p q l m d:Addr}{i:Nat}{h n:Heap}(x:Ly b c g z T U p q l m i h)(hd:∀t∈[z,T,U,p,q],t≠d)(hl:d < g)(k:∀a o,a≠d->h.get? a=some o->n.get? a=some o):Ly b c g z T U p q l m i n:=
 ⟨x.TB.imp (λy=>k _ _ (hd z (by simp)) y) λ⟨t,f,r,w,s,j⟩=>⟨t,f,r,k _ _ (hd z (by simp)) w,k _ _ (Dw j hl) s,j⟩,k _ _ (hd T (by simp)) x.T_,let⟨u,v,e⟩:=x.U_;⟨u,v,k _ _ (hd U (by simp)) e⟩,x.p_.up λo e=>k _ o (hd p (by simp)) e,x.q_.up λo e=>k _ o (hd q (by simp)) e⟩
def Ly.next{h:Nat}{z T U p q l m:Addr}{i:Nat}{I H:Array Value}{x y:Value}{Q:Option Value->Shared->Prop}(D:Zp z T U p q l m)(st:Ly b c h z T U p q l m i s.heap)(j:z < h/\U < h/\p < h/\q < h)(Y:h<=s.heap.objs.size)
  (hl:Of b s.heap l I) (hm:Of c s.heap m H) (L:I[i]?=some x) (J:H[i]?=some y)
  (k:∀g,Ly b c h z T U p q l m (i+1) g->IsPair g s.heap.objs.size x y->g.objs.size=s.heap.objs.size+1->
   (∀a o,a≠z->a≠U->a≠p->a≠q->s.heap.get? a=some o->g.get? a=some o)->Q (some (.ref s.heap.objs.size)) {s with heap:=g}):wpAny (model P w) A (pyNext (.ref z)) Q E s:=by
 obtain⟨hr,r,⟨u,v,M⟩,O,N⟩:=st;rcases hr with F |⟨t,f,R,F,ht,d⟩
 ·refine yi D F r M O N hl hm L J λg a1 a2 a3 a4 C G n=>?_;exact k g ⟨.inr ⟨_,false,_,a1,C,Y⟩,n _ _ D.Tz D.TU D.Tp D.Tq r,⟨_,_,a2⟩,a3,a4⟩ C G n
 ·refine Jo D F ht r O N hl hm L J λg a1 a3 a4 C G n=>?_;exact k g ⟨.inr ⟨t,true,R,a1,n _ _ (Dw d j.1) (Dw d j.2.2.1) (Dw d j.2.2.2) ht,d⟩,n _ _ D.Tz D.Tp D.Tq r,⟨u,v,n _ _ D.Uz D.Up D.Uq M⟩,a3,a4⟩ C G λa o n1 _ X S e=>n a o n1 X S e
def Ly.done{G:Nat}{z T U p q l m:Addr}{i:Nat}{j h:Array Value}{Q:Option Value->Shared->Prop}(hh:A.handled=none)(D:Zp z T U p q l m)(st:Ly b c G z T U p q l m i s.heap)
  (hl:Of b s.heap l j) (hm:Of c s.heap m h) (n:j[i]?=none\/h[i]?=none)
  (k:∀d,(∀a o,a≠z->a≠U->a≠p->a≠q->s.heap.get? a=some o->d.get? a=some o)->Q none {s with heap:=d}):wpAny (model P w) A (pyNext (.ref z)) Q E s:=by
 obtain⟨hr,r,⟨u,v,I⟩,y,x⟩:=st;rcases hr with g |⟨t,f,L,g,ht,H⟩
 ·exact Cn hh D g r I y x hl hm n k
 ·exact yg hh D g ht r y x hl hm n λd a=>k d λJ o n1 _ F C e=>a J o n1 F C e
end Sb
namespace PySem
def kq:typeLookup (.type "zip") "__getattr__"=pure none:=by rw[AaD,ZI];ac_nf
def gf:entryFor table "zip.__getattribute__"=some Builtin.«object.__getattribute__»:=
 entryFor_alias (id':="object.__getattribute__") (by ac_nf) (by decide+kernel) (by decide+kernel) (by ac_nf)
def fC(a:Addr)(fs:Array Value)(i:Array (Option Value))(name:Str)(u:Tok)(f:typeLookup (.type "zip") name=pure none)(b:(["__module__","__name__","__qualname__","__doc__","__annotations__"]:List Str).contains name=false)(e:name.length+100<=sizeLine:=by size_fits):
  Meets (Builtin.«object.__getattribute__» ⟨[.ref a,.str name u],[]⟩) (λA R s=>s.heap.get? a=some {cls:=.type "zip",dict:=none,data:=.fields fs,slots:=i}/\raisesAttr (.ref a) name A R s):=
 Meets.of_wp λprog w A R s c=>by
  obtain⟨hp,g,d,h,os⟩:=s;obtain⟨j,c⟩:=c;have k:(⟨hp,g,d,h,os⟩:Shared).TypeIs (.ref a) "zip":=⟨_,j,rfl⟩;unfold Builtin.«object.__getattribute__»
  repeat(any_goals (first | assumption | wp_step))
  simp only[b,V0,WK]
  repeat(any_goals (first | assumption | wp_step))
  exact wpAny_raiseAttrError c.1 c.2 (attrMsg_fits (by decide+kernel) e)
end PySem
namespace L2
open PyProof.Rows
def zF:typeLookup (.type "zip") "keys"=pure none:=by rw[AaD,ZI];ac_nf
def Kv(k:s.heap.get? a=some {cls:=.type "zip",dict:=none,data:=.fields fs,slots:=#[]})(p:A.handled=none)(h:∀i j,(∀b o,s.heap.get? b=some o->i.get? b=some o)->Q none {s with heap:=i,toks:=j}):
  wpAny (model prog w) A (getAttr? (.ref a) "keys") Q E s:=by
 obtain⟨hp,g,d,j,os⟩:=s;have l:∀c,(⟨hp,g,d,c,os⟩:Shared).TypeIs (.ref a) "zip":=λ_=>⟨_,k,rfl⟩;have x:=sub_AttributeError;have v:=Zr.lookup;have u:=Zr.bind (.ref a);have t:=kq;unfold getAttr? getAttrBy? getAttrBy
 repeat(any_goals (first | assumption | exact l _ |((with_reducible show wpAny _ _ (call (Value.builtin "zip.__getattribute__") _ _) _ _ _);refine Y8 Zr (l _) gf (F.args_zip_getattribute_2 _ _) (fC a fs #[] "keys" _ zF (by decide+kernel) (by decide)) ⟨k,p,λi c e f=>?_⟩) | wp_step))
 obtain⟨r,q,m⟩:=f.there;have n:∀c,(⟨i,g,d,c,os⟩:Shared).TypeIs (.ref e) "AttributeError":=λ_=>⟨_,m,rfl⟩;show wpAny _ _ (getattributeRaised _ _ _ _ _ _ _) _ _ _;unfold getattributeRaised
 repeat(any_goals (first | assumption | exact n _ | wp_step))
 exact h _ _ f.keeps
def Inv.uS{a:List (Addr×Obj)}{h:St}{H:Hp}{s:Shared}{h':Heap}{t':Nat}{fp:List Addr}(I:Inv X a h H s)(k:∀b o,b∉fp->s.heap.get? b=some o->h'.get? b=some o)(g:∀b∈fp,eG X a H b):Inv X a h H {s with heap:=h',toks:=t'}:=by
 have f:∀b u,H b=some u->b∉fp:=λb u e z=>by rw[(g b z).1] at e;cases e
 refine I.step (g':=s.gens) (d':=s.drawn) (ch:=fp) (λb j=>?_) (λb o _ _ d e _=>k b o d e) (λb o _ _ d e _=>⟨o.slots,k b o d e⟩) (λ_ _ _ _ n=>n)
  (λb o d e=>⟨o,k b o d e⟩) (λ_ _ e=>e) (λ_ _ _ e=>e) (λb y e=>⟨#[],by rw[e];simp⟩) (λm hm=>?_) (λb u e=>?_) I.bare
 ·obtain⟨_,w,_,t,p,l⟩:=g b j;exact⟨t,w,p,l⟩
 ·obtain⟨o,es,x,i,r⟩:=hm;exact⟨o,es,x,k _ o (λz=>(g _ z).2.1 rfl) i,r⟩
 ·refine(I.aZ b u e).t5 (λc v d q=>k c v ?_ q) (λ_ q=>q) λ_ _ q=>q;rcases d with z | z
  ·rw[z];exact f b u e
  ·exact f c _ z
def eL.off{K:FR}{H:Hp}{a d:Addr}{b:List V}{o:HO}(h:eL K H a b)(hd:H d=none):eL K (upd H d o) a b:=by
 rcases h with h | h
 ·rcases h with h |⟨u,h⟩
  ·exact .inl (.inl (by rw[ao (aO h hd)];exact h))
  ·exact .inl (.inr ⟨u,by rw[ao (aO h hd)];exact h⟩)
 ·exact .inr h
end L2
namespace L2
open PyProof.Rows Sb
theorem kz.off{b:Bool}{K:FR}{H:Hp}{a d:Addr}{c:List V}{o:HO}(h:kz b K H a c)(hd:H d=none):kz b K (upd H d o) a c:=by
 cases b with
 | true=>exact eL.off (show eL K H a c from h) hd
 | false=>exact i5.off (show i5 K H a c from h) hd
structure PN(xs ys:List V)(kvs:List (Key×V)):Prop where
 len:kvs.length=min xs.length ys.length
 at_:∀(i:Nat) kv,kvs[i]?=some kv->xs[i]?=some (kV kv.1)/\ys[i]?=some kv.2
def BW{A:Around}{f:List (Addr×Obj)}{σ:St}{H:Hp}{b c:Bool}{z T U p q l m d:Addr}{lo:Nat}{M L:List V}{kvs:List (Key×V)}{R:Result->Shared->Prop}(hA:A.handled=none)(D:Zp z T U p q l m)(hl:kz b X.K H l M)(hm:kz c X.K H m L)(hr:PN M L kvs)(hk:kvs.length<=1000000)(hd:H d=none)
  (hlo:z < lo/\U < lo/\p < lo/\q < lo) (hdl:d < lo) (F:∀t∈[z,T,U,p,q],t≠d) (hf:∀t∈[z,U,p,q],eG X f H t)
  (h:∀s',Inv X f σ (upd H d (.dK (bz [] kvs))) s'->R (.ok (.ret .none)) s'):∀(n i:Nat)(s:Shared),kvs.length-i=n->i<=kvs.length->lo<=s.heap.objs.size->Ly b c lo z T U p q l m i s.heap->Inv X f σ (upd H d (.dK (bz [] (kvs.take i)))) s->
   codeAny (model X.prog X.w) A (.builtin "dict.update.loop" ⟨[.ref d,.ref z,rawInt i,.none],[]⟩) R s:=by
 have hsz:sizeLine≥1000001:=by decide
 have E:∀o,∀t∈[z,U,p,q],eG X f (upd H d o) t:=λo t ht=>by
  obtain⟨h0,h1⟩:=hf t ht;refine⟨?_,h1⟩;rw[ao (F t (by simp at ht ⊢;rcases ht with rfl | rfl | rfl | rfl <;> simp))];exact h0
 intro n
 induction n with
 | zero=>
  intro i s hn hi r st I;have ei:i=kvs.length:=by lia
  refine Xw iW ?_;rw[WX df _];obtain⟨Z,rv,pl⟩:=Sb.kz.of I (L2.kz.off hl hd (o:=.dK (bz [] (kvs.take i))));obtain⟨Y,k,Q⟩:=Sb.kz.of I (L2.kz.off hm hd (o:=.dK (bz [] (kvs.take i))));have e1:=rv.length;have e2:=k.length;have e3:=hr.len;show wpAny _ _ (pyNext (.ref z) >>=_) _ _ s;refine Vx (st.done hA D pl Q ?_ λh' up=>?_)
  ·rcases Nat.le_total M.length L.length with y | y
   ·left;simp;lia
   ·right;simp;lia
  show wpAny _ _ (Builtin.Dict.addKeywords d [] >>=λ_=>ret .none) _ _ _;have J:=I.uS (t':=s.toks) (h':=h') (fp:=[z,U,p,q]) (λb o g e=>up b o (λy=>g (by simp[y])) (λy=>g (by simp[y])) (λy=>g (by simp[y])) (λy=>g (by simp[y])) e) (E _);refine Vx (VA (VA ?_));rw[ei,Wq] at J;exact h _ J
 | succ n ih=>
  intro i s hn hi r st I;have v:i < kvs.length:=by lia
  refine Xw iW ?_;rw[WX df _];obtain⟨Z,rv,pl⟩:=Sb.kz.of I (L2.kz.off hl hd (o:=.dK (bz [] (kvs.take i))));obtain⟨Y,k,Q⟩:=Sb.kz.of I (L2.kz.off hm hd (o:=.dK (bz [] (kvs.take i))));have u:kvs[i]?=some (kvs[i]'v):=VI _;generalize kvs[i]'v=j at u;obtain⟨hxi,hyi⟩:=hr.at_ i j u;obtain⟨S,hku,rk⟩:=rv.get hxi;obtain⟨N,hvu,P⟩:=k.get hyi;show wpAny _ _ (pyNext (.ref z) >>=_) _ _ s;refine Vx (st.next D hlo r pl Q (x:=S) (y:=N) (by simpa using hku) (by simpa using hvu) λh' O pt sz up=>?_);have J:=I.uS (t':=s.toks) (h':=h') (fp:=[z,U,p,q]) (λb o g e=>up b o (λy=>g (by simp[y])) (λy=>g (by simp[y])) (λy=>g (by simp[y])) (λy=>g (by simp[y])) e) (E _);dsimp only;refine Vx (Wh ?_);refine Vx (wpAny_tryCatch ?_);unfold Builtin.Dict.pairItems;refine Vx (Yt (T:="tuple") ⟨_,pt,rfl⟩ ?_);rw[VE (by decide)];refine Vx (WM pt rfl (VA ?_));show wpAny _ _ (holding [S,N] (dictSet d S N)) _ _ _;refine Wh ?_;have ed:upd H d (.dK (bz [] (kvs.take i))) d=some (.dK (bz [] (kvs.take i))):=aC;obtain⟨zz,hdm,vs,C,dd⟩:=vW J.aZ ed;have hz3:vs.length<=sizeLine:=by rw[<-C.length];exact zz
  unfold dictSet;refine Wh (Vx ((bc X.prog X.w).pyHash (jA rk) ?_));refine wpAny_dictSetHashed_pairs (hsz:=hz3) (jA rk) dd λh2 G hs=>?_;have he:∃q,h2.get? d=some q:=let⟨q,_,_,hq,_⟩:=G;⟨q,hq⟩;have e2:putK (bz [] (kvs.take i)) j.1 j.2=bz [] (kvs.take (i+1)):=by
   rw[W0,u,<-zy];rfl
  have hl2:(putK (bz [] (kvs.take i)) j.1 j.2).length<=sizeLine:=by
   rw[e2];have:=gH (kvs.take (i+1)) [];rw[V4] at this;simp only[WZ] at this
   lia
  have I2:=gv (t':=s.toks+1) J (by rw[ed];exact True.intro) hs he (xP (H':=upd (upd H d (.dK (bz [] (kvs.take i)))) d (.dK (putK (bz [] (kvs.take i)) j.1 j.2))) hl2 hdm (C.put j.1 P) G);rw[Jq,e2] at I2;have hc:((i:Int)+1)=((i+1:Nat):Int):=by push_cast;rfl
  rw[hc];refine VA ⟨XX df _,ih (i+1) _ (by clear he hi;lia) v ?_ ?_ I2⟩
  ·show lo<=h2.objs.size;have:h2.objs.size=h'.objs.size:=hs.1;rw[this,sz];exact W6 r
  ·exact O.but F hdl λa o na e=>hs.extBut _ _ na e
def Bp{a z:Expr}{ta:TA}{p pos p2 k:Pos}(hc:X.calm=true)(R:Gl X "dict")(P:X.mg "dict"=none)(hv:bootBuiltins "dict"=some (.type "dict"))(hg:Gl X "zip")(hm:X.mg "zip"=none)(ha:PA X [a,z] ta)
  (hs:starEach [a,z] X.env=[(false,eval a X.env),(false,eval z X.env)]) (E:starEach [z] X.env=[(false,eval z X.env)]):
  PE X (.Call (.Name "dict" p) [.Call (.Name "zip" p2) [a,z] [] k] [] pos) (λσ H Q=>ta σ H λZ x=>∃l m b c O M kvs,Z=[.ref l,.ref m]/\kz b X.K x l O/\kz c X.K x m M/\PN O M kvs/\kvs.length<=1000000/\∀q,x q=none->Q (.ref q) (upd x q (.dK (bz [] kvs)))):=by
 intro i s σ H Q I h;refine XM (fU I R P hv ?_);refine WC ?_ rfl rfl;show wpAny _ _ (spliced ((false,eval (.Call (.Name "zip" p2) [a,z] [] k) X.env)::backTo pos (starEach [] X.env))) _ _ s;refine Z1 ?_;refine XM (fU I hg hm Sb.boot_zip (WC (cv (ha k i s σ H _ I h) λus s1 ⟨Z,x,L,r1,q1⟩=>?_) (by rw[hs,E]) (by rw[E];rfl)));obtain⟨l,m,b,c,O,M,kvs,e,hq,G,hr,hk,q⟩:=q1;subst e;obtain⟨u,v,rfl,ru,C⟩:=Vals.two r1;obtain rfl:u=Value.ref l:=ru;obtain rfl:v=Value.ref m:=C;obtain⟨its,rv,hO⟩:=hq.of L;obtain⟨its',C,J⟩:=G.of L;refine yh hO J λg a1 a2 a3 a4 a5 a6 a7=>?_;have Y:L2.Inv X i σ x {s1 with heap:=g}:=L.kept (t':=s1.toks) a7;have S:∀d,s1.heap.objs.size<=d->eG X i x d:=λd hd=>L.sY hd (L.aZ.fresh hd);have ll:l < s1.heap.objs.size:=by obtain⟨o,n,e,_⟩:=hO.data;exact VP e
 have lm:m < s1.heap.objs.size:=by obtain⟨o,n,e,_⟩:=J.data;exact VP e
 have D:Zp (s1.heap.objs.size+4) (s1.heap.objs.size+2) (s1.heap.objs.size+3) s1.heap.objs.size (s1.heap.objs.size+1) l m:=LM _ _ _ ll lm;have hA:X.A.handled=none:=I.ok.hd hc;refine Aae ?_;generalize hn:s1.heap.objs.size=N at*;refine callType_codes (Q₁:=λobj y=>obj=.ref g.objs.size/\y={s1 with heap:=g.push {cls:=.type "dict",data:=.dict #[]}}) F.kt_called_dict (F.kt_typeCall_dict_1 _) F.entry_dict_init (kt_code_dict_new _ ⟨rfl,rfl⟩) ?_;rintro obj y ⟨rfl,rfl⟩;have hd:x g.objs.size=none:=Y.fresh;have r:(g.push {cls:=.type "dict",data:=.dict #[]}).DictOf (bc X.prog X.w) g.objs.size []:=Heap.DictOf.new g;have I3:Inv X i σ (upd x g.objs.size (.dK [])) {s1 with heap:=g.push {cls:=.type "dict",data:=.dict #[]}}:=Y.laid (t':=s1.toks) (λ_ _ q=>VB _ q) (VG _) (m9 g Y.big);refine⟨r.typeIs,F.args_dict_init_2 _ _,?_⟩;unfold Builtin.«dict.__init__»;refine Vx ?_;unfold Builtin.Dict.selfAndRest;refine Vx (wpAny_notOrdered_dict r.typeIs ?_);show wpAny _ _ (pure (g.objs.size,[Value.ref (N+4)])) _ _ _;refine VA ?_;show wpAny _ _ (Builtin.Dict.updateFrom "dict.__init__" g.objs.size (.ref (N+4)) [] .none) _ _ _;unfold Builtin.Dict.updateFrom;have b1:IsZip (g.push {cls:=.type "dict",data:=.dict #[]}) (N+4) (N+2) (N+3) .none:=VB _ a1;refine Vx (Yt (T:="zip") ⟨_,b1,rfl⟩ ?_);rw[VE (by decide)];refine Vx (Kv b1 (by exact hA) λU tk keep=>?_);have I4:=I3.kept (t':=tk) keep;have j:∀a o,g.get? a=some o->U.get? a=some o:=λa o e=>keep a o (VB _ e);simp only[Option.isNone_none,Yi];refine Vx (Xe (Vx (wpAny_pyIter_zip (f0:=.none) (j _ _ a1) ?_)));have f:g.objs.size < U.objs.size:=by obtain⟨o,_,_,e,_⟩:=r;exact VP (keep _ _ e)
 refine VA ⟨XX df _,?_⟩;refine BW (X:=X) (σ:=σ) (H:=x) (kvs:=kvs) (lo:=U.objs.size) (by exact hA) D hq G hr hk hd ⟨?_,?_,?_,?_⟩ f (λt ht=>?_) (λt ht=>?_) (λs' I'=>⟨rfl,⟨.ref _,_,I',rfl,q _ hd⟩⟩) kvs.length 0 _ (by lia) (Wm _) (VG _) ⟨.inl (j _ _ a1),j _ _ a2,⟨_,_,j _ _ a3⟩,a4.up λo e=>j _ o e,a5.up λo e=>j _ o e⟩ I4
 ·exact VX (VP a1) (WD f)
 ·exact VX (VP a3) (WD f)
 ·exact VX a4.lt (WD f)
 ·exact VX a5.lt (WD f)
 ·simp at ht;rw[a6];rcases ht with rfl | rfl | rfl | rfl | rfl <;> (refine V6 ?_;lia)
 ·refine S t ?_;simp at ht;rcases ht with rfl | rfl | rfl | rfl <;> lia
end L2
namespace Sm
open L2 PyProof.Rows Sb
def uZ:List D->List D->Option (List (Key×D))
 | x::r,y::s=>(lG x).bind λk=>(uZ r s).map λa=>(k,y)::a
 | _,_=>some []
def BS(m:AM):EM:=λb h=>(m b h).bind λp=>match p.1 with
 | [d,e]=>(b9 d p.2).bind λf=>(b9 e p.2).bind λc=>(uZ f.1 c.1).bind λa=>if a.length<=1000000 then some (.dv (iy [] a),p.2) else none
 | _=>none
def JB{K:FR}{j:Ad}{H:Hp}:∀{d:List V} {g:List D} {us:List V} {f:List D} {h:List (Key×D)},aw K j H d g->aw K j H us f->uZ g f=some h->∃c,PN d us c/\bq K j H c h:=by
 intro d
 induction d with
 | nil=>intro g us f h a _ e;cases a;cases e;exact⟨[],⟨by simp,λi k z=>by simp at z⟩,.nil⟩
 | cons v d s=>
  intro g us f h a b e;cases a with | cons n r=>
  cases b with
  | nil=>cases e;exact⟨[],⟨by simp,λi k z=>by simp at z⟩,.nil⟩
  | @cons u us _ _ m p=>
  obtain⟨ky,A,y⟩:=a9 e;obtain⟨q,x,w⟩:=cY y;subst w;obtain⟨c,l,o⟩:=s r p x;have t:=gq n A;subst t;refine⟨(ky,u)::c,⟨by simp[l.len,Nat.succ_min_succ],λi k z=>?_⟩,.cons m o⟩;cases i with
  | zero=>cases z;exact⟨rfl,rfl⟩
  | succ i=>exact l.at_ i k (by simpa using z)
def Gm{a b:Expr}{m:AM}{p pos i f:Pos}(U:X.calm=true)(t:Gl X "dict")(s:X.mg "dict"=none)(N:bootBuiltins "dict"=some (.type "dict"))(T:Gl X "zip")(hm:X.mg "zip"=none)(Y:SA X [a,b] m)(hl:kA m 2)
  (O:starEach [a,b] X.env=[(false,eval a X.env),(false,eval b X.env)]:=by ac_nf) (r:starEach [b] X.env=[(false,eval b X.env)]:=by ac_nf):
  SE X (.Call (.Name "dict" p) [.Call (.Name "zip" i) [a,b] [] f] [] pos) (BS m):=(Bp U t s N T hm Y O r).imp λσ H Q E=>by
 obtain⟨A,C,h,d0,h',R,S,e,k⟩:=E;obtain⟨⟨ds,Z⟩,y,e2⟩:=a9 e;refine⟨A,C,h,ds,Z,R,S,y,λvs z H1 T1 u G=>?_⟩;obtain⟨d,d',rfl⟩:=OD (hl _ _ _ _ y);obtain⟨⟨xs,w⟩,e3,e4⟩:=a9 e2;obtain⟨⟨ys,w'⟩,e5,e6⟩:=a9 e4;obtain⟨J,x,g⟩:=a9 e6;dsimp only at x g
 by_cases c:J.length<=1000000
 ·rw[VE c] at g;cases g;obtain⟨v,v',rfl,rd,n⟩:=rep2 G;obtain⟨a,rfl,⟨us,q,l⟩,st⟩:=ij u rd e3;obtain⟨a',rfl,⟨j,I,M⟩,F⟩:=ij u n e5;obtain⟨o,L,i⟩:=JB l M x;exact⟨a,a',sS d,sS d',us,j,o,rfl,q.Cy,I.Cy,L,by rw[i.len];exact c,λq P=>k _ _ (dB.step T1 (.dv u (bq.merge .nil i) P))⟩
 ·rw[VH c] at g;cases g
end Sm
namespace Sb
open L2 PyProof.Rows
variable {P:Program} {w:World} {A:Around} {E:Value->Shared->Prop} {s:Shared} {b c:Bool}
end Sb
namespace Sb
open L2 PyProof.Rows
variable {P:Program} {w:World} {A:Around} {E:Value->Shared->Prop} {s:Shared} {b c:Bool}
end Sb
namespace L2
open PyProof.Rows Sb
end L2
namespace Sm
open L2 PyProof.Rows Sb
end Sm
namespace PySem
end PySem
namespace L2
open PyProof.Rows
end L2
namespace Sm
open L2 PyProof.Rows
end Sm
namespace L2
open PyProof.Rows
def dQ(a:Array Nat):Prop:=∀i j (b:i < a.size) (hj:j < a.size),i < j->a[i] < a[j]
theorem tK(c:Array Nat)(j:Nat)(k:dQ c):∀(fuel b a:Nat),a-b<=fuel->b<=a->a<=c.size->(∀i (h:i < c.size),i < b->c[i] < j)->(∀i (h:i < c.size),a<=i->j<=c[i])->
  SetTable.below.go c j fuel b a<=c.size/\(∀i (h:i < c.size),i < SetTable.below.go c j fuel b a->c[i] < j)/\(∀i (h:i < c.size),SetTable.below.go c j fuel b a<=i->j<=c[i])
 | 0,b,a,hf,hl,g,m,l=>by
  have:b=a:=Zm hl (AaM (Nat.le_zero.mp hf));subst this;unfold SetTable.below.go;exact⟨g,m,l⟩
 | fuel+1,b,a,hf,hl,g,m,l=>by
  unfold SetTable.below.go
  by_cases d:b < a
  ·rw[VE d];dsimp only;have o:b<=(b+a) / 2:=(Nat.le_div_iff_mul_le (by decide)).mpr (by lia);have n:(b+a) / 2 < a:=(Nat.div_lt_iff_lt_mul (by decide)).mpr (by lia);have hm:=VX n g;have p:c.getD ((b+a) / 2) j=c[(b+a) / 2]:=by simp[Array.getD,hm]
   rw[p]
   by_cases f:c[(b+a) / 2] < j
   ·rw[VE f];refine tK c j k fuel _ _ (WU (VX (Nat.sub_lt_sub_left d (Nat.lt_succ_of_le o)) hf)) n g (λi h e=>?_) l;rcases X2 i ((b+a) / 2) with q | q
    ·exact YS (k i _ h hm q) f
    ·have:i=(b+a) / 2:=Zm (WU e) q;subst this;exact f
   ·rw[VH f];refine tK c j k fuel _ _ (WU (VX (Nat.sub_lt_sub_right o n) hf)) o (WD hm) m (λi h e=>?_);rcases X2 ((b+a) / 2) i with q | q
    ·exact VJ (WR f) (WD (k _ i hm h q))
    ·have:i=(b+a) / 2:=Zm q e;subst this;exact WR f
  ·rw[VH d];have:b=a:=by lia
   subst this;exact⟨g,m,l⟩
def iE(a:Array Nat)(j:Nat)(b:dQ a):SetTable.below a j<=a.size/\(∀i (h:i < a.size),i < SetTable.below a j->a[i] < j)/\(∀i (h:i < a.size),SetTable.below a j<=i->j<=a[i]):=
 tK a j b _ _ _ (by simp) (Wm _) (VG _) (λi h z=>absurd z (WJ _)) (λi h z=>absurd (VX h z) (WI _))
def hY(c:dQ xs)(h:xs[i]?=some j):SetTable.below xs j=i:=by
 obtain⟨a,e⟩:=Yh.mp h;have b:=iE xs j c;rcases ZR (SetTable.below xs j) i with q | q | q
 ·have f:=b.2.2 (SetTable.below xs j) (by clear b;lia) (VG _);have d:=c _ i (YS q a) a q
  lia
 ·exact q
 ·have:=b.2.1 i a q
  lia
def uX{t:SetTable}{i j:Nat}(a:dQ t.place)(h:t.place[i]?=some j):t.slot j=.live i:=by
 unfold SetTable.slot;rw[hY a h];dsimp only;rw[VE (by rw[h];simp)]
def AO{t:SetTable}{j:Nat}(hd:t.dummies=#[])(h:j∉t.place.toList):t.slot j=.empty:=by
 unfold SetTable.slot;dsimp only;rw[VH (by
  intro z;have z:=eq_of_beq z;exact h (by rw[Xx];exact Zo z)),hd]
 rfl
noncomputable def road(t:SetTable)(h:Int):Nat->SetTable.Probe
 | 0=>t.probeStart h
 | n+1=>t.advance (road t h n)
theorem ve(e:t.mask=a.mask)(h:Int):∀n,road t h n=road a h n
 | 0=>by show t.probeStart h=a.probeStart h;unfold SetTable.probeStart;rw[e]
 | n+1=>by
  show t.advance (road t h n)=a.advance (road a h n);rw[ve e h n];unfold SetTable.advance;rw[e]
theorem rH(t:SetTable)(h:Int):∀n,(road t h n).dummy=none
 | 0=>rfl
 | n+1=>by
  have:=rH t h n;show(t.advance (road t h n)).dummy=none;unfold SetTable.advance
  split
  ·exact this
  ·exact this
theorem rK(hm:t.mask=7)(h:Int):∀n,(road t h n).more=0/\(road t h n).j=(road t h n).i/\(road t h n).i < 8/\(road t h n).perturb=SetTable.bits h / 32^n
 | 0=>by
  show(t.probeStart h).more=0/\_;unfold road SetTable.probeStart SetTable.runEnd;rw[hm];dsimp only;refine⟨by rw[VH (by lia)];simp,rfl,Aag _ (Yk _),by simp⟩
 | n+1=>by
  obtain⟨b,d,c,a⟩:=rK hm h n;show(t.advance (road t h n)).more=0/\(t.advance (road t h n)).j=(t.advance (road t h n)).i/\(t.advance (road t h n)).i < 8/\(t.advance (road t h n)).perturb=_;unfold SetTable.advance SetTable.leap SetTable.runEnd;rw[hm,b,VH (by decide)];dsimp only;refine⟨by rw[VH (by simp)];simp,rfl,Aag _ (Yk _),?_⟩;rw[a,Nat.div_div_eq_div_mul,Nat.pow_succ]
def AY(hm:t.mask=7)(h:Int)(n:Nat):(road t h (n+1)).i=((road t h n).i*5+1+(road t h n).perturb / 32) % 8:=by
 obtain⟨a,d,c,b⟩:=rK hm h n;show(t.advance (road t h n)).i=_;unfold SetTable.advance SetTable.leap;rw[hm,a,VH (by decide)]
def Ls(h:Int):SetTable.bits h < 32^13:=by
 unfold SetTable.bits;have:h % (2^64:Int) < 2^64:=Xv _ (by decide);have a:0<=h % (2^64:Int):=W9 _ (by decide)
 lia
noncomputable def Vo(i:Nat):Nat:=(i*5+1) % 8
def KH:Nat->Nat->Nat
 | 0,i=>i
 | n+1,i=>Vo (KH n i)
theorem rJ(hm:t.mask=7)(h:Int):∀k,(road t h (13+k)).j=KH k (road t h 13).j
 | 0=>rfl
 | k+1=>by
  have a:=rJ hm h k;rw[(rK hm h _).2.1] at a;rw[(rK hm h _).2.1,show 13+(k+1)=(13+k)+1 from rfl,AY hm h (13+k),(rK hm h _).2.2.2];have b:SetTable.bits h / 32^(13+k) / 32=0:=by
   have:SetTable.bits h / 32^(13+k)=0:=by
    refine Nat.div_eq_of_lt (VX (Ls h) ?_);exact AaQ (Yk _) (by simp)
   rw[this]
  rw[b,a];rfl
def KI:∀i:_root_.Fin 8,∀j:_root_.Fin 8,∃k:_root_.Fin 8,KH k.1 i.1=j.1:=by decide
def lcg_all'(i j:Nat)(b:i < 8)(hj:j < 8):∃k,k < 8/\KH k i=j:=by
 obtain⟨k,a⟩:=KI ⟨i,b⟩ ⟨j,hj⟩;exact⟨k.1,k.2,a⟩
def Ek(hm:t.mask=7)(h:Int)(j:Nat)(hj:j < 8):∃n,n < 21/\(road t h n).j=j:=by
 have a:(road t h 13).j < 8:=by rw[(rK hm h 13).2.1];exact(rK hm h 13).2.2.1
 have hl:=rJ hm h;revert a hl;generalize (road t h 13).j=r;intro a hl;obtain⟨k,b,c⟩:=lcg_all' r j a hj;exact⟨13+k,by exact Yq b _,(hl k).trans c⟩
theorem sG [DecidableEq W]:∀(l a:List W),l.Nodup->(∀x∈l,x∈a)->l.length<=a.length
 | [],a,_,_=>Wm _
 | x::l,a,hn,d=>by
  have hn:=XJ.mp hn;have c:=d x (.head _);have:=sG l (a.erase x) hn.2 λy b=>by
   have:y≠x:=λe=>hn.1 (e ▸ b);exact(List.mem_erase_of_ne this).mpr (d y (.tail _ b))
  rw[List.length_erase_of_mem c] at this;have f:0 < a.length:=AaG c;exact Wr this (Nat.sub_lt f Nat.one_pos)
def AZ(hm:t.mask=7)(h:Int)(d:t.place.size < 8):∃n,n < 21/\(road t h n).j∉t.place.toList:=by
 have:∃j,j < 8/\j∉t.place.toList:=by
  apply Xo;intro z;have a:List.range 8 ⊆ t.place.toList:=λj hj=>by
   apply Xo;intro q;exact z ⟨j,WY.mp hj,q⟩
  have:=sG (List.range 8) t.place.toList ZY a;simp at this
  lia
 obtain⟨j,hj,hn⟩:=this;obtain⟨n,c,b⟩:=Ek hm h j hj;exact⟨n,c,by rw[b];exact hn⟩
theorem HY [DecidablePred p]:∀{n:Nat},p n->∃m,m<=n/\p m/\∀i,i < m->¬p i
 | 0,h=>⟨0,VG _,h,λi a=>absurd a (WJ _)⟩
 | n+1,h=>by
  by_cases q:∃i,i<=n/\p i
  ·obtain⟨i,a,hp⟩:=q;have:∀k,k<=n->p k->∃m,m<=k/\p m/\∀i,i < m->¬p i:=by
    intro k
    induction k using Nat.strongRecOn with
    | _ k f=>
     intro j b
     by_cases e:∃i,i < k/\p i
     ·obtain⟨i,a,hp⟩:=e;obtain⟨m,g,d,c⟩:=f i a (by lia) hp;exact⟨m,by lia,d,c⟩
     ·exact⟨k,VG _,b,λi a hp=>e ⟨i,a,hp⟩⟩
   obtain⟨m,g,d,c⟩:=this i a hp;exact⟨m,by lia,d,c⟩
  ·exact⟨n+1,VG _,h,λi a hp=>q ⟨i,by exact WU a,hp⟩⟩
theorem y9{t:SetTable}(n:dQ t.place)(hd:t.dummies=#[])(a:Nat->Int)(h:Int){N:Nat}(u:(road t h N).j∉t.place.toList):∀(fuel m:Nat),m<=N->N-m < fuel->(∀i,i < N->(road t h i).j∈t.place.toList)->
  (SetTable.probe.go t a h fuel (road t h m)=some (.empty (road t h N).j none)/\(∀c i,m<=c->c < N->t.place[i]?=some (road t h c).j->a i≠h))\/
  ∃c i,m<=c/\c < N/\t.place[i]?=some (road t h c).j/\a i=h/\(∀k i,m<=k->k < c->t.place[i]?=some (road t h k).j->a i≠h)/\SetTable.probe.go t a h fuel (road t h m)=some (.candidate (road t h c).j i (road t h (c+1)))
 | 0,m,hm,hf,hl=>absurd hf (WJ _)
 | fuel+1,m,hm,hf,hl=>by
  unfold SetTable.probe.go
  by_cases e:m=N
  ·subst e;rw[AO hd u];refine .inl ⟨?_,λc i g f=>absurd f (Aaf.mpr g)⟩;rw[rH]
  ·have d:m < N:=by lia
   obtain⟨i,x,w⟩:=AaR (Xx.mp (hl m d));have o:t.place[i]?=some (road t h m).j:=by rw[We x,w]
   rw[uX n o];dsimp only;have l:∀b,t.place[b]?=some (road t h m).j->b=i:=λb E=>(hY n E).symm.trans (hY n o)
   by_cases hh:a i=h
   ·refine .inr ⟨m,i,VG _,d,o,hh,λk b g f=>absurd f (Aaf.mpr g),?_⟩;rw[VE (by rw[hh];simp)];rfl
   ·rw[VH (by simpa using hh)];show _\/_;rcases y9 n hd a h u fuel (m+1) d (VX (Nat.sub_lt_sub_left d (W3 m)) (WU hf)) hl with⟨g,f⟩ |⟨c,v,g,f,C,A,z,y⟩
    ·refine .inl ⟨g,λc b s r hp=>?_⟩;rcases Nat.eq_or_lt_of_le s with q | q
     ·subst q;rw[l b hp];exact hh
     ·exact f c b q r hp
    ·refine .inr ⟨c,v,by exact WD g,f,C,A,λk b s p hp=>?_,y⟩;rcases Nat.eq_or_lt_of_le s with q | q
     ·subst q;rw[l b hp];exact hh
     ·exact z k b q p hp
end L2
namespace L2
open PyProof.Rows PySem.SeqAt
def qE:∀(n:Nat) {d e:PyData},bQ n d=true->bQ n e=true->PyData.eqv d e=true->d=e:=by
 intro n
 induction n with
 | zero=>
  intro d e hd i h;cases d <;> cases e <;> simp_all [bQ,PyData.eqv]
 | succ n j=>
  have hl:∀(b a:List PyData),b.all (bQ n)=true->a.all (bQ n)=true->PyData.eqvAll b a=true->b=a:=by
   intro b
   induction b with
   | nil=>intro a _ _ h;cases a with | nil=>rfl | cons _ _=>simp[PyData.eqvAll] at h
   | cons x b c=>
    intro a g f h;cases a with
    | nil=>simp[PyData.eqvAll] at h
    | cons y a=>
     rw[X8,V1] at g f;rw[PyData.eqvAll,V1] at h;rw[j g.1 f.1 h.1,c a g.2 f.2 h.2]
  intro d e hd i h;cases d <;> cases e <;> first
   |(simp_all [bQ,PyData.eqv];done)
   |(rename_i b a;rw[PyData.eqv] at h;rw[hl b a hd i h])
def qF:∀(n:Nat) {d:PyData},bQ n d=true->d.canLay0=true/\d.depth<=n:=by
 intro n
 induction n with
 | zero=>
  intro d hd;cases d <;> simp_all [bQ,PyData.canLay0,PyData.depth]
 | succ n e=>
  have hl:∀(a:List PyData),a.all (bQ n)=true->PyData.canLayAll0 a=true/\PyData.depthAll a<=n:=by
   intro a
   induction a with
   | nil=>intro _;exact⟨by simp[PyData.canLayAll0],by simp[PyData.depthAll]⟩
   | cons x a c=>
    intro b;rw[X8,V1] at b;obtain⟨a1,a2⟩:=e b.1;obtain⟨f,g⟩:=c b.2;refine⟨by rw[PyData.canLayAll0,a1,f];rfl,?_⟩;rw[PyData.depthAll];clear b;lia
  intro d hd;cases d <;> first
   |(simp_all [bQ,PyData.canLay0,PyData.depth];done)
   |(rename_i a;obtain⟨a1,a2⟩:=hl a hd;refine⟨(by rw[PyData.canLay0];exact a1),?_⟩;rw[PyData.depth];lia)
def E2:∀(n:Nat) {A:Around} {s:Shared} {d:PyData} {v:Value} {p:List Addr} {Q:Int->Shared->Prop},A.units+n < cLine->bQ n d=true->Reads s.heap v d p->(∀k,Q (cS w n d) {s with toks:=s.toks+k})->
  wpAny (model P w) A (pyHash v) Q E s:=by
 have j:∀(n:Nat) {A:Around} {s:Shared} {d:PyData} {v:Value} {p:List Addr} {Q:Int->Shared->Prop},(∀c,d≠.tuple c)->bQ n d=true->Reads s.heap v d p->(∀k,Q (cS w n d) {s with toks:=s.toks+k})->wpAny (model P w) A (pyHash v) Q E s:=by
  intro n A s d v p Q f hp hr h;cases hr with
  | int i t=>exact(bc P w).pyHash (k:=.inl i) (jy P w i t) (by have:=h 1;cases n <;> exact this)
  | str x t=>exact(bc P w).pyHash (k:=.inr x) (jx P w x t) (by have:=h 1;cases n <;> exact this)
  | tuple=>exact absurd rfl (f _)
  | none=>cases n <;> simp[bQ] at hp
  | bool=>cases n <;> simp[bQ] at hp
  | list=>cases n <;> simp[bQ] at hp
  | dict=>cases n <;> simp[bQ] at hp
 intro n
 induction n with
 | zero=>
  intro A s d v p Q M hp hr h;exact j 0 (λc e=>by subst e;simp[bQ] at hp) hp hr h
 | succ n L=>
  intro A s d v p Q M hp hr h
  by_cases f:∀c,d≠.tuple c
  ·exact j (n+1) f hp hr h
  ·have:∃c,d=.tuple c:=Xo λz=>f λc e=>z ⟨c,e⟩;obtain⟨c,rfl⟩:=this;cases hr with
   | @tuple a o R m _ _ J N hd u=>
    have C:s.TypeIs (.ref a) "tuple":=⟨o,J,N⟩;have q:c.all (bQ n)=true:=hp;unfold pyHash
    first | unfold pyHashByItsType | skip
    first | refine Vx (wpAny_cRoomFor_or (.inr (by clear f;lia)) ?_) | skip
    refine Vx (XC C Xq.lookup ?_);show wpAny _ _ (if(some (Value.builtin "tuple.__hash__")==some Value.none)=true then _ else _) Q E s;rw[VH (by rw[beq_builtin_none];exact V8)];refine Vx (XC C Xq.lookup ?_);show wpAny _ _ (callSpecialIfBoundUnlessNone? (.ref a) "__hash__" _ >>=_) Q E s;refine Vx (ZH C Xq (Wj Xq C F.entry_tuple_hash ?_ (F.args_tuple_hash_1 _)));show wpAny _ _ (Builtin.Tuple.tupleItemsOf (.ref a) >>=_) _ _ s;refine Vx (wpAny_tupleItemsOf J hd ?_);refine Vx ?_;rw[<-XF];refine Yu _
     (λg (b:Array Int) G=>∃done left l,c=done++left/\ReadsAll s.heap g left l/\b.toList=done.map (cS w n)/\∃k,G={s with toks:=s.toks+k})
     _ ?_ ?_ _ _ ⟨[],c,_,rfl,u,rfl,0,rfl⟩
    ·rintro x g b G ⟨done,left,l,e,hl,y,k,rfl⟩;cases hl with
     | @cons _ _ d1 ds bs cs O r=>
      have H:bQ n d1=true:=by
       rw[Xd] at q;exact q d1 (by rw[e];simp)
      refine Vx (L (A:=A.in1) (s:={s with toks:=s.toks+k}) (by rw[YR];clear f;lia) H O λI=>?_)
      first
       | exact VA ⟨done++[d1],ds,_,by rw[e];simp,r,by simp[y],k+I,by simp[XQ]⟩
       | exact Vx (VA (VA ⟨done++[d1],ds,_,by rw[e];simp,r,by simp[y],k+I,by simp[XQ]⟩))
    ·rintro b G ⟨done,left,l,e,hl,y,k,rfl⟩;cases hl;rw[Wl] at e;subst e;show wpAny _ _ (retInt (Builtin.Tuple.tupleHashOf b.toList)) _ _ _;rw[y];refine wpAny_ret_mkInt ?_;show wpAny _ _ (if(decide (-(2:Int)^63<=Builtin.Tuple.tupleHashOf (c.map (cS w n)))&&decide (Builtin.Tuple.tupleHashOf (c.map (cS w n)) < 2^63))=true then _ else _) Q E _;have h:=h (k+1);unfold cS reduceHash at h
     by_cases hr:(decide (-(2:Int)^63<=Builtin.Tuple.tupleHashOf (c.map (cS w n)))&&decide (Builtin.Tuple.tupleHashOf (c.map (cS w n)) < 2^63))=true
     ·rw[VE hr];rw[VE hr] at h;exact VA (by simpa [XQ] using h)
     ·rw[VH hr];rw[VH hr] at h;exact Vx (Xe (VA (by simpa [XQ] using h)))
def zZ(n:Nat)(i:A.units+n < cLine)(c:bQ n d=true)(b:bQ n e=true)(rd:Reads s.heap u d as)(a:Reads s.heap v e bs)(h:Q (PyData.eqv d e) s):
  wpAny (model P w) A (eqBool u v) Q E s:=by
 have g:=qF n c;have f:=qF n b;refine eqBoolOverData P w A E s u v d e as bs Q rd a g.1 f.1 ?_ h;have:min d.depth e.depth<=d.depth:=Zl _ _
 lia
def jl:∀(n:Nat) {A:Around} {s:Shared} {d:PyData} {v:Value} {p:List Addr} {Q:Bool->Shared->Prop},bQ n d=true->Reads s.heap v d p->Q true s->∀m,n<=m->wpAny (model P w) A (eqIsQuiet m v) Q E s:=by
 intro n
 induction n with
 | zero=>
  intro A s d v p Q hp hr h m hm;have:carriedByValue v=true:=by cases hr <;> first | rfl | simp[bQ] at hp
  rw[Aaa _ this];exact VA h
 | succ n z=>
  intro A s d v p Q hp hr h m hm;cases hr with
  | @tuple a o x k xs _ q C hd e=>
   obtain⟨m,rfl⟩:∃y,m=y+1:=⟨m-1,by lia⟩;have u:s.TypeIs (.ref a) "tuple":=⟨o,q,C⟩;have j:xs.all (bQ n)=true:=hp;unfold eqIsQuiet;refine Vx (XC u F.slot_tuple_eq.lookup ?_);show wpAny _ _ (isInstance (.ref a) (.type "tuple") >>=_) _ _ s;refine Vx (Xg u isSubtype_tuple_tuple ?_);simp only[W8,V0,WK];refine Vx (WM q hd ?_);refine Vx ?_;show wpAny _ _ (forIn x _ _) _ _ s;rw[<-XF];refine Yu _ (λb r g=>r.1=none/\g=s/\∃l f,ReadsAll s.heap b l f/\l.all (bQ n)=true) _ ?_ ?_ _ _ ⟨rfl,rfl,xs,_,e,j⟩
   ·rintro v b r g ⟨hr,rfl,l,f,hl,c⟩;cases hl with
    | cons H G=>
     rw[X8,V1] at c;refine Vx (z c.1 H ?_ m (by lia));simp only[W8,V0,WK];exact VA ⟨rfl,rfl,_,_,G,c.2⟩
   ·rintro⟨J,I⟩ g ⟨hr,rfl,_⟩;simp only at hr;subst hr;exact VA h
  | int i t=>rw[Aaa _ rfl];exact VA h
  | str i t=>rw[Aaa _ rfl];exact VA h
  | none=>simp[bQ] at hp
  | bool=>simp[bQ] at hp
  | list=>simp[bQ] at hp
  | dict=>simp[bQ] at hp
def gK(n:Nat)(h:carriedByValue v=true):ofAClassStatement n v=pure false:=by
 cases v with
 | ref a=>simp[carriedByValue] at h
 | _=>first | rfl | simp[ofAClassStatement] |(unfold ofAClassStatement;rfl)
def pN:∀(n:Nat) {A:Around} {s:Shared} {d:PyData} {v:Value} {p:List Addr} {Q:Bool->Shared->Prop},bQ n d=true->Reads s.heap v d p->Q false s->∀m,n<=m->wpAny (model P w) A (ofAClassStatement m v) Q E s:=by
 intro n
 induction n with
 | zero=>
  intro A s d v p Q hp hr h m hm;have:carriedByValue v=true:=by cases hr <;> first | rfl | simp[bQ] at hp
  rw[gK _ this];exact VA h
 | succ n y=>
  intro A s d v p Q hp hr h m hm;cases hr with
  | @tuple a o u k xs _ q z hd e=>
   obtain⟨m,rfl⟩:∃x,m=x+1:=⟨m-1,by lia⟩;have C:s.TypeIs (.ref a) "tuple":=⟨o,q,z⟩;have j:xs.all (bQ n)=true:=hp;unfold ofAClassStatement;refine Vx (Yt C ?_);dsimp only;refine Vx ?_;refine VA ?_;simp only[W8,V0,WK];refine Vx (WM q hd ?_);dsimp only;refine Vx ?_;show wpAny _ _ (forIn u _ _) _ _ s;rw[<-XF];refine Yu _ (λb r g=>r.1=none/\g=s/\∃l f,ReadsAll s.heap b l f/\l.all (bQ n)=true) _ ?_ ?_ _ _ ⟨rfl,rfl,xs,_,e,j⟩
   ·rintro v b r g ⟨hr,rfl,l,f,hl,c⟩;cases hl with
    | cons G F=>
     rw[X8,V1] at c;refine Vx (y c.1 G ?_ m (by lia));simp only[W8,V0,WK];exact VA ⟨rfl,rfl,_,_,F,c.2⟩
   ·rintro⟨I,H⟩ g ⟨hr,rfl,_⟩;simp only at hr;subst hr;exact VA h
  | int i t=>rw[gK _ rfl];exact VA h
  | str i t=>rw[gK _ rfl];exact VA h
  | none=>simp[bQ] at hp
  | bool=>simp[bQ] at hp
  | list=>simp[bQ] at hp
  | dict=>simp[bQ] at hp
def E5:∀(n:Nat) {A:Around} {s:Shared} {d:PyData} {v:Value} {q:List Addr} {Q:Bool->Shared->Prop},bQ n d=true->Reads s.heap v d q->(∀b,Q b s)->∀m,wpAny (model P w) A (hashByValue m v) Q E s:=by
 intro n
 induction n with
 | zero=>
  intro A s d v q Q hp hr h m;cases hr with
  | int i t=>rw[YO m (x:=.int i t) rfl];exact VA (h _)
  | str i t=>rw[YO m (x:=.str i t) rfl];exact VA (h _)
  | none=>simp[bQ] at hp
  | bool=>simp[bQ] at hp
  | list=>simp[bQ] at hp
  | dict=>simp[bQ] at hp
  | tuple=>simp[bQ] at hp
 | succ n z=>
  intro A s d v q Q hp hr h m;cases hr with
  | @tuple a o y k xs _ u C hd f=>
   have F:s.TypeIs (.ref a) "tuple":=⟨o,u,C⟩;have l:xs.all (bQ n)=true:=hp;cases m with
   | zero=>unfold hashByValue;exact VA (h _)
   | succ m=>
    unfold hashByValue;refine Vx (XC F Xq.lookup ?_);dsimp only;refine Vx (WM u hd ?_);refine Vx ?_;show wpAny _ _ (forIn y _ _) _ _ s;rw[<-XF];refine Yu _ (λc r j=>r.1=none/\j=s/\∃p g,ReadsAll s.heap c p g/\p.all (bQ n)=true) _ ?_ ?_ _ _ ⟨rfl,rfl,xs,_,f,l⟩
    ·rintro v c r j ⟨hr,rfl,p,g,hl,e⟩;cases hl with
     | cons H G=>
      rw[X8,V1] at e;refine Vx (z e.1 H (λb=>?_) m);cases b with
      | true=>
       simp only[W8,V0,WK];exact VA ⟨rfl,rfl,_,_,G,e.2⟩
      | false=>
       simp only[Bool.not_false,Yi];exact VA (VA (h _))
    ·rintro⟨J,I⟩ j ⟨hr,rfl,_⟩;simp only at hr;subst hr;exact VA (h _)
  | int i t=>rw[YO m (x:=.int i t) rfl];exact VA (h _)
  | str i t=>rw[YO m (x:=.str i t) rfl];exact VA (h _)
  | none=>simp[bQ] at hp
  | bool=>simp[bQ] at hp
  | list=>simp[bQ] at hp
  | dict=>simp[bQ] at hp
structure nz(es:Array (Int×Value))(t:SetTable):Prop where
 mask:t.mask=7
 Rz:t.dummies=#[]
 Nk:dQ t.place
 sz:t.place.size=es.size
 le:es.size<=4
 reach:∀(i j:Nat)(e:Int×Value),t.place[i]?=some j->es[i]?=some e->∃n,(road t e.1 n).j=j/\∀m,m < n->(road t e.1 m).j∈t.place.toList
def Mw(w:World)(h:Heap)(n:Nat)(e:Int×Value)(d:PyData):Prop:=bQ n d=true/\(∃b,Reads h e.2 d b)/\e.1=cS w n d/\∃a,e.2=.ref a
def tV(w:World)(h:Heap)(n:Nat)(es:Array (Int×Value))(a:List PyData):Prop:=a.length=es.size/\∀(i:Nat)(e:Int×Value)(d:PyData),es[i]?=some e->a[i]?=some d->Mw w h n e d
def tV.at{w:World}{h:Heap}{n:Nat}{es:Array (Int×Value)}{a:List PyData}(E:tV w h n es a){i:Nat}{e:Int×Value}(b:es[i]?=some e):∃d,a[i]?=some d/\Mw w h n e d:=by
 have c:i < es.size:=(Yh.mp b).1;have hd:a[i]?=some (a[i]'(by rw[E.1];exact c)):=VI _;exact⟨_,hd,E.2 i e _ b hd⟩
theorem nz.fits(T:nz es t):t.fits es.size=true:=by
 unfold SetTable.fits SetTable.fill;rw[T.sz,T.Rz,T.mask];have:=T.le;simp;exact VJ this (by decide)
def nz.E7(T:nz es t)(h:Int):∃N,N < 21/\(road t h N).j∉t.place.toList/\∀i,i < N->(road t h i).j∈t.place.toList:=by
 obtain⟨n,f,e⟩:=AZ T.mask h (by rw[T.sz];have:=T.le;exact Wr this (by decide));obtain⟨m,c,b,a⟩:=HY (p:=λi=>(road t h i).j∉t.place.toList) e;exact⟨m,by exact Wr c f,b,λi d=>Xo (a i d)⟩
def Gg(hn:n<=8)(j:bQ n m=true)(i:Reads s.heap x m c):∀(e:List Value),(∀y∈e,∃d c,bQ n d=true/\Reads s.heap y d c)->∀{Q:Bool->Shared->Prop},Q false s->wpAny (model P w) A (searchCouldBeSeen x e) Q E s:=by
 intro e g Q h;unfold searchCouldBeSeen;refine Vx ?_;refine Yu _ (λa r f=>r.1=none/\f=s/\∀y∈a,∃d c,bQ n d=true/\Reads s.heap y d c) _ ?_ ?_ _ _ ⟨rfl,rfl,g⟩
 ·rintro y a r f ⟨hr,rfl,hl⟩;obtain⟨d,bs,k,rd⟩:=hl y (.head _);have b:=λz l=>hl z (.tail _ l);dsimp only
  split
  all_goals
   split
   ·exact VA ⟨rfl,rfl,b⟩
   ·refine Vx (jl n j i ?_ 8 hn);simp only[W8,V0,WK];refine Vx (jl n k rd ?_ 8 hn);simp only[W8,V0,WK];refine Vx (pN n j i ?_ 8 hn);simp only[V0,WK];refine Vx (pN n k rd ?_ 8 hn);simp only[V0,WK];exact VA ⟨rfl,rfl,b⟩
 ·rintro⟨p,o⟩ f ⟨hr,rfl,_⟩;simp only at hr;subst hr;exact VA h
def AQ{a b:Addr}{ob:Obj}{es:Array (Int×Value)}{ep:Nat}{t:SetTable}{n:Nat}{ds:List PyData}{u:PyData}{as:List Addr}{h:Int}{N:Nat}{Q:SetFound->Shared->Prop}
  (M:s.heap.get? a=some ob) (hdt:ob.data=.set es ep t) (T:nz es t) (L:tV w s.heap n es ds) (hn:n<=8) (hu:A.units+n < cLine) (px:bQ n u=true) (rx:Reads s.heap (.ref b) u as) (hh:h=cS w n u)
  (hN:(road t h N).j∉t.place.toList) (hl:∀i,i < N->(road t h i).j∈t.place.toList) (hN21:N < 21)
  (hit:u∈ds->Q (.there none) s) (I:u∉ds->Q (.free (road t h N).j false) s):
  ∀(k g m:Nat)(l:Option SetTable.Probe),N-m=k->m<=N->N-m < g->l.getD (t.probeStart h)=road t h m->(∀(c i:Nat)(d:PyData),c < m->t.place[i]?=some (road t h c).j->ds[i]?=some d->d≠u)->
   wpAny (model P w) A (setSearchFrom a (.ref b) h true g l) Q E s:=by
 intro k
 induction k using Nat.strongRecOn with
 | _ k ih=>
  intro g m l hk hm hf hst U;obtain⟨g,rfl⟩:∃f,g=f+1:=⟨g-1,by lia⟩;unfold setSearchFrom;refine Vx (Xp M hdt T.fits ?_);dsimp only;have hgw:t.gaveWay=false:=by unfold SetTable.gaveWay;rw[T.mask];rfl
  rw[hgw];simp only[V0,WK];rw[hst];generalize F:(λ(i:Nat)=>((es[i]?.map λ(e:Int×Value)=>e.1).getD 0:Int))=hashAt;have G:N-m < 10*SetTable.turns t.mask:=by unfold SetTable.turns;rw[T.mask];lia
  have hpr:=y9 T.Nk T.Rz hashAt h hN (10*SetTable.turns t.mask) m hm G hl;have at_:∀i j,t.place[i]?=some j->∃e,es[i]?=some e:=λi j hj=>by
   have:i < es.size:=by rw[<-T.sz];exact(Yh.mp hj).1
   exact⟨es[i],We this⟩
  have Y:∀i e,es[i]?=some e->hashAt i=e.1:=λi e r=>by rw[<-F];simp[r]
  rcases hpr with⟨p1,p2⟩ |⟨c,i,c1,c2,c3,c4,c5,c6⟩
  ·have hp:t.probe hashAt h (road t h m)=some (.empty (road t h N).j none):=p1;subst F
   erw [hp]
   dsimp only;refine VA (I λO=>?_);obtain⟨i,X⟩:=WN.mp O;have S:i < es.size:=by rw[<-L.1];exact(Vz.mp X).1
   have r:=We (xs:=es) S;obtain⟨hp1,hr1,Z,_⟩:=L.2 i _ u r X;have hpl:i < t.place.size:=by rw[T.sz];exact S
   have hj:=We (xs:=t.place) hpl;obtain⟨H,r1,r2⟩:=T.reach i _ _ hj r;rw[Z,<-hh] at r1 r2;have hn0:H < N:=by
    rcases ZR H N with q | q | q
    ·exact q
    ·subst q;exact absurd (by rw[r1];simp) hN
    ·exact absurd (r2 N q) hN
   rcases X2 H m with q | q
   ·exact U H i u q (by rw[r1];exact hj) X rfl
   ·exact p2 H i q hn0 (by rw[r1];exact hj) (by rw[Y i _ r,Z,hh])
  ·have hp:t.probe hashAt h (road t h m)=some (.candidate (road t h c).j i (road t h (c+1))):=c6;subst F
   erw [hp]
   dsimp only;obtain⟨⟨h',y⟩,r⟩:=at_ i _ c3
   obtain⟨dy,hdy,py,⟨bs,ry⟩,hhy,⟨ya,J⟩⟩:=L.at r;dsimp only at ry hhy J;subst J;have seen:∀{Q':Bool->Shared->Prop},Q' false s->wpAny (model P w) A (searchCouldBeSeen (.ref b) ((es.filter (·.1==h)).toList.map (·.2))) Q' E s:=λ{Q'} q=>by
    refine Gg hn px rx _ (λy hy=>?_) q;obtain⟨e,r,rfl⟩:=V7.mp hy;have v:e∈es.toList:=by
     have:=Xx.mp r;exact Xx.mpr (Array.mem_filter.mp this).1
    obtain⟨i,X,hv⟩:=AaR (Xx.mp v);obtain⟨d,_,pd,⟨bs,rd⟩,_,_⟩:=L.at (i:=i) (e:=e) (by rw[We X,hv]);exact⟨d,bs,pd,rd⟩
   have go:wpAny (model P w) A (do
     let some (_,y):=es[i]? | unsupported "internal:set-entry"
     let equal<-holding [y] (eqBool y (.ref b));let(es',_,t')<-setState a
     if true&&equal then return .there none
     let some same:=t'.sameMemory t.moves t.mask | unsupported "set.changed-during-lookup:is-the-new-block-at-the-old-address"
     let x<-match (if same then t'.slot (road t h c).j else .empty) with
      | .live p=>match es'[p]? with
       | some (_,y')=>do pure (if<-isSame y' y then some p else none)
       | none=>pure none
      | _=>pure none
     match x with
     | none=>rule "set.search.anew";setSearchFrom a (.ref b) h true g none
     | some p=>if equal then return .there (some p) else setSearchFrom a (.ref b) h true g (some (road t h (c+1)))) Q E s:=by
    rw[r];dsimp only;refine Vx (Wh (zZ n hu py px ry rx ?_));refine Vx (Xp M hdt T.fits ?_);dsimp only;cases hq:PyData.eqv dy u with
    | true=>
     rw[Aaq,VE rfl];refine VA (hit ?_);rw[<-qE n py px hq];exact VC hdy
    | false=>
     rw[Aaq,VH V8];have hsm:t.sameMemory t.moves t.mask=some true:=by unfold SetTable.sameMemory;rw[VE (by simp)]
     rw[hsm];dsimp only;rw[VE rfl,uX T.Nk c3];dsimp only;rw[r];dsimp only;refine Vx (wpAny_isSame_ref_self (Vx (VA ?_)));rw[VE rfl];dsimp only;rw[VH V8];refine ih (N-(c+1)) (by lia) g (c+1) _ rfl c2 (by lia) rfl λc' p d' hc' C o=>?_;have R:p < es.size:=by rw[<-L.1];exact(Vz.mp o).1
     have v:=We (xs:=es) R;obtain⟨pd',_,hh',_⟩:=L.2 p _ d' v o;rcases X2 c' m with q | q
     ·exact U c' p d' q C o
     ·rcases X2 c' c with q2 | q2
      ·intro z;subst z;exact c5 c' p q q2 C (by rw[Y p _ v,hh',hh])
      ·have:c'=c:=by lia
       subst this;have:p=i:=(hY T.Nk C).symm.trans (hY T.Nk c3);subst this;intro z;rw[hdy] at o;injection o with o
       rw[o,z,eqv_refl u (qF n px).1] at hq;cases hq
   cases hled:t.led with
   | true=>
    simp only[W8,V0,WK];exact go
   | false=>
    simp only[Bool.not_false,Yi];refine Vx (seen ?_);simp only[V0,WK];exact go
def sV(a:Array α)(p:Nat)(x:α)(hp:p<=a.size)(i:Nat):(SetTable.insertAt a p x)[i]?=if i < p then a[i]? else if i=p then some x else a[i-1]?:=by
 rw[<-W7,SetTable.toList_insertAt]
 by_cases b:i < p
 ·rw[VE b,VW (by simp;lia),List.getElem?_take,VE b,W7]
 ·rw[VH b,VY (by simp;lia)];have hl:(a.toList.take p).length=p:=by simp;lia
  rw[hl]
  by_cases c:i=p
  ·subst c;rw[VE rfl,X0];rfl
  ·rw[VH c];obtain⟨k,rfl⟩:=Nat.le.dest (YT (WR b) (WO c));have d:p+1+k-p=k+1:=by rw[XQ,Yy,Zg]
   rw[d,WS,List.getElem?_drop,W7];congr 1;rw[Nat.succ_add];rfl
def dQ.ins(s:dQ xs)(hj:j∉xs.toList):dQ (SetTable.insertAt xs (SetTable.below xs j) j):=by
 obtain⟨C,w,A⟩:=iE xs j s;have g:=sV xs (SetTable.below xs j) j C;generalize SetTable.below xs j=p at C w A g;intro i k G F t;have f:=g i;have c:=g k;rw[We G] at f;rw[We F] at c;have o:∀i (h:i < xs.size),p<=i->j < xs[i]:=λi h q=>by
  rcases X2 j xs[i] with z | z
  ·exact z
  ·have J:=A i h q;have E:xs[i]=j:=by lia
   have x:xs[i]∈xs.toList:=by simp
   rw[E] at x;exact absurd x hj
 have a:∀{i v:Nat},some v=xs[i]?->∃h:i < xs.size,v=xs[i]:=λ{i v} e=>by
  obtain⟨I,H⟩:=Yh.mp e.symm;exact⟨I,H.symm⟩
 by_cases r:i < p
 ·rw[VE r] at f;obtain⟨d,u⟩:=a f;rw[u]
  by_cases m:k < p
  ·rw[VE m] at c;obtain⟨b,n⟩:=a c;rw[n];exact s i k d b t
  ·rw[VH m] at c
   by_cases l:k=p
   ·rw[VE l] at c;injection c with c
    rw[c];exact w i d r
   ·rw[VH l] at c;obtain⟨b,n⟩:=a c;rw[n];exact YS (w i d r) (o _ b (Zt (YT (WR m) (WO l))))
 ·rw[VH r] at f;have m:¬k < p:=by lia
  have l:¬k=p:=by lia
  rw[VH m,VH l] at c;obtain⟨b,n⟩:=a c;rw[n]
  by_cases y:i=p
  ·rw[VE y] at f;injection f with f
   rw[f];exact o _ b (Zt (YT (WR m) (WO l)))
  ·rw[VH y] at f;obtain⟨d,u⟩:=a f;rw[u];exact s _ _ d b (by clear l m;lia)
def KU(hp:p<=xs.size):k∈(SetTable.insertAt xs p j).toList↔k=j\/k∈xs.toList:=by
 rw[(ZD xs p j).mem_iff];simp[or_comm]
def nz.put(T:nz es t)(l:es.size<=3)(v:(road t h N).j∉t.place.toList)(hl:∀i,i < N->(road t h i).j∈t.place.toList)(ht:f.mask=t.mask/\f.dummies=t.dummies/\f.place=SetTable.insertAt t.place (SetTable.below t.place (road t h N).j) (road t h N).j):
  nz (SetTable.insertAt es (SetTable.below t.place (road t h N).j) (h,x)) f:=by
 obtain⟨q,u,d⟩:=ht;have p:=(iE t.place (road t h N).j T.Nk).1;have o:SetTable.below t.place (road t h N).j<=es.size:=by rw[<-T.sz];exact p
 have k:(SetTable.insertAt t.place (SetTable.below t.place (road t h N).j) (road t h N).j).size=t.place.size+1:=by
  have:=(ZD t.place (SetTable.below t.place (road t h N).j) (road t h N).j).length_eq
  simpa using this
 have c:(SetTable.insertAt es (SetTable.below t.place (road t h N).j) (h,x)).size=es.size+1:=by
  have:=(ZD es (SetTable.below t.place (road t h N).j) (h,x)).length_eq
  simpa using this
 have hr:∀g n,road f g n=road t g n:=λg n=>ve q g n;refine⟨q.trans T.mask,u.trans T.Rz,by rw[d];exact T.Nk.ins v,by rw[d,k,c,T.sz],by rw[c];exact Xu l,λi j e a b=>?_⟩;rw[d,sV _ _ _ p] at a;rw[sV _ _ _ o] at b;simp only[hr,d,KU p]
 by_cases s:i < SetTable.below t.place (road t h N).j
 ·rw[VE s] at a b;obtain⟨n,n1,n2⟩:=T.reach i j e a b;exact⟨n,n1,λm hm=>.inr (n2 m hm)⟩
 ·rw[VH s] at a b
  by_cases r:i=SetTable.below t.place (road t h N).j
  ·rw[VE r] at a b;injection a with a
   injection b with b
   subst a;subst b;exact⟨N,rfl,λm hm=>.inr (hl m hm)⟩
  ·rw[VH r] at a b;obtain⟨n,n1,n2⟩:=T.reach _ j e a b;exact⟨n,n1,λm hm=>.inr (n2 m hm)⟩
def Bh(q:∀b o c m,h.get? b=some o->o.data=.seq c m->l.get? b=some o):∀(n:Nat) {d:PyData} {v:Value} {a:List Addr},bQ n d=true->Reads h v d a->Reads l v d a:=by
 intro n
 induction n with
 | zero=>
  intro d v a hp hr;cases hr with
  | int i t=>exact .int i t
  | str x t=>exact .str x t
  | none=>simp[bQ] at hp
  | bool=>simp[bQ] at hp
  | list=>simp[bQ] at hp
  | dict=>simp[bQ] at hp
  | tuple=>simp[bQ] at hp
 | succ n p=>
  have hl:∀(e:List PyData) {c:List Value} {a:List Addr},e.all (bQ n)=true->ReadsAll h c e a->ReadsAll l c e a:=by
   intro e
   induction e with
   | nil=>intro c a _ hr;cases hr;exact .nil
   | cons d e f=>
    intro c a hp hr;rw[X8,V1] at hp;cases hr with
    | cons j g=>exact .cons (p hp.1 j) (f hp.2 g)
  intro d v a hp hr;cases hr with
  | int i t=>exact .int i t
  | str x t=>exact .str x t
  | none=>simp[bQ] at hp
  | bool=>simp[bQ] at hp
  | list=>simp[bQ] at hp
  | dict=>simp[bQ] at hp
  | tuple j g k r=>exact .tuple (q _ _ _ _ j k) g k (hl _ hp r)
def take_snoc{a:Type}{l:List a}{i:Nat}{x:a}(h:l[i]?=some x):l.take (i+1)=l.take i++[x]:=by rw[ZV,h];rfl
end L2
namespace Sm
open L2 PyProof.Rows
end Sm
namespace Hd
open PySem.W PyProof.Rows L2 Sm
end Hd
namespace L2
open PyProof.Rows
end L2
namespace Sm
open L2 PyProof.Rows
end Sm
namespace L2
open PyProof.Rows
theorem vV(hh:A.handled=none)(h:t≠it):∀(n i:Nat)(s:Shared)(Q:List Value->Shared->Prop),s.heap.IsListIter it t i->s.heap.IsList t items->i+n<=items.size->
  (∀j p,j.IsListIter it t (i+n)->j.IsList t items->Heap.ExtBut it s.heap j->Q ((items.toList.drop i).take n) {s with heap:=j,toks:=p})->wpAny (model P w) A (draw (.ref it) n) Q E s
 | 0,i,s,Q,hit,hl,_,m=>by
  show wpAny _ _ (pure []) Q E s;exact VA (by simpa using m s.heap s.toks hit hl (λb o _ e=>e))
 | n+1,i,s,Q,hit,ht,hle,m=>by
  have f:i < items.size:=by lia
  show wpAny _ _ (pyNext (.ref it) >>=_) Q E s;have W:=Walks.list (prog:=P) (w:=w) hh it t h items;refine Vx (W.item i s _ _ f ⟨hit,ht⟩ λv q p u st kk=>?_);refine Vx (Wh (vV hh h n (i+1) _ _ st.1 st.2 (by lia) λg k a d c=>VA ?_));have hd:items.toList.drop i=items[i]::items.toList.drop (i+1):=by simp[Yp,f]
  have:=m g k (by rw[show i+(n+1)=i+1+n by lia];exact a) d (λb o r e=>c b o r (kk b o (by simpa using r) e));rw[hd,List.take_succ_cons] at this;have l:v=items[i]:=by
   have:items[i]?=some v:=u;rw[We f] at this;injection this with this
   exact this.symm
  rw[l];exact this
def nu{p}(hh:A.handled=none)(ht:s.heap.IsList t items)(hn:(assignEach elts env).length=items.size)(d:(assignEach elts env).findIdx? (·.1)=none)(h:∀n r,Heap.ExtBut s.heap.objs.size s.heap n->wpAny (model P w) A (assignInOrder ((assignEach elts env).map (·.2)) items.toList) Q E {s with heap:=n,toks:=r}):
  wpAny (model P w) A (assign (.Tuple elts p pos) env (.ref t)) Q E s:=by
 rw[assign_Tuple];refine Vx (Xm ?_);unfold unpack;rw[hn,d];refine Vx (Wh ?_);have i:t≠s.heap.objs.size:=by obtain⟨o,u,_⟩:=ht;exact V6 (VP u)
 unfold unpackItems;refine Vx ?_;unfold notIterableAtAll;refine Vx (XC ht.typeIs F.slot_list_iter.lookup ?_);refine VA ?_;simp only[V0,WK];refine Vx (Wh (YL ht ?_));refine Vx (Wh (vV hh i items.size 0 _ _ ⟨_,VR _ rfl,rfl,rfl⟩ (ht.push _) (by lia) λl q a f c=>?_));have j:List.take items.size (List.drop 0 items.toList)=items.toList:=by
  rw[Zy];exact YC (by simp)
 rw[j];rw[VH (by simp)];have W:=Walks.list (prog:=P) (w:=w) hh s.heap.objs.size t i items;rw[WG] at a;refine Vx (Wh (W.done _ _ _ ⟨a,f⟩ λg k kk=>?_));simp only[Option.isSome_none,V0,WK];exact VA (h g k λb o m e=>kk b o (by simpa using m) (c b o m (VB _ e)))
def Uy(K:FR)(n:Nat)(t:Mq):TG:=λv c H Q=>∃a b,v=.ref a/\eL K H a b/\b.length=n/\t b c H Q
def NT(q:X.calm=true)(h:LC X es t)(hn:(assignEach es X.env).length=n:=by rfl)(g:(assignEach es X.env).findIdx? (·.1)=none:=by rfl):PG X (.Tuple es k pos) (Uy X.K n t):=by
 intro c s i H v u Q I r f;obtain⟨a,l,x,p,hl,f⟩:=f;subst x;cases r;obtain⟨d,rv,ht,z⟩:=I.list p;refine nu (items:=d.toArray) (I.ok.hd q) ht.isList (by simp[hn,<-hl,rv.length]) g λw j m=>?_;have y:Inv X c i H {s with heap:=w,toks:=j}:=I.kept (t':=j) λb o e=>m b o (V6 (VP e)) e;exact h c _ i H l _ Q y (by simpa using rv) f
end L2
namespace Sm
open L2 PyProof.Rows
def Rt(n:Nat)(u:FP):GM:=λd b h=>(cL d h).bind λa=>if a.length=n then u a b h else none
def M1(o:X.calm=true)(h:Sj X es s)(hn:(assignEach es X.env).length=n:=by ac_nf)(f:(assignEach es X.env).findIdx? (·.1)=none:=by ac_nf):SG X (.Tuple es u pos) (Rt n s):=
 (NT o h hn f).imp λv σ H Q u9=>by
  obtain⟨i,j,h,d,c,q,R,S,r,e,k⟩:=u9;obtain⟨g,t,b⟩:=a9 e;obtain⟨a,m,rfl,p,l⟩:=cR S r t
  by_cases z:g.length=n
  ·rw[VE z] at b;exact⟨a,m,rfl,eL.of p,by rw[l.length];exact z,i,j,h,g,c,q,R,S,l,b,k⟩
  ·rw[VH z] at b;cases b
end Sm
namespace L2
open PyProof.Rows
end L2
namespace Sm
open L2
end Sm
namespace Sm
open L2 PyProof.Rows
end Sm
namespace L2
open PyProof.Rows
end L2
namespace Sm
open L2 PyProof.Rows
def gb(d:Df X.prog X.w X.K X.mg X.base nm k j n F)(hr:eU c X.A)(i:SA X (e::es) m)(f:k<=c:=by decide)(hl:kA m n:=by repeat(first | exact aA | refine ae ?_))(g:Gl X nm:=by unfold Gl;ac_nf)(b:(nm==("__debug__":Str))=false:=by ac_nf)(h:starEach (e::es) X.env=(false,eval e X.env)::starEach es X.env:=by ac_nf)(a:(backTo pos (starEach es X.env)).any (·.1)=false:=by ac_nf):SE X (.Call (.Name nm p) (e::es) [] pos) (aq F m):=QC d hr f i hl g b h a
def CG{x:Str}{c:String}{p pos:Pos}{e:Expr}{es:List Expr}{f:Fn}{m:AM}(h:f7 X (.builtin c) f)(hm:X.mg x=none)(d:bootBuiltins x=some (.builtin c))(i:SA X (e::es) m)(g:Gl X x:=by unfold Gl;ac_nf)(hn:x≠"__name__":=by decide)(b:(x==("__debug__":Str))=false:=by ac_nf)
  (he:starEach (e::es) X.env=(false,eval e X.env)::starEach es X.env:=by ac_nf) (a:(backTo pos (starEach es X.env)).any (·.1)=false:=by ac_nf):SE X (.Call (.Name x p) (e::es) [] pos) (aq f m):=Gq h g hm d i hn b he a
def M8{x:Str}{c:String}{p pos:Pos}{e:Expr}{es:List Expr}{f:Fn}{m:AM}(h:f7 X (.type c) f)(hm:X.mg x=none)(d:bootBuiltins x=some (.type c))(i:SA X (e::es) m)(g:Gl X x:=by unfold Gl;ac_nf)(hn:x≠"__name__":=by decide)(b:(x==("__debug__":Str))=false:=by ac_nf)
  (he:starEach (e::es) X.env=(false,eval e X.env)::starEach es X.env:=by ac_nf) (a:(backTo pos (starEach es X.env)).any (·.1)=false:=by ac_nf):SE X (.Call (.Name x p) (e::es) [] pos) (aq f m):=Gp h g hm d i hn b he a
def P0(hm:X.mg x=none)(a:bootBuiltins x=some (.type n))(b:Gl X x:=by unfold Gl;ac_nf)(hn:x≠"__name__":=by decide)(hd:(x==("__debug__":Str))=false:=by ac_nf):SE X (.Name x pos) (eK (.ty n)):=Qx b hm a hn hd
def six(hr:eU k X.A)(g:SE X a d)(f:SE X b c)(e:iG b:=by unfold iG;intro _ _;ac_nf):SE X (.Subscript a b pos) (ak aB d c):=QA hr.units g f e
end Sm
namespace Hd
open PySem.W PyProof.Rows L2 Sm
def u0{P:List Value->Prop}(h:P [])(us:List Value)(hl:us.length=0):P us:=by cases us with | nil=>exact h | cons _ _=>cases hl
def u1{P:List Value->Prop}(h:∀a,P [a])(us:List Value)(hl:us.length=1):P us:=by
 cases us with
 | nil=>cases hl
 | cons a r=>exact u0 (P:=λr=>P (a::r)) (h a) r (Nat.succ.inj hl)
def u2{P:List Value->Prop}(h:∀a b,P [a,b])(us:List Value)(hl:us.length=2):P us:=by
 cases us with
 | nil=>cases hl
 | cons a r=>exact u1 (P:=λr=>P (a::r)) (h a) r (Nat.succ.inj hl)
def u3{P:List Value->Prop}(h:∀a b c,P [a,b,c])(us:List Value)(hl:us.length=3):P us:=by
 cases us with
 | nil=>cases hl
 | cons a r=>exact u2 (P:=λr=>P (a::r)) (h a) r (Nat.succ.inj hl)
def u4{P:List Value->Prop}(h:∀a b c d,P [a,b,c,d])(us:List Value)(hl:us.length=4):P us:=by
 cases us with
 | nil=>cases hl
 | cons a r=>exact u3 (P:=λr=>P (a::r)) (h a) r (Nat.succ.inj hl)
def u5{P:List Value->Prop}(h:∀a b c d e,P [a,b,c,d,e])(us:List Value)(hl:us.length=5):P us:=by
 cases us with
 | nil=>cases hl
 | cons a r=>exact u4 (P:=λr=>P (a::r)) (h a) r (Nat.succ.inj hl)
def u6{P:List Value->Prop}(h:∀a b c d e f,P [a,b,c,d,e,f])(us:List Value)(hl:us.length=6):P us:=by
 cases us with
 | nil=>cases hl
 | cons a r=>exact u5 (P:=λr=>P (a::r)) (h a) r (Nat.succ.inj hl)
def u7{P:List Value->Prop}(h:∀a b c d e f g,P [a,b,c,d,e,f,g])(us:List Value)(hl:us.length=7):P us:=by
 cases us with
 | nil=>cases hl
 | cons a r=>exact u6 (P:=λr=>P (a::r)) (h a) r (Nat.succ.inj hl)
def Rb{q:Program}{b:List Str}{c:ExcName->Option Value}{mg i:Str->Option Value}{h base:Heap}{P:Program}{w:World}(T:Top q b c mg i h){n:Str}{st:Stmt}(e:(recsOf q).find? (λe=>e.name==n)=some (rY n st)){d:List Str}{k N:Nat}{F:Fn}
  (g:∀{f:Addr} {a:FuncData},Cm (aJ h) n n st f a->Binds (aJ h) a d []) (ok:∀{f:Addr} {a:FuncData},Cm (aJ h) n n st f a->keepIn (aJ h) (.ref f)=true->Binds (aJ h) a d []->mg n=some (.ref f)->fX P w (aJ h) mg base wm k f a d (FF (aJ h) N F)):Df P w (aJ h) mg base n k d N F:=by
 obtain⟨f,a,m,G⟩:=Me T e;exact⟨f,a,ok G G.kp (g G) m,G.kp,g G,m⟩
end Hd
namespace L2
open PyProof.Rows Builtin.Str
end L2
namespace L2
open PyProof.Rows
end L2
namespace Sm
open L2 PyProof.Rows Builtin.Str
end Sm
namespace L2
open PyProof.Rows
section
variable {X:Cx}
end
end L2
namespace Sm
open L2 PyProof.Rows
section
variable {X:Cx}
end
def E1{h:Heap}{f:Value->Bool}{p:PyData}:∀{us:List Value} {c:List PyData} {a:List Addr},ReadsAll h us c a->(∀u d a,u∈us->Reads h u d a->d∈c->f u=PyData.eqv d p)->us.findIdx? f=c.findIdx? λb=>PyData.eqv b p:=by
 intro us
 induction us with
 | nil=>intro c a r _;cases r;rfl
 | cons v us g=>
  intro c a r e;cases r with | cons r l=>
  rw[ZL,ZL,e _ _ _ VF r VF,g l λu d a i hr hd=>e u d a (VD _ i) hr (VD _ hd)]
def dO:FO:=λd c h=>match c with
 | [x]=>(cL d h).bind λa=>(ye h x).bind λp=>(gc a).bind λbs=>if p.depth<=60/\PyData.depthAll bs<=60 then(bs.findIdx? λb=>PyData.eqv b p).map λj:Nat=>(D.int (Int.ofNat j),h) else none
 | _=>none
def oy{X:Cx}(hu:X.A.units+64 < cLine):LG X "list.index" (rM X.K dO):=by
 intro G s σ H x xs v us Q I O rs hh;obtain⟨ρ,h,d,ds,z,h',S,rd,l,b,k⟩:=hh
 match ds,l,b with
 | [],_,b=>exact cb b
 | _::_::_,_,b=>exact cb b
 | [y],l,b=>
  obtain⟨ys,e1,e2⟩:=a9 b;obtain⟨p,e3,e4⟩:=a9 e2;obtain⟨bs,e5,i⟩:=a9 e4
  by_cases w:p.depth<=60/\PyData.depthAll bs<=60
  ·rw[VE w] at i;obtain⟨j,e7,e8⟩:=cY i;cases e8;obtain⟨a,vs,rfl,ha,Z⟩:=cR S rd e1;obtain rfl:v=Value.ref a:=O;obtain⟨yv,rfl,N⟩:=rep1 l;obtain⟨u,rfl,P⟩:=Vals.one rs;obtain⟨U,c1⟩:=qB S N e3;obtain⟨T,t⟩:=Z.rZ e5;obtain⟨M,R⟩:=U.reads I P;obtain⟨c,rv,pl,hz⟩:=I.list (.inl (.inl ha));obtain⟨bs',E⟩:=T.reads I rv;have hj:=(E1 (f:=Io s.heap p) E λu d M _ hr hd=>xN hr (dq t hd)).trans e7;obtain⟨j1,j2,j3⟩:=ZN.mp hj;have q:∀y,y∈c.toArray->PySem.SeqAt.EqAt X.A.in1 s y u (Io s.heap p y):=by
    intro y hy;obtain⟨d,C,hr,hd⟩:=oj E y (by simpa using hy);rw[xN hr (dq t hd)];refine Ze d p _ s y u C M hr R (dq t hd) c1 ?_;have h1:=oI hd;have h2:min d.depth p.depth<=d.depth:=Zl _ _;show X.A.units+1+min d.depth p.depth < cLine;have h3:=w.2
    lia
   obtain⟨o,n,g,o1,L,J⟩:=pl;obtain⟨oc,od,Y,os⟩:=o;dsimp only at o1 L J;subst o1 L J;have hz2:=rv.length;rw[Xh] at hz;refine Y8 Yw ⟨_,g,rfl⟩ PySem.F.entry_list_index (PySem.F.args_list_index_2 _ _)
    (PySem.SeqAt.list_indexAt a c.toArray n none os u (Io s.heap p) j (by simpa using j1) (by lia) (by simpa using j2) (λm hm r=>by simpa using j3 m r)) ⟨g,q,?_⟩
   exact⟨.int _,H,I.kept (t':=s.toks+1) λ_ _ e=>e,⟨_,rfl⟩,k _ _ (.here S (.int _))⟩
  ·rw[VH w] at i;cases i
end Sm
namespace L2
open PyProof.Rows
end L2
namespace Sm
open L2 PyProof.Rows
end Sm
namespace L2
open PyProof.Rows
inductive Cg(w:World)(h:Heap)(a:Addr)(es:Array (Int×Value))(ep:Nat)(t:SetTable)(vs:List Value)(i:Nat):Value->Prop where
 | drawn {T:Addr} {idx:List Nat} {o:Obj} {n:Nat} (ho:h.get? T=some o) (hcT:o.cls=.type "tuple") (hd:o.data=.seq (idx.map λ(k:Nat)=>rawInt (k:Int)).toArray n) (hp:idx.Perm (List.range es.size)) (hv:vs=idx.filterMap λk=>(es[k]?).map (·.2)):Cg w h a es ep t vs i (.ref T)
 | text (ht:w.params.followText "set-order"=true) (hv:vs=(pickOrder (w.params.setOrder a ep) es).toList.map (·.2)):Cg w h a es ep t vs i (.int 0 0)
 | led {slot:Nat} (ht:w.params.followText "set-order"=false) (hr:dQ t.place) (hz:(!t.plain&&decide (es.size > 1))=false) (hl:t.led=true) (hs:slot=if i=0 then 0 else(t.place.getD (i-1) 0)+1) (hv:vs=es.toList.map (·.2)):Cg w h a es ep t vs i (.int slot 0)
def As(w:World)(h:Heap)(J a:Addr)(es:Array (Int×Value))(b:Nat)(t:SetTable)(c:List Value)(i:Nat):Prop:=
 (∃ob,h.get? a=some ob/\ob.data=.set es b t)/\t.fits es.size=true/\∃o first,h.get? J=some o/\o.cls=.type "set_iterator"/\o.data=.fields #[first,.int i 0,.ref a,.int es.size 0,.int b 0]/\Cg w h a es b t c i first
def Cg.perm(x:Cg w h a es j t c i f):c.Perm (es.toList.map (·.2)):=by
 cases x with
 | drawn g _ hd hp b=>subst b;exact sZ es hp
 | text ht b=>subst b;exact(vp _ es).map _
 | led ht hr d hl e b=>subst b;exact .refl _
def jU(w:World)(h:Heap)(a:Addr)(es:Array (Int×Value)):Prop:=
 ∃o b t,h.get? a=some o/\o.ExactSet/\o.data=.set es b t/\es.size < scanBound/\t.fits es.size=true/\(t.led=!w.params.followText "set-order")/\(t.plain=true->dQ t.place)
def oE{t:SetTable}{n:Nat}(h:t.fits n=true):t.place.size=n:=by
 unfold SetTable.fits at h;rw[V1,Xs] at h;exact h.1
def below_at(g:dQ xs)(j:i<=xs.size):SetTable.below xs (if i=0 then 0 else xs.getD (i-1) 0+1)=i:=by
 obtain⟨e,a,c⟩:=iE xs (if i=0 then 0 else xs.getD (i-1) 0+1) g;generalize SetTable.below xs (if i=0 then 0 else xs.getD (i-1) 0+1)=b at e a c
 by_cases z:i=0
 ·rw[VE z] at a;rcases Nat.eq_zero_or_pos b with q | q
  ·exact q.trans z.symm
  ·exact absurd (a 0 (VX q e) q) (WJ _)
 ·rw[VH z] at a c;have f:i-1 < i:=Nat.sub_lt (Nat.pos_of_ne_zero z) Nat.one_pos;have d:i-1 < xs.size:=VX f j;have k:xs.getD (i-1) 0=xs[i-1]:=by
   rw[Z6,We d];rfl
  rw[k] at a c;rcases ZR b i with q | q | q
  ·exact absurd (c (i-1) d (Zt q)) (Nat.not_succ_le_self _)
  ·exact q
  ·have h:=VX q e;exact absurd (WU (a i h q)) (Nat.not_le_of_lt (g (i-1) i d h f))
def wR(h:xs.size<=1):dQ xs:=λi j a hj z=>absurd (VX (Wr (Wm i) z) (WU (VX hj h))) (WI 0)
section
variable {P:Program} {w:World} {A:Around} {E:Value->Shared->Prop} {s:Shared} {a:Addr} {es:Array (Int×Value)}
def jU.type(h:jU w s.heap a es):s.TypeIs (.ref a) "set":=by obtain⟨o,_,_,e,x,_⟩:=h;exact⟨o,e,x.1⟩
def IZ(x:jU w s.heap a es)(h:∀i d J m t j,(∀b o,s.heap.get? b=some o->i.get? b=some o)->s.heap.objs.size<=J->j.Perm (es.toList.map (·.2))->As w i J a es m t j 0->Q (.ref J) {s with heap:=i,drawn:=d}):
  wpAny (model P w) A (pyIter (.ref a)) Q E s:=by
 have v:=x.type;obtain⟨ob,m,t,c,G,g,M,k,L,I⟩:=x;have out:∀(i:Heap)(d:Drawn)(J:Addr)(j:List Value) {f:Value},(∀b o,s.heap.get? b=some o->i.get? b=some o)->s.heap.objs.size<=J->(∃o,i.get? J=some o/\o.cls=.type "set_iterator"/\o.data=.fields #[f,.int 0 0,.ref a,.int es.size 0,.int m 0])->Cg w i a es m t j 0 f->Q (.ref J) {s with heap:=i,drawn:=d}:=
  λi d J j f u H ⟨o,R,O,N⟩ r=>by
   have hp:=r.perm;exact h i d J m t j u H hp ⟨⟨ob,u _ _ c,g⟩,k,o,f,R,O,N,r⟩
 refine Z7 v F.slot_set_iter (Wj F.slot_set_iter v entry_set_iter' ?_ (F.args_set_iter_1 _));unfold Builtin.«frozenset.__iter__» Builtin.Frozenset.slot0 slotArgs Builtin.Frozenset.sizeOf Builtin.Frozenset.addrOf;simp only[Zc,W8,V0,↓reduceIte,bind_assoc,WZ,Xf,pure_bind];refine Vx (ZX c g k ?_);unfold setDrawn setsByText;simp only[bind_assoc];refine Vx (Xp c g k ?_);dsimp only;refine Vx (X5 ?_);simp only[pure_bind];cases p:(!(model P w).w.params.followText "set-order"&&(!t.plain&&decide (es.size > 1))) with
 | true=>
  refine wpAny_of_eq' (VE p) ?_;refine Vx (Cq _ _ _ _ (by simp) λC d hp=>Vx (Y7 ?_ (by rw[Vy,hp.length_eq,V2];exact Z9 M)));have y:∀(o1:Obj) b o,s.heap.get? b=some o->(s.heap.push o1).get? b=some o:=λo1 b o e=>VB _ e;refine Vx (wpAny_setEpoch_of (y _ _ _ c) g k (Vx (Ws (VA ⟨_,rfl,"set_iterator",_,⟨_,VR _ rfl,rfl⟩,cP.lookup,?_⟩))));exact out _ d _ _ (λb o e=>VB _ (VB _ e)) (by rw[WV];exact Yx _) ⟨_,VR _ rfl,rfl,rfl⟩ (.drawn (VB _ (VR _ rfl)) rfl rfl hp rfl)
 | false=>
  refine wpAny_of_eq' (VH λz=>Bool.noConfusion (p.symm.trans z)) ?_;refine Vx (wpAny_setEpoch_of c g k (Vx (Ws (VA ⟨_,rfl,"set_iterator",_,⟨_,VR _ rfl,rfl⟩,cP.lookup,?_⟩))));have l:(!w.params.followText "set-order"&&(!t.plain&&decide (es.size > 1)))=false:=p;cases ht:w.params.followText "set-order" with
  | true=>exact out _ s.drawn _ _ (λb o e=>VB _ e) (VG _) ⟨_,VR _ rfl,rfl,rfl⟩ (.text ht rfl)
  | false=>
   have n:(!t.plain&&decide (es.size > 1))=false:=by
    rw[ht] at l;exact l
   have hr:dQ t.place:=by
    cases q:t.plain with
    | true=>exact I q
    | false=>
     rw[q] at n;refine wR ?_;rw[oE k]
     simpa using n
   exact out _ s.drawn _ _ (λb o e=>VB _ e) (VG _) ⟨_,VR _ rfl,rfl,rfl⟩ (.led (slot:=0) ht hr n (by rw[L,ht];rfl) rfl rfl)
def zw(b:s.heap.get? a=some ob)(c:ob.data=.set es g t)(f:t.fits es.size=true)(ht:w.params.followText "set-order"=false)(e:(!t.plain&&decide (es.size > 1))=false)(hl:t.led=true)(h:Q (match es[SetTable.below t.place k]?,t.place[SetTable.below t.place k]? with | some (_,x),some j=>some (x,j+1) | _,_=>none) s):wpAny (model P w) A (setNext a k i g) Q E s:=by
 unfold setNext setsByText;refine Vx (Xp b c f ?_);dsimp only;refine Vx (Vx (X5 (VA ?_)));rw[VH (show ¬(model P w).w.params.followText "set-order"=true by rw[show(model P w).w.params.followText "set-order"=false from ht];simp)];have d:¬(!t.plain&&decide (es.size > 1))=true:=by rw[e];simp
 refine wpAny_of_eq' (VH d) ?_;refine Vx (wpAny_of_eq' (m':=pure ()) (VH (show ¬(!t.led&&!es.isEmpty)=true by rw[hl];simp)) (VA ?_));exact VA h
def IX(hS:As w s.heap J a es ep t vs i)(Y:vs[i]?=some v)(p:J≠a)(h:∀I,(∀b o,b≠J->s.heap.get? b=some o->I.get? b=some o)->As w I J a es ep t vs (i+1)->Q (some v) {s with heap:=I}):wpAny (model P w) A (pyNext (.ref J)) Q E s:=by
 obtain⟨⟨ob,d,f⟩,L,o,first,S,hc,hd,wy⟩:=hS;have hT:s.TypeIs (.ref J) "set_iterator":=⟨o,S,hc⟩;unfold pyNext;refine Vx (XI (Wo (name:=Str.ofString "__next__") hT cP (Wj cP hT kT ?_ (nv _))));unfold Builtin.«set_iterator.__next__» slotArgs;simp only[Zc,W8,V0,↓reduceIte,bind_assoc,WZ,Xf,pure_bind];refine Vx (ZP S hd ?_);dsimp only;refine Vx (ZX d f L ?_);simp only[Xf,V0,↓reduceIte];cases wy with
 | @drawn T idx oT nT G hcT H hp c=>
  have hTJ:T≠J:=λz=>by subst z;rw[S] at G;cases G;rw[hd] at H;cases H
  refine Vx (m:=seqItems? (.ref T)) (WM G H ?_);dsimp only;have hlen:idx.length=es.size:=by rw[hp.length_eq,V2]
  have hall:∀k∈idx,∃e,es[k]?=some e:=λk y=>by
   have:k < es.size:=by have:=hp.mem_iff.mp y;simpa using this
   exact⟨_,We this⟩
  have Z:∀(l:List Nat)(i:Nat)(v:Value),(∀k∈l,∃e,es[k]?=some e)->(l.filterMap λk=>(es[k]?).map (·.2))[i]?=some v->∃k e,l[i]?=some k/\es[k]?=some e/\e.2=v:=by
   intro l
   induction l with
   | nil=>intro i v _ h;simp at h
   | cons k r ih=>
    intro i v ha h;obtain⟨e,he⟩:=ha k VF;rw[Xk,he] at h;dsimp only[Option.map] at h;cases i with
    | zero=>rw[AaA] at h;cases h;exact⟨k,e,rfl,he,rfl⟩
    | succ j=>
     rw[WS] at h;obtain⟨k',e',a1,a2,a3⟩:=ih j v (λx hx=>ha x (VD _ hx)) h;exact⟨k',e',by rw[WS];exact a1,a2,a3⟩
  rw[c] at Y;obtain⟨k,e,R,U,rfl⟩:=Z idx i v hall Y;have e3:((idx.map λ(k:Nat)=>rawInt (k:Int)).toArray)[(i:Int).toNat]?=some (rawInt (k:Int)):=by
   rw[Wc,AaN,VN,R];rfl
  rw[e3];show wpAny _ _ (setNextDrawn a (k:Int).toNat (ep:Int).toNat >>=_) _ _ s;rw[Wc,Wc];unfold setNextDrawn;simp only[bind_assoc];refine Vx (Xp d f L ?_);dsimp only;simp only[Xf,V0,↓reduceIte];rw[U];simp only[pure_bind];refine Vx (xE S hd (by simp) λI X y n F C=>VA ⟨_,rfl,VA (h I y ?_)⟩);exact⟨⟨ob,y _ _ (WO p) d,f⟩,L,X,.ref T,n,F.trans hc,C,.drawn (y _ _ hTJ G) hcT H hp (by rw[c])⟩
 | text ht c=>
  show wpAny _ _ (setNext a (0:Int).toNat (i:Int).toNat (ep:Int).toNat >>=_) _ _ s;rw[Wc,Wc];refine Vx (vC d f L ht ?_);have g:=Y;rw[c,VN] at g;obtain⟨e,R,U⟩:=WB.mp g;rw[W7] at R;rw[R];dsimp only[Option.map];refine Vx (xE S hd (by simp) λh1 o1 q M O N=>Vx (xE M N (by simp) λI X y n F C=>VA ⟨_,rfl,VA ?_⟩));rw[U];refine h I (λb u hb z=>y b u hb (q b u hb z)) ⟨⟨ob,y _ _ (WO p) (q _ _ (WO p) d),f⟩,L,X,_,n,(F.trans O).trans hc,C,.text ht c⟩
 | @led slot ht hr hz hl hs c=>
  show wpAny _ _ (setNext a (slot:Int).toNat (i:Int).toNat (ep:Int).toNat >>=_) _ _ s;rw[Wc,Wc,Wc];have hlt:i < es.size:=by
   have:=(Vz.mp Y).1;rw[c] at this
   simpa using this
  have hpz:=oE L;refine Vx (zw d f L ht hz hl ?_);rw[hs,below_at hr (by lia),We (show i < t.place.size by lia)];have g:=Y;rw[c,VN] at g;obtain⟨e,R,U⟩:=WB.mp g;rw[W7] at R;obtain⟨eh,ev⟩:=e;rw[R];dsimp only at U ⊢;refine Vx (xE S hd (by simp) λh1 o1 q M O N=>Vx (xE M N (by simp) λI X y n F C=>VA ⟨_,rfl,VA ?_⟩));rw[U];refine h I (λb u hb z=>y b u hb (q b u hb z)) ⟨⟨ob,y _ _ (WO p) (q _ _ (WO p) d),f⟩,L,X,_,n,(F.trans O).trans hc,C,.led (slot:=t.place[i]+1) ht hr hz hl ?_ c⟩;rw[VH (Nat.succ_ne_zero i),Nat.add_sub_cancel,Z6,We (show i < t.place.size by lia)];rfl
def Lx(hh:A.handled=none)(hS:As w s.heap J a es C t l l.length)(h:∀e,(∀b o,b≠J->s.heap.get? b=some o->e.get? b=some o)->Q none {s with heap:=e}):wpAny (model P w) A (pyNext (.ref J)) Q E s:=by
 obtain⟨⟨ob,f,i⟩,y,o,first,q,hc,hd,N⟩:=hS;have R:s.TypeIs (.ref J) "set_iterator":=⟨o,q,hc⟩;have d:l.length=es.size:=by have:=N.perm.length_eq;simpa using this
 unfold pyNext;refine Vx (XI (Wo (name:=Str.ofString "__next__") R cP (Wj cP R kT ?_ (nv _))));unfold Builtin.«set_iterator.__next__» slotArgs;simp only[Zc,W8,V0,↓reduceIte,bind_assoc,WZ,Xf,pure_bind];refine Vx (ZP q hd ?_);dsimp only;refine Vx (ZX f i y ?_);simp only[Xf,V0,↓reduceIte];cases N with
 | @drawn T idx oT nT G Y L hp n=>
  refine Vx (m:=seqItems? (.ref T)) (WM G L ?_);dsimp only;have e3:((idx.map λ(k:Nat)=>rawInt (k:Int)).toArray)[(l.length:Int).toNat]?=none:=by
   rw[Wc,AaN,VN,Wu (by rw[hp.length_eq,V2,d];exact VG _)];rfl
  rw[e3];refine Vx (xE q hd (by simp) λh1 o1 I H Z M=>Vx (xE H M (by simp) λS O c p x v=>?_));exact wA (J:=J) hh λe r=>h e λb u j z=>r b u (c b u j (I b u j z))
 | text ht n=>
  show wpAny _ _ (setNext a (0:Int).toNat (l.length:Int).toNat (C:Int).toNat >>=_) _ _ s;rw[Wc,Wc];refine Vx (vC f i y ht ?_);have F:(pickOrder (w.params.setOrder a C) es).size=es.size:=by have:=(vp (w.params.setOrder a C) es).length_eq;simpa using this
  rw[Zh (by rw[F,d];exact VG _)];dsimp only[Option.map];refine Vx (xE q hd (by simp) λS O c p x v=>?_);exact wA (J:=J) hh λe r=>h e λb u j z=>r b u (c b u j z)
 | @led slot ht hr F hl U n=>
  show wpAny _ _ (setNext a (slot:Int).toNat (l.length:Int).toNat (C:Int).toNat >>=_) _ _ s;rw[Wc,Wc,Wc];refine Vx (zw f i y ht F hl ?_);have X:=oE y;have g:es[SetTable.below t.place slot]?=none:=by
   rw[U,below_at hr (by lia)];exact Zh (by lia)
  rw[g];dsimp only;refine Vx (xE q hd (by simp) λS O c p x v=>?_);exact wA (J:=J) hh λe r=>h e λb u j z=>r b u (c b u j z)
def As.off(x:As w h J a es I t p i)(G:h.get? S=some q)(C:q.cls=.type "list")(hj:S≠J)(F:S≠a)(k:∀b o,b≠S->h.get? b=some o->H.get? b=some o):As w H J a es I t p i:=by
 obtain⟨⟨ob,f,g⟩,y,o,first,v,l,hd,n⟩:=x;refine⟨⟨ob,k _ _ (WO F) f,g⟩,y,o,first,k _ _ (WO hj) v,l,hd,?_⟩;cases n with
 | @drawn T idx L M d e j hp c=>
  have m:T≠S:=λz=>by subst z;rw[G] at d;cases d;rw[C] at e;exact absurd e (by decide)
  exact .drawn (k _ _ m d) e j hp c
 | text ht c=>exact .text ht c
 | led ht hr r hl u c=>exact .led ht hr r hl u c
def Ed(hh:A.handled=none)(hj:S≠J)(T:S≠a)(C:J≠a)(Q:d.length<=sizeLine):
  ∀(m i:Nat)(s:Shared)(c:Nat),d.length-i=m->i<=d.length->As w s.heap J a es X t d i->s.heap.get? S=some {cls:=.type "list",dict:=none,data:=.seq (d.take i).toArray c,slots:=#[]}->
  (∀k v,(∀b o,b≠S->b≠J->s.heap.get? b=some o->k.get? b=some o)->k.get? S=some {cls:=.type "list",dict:=none,data:=.seq d.toArray v,slots:=#[]}->R (.ok (.ret (.ref S))) {s with heap:=k})->
  codeAny (model P w) A (.builtin "list.extend.loop" ⟨[.ref S,.ref J,.ref S],[]⟩) R s:=by
 intro m
 induction m with
 | zero=>
  intro i s c hm H st y M;have G:i=d.length:=Zm H (AaM hm);subst G;refine Xw F.entry_extend_loop ?_;rw[WX YY _];show wpAny _ A.in1 (pyNext (.ref J) >>=_) _ _ s;refine Vx (Lx (A:=A.in1) hh st λk x=>VA (M k c (λb o _ l e=>x b o l e) ?_));rw[Wq] at y;exact x _ _ hj y
 | succ m O=>
  intro i s c hm H st y M;have n:i < d.length:=Nat.lt_of_sub_pos (hm ▸ Yk m);have N:d[i]?=some d[i]:=VI n;refine Xw F.entry_extend_loop ?_;rw[WX YY _];show wpAny _ A.in1 (pyNext (.ref J) >>=_) _ _ s;refine Vx (IX (A:=A.in1) st N C λu q z=>?_);have j:=q _ _ hj y;show wpAny _ A.in1 (updateSeq S (·.push d[i]) >>=_) _ _ _;have f:(d.take i).toArray.size=i:=by rw[VZ,V4];lia
  refine Vx (AaB (s:={s with heap:=u}) j rfl (VA ⟨XX YY _,?_⟩) (by rw[f];exact VJ H Q) (by show((d.take i).toArray.push d[i]).size<=sizeLine+1;rw[Array.size_push,f];lia));have I:=Xc (Obj.mapSeq (·.push d[i])) j rfl;have p:∀b o,b≠S->u.get? b=some o->(u.update S (Obj.mapSeq (·.push d[i]))).get? b=some o:=λb o l e=>(XH _ _ (WO l)).trans e;have g:(d.take i).toArray.push d[i]=(d.take (i+1)).toArray:=by
   rw[W0,N];simp
  have h:∃v,(u.update S (Obj.mapSeq (·.push d[i]))).get? S=some {cls:=.type "list",dict:=none,data:=.seq (d.take (i+1)).toArray v,slots:=#[]}:=by
   rw[<-g];exact⟨_,I⟩
  obtain⟨U,h⟩:=h;exact O (i+1) {s with heap:=u.update S (Obj.mapSeq (·.push d[i]))} U (by lia) n (z.off j rfl hj T p) h λk v x L=>M k v (λb o l r e=>x b o l r (p b o l (q b o r e))) L
def z8(hh:A.handled=none)(L:jU w s.heap a es)(h:∀I d n,s.heap.objs.size<=I.objs.size->(∀b o,s.heap.get? b=some o->I.get? b=some o)->n.Perm (es.toList.map (·.2))->Q n {s with heap:=I,drawn:=d}):wpAny (model P w) A (collect (.ref a)) Q E s:=by
 have hT:=L.type;have x:a < s.heap.objs.size:=by obtain⟨o,_,_,e,_⟩:=L;exact VP e
 have O:es.size<=sizeLine:=by obtain⟨_,_,_,_,_,_,Z,_⟩:=L;exact Z9 Z
 unfold collect;refine Vx (wpAny_runValue (Xw F.entry_proto_collect ?_));rw[WX F.plain_proto_collect _];show wpAny _ A.in1 (newList [] >>=λl=>again (.builtin "list.__iadd__" ⟨[l,.ref a],[]⟩)) _ _ s;refine Vx (Ws (VA ⟨XX F.plain_list_iadd _,Xw F.entry_list_iadd ?_⟩));rw[WX F.plain_list_iadd _];generalize v:({cls:=.type "list",data:=.seq ([]:List Value).toArray}:Obj)=i;have T:∀b o,s.heap.get? b=some o->(s.heap.push i).get? b=some o:=λb o e=>VB _ e;have u:jU w (s.heap.push i) a es:=by obtain⟨o,M,t,e,r⟩:=L;exact⟨o,M,t,T _ _ e,r⟩
 have q:s.heap.objs.size≠a:=(V6 x).symm;have R:(s.heap.push i).get? s.heap.objs.size=some i:=VR _ (by rw[<-v];rfl);show wpAny _ A.in1 (Builtin.List.listExtendWith (.ref s.heap.objs.size) (.ref a) (.ref s.heap.objs.size)) _ _ {s with heap:=s.heap.push i};unfold Builtin.List.listExtendWith;refine Vx (Yt (s:={s with heap:=s.heap.push i}) (jU.type (s:={s with heap:=s.heap.push i}) u) ?_);have e1:Builtin.List.listSameRef (.ref s.heap.objs.size) (.ref a)=false:=by simp[Builtin.List.listSameRef,q]
 have e2:(Value.type "set"==Value.type "list")=false:=by decide
 have e3:(Value.type "set"==Value.type "tuple")=false:=by decide
 simp only[e1,e2,e3,Aar,V0,WK];refine Vx (IZ (s:={s with heap:=s.heap.push i}) u λm d J M t n N Y hp st=>?_);refine Vx (Wh ?_);have S:jU w m a es:=by obtain⟨o,M,t,e,r⟩:=u;exact⟨o,M,t,N _ _ e,r⟩
 have p:Shared.TypeIs {s with heap:=m,drawn:=d} (.ref a) "set":=jU.type (s:={s with heap:=m,drawn:=d}) S;unfold Builtin.List.listLengthHint;refine Vx (XC p q5 ?_);dsimp only;rw[t6];dsimp only;refine Vx (Xg p sub_set_set ?_);simp only[W8,V0,WK];refine wpAny_of_eq' (VE (by decide+kernel)) ?_;refine Vx (Yt p (VA ?_));have f:m.get? s.heap.objs.size=some {cls:=.type "list",data:=.seq ([]:List Value).toArray}:=by rw[v];exact N _ _ R
 have g:s.heap.objs.size < J:=by
  have:=Y;rw[show(s.heap.push i).objs.size=s.heap.objs.size+1 from WV _ _] at this;exact this
 have y:n.length=es.size:=by have:=hp.length_eq;simpa using this
 refine wpAny_of_eq' (VE (by decide+kernel)) (Vx (Xe (Vx ?_)));show wpAny _ A.in1 (updateSeq s.heap.objs.size (·.push .none) >>=λ_=>updateSeq s.heap.objs.size (·.pop)) _ _ _;refine Vx (AaB (s:={s with heap:=m,drawn:=d}) f rfl ?_);have k:=Xc (Obj.mapSeq (·.push Value.none)) f rfl;refine AaB k rfl ?_;have C:=Xc (Obj.mapSeq (·.pop)) k rfl;have j:∀b o,b≠s.heap.objs.size->m.get? b=some o->((m.update s.heap.objs.size (Obj.mapSeq (·.push Value.none))).update s.heap.objs.size (Obj.mapSeq (·.pop))).get? b=some o:=
  λb o G e=>(XH _ _ (WO G)).trans ((XH _ _ (WO G)).trans e)
 have c:∃U,((m.update s.heap.objs.size (Obj.mapSeq (·.push Value.none))).update s.heap.objs.size (Obj.mapSeq (·.pop))).get? s.heap.objs.size=some {cls:=.type "list",dict:=none,data:=.seq (n.take 0).toArray U,slots:=#[]}:=⟨_,C⟩;obtain⟨c4,c⟩:=c;refine VA ⟨XX YY _,Ed (A:=A) hh (V6 g) q (λz=>?_) (by rw[y];exact O) n.length 0 _ c4 rfl (Wm _) (st.off f rfl (V6 g) q j) c λI U X H=>?_⟩
 ·rw[z] at g;exact Nat.lt_asymm g x
 ·show wpAny _ A (load s.heap.objs.size >>=_) _ _ _;refine Vx (wpAny_load H (VA ?_));refine h I d n (WD (VP H)) (λb o e=>?_) hp;have G:b≠s.heap.objs.size:=V6 (VP e);exact X b o G (V6 (YS (VP e) g)) (j b o G (N b o (T b o e)))
end
end L2
namespace L2
open PyProof.Rows PySem.SeqAt
end L2
namespace L2
open PyProof.Rows
section
variable {P:Program} {w:World} {A:Around} {E:Value->Shared->Prop} {s:Shared} {a:Addr} {ks:List Int}
end
end L2
namespace Sm
open L2 PyProof.Rows
end Sm
namespace L2
open PyProof.Rows
end L2
namespace Sm
open L2 PyProof.Rows
end Sm
namespace L2
open PyProof.Rows PySem.SeqAt
noncomputable def O1:Nat->PyData->Nat
 | n+1,.tuple xs=>(xs.map (O1 n)).sum+1
 | _,_=>1
section
variable {P:Program} {w:World} {E:Value->Shared->Prop}
def BK:∀(n:Nat) {A:Around} {s:Shared} {d:PyData} {v:Value} {p:List Addr} {Q:Int->Shared->Prop},A.units+n < cLine->bQ n d=true->Reads s.heap v d p->Q (cS w n d) {s with toks:=s.toks+O1 n d}->
  wpAny (model P w) A (pyHash v) Q E s:=by
 have j:∀(n:Nat) {A:Around} {s:Shared} {d:PyData} {v:Value} {p:List Addr} {Q:Int->Shared->Prop},(∀c,d≠.tuple c)->bQ n d=true->Reads s.heap v d p->Q (cS w n d) {s with toks:=s.toks+O1 n d}->wpAny (model P w) A (pyHash v) Q E s:=by
  intro n A s d v p Q f hp hr h;cases hr with
  | int i t=>exact(bc P w).pyHash (k:=.inl i) (jy P w i t) (by cases n <;> exact h)
  | str x t=>exact(bc P w).pyHash (k:=.inr x) (jx P w x t) (by cases n <;> exact h)
  | tuple=>exact absurd rfl (f _)
  | none=>cases n <;> simp[bQ] at hp
  | bool=>cases n <;> simp[bQ] at hp
  | list=>cases n <;> simp[bQ] at hp
  | dict=>cases n <;> simp[bQ] at hp
 intro n
 induction n with
 | zero=>
  intro A s d v p Q L hp hr h;exact j 0 (λc e=>by subst e;simp[bQ] at hp) hp hr h
 | succ n J=>
  intro A s d v p Q L hp hr h
  by_cases f:∀c,d≠.tuple c
  ·exact j (n+1) f hp hr h
  ·have:∃c,d=.tuple c:=Xo λz=>f λc e=>z ⟨c,e⟩;obtain⟨c,rfl⟩:=this;cases hr with
   | @tuple a o O m _ _ I M hd u=>
    have C:s.TypeIs (.ref a) "tuple":=⟨o,I,M⟩;have q:c.all (bQ n)=true:=hp;unfold pyHash
    first | unfold pyHashByItsType | skip
    first | refine Vx (wpAny_cRoomFor_or (.inr (by lia)) ?_) | skip
    refine Vx (XC C Xq.lookup ?_);show wpAny _ _ (if(some (Value.builtin "tuple.__hash__")==some Value.none)=true then _ else _) Q E s;rw[VH (by rw[beq_builtin_none];exact V8)];refine Vx (XC C Xq.lookup ?_);show wpAny _ _ (callSpecialIfBoundUnlessNone? (.ref a) "__hash__" _ >>=_) Q E s;refine Vx (ZH C Xq (Wj Xq C F.entry_tuple_hash ?_ (F.args_tuple_hash_1 _)));show wpAny _ _ (Builtin.Tuple.tupleItemsOf (.ref a) >>=_) _ _ s;refine Vx (wpAny_tupleItemsOf I hd ?_);refine Vx ?_;rw[<-XF];refine Yu _
     (λg (b:Array Int) G=>∃done left l,c=done++left/\ReadsAll s.heap g left l/\b.toList=done.map (cS w n)/\G={s with toks:=s.toks+(done.map (O1 n)).sum})
     _ ?_ ?_ _ _ ⟨[],c,_,rfl,u,rfl,rfl⟩
    ·rintro x g b G ⟨done,left,l,e,hl,y,rfl⟩;cases hl with
     | @cons _ _ d1 ds bs cs N r=>
      have H:bQ n d1=true:=by
       rw[Xd] at q;exact q d1 (by rw[e];simp)
      refine Vx (J (A:=A.in1) (s:={s with toks:=s.toks+(done.map (O1 n)).sum}) (by rw[YR];lia) H N ?_)
      first
       | exact VA ⟨done++[d1],ds,_,by rw[e];simp,r,by simp[y],by simp[XQ]⟩
       | exact Vx (VA (VA ⟨done++[d1],ds,_,by rw[e];simp,r,by simp[y],by simp[XQ]⟩))
    ·rintro b G ⟨done,left,l,e,hl,y,rfl⟩;cases hl;rw[Wl] at e;subst e;show wpAny _ _ (retInt (Builtin.Tuple.tupleHashOf b.toList)) _ _ _;rw[y];refine wpAny_ret_mkInt ?_;show wpAny _ _ (if(decide (-(2:Int)^63<=Builtin.Tuple.tupleHashOf (c.map (cS w n)))&&decide (Builtin.Tuple.tupleHashOf (c.map (cS w n)) < 2^63))=true then _ else _) Q E _;unfold cS reduceHash O1 at h
     by_cases hr:(decide (-(2:Int)^63<=Builtin.Tuple.tupleHashOf (c.map (cS w n)))&&decide (Builtin.Tuple.tupleHashOf (c.map (cS w n)) < 2^63))=true
     ·rw[VE hr];rw[VE hr] at h;exact VA (by simpa [XQ] using h)
     ·rw[VH hr];rw[VH hr] at h;exact Vx (Xe (VA (by simpa [XQ] using h)))
end
def eqv_refl:∀(n:Nat) {d:PyData},bQ n d=true->PyData.eqv d d=true:=by
 intro n
 induction n with
 | zero=>intro d h;cases d <;> simp[bQ] at h <;> simp[PyData.eqv]
 | succ n c=>
  intro d h;cases d <;> simp[bQ] at h <;> simp[PyData.eqv]
  rename_i b;have:∀l:List PyData,(∀x∈l,bQ n x=true)->PyData.eqvAll l l=true:=by
   intro l
   induction l with
   | nil=>intro _;simp[PyData.eqvAll]
   | cons x r a=>intro hl;simp[PyData.eqvAll,c (hl x (by simp)),a λy e=>hl y (by simp[e])]
  exact this b h
noncomputable local instance:DecidableEq PyData:=λa b=>Classical.propDecidable _
def Je(h:Heap)(k:PyData)(a:Addr):Prop:=bQ 8 k=true/\∃b,Reads h (.ref a) k b
def w9(P:Program)(w:World):HeapKind P w PyData where
 is:=Je
 hash:=cS w 8
 draws:=O1 8
 room:=λA=>A.units+8 < cLine
 inj:=λ{h a x y} ⟨p,_,r⟩ ⟨_,_,c⟩=>Reads.unique x y _ _ _ (qF 8 p).1 r c
 keeps:=λ{h t k a d o es u} ⟨p,as,r⟩ j hd i=>⟨p,as,Bh (λb n l m e q=>by
  by_cases z:b=d
  ·subst z;rw[j] at e;cases e;rw[hd] at q;cases q
  ·exact(i.2 b z).trans e) 8 p r⟩
 pyHash:=λf ⟨p,_,r⟩ h=>BK 8 f p r h
 eqBool:=λ{A E s x y a b Q} f ⟨p,_,r⟩ ⟨g,_,c⟩ h=>zZ 8 f p g r c (by
  have:PyData.eqv x y=decide (x=y):=by
   by_cases z:x=y
   ·subst z;rw[eqv_refl 8 p,Wa rfl]
   ·rw[V5 z];cases q:PyData.eqv x y with
    | false=>rfl
    | true=>exact absurd (qE 8 p g q) z
  rw[this];exact h)
 quiet:=λ⟨p,_,r⟩ h=>jl 8 p r h 8 (VG _)
end L2
namespace L2
open PyProof.Rows PySem.W
abbrev az:=Str×Int
noncomputable def ko(a b:az):Bool:=decide (a.1.cps.toList < b.1.cps.toList)||(decide (a.1=b.1)&&decide (a.2 < b.2))
noncomputable def runK{b:Type}(lt:Nat->Nat->Bool):KasT b->b
 | .ret a=>a
 | .ask i j k=>runK lt (k (lt i j))
noncomputable def EZ{a:Type}(n:Nat):KasT a->Bool
 | .ret _=>true
 | .ask i j k=>decide (i < n)&&decide (j < n)&&EZ n (k true)&&EZ n (k false)
theorem Gx{d:Type}{n:Nat}{c:Nat->Nat->(Bool->Shared->Prop)->Shared->Prop}{lt:Nat->Nat->Bool}{s:Shared}(e:∀i j C,i < n->j < n->C (lt i j) s->c i j C s){Q:d->Shared->Prop}:∀(t:KasT d),EZ n t=true->Q (runK lt t) s->t.kasWp c Q s
 | .ret a,_,h=>h
 | .ask i j k,b,h=>by
  have b:(decide (i < n)&&decide (j < n)&&EZ n (k true)&&EZ n (k false))=true:=b;simp only[V1,Wz] at b;refine e i j _ b.1.1.1 b.1.1.2 ?_;refine Gx e (k (lt i j)) ?_ h;cases lt i j with
  | true=>exact b.1.2
  | false=>exact b.2
noncomputable def FC(n:Nat):Nat->List (List Nat)
 | 0=>[[]]
 | k+1=>(FC n k).flatMap λl=>(List.range n).map λx=>x::l
theorem Al{n:Nat}:∀{l:List Nat},(∀x∈l,x < n)->l∈FC n l.length
 | [],_=>VQ.mpr rfl
 | x::r,h=>List.mem_flatMap.mpr ⟨r,Al λy a=>h y (VD _ a),V7.mpr ⟨x,WY.mpr (h x VF),rfl⟩⟩
def zM(n:Nat)(l:List Nat):Bool:=!decide l.Nodup||((runK (λi j=>decide (l.getD i 0 < l.getD j 0)) (kas_sort n)).toList.map (λi=>l.getD i 0)==List.range n&&(runK (λi j=>decide (l.getD i 0 < l.getD j 0)) (kas_sort n)).toList.isPerm (List.range n))
def good2:(FC 2 2).all (zM 2)=true:=by decide+kernel
def good3:(FC 3 3).all (zM 3)=true:=by decide+kernel
def Rr:(FC 4 4).all (zM 4)=true:=by decide+kernel
def HN:EZ 2 (kas_sort 2)=true/\EZ 3 (kas_sort 3)=true/\EZ 4 (kas_sort 4)=true:=by decide+kernel
def xq(a:az):ko a a=false:=by
 unfold ko;rw[V5 (List.lt_irrefl _),V5 (Int.lt_irrefl _),Zz];rfl
def xr{a b:az}:ko a b=true↔a.1.cps.toList < b.1.cps.toList\/(a.1=b.1/\a.2 < b.2):=by
 unfold ko;rw[Xl,V1,Xb,Xb,Xb]
def oA{a b c:az}(h:ko a b=true)(g:ko b c=true):ko a c=true:=by
 rw[xr] at*;rcases h with h |⟨d,e⟩ <;> rcases g with g |⟨g1,g2⟩
 ·exact .inl (List.lt_trans h g)
 ·exact .inl (g1 ▸ h)
 ·exact .inl (d ▸ g)
 ·exact .inr ⟨d.trans g1,Int.lt_trans e g2⟩
def AK{a b:Str}(h:a.cps.toList=b.cps.toList):a=b:=by
 obtain⟨a⟩:=a;obtain⟨b⟩:=b;have:=YK.mp h;exact congrArg _ this
def xp{a b:az}(h:a≠b):ko a b=true\/ko b a=true:=by
 rw[xr,xr]
 by_cases d:a.1.cps.toList < b.1.cps.toList
 ·exact .inl (.inl d)
 by_cases c:b.1.cps.toList < a.1.cps.toList
 ·exact .inr (.inl c)
 have e:a.1=b.1:=AK (List.le_antisymm (List.not_lt.mp c) (List.not_lt.mp d));rcases Int.lt_trichotomy a.2 b.2 with q | q | q
 ·exact .inl (.inr ⟨e,q⟩)
 ·exact absurd (Prod.ext e q) h
 ·exact .inr (.inr ⟨e.symm,q⟩)
def HD{a b:az}(h:ko a b=true)(g:ko b a=true):False:=by
 have:=oA h g;rw[xq] at this;cases this
def EY(k:az):List az->List az
 | []=>[k]
 | x::r=>if ko k x then k::x::r else x::EY k r
def kZ:List az->List az
 | []=>[]
 | k::r=>EY k (kZ r)
theorem oC(k:az):∀l:List az,(EY k l).Perm (k::l)
 | []=>.refl _
 | x::r=>by
  unfold EY
  split
  ·exact .refl _
  ·exact((oC k r).cons x).trans (.swap ..)
theorem fK:∀l:List az,(kZ l).Perm l
 | []=>.refl _
 | k::r=>(oC k _).trans ((fK r).cons k)
theorem pI{k:az}:∀{l:List az},k∉l->l.Pairwise (λa b=>ko a b=true)->(EY k l).Pairwise λa b=>ko a b=true
 | [],_,_=>List.pairwise_singleton _ _
 | x::r,f,h=>by
  rw[X3] at h;have e:k≠x:=λz=>f (z ▸ VF);unfold EY
  by_cases c:ko k x=true
  ·rw[VE c];refine X3.mpr ⟨λy d=>?_,X3.mpr h⟩;rcases VS.mp d with rfl | d
   ·exact c
   ·exact oA c (h.1 y d)
  ·rw[VH c];refine X3.mpr ⟨λy d=>?_,pI (λz=>f (VD _ z)) h.2⟩;rcases VS.mp ((oC k r).mem_iff.mp d) with rfl | d
   ·exact(xp e).resolve_left c
   ·exact h.1 y d
theorem i8:∀{l:List az},l.Nodup->(kZ l).Pairwise λa b=>ko a b=true
 | [],_=>.nil
 | k::r,h=>by
  rw[XJ] at h;exact pI (λz=>h.1 ((fK r).mem_iff.mp z)) (i8 h.2)
def Cw{ks l:List az}(hp:l.Perm ks)(c:l.Pairwise λa b=>ko a b=true)(nd:ks.Nodup):l=kZ ks:=
 Y5 (λa b _ _ x y=>(HD x y).elim) c (i8 nd) (hp.trans (fK ks).symm)
noncomputable def qp:az:=(Str.ofString "",0)
def Jh(ks:List az)(i:Nat):Nat:=(ks.filter λk=>ko k (ks.getD i qp)).length
theorem filter_le{a:Type}{p q:a->Bool}:∀{l:List a},(∀x∈l,p x=true->q x=true)->(l.filter p).length<=(l.filter q).length
 | [],_=>VG _
 | x::r,h=>by
  have i:=filter_le (l:=r) λy b=>h y (VD _ b);have c:=h x VF;rw[Zd,Zd];cases hp:p x with
  | true=>rw[VE rfl,VE (c hp)];simp only[VU];exact Xu i
  | false=>
   rw[VH (by simp)]
   split
   ·simp only[VU];exact W6 i
   ·exact i
def filter_lt{b:Type}{p q:b->Bool}:∀{l:List b},(∀x∈l,p x=true->q x=true)->(∃y∈l,q y=true/\p y=false)->(l.filter p).length < (l.filter q).length:=by
 intro r
 induction r with
 | nil=>
  rintro _ ⟨_,h,_⟩;cases h
 | cons x r e=>
  rintro h ⟨y,a,d,c⟩;have hr:=λy a=>h y (VD x a);rw[Zd,Zd];rcases VS.mp a with rfl | a
  ·rw[c,VH (by simp),VE d,VU];have:=filter_le hr
   lia
  ·have i:=e hr ⟨y,a,d,c⟩;cases hp:p x with
   | true=>rw[VE rfl,VE (h x VF hp)];simp only[VU];exact Xu i
   | false=>
    rw[VH (by simp)]
    split
    ·simp only[VU];exact W6 i
    ·exact i
section
variable {ks:List az} {i j:Nat}
def IU(a:i < ks.length):ks.getD i qp∈ks:=by
 rw[Xi,VI a];exact YI a
def qA(a:i < ks.length)(h:ko (ks.getD i qp) (ks.getD j qp)=true):Jh ks i < Jh ks j:=
 filter_lt (λx _ q=>oA q h) ⟨_,IU a,h,xq _⟩
def QE(a:i < ks.length):Jh ks i < ks.length:=by
 have:=filter_lt (l:=ks) (p:=λk=>ko k (ks.getD i qp)) (q:=λ_=>true) (λ_ _ _=>rfl) ⟨_,IU a,rfl,xq _⟩;rw[List.filter_eq_self.mpr λ_ _=>rfl] at this;exact this
def GB(a:i < ks.length)(hj:j < ks.length):decide (Jh ks i < Jh ks j)=ko (ks.getD i qp) (ks.getD j qp):=by
 cases c:ko (ks.getD i qp) (ks.getD j qp) with
 | true=>exact Wa (qA a c)
 | false=>
  refine V5 λz=>?_
  by_cases e:ks.getD i qp=ks.getD j qp
  ·unfold Jh at z;rw[e] at z;exact WI _ z
  ·have:=(xp e).resolve_left (by rw[c];simp);have:=qA hj this
   lia
def getD_inj(nd:ks.Nodup)(a:i < ks.length)(hj:j < ks.length)(e:ks.getD i qp=ks.getD j qp):i=j:=by
 rw[Xi,Xi,VI a,VI hj] at e;exact(ZW a nd).mp (by rw[VI a,VI hj];exact congrArg some e)
def Nj(nd:ks.Nodup)(b:i < ks.length)(hj:j < ks.length)(e:Jh ks i=Jh ks j):i=j:=by
 refine Xo λz=>?_;have a:ks.getD i qp≠ks.getD j qp:=λq=>z (getD_inj nd b hj q);rcases xp a with q | q
 ·have:=qA b q;lia
 ·have:=qA hj q;lia
end
def mw(ks:List az):List Nat:=(List.range ks.length).map (Jh ks)
def wQ{ks:List az}{i:Nat}(a:i < ks.length):(mw ks).getD i 0=Jh ks i:=by
 unfold mw;rw[Xi,VN,XS a];rfl
theorem rD{c:Type}{n:Nat}{f g:Nat->Nat->Bool}(h:∀i j,i < n->j < n->f i j=g i j):∀t:KasT c,EZ n t=true->runK f t=runK g t
 | .ret a,_=>rfl
 | .ask i j k,b=>by
  have b:(decide (i < n)&&decide (j < n)&&EZ n (k true)&&EZ n (k false))=true:=b;simp only[V1,Wz] at b;show runK f (k (f i j))=runK g (k (g i j));rw[h i j b.1.1.1 b.1.1.2];refine rD h _ ?_;cases g i j with
  | true=>exact b.1.2
  | false=>exact b.2
def p9(ks:List az):List Nat:=(runK (λi j=>ko (ks.getD i qp) (ks.getD j qp)) (kas_sort ks.length)).toList
def Od{ks:List az}(nd:ks.Nodup)(t:2<=ks.length)(s:ks.length<=4):(p9 ks).map (λi=>ks.getD i qp)=kZ ks/\(∀i∈p9 ks,i < ks.length)/\(p9 ks).length=ks.length/\EZ ks.length (kas_sort ks.length)=true:=by
 have hl:(mw ks).length=ks.length:=by unfold mw;rw[Vy,V2]
 have hm:mw ks∈FC ks.length ks.length:=by
  have:=Al (n:=ks.length) (l:=mw ks) λx p=>by
   obtain⟨i,d,rfl⟩:=V7.mp p;exact QE (WY.mp d)
  rw[hl] at this;exact this
 have m:(mw ks).Nodup:=by
  unfold mw;rw[Aai,YZ];refine Aap (λ{a b} k f q z=>q (Nj nd (WY.mp k) (WY.mp f) z)) ZY
 have c:zM ks.length (mw ks)=true/\EZ ks.length (kas_sort ks.length)=true:=by
  obtain e | e | e:ks.length=2\/ks.length=3\/ks.length=4:=by lia
  ·rw[e] at hm ⊢;exact⟨Xd.mp good2 _ hm,HN.1⟩
  ·rw[e] at hm ⊢;exact⟨Xd.mp good3 _ hm,HN.2.1⟩
  ·rw[e] at hm ⊢;exact⟨Xd.mp Rr _ hm,HN.2.2⟩
 have g:=c.1;unfold zM at g;rw[Wa m,W8,Aas,V1] at g;have r:runK (λi j=>decide ((mw ks).getD i 0 < (mw ks).getD j 0)) (kas_sort ks.length)=runK (λi j=>ko (ks.getD i qp) (ks.getD j qp)) (kas_sort ks.length):=
  rD (n:=ks.length) (λi j d hj=>by rw[wQ d,wQ hj,GB d hj]) _ c.2
 rw[r] at g;have g1:(p9 ks).map (λi=>(mw ks).getD i 0)=List.range ks.length:=eq_of_beq g.1;have o:(p9 ks).Perm (List.range ks.length):=List.isPerm_iff.mp g.2;have g2:∀i∈p9 ks,i < ks.length:=λi d=>WY.mp (o.mem_iff.mp d);have g3:(p9 ks).length=ks.length:=by have:=congrArg List.length g1;rw[Vy,V2] at this;exact this
 have pw:(p9 ks).Pairwise λa b=>(mw ks).getD a 0 < (mw ks).getD b 0:=by
  have:=List.pairwise_lt_range (n:=ks.length);rw[<-g1,YZ] at this;exact this
 have pl:((p9 ks).map λi=>ks.getD i qp).Pairwise λa b=>ko a b=true:=by
  rw[YZ];refine Aap (λ{a b} k f q=>?_) pw;rw[wQ (g2 a k),wQ (g2 b f)] at q;rw[<-GB (g2 a k) (g2 b f)];exact Wa q
 refine⟨Cw ((o.map _).trans (.of_eq ?_)) pl nd,g2,g3,c.2⟩;refine YE λi=>?_;rw[VN]
 by_cases h:i < ks.length
 ·rw[XS h,VI h,Wt,Xi,VI h];rfl
 ·rw[Wu (by simpa using h),Wu (by simpa using h)];rfl
def dR(h:Heap)(v:Value)(k:az):Prop:=∃b o m t u,v=.ref b/\h.get? b=some o/\o.cls=.type "tuple"/\o.data=.seq #[.str k.1 t,.int k.2 u] m
abbrev gz(h:Heap):List Value->List az->Prop:=Paired λv k=>dR h v k
section
variable {P:Program} {w:World} {A:Around} {E:Value->Shared->Prop} {s:Shared}
def Kx{x y:Value}{k a:az}{Q:Bool->Shared->Prop}(p:dR s.heap x k)(n:dR s.heap y a)(h:Q (ko k a) s):wpAny (model P w) A (keyLt' (tuples' true) x y) Q E s:=by
 obtain⟨b,o,m,t,u,rfl,r,_,q⟩:=p;obtain⟨F,v,C,l,j,rfl,i,_,g⟩:=n;refine kat_lt r q i g ?_;show KatLex P w A true _ Q [(Value.str k.1 t,Value.str a.1 l),(Value.int k.2 u,Value.int a.2 j)] 0 s;refine kat_cons (eqBool_str (kat_go (λc=>?_) λc=>?_))
 ·have f:k.1=a.1:=eq_of_beq c;have e:¬k.1.cps.toList < a.1.cps.toList:=by rw[f];exact List.lt_irrefl _
  refine kat_yes (kat_cons (wpAny_eqBool_int (kat_go (λd=>?_) λd=>?_)))
  ·have d1:k.2=a.2:=eq_of_beq d;refine kat_yes (kat_nil ?_);have:ko k a=false:=by unfold ko;rw[V5 e,d1,V5 (Int.lt_irrefl _),Zz];rfl
   rw[this] at h;exact h
  ·refine kat_no (kat_one _ _ (lt_int ?_));have:ko k a=decide (k.2 < a.2):=by unfold ko;rw[V5 e,Wa f];rfl
   rw[this] at h;exact h
 ·have f:¬k.1=a.1:=λz=>by rw[z,XU] at c;cases c
  refine kat_no (kas_lt_str ?_);have:ko k a=decide (k.1.cps.toList < a.1.cps.toList):=by unfold ko;rw[V5 f,Bool.false_and,Aar]
  rw[this] at h;exact h
def dR.keep{h c:Heap}{v:Value}{k:az}(x:dR h v k)(g:∀b o m a,h.get? b=some o->o.cls=.type "tuple"->o.data=.seq a m->c.get? b=some o):dR c v k:=
 by obtain⟨b,o,m,t,u,e,i,f,d⟩:=x;exact⟨b,o,m,t,u,e,g b o m _ i f d,f,d⟩
def gz.at_{h:Heap}{b:List Value}{ks:List az}{i:Nat}(a:gz h b ks):i < ks.length->dR h (b.getD i Value.none) (ks.getD i qp):=by
 induction a generalizing i with
 | nil=>exactλz=>absurd z (WJ _)
 | cons r t c=>cases i with
  | zero=>exactλ_=>r
  | succ i=>exactλd=>c (by simpa using d)
theorem gz.of_map{h:Heap}{b:List Value}{ks:List az}(x:gz h b ks):∀{a:List Nat},(∀i∈a,i < ks.length)->gz h (a.map λi=>b.getD i Value.none) (a.map λi=>ks.getD i qp)
 | [],_=>.nil
 | i::r,c=>.cons (x.at_ (c i VF)) (gz.of_map x λj hj=>c j (VD _ hj))
def gz.pW{h:Heap}{c:List Value}{ks:List az}(a:gz h c ks):∃fs,KatTups h c fs/\fs.length=c.length/\∀f∈fs,∃x t,f=Value.str x t:=by
 induction a with
 | nil=>exact⟨[],.nil,rfl,λ_ z=>(nomatch z)⟩
 | cons p r g=>
  obtain⟨b,o,m,t,u,e,q,n,l⟩:=p;obtain⟨fs,k,j,i⟩:=g;subst e;refine⟨_::fs,.cons q n l rfl k,by simp[j],λf d=>?_⟩;rcases VS.mp d with rfl | d
  ·exact⟨_,_,rfl⟩
  ·exact i f d
def AN{a:Addr}{vs:List Value}{ks:List az}{n:Nat}{C:PySem.Fin->Shared->Prop}(F:s.heap.get? a=some (seqObj "list" vs.toArray n))(hp:gz s.heap vs ks)(nd:ks.Nodup)(h4:ks.length<=4)
  (fin:∀out:List Value,gz s.heap out (kZ ks)->(∀v∈out,v∈vs)->C (.done (.ret .none)) {s with heap:=sortedHeap s.heap a vs out.toArray}):
  wpAny (model P w) A (Builtin.«list.sort» ⟨[.ref a],[]⟩) C E s:=by
 have c:vs.length=ks.length:=hp.length;have hva:vs.toArray.size=vs.length:=by simp
 have M:a < s.heap.objs.size:=VP F;rw[list_sort_plain];refine Vx (listItems_at F rfl (Vx (listUpdate_at F rfl ?_)));obtain⟨U,d⟩:∃U,(s.heap.update a (Obj.mapSeq λ_=>#[])).get? a=some (seqObj "list" #[] U):=⟨_,get?_update_seq F λ_=>#[]⟩;refine Vx (seqEpoch_at d rfl (Vx (Y7 (Vx (wpAny_newList (Wh ?_))))));generalize hG:((s.heap.update a (Obj.mapSeq λ_=>#[])).push (seqObj "tuple" vs.toArray 0)).push (seqObj "list" #[] 0)=G;have g:G.get? a=some (seqObj "list" #[] U):=by
  rw[<-hG,Zj _ _ _ (by rw[size_push',Zq];lia),Zj _ _ _ (by rw[Zq];exact V6 M)];exact d
 have R:∀b o m y,s.heap.get? b=some o->o.cls=.type "tuple"->o.data=.seq y m->G.get? b=some o:=λb o m y e hc hd=>by
  have hb:=VP e;have L:b≠a:=λz=>by
   subst z;rw[F] at e;cases e;injection hc with z
   exact absurd z (by decide)
  rw[<-hG,Zj _ _ _ (by rw[size_push',Zq];lia),Zj _ _ _ (by rw[Zq];exact V6 hb),Heap.get?_update_ne _ _ _ _ L];exact e
 show wpAny (model P w) A _ C E {s with heap:=G};dsimp only
 by_cases h:vs.toArray.size < 2
 ·rw[VE h,VE h];refine Vx (VA ?_);rw[StateT.run_pure];refine Vx (VA ?_);dsimp only;refine Vx (seqEpoch_at g rfl (Vx (listUpdate_at g rfl ?_ (hsz2:=by rw[Array.size_map];show(pairsOf vs).size<=_;rw[pairsOf_size,Xh];clear h;lia))));simp only[Xf,V0,WK];refine VA ?_;have es:kZ ks=ks:=by
   match ks,c with
   | [],_=>rfl
   | [_],_=>rfl
   | _::_::_,z=>simp only[VU] at z;lia
  have:=fin vs (by rw[es];exact hp) λ_ z=>z;unfold sortedHeap at this;rw[hG] at this;have ev:(pairsOf vs).map (·.2)=vs.toArray:=by
   apply YK.mp;unfold pairsOf;simp;exact List.map_snd_zip (VG _)
  rw[<-ev] at this;exact this
 ·have S:2<=vs.length:=by exact WR h
  rw[VH h,VH h];have l:gz G vs ks:=Paired.imp' (λv k x=>x.keep R) hp;obtain⟨fs,t1,t2,Z⟩:=l.pW;obtain⟨g1,g2,g3,g4⟩:=Od nd (by clear h;lia) h4;refine Vx (kat_kind (s:={s with heap:=G}) t1 (by clear h c;lia) (T:=Value.type "str") (λv J=>?_) (by decide) ?_)
  ·obtain⟨x,u,rfl⟩:=Z v J;exact .now
  rw[show(Value.type "str" !=Value.type "tuple")=true by decide];refine Vx (WL (kat_run (s:={s with heap:=G}) (ks:=vs) (vs:=vs) (κ:=tuples' true) (Q:=λf t=>t={s with heap:=G}/\(arrOf f).map (·.2)=((p9 ks).map λi=>vs.getD i Value.none).toArray/\failedOf f=none) rfl S (by lia) (G:=λp t=>t={s with heap:=G}/\p.toList=p9 ks) (λp f t hps O I Y=>⟨Y.1,by rw[kat_snds rfl O,Y.2],I⟩) ?_) (λr t hq=>?_) λ_ _ e=>e)
  case refine_2=>
   obtain⟨⟨⟩,f⟩:=r;obtain⟨rfl,X,I⟩:=hq;dsimp only at X I ⊢;refine Vx (seqEpoch_at g rfl (Vx (listUpdate_at g rfl ?_ (hsz2:=by rw[X,Xh];simp;lia))));rw[I];simp only[Xf,V0,WK];refine VA ?_;have:=fin ((p9 ks).map λi=>vs.getD i Value.none) (by rw[<-g1];exact hp.of_map g2) λv J=>by
    obtain⟨i,N,rfl⟩:=V7.mp J;have H:i < vs.length:=by rw[c];exact g2 i N
    rw[Xi,VI H];exact YI H
   unfold sortedHeap at this;rw[hG] at this;rw[X];exact this
  ·rw[c];refine Gx (n:=ks.length) (lt:=λi j=>ko (ks.getD i qp) (ks.getD j qp)) (λi j Q N hj q=>?_) _ g4 ⟨rfl,rfl⟩;exact Kx (s:={s with heap:=G}) (l.at_ N) (l.at_ hj) q
end
end L2
namespace L2
open PyProof.Rows PySem.W PySem.SeqAt
noncomputable def gn(k:az):PyData:=.tuple [.str k.1,.int k.2]
def xb{k:az}(h:PyData.strOk k.1=true):bQ 8 (gn k)=true:=by simp[gn,bQ,h]
def Kd{k c:az}(h:gn k=gn c):k=c:=by
 unfold gn at h;injection h with h
 injection h with b a
 injection b with b
 injection a with a
 injection a with a
 exact Prod.ext b a
def U4(w:World)(q:Addr×az):Int×Value:=(cS w 8 (gn q.2),.ref q.1)
def tU(w:World)(h:Heap)(a:Addr)(c:List (Addr×az)):Prop:=
 (c.map (·.2)).Nodup/\∃o es d t,∃b:List (Addr×az),h.get? a=some o/\o.ExactSet/\o.data=.set es d t/\nz es t/\es.toList=b.map (U4 w)/\b.Perm c/\(t.led=!w.params.followText "set-order")
noncomputable def addQ(a:List (Addr×az))(b:Addr)(k:az):List (Addr×az):=if k∈a.map (·.2) then a else a++[(b,k)]
noncomputable def KY(a:List (Addr×az))(p:Nat)(d:Addr×az):List (Addr×az):=a.take p++d::a.drop p
def EX(a:List (Addr×az))(p:Nat)(d:Addr×az):(KY a p d).Perm (a++[d]):=by
 unfold KY;have b:(a.take p++d::a.drop p).Perm (d::(a.take p++a.drop p)):=List.perm_middle;rw[Xr] at b;exact b.trans (List.perm_append_singleton d a).symm
def Sn(h:Heap)(a:List (Addr×az)):Prop:=∀q∈a,PyData.strOk q.2.1=true/\∃b,Reads h (.ref q.1) (gn q.2) b
def Lb{es:Array (Int×Value)}(e:es.toList=a.map (U4 w))(hr:Sn h a):tV w h 8 es (a.map λq=>gn q.2):=by
 refine⟨by rw[Vy,<-XT,e,Vy],λi x d b hd=>?_⟩;rw[<-W7,e,VN] at b;rw[VN] at hd;cases c:a[i]? with
 | none=>rw[c] at hd;cases hd
 | some q=>
  rw[c] at b hd;cases b;cases hd;have hh:=hr q (VC c);exact⟨xb hh.1,hh.2,rfl,⟨_,rfl⟩⟩
section
variable {P:Program} {w:World} {A:Around} {E:Value->Shared->Prop} {s:Shared} {a:Addr}
def uw{b:Addr}{k:az}{as:List Addr}{F:List (Addr×az)}{Q:Bool->Shared->Prop}(hS:tU w s.heap a F)(hr:Sn s.heap F)(hu:A.units+8 < cLine)(ok:PyData.strOk k.1=true)(Z:Reads s.heap (.ref b) (gn k) as)(u:F.length<=3)(h:∀r Y,Heap.SameBut a s.heap Y->tU w Y a (addQ F b k)->Q r {s with heap:=Y}):wpAny (model P w) A (setAddHashed a (.ref b) (cS w 8 (gn k))) Q E s:=by
 obtain⟨nd,ob,es,ep,t,p,m,X,g,T,O,f,M⟩:=id hS;have L:tV w s.heap 8 es (p.map λq=>gn q.2):=Lb O λq H=>hr q (f.mem_iff.mp H);obtain⟨N,N1,N2,N3⟩:=T.E7 (cS w 8 (gn k));have n:gn k∈(p.map λq=>gn q.2)↔k∈F.map (·.2):=by
  constructor
  ·intro z;obtain⟨q,H,e⟩:=V7.mp z;exact V7.mpr ⟨q,f.mem_iff.mp H,Kd e⟩
  ·intro z;obtain⟨q,H,e⟩:=V7.mp z;exact V7.mpr ⟨q,f.mem_iff.mpr H,by rw[e]⟩
 unfold setAddHashed setAddHashedIn;refine Wh (Vx (Xp m g T.fits ?_));dsimp only;rw[VH (by show ¬(byScan (Value.ref b) es=true);unfold byScan Value.scannable;simp)];refine Vx ?_;unfold setSearch;refine AQ m g T L (VG _) hu (xb ok) Z rfl N2 N3 N1 (λU=>?_) (λG=>?_) _ 100000 0 none rfl (Wm _) (VX N1 (by decide)) rfl (λc i d hc=>absurd hc (WJ _))
 ·dsimp only;refine VA ?_;refine h false s.heap (Heap.SameBut.refl a s.heap) ?_;unfold addQ;rw[VE (n.mp U)];exact hS
 ·dsimp only;have I:¬k∈F.map (·.2):=λz=>G (n.mpr z);refine Vx (Xp m g T.fits ?_);dsimp only;have J:es.size<=3:=by rw[<-L.1,Vy,f.length_eq];exact u
  have v:(t.put (road t (cS w 8 (gn k)) N).j).1.dummies=t.dummies:=by
   unfold SetTable.put;dsimp only;rw[T.Rz];rfl
  have C:∀(l:SetTable),l.mask=t.mask->l.dummies=t.dummies->l.place=SetTable.insertAt t.place (SetTable.below t.place (road t (cS w 8 (gn k)) N).j) (road t (cS w 8 (gn k)) N).j->l.led=t.led->
    wpAny (model P w) A (do
     storeSet a (SetTable.insertAt es (SetTable.below t.place (road t (cS w 8 (gn k)) N).j) (cS w 8 (gn k),.ref b)) l
     if(!false&&l.tooFull)=true then do
      setRelay a (SetTable.grown (es.size+1))
      pure true
     else pure true) Q E s:=λl m1 m2 m3 m4=>by
   have R:=T.put J (x:=.ref b) N2 N3 ⟨m1,m2,m3⟩;have hsz:=R.le;refine Vx (wpAny_storeSet_of m g ?_ (Z9 (by unfold scanBound;lia)));have S:l.tooFull=false:=by
    unfold SetTable.tooFull SetTable.fill;have h1:=R.sz;rw[R.mask,R.Rz];simp
    lia
   rw[S,VH (by simp)];refine VA (h true _ (Yz s.heap a (Obj.putSet _ l)) ?_);have o:=Xc (Obj.putSet (SetTable.insertAt es (SetTable.below t.place (road t (cS w 8 (gn k)) N).j) (cS w 8 (gn k),.ref b)) l) m (by rw[putSet_of _ l g];rfl);rw[putSet_of _ l g] at o;unfold addQ;rw[VH I];refine⟨?_,_,_,_,_,KY p (SetTable.below t.place (road t (cS w 8 (gn k)) N).j) (b,k),o,X,rfl,R,?_,(EX _ _ _).trans (f.append_right _),m4.trans M⟩
   ·rw[VT];refine Y0.mpr ⟨nd,by simp,λx hx y hy z=>?_⟩;rw[List.map_singleton,VQ] at hy;subst hy;subst z;exact I hx
   ·rw[SetTable.toList_insertAt,O];unfold KY;rw[VT,VL,Aao,List.map_drop];rfl
  cases hpn:(t.put (road t (cS w 8 (gn k)) N).j).1.plain with
  | true=>
   rw[VE rfl];refine Vx (E5 8 (xb ok) Z (λbv=>?_) 8);cases bv with
   | true=>exact C _ rfl v rfl rfl
   | false=>exact C _ rfl v rfl rfl
  | false=>
   rw[VH V8];refine Vx (VA ?_);exact C _ rfl v rfl rfl
def Kb{b:Addr}{k:az}{q:List Addr}{g:List (Addr×az)}{Q:Value->Shared->Prop}(m:tU w s.heap a g)(hr:Sn s.heap g)(u:A.units+64 < cLine)(ok:PyData.strOk k.1=true)(l:Reads s.heap (.ref b) (gn k) q)(c:g.length<=3)(h:∀f t,Heap.SameBut a s.heap f->tU w f a (addQ g b k)->Q .none {s with heap:=f,toks:=t}):wpAny (model P w) A (call (.builtin "set.add") [.ref a,.ref b]) Q E s:=by
 have p:s.TypeIs (.ref a) "set":=by obtain⟨_,o,_,_,_,_,e,x,_⟩:=m;exact⟨o,e,x.1⟩
 have d:A.in1.units+8 < cLine:=by show A.units+1+8 < cLine;lia
 refine Wj F.slot_set_add p F.entry_set_add ?_ (F.args_set_add_2 _ _);unfold Builtin.«set.add» Builtin.Frozenset.oneOther Builtin.Frozenset.addrOf setAdd;simp only[Zc,bind_assoc,pure_bind];refine Vx (Wh (Vx (E2 8 d (xb ok) l λj=>?_)));refine uw (s:={s with toks:=s.toks+j}) m hr d ok l c λr f n i=>?_;exact VA ⟨_,rfl,h f _ n i⟩
def He{d n:Type}{f:d->n}:∀{i g:List n},i.Perm g->∀{l:List d},g=l.map f->∃c:List d,c.Perm l/\i=c.map f:=by
 intro i g h
 induction h with
 | nil=>intro l e;exact⟨l,.refl _,e⟩
 | cons x _ G=>
  intro l e;cases l with
  | nil=>cases e
  | cons y l=>
   rw[VL] at e;injection e with m b
   obtain⟨c,p,q⟩:=G b;exact⟨y::c,p.cons y,by rw[VL,m,q]⟩
 | swap x y r=>
  intro l e
  match l,e with
  | [],e=>cases e
  | [_],e=>cases e
  | u::v::l,e=>
   rw[VL,VL] at e;injection e with m b
   injection b with b H
   exact⟨v::u::l,.swap ..,by rw[VL,VL,m,b,H]⟩
 | trans _ _ k j=>
  intro l e;obtain⟨I,z,o⟩:=j e;obtain⟨F,C,t⟩:=k o;exact⟨F,C.trans z,t⟩
def Er{h:Heap}{l:List Value}{x:Str}{i:Int}{f:List Addr}(r:ReadsAll h l [.str x,.int i] f):∃t u,l=[.str x t,.int i u]:=by
 cases r with
 | cons e d=>
  cases d with
  | cons c b=>
   cases b;cases e with
   | str x t=>
    cases c with
    | int i u=>exact⟨t,u,rfl⟩
def EC{h:Heap}{b:Addr}{k:az}{j:List Addr}(r:Reads h (.ref b) (gn k) j):dR h (.ref b) k:=by
 unfold gn at r;cases r with
 | tuple g f d c=>
  obtain⟨t,u,e⟩:=Er c;have i:=YK.mp (show _=(#[Value.str k.1 t,Value.int k.2 u]:Array Value).toList from e);subst i;exact⟨_,_,_,t,u,rfl,g,f,d⟩
def Bq{h:Heap}{v:Value}{k f:az}(x:dR h v k)(y:dR h v f):k=f:=by
 obtain⟨b,o,m,t,u,rfl,i,_,g⟩:=x;obtain⟨q,n,p,l,j,z,d,_,c⟩:=y;cases z;rw[i] at d;cases d;rw[g] at c;injection c with e _
 have:=congrArg Array.toList e;simp at this;exact Prod.ext this.1.1 this.2.1
def Ka{h:Heap}{d:List (Addr×az)}(i:∀q∈d,dR h (.ref q.1) q.2){c:List Value}{ks:List az}(a:gz h c ks):(∀v∈c,v∈d.map λq=>Value.ref q.1)->∃out:List (Addr×az),c=out.map (λq=>Value.ref q.1)/\out.map (·.2)=ks/\∀q∈out,q∈d:=by
 induction a with
 | nil=>exactλ_=>⟨[],rfl,rfl,λ_ z=>(nomatch z)⟩
 | cons r t f=>
  intro hm;obtain⟨out,l,k,j⟩:=f λv g=>hm v (VD _ g);obtain⟨q,b,rfl⟩:=V7.mp (hm _ VF);have:=Bq (i q b) r;subst this;refine⟨q::out,by rw[VL,l],by rw[VL,k],λx e=>?_⟩;rcases VS.mp e with rfl | e
  ·exact b
  ·exact j x e
theorem vo{h:Heap}:∀{b:List (Addr×az)},(∀q∈b,dR h (.ref q.1) q.2)->gz h (b.map λq=>Value.ref q.1) (b.map (·.2))
 | [],_=>.nil
 | q::r,c=>.cons (c q VF) (vo λx d=>c x (VD _ d))
def yz{p:List (Addr×az)}(hh:A.handled=none)(Z:tU w s.heap a p)(hr:Sn s.heap p)(h4:p.length<=4){Q:Value->Shared->Prop}
  (h:∀L d l n (out:List (Addr×az)),(∀b o,s.heap.get? b=some o->L.get? b=some o)->s.heap.objs.size<=l->L.get? l=some (seqObj "list" (out.map λq=>Value.ref q.1).toArray n)->out.map (·.2)=kZ (p.map (·.2))->(∀q∈out,q∈p)->Q (.ref l) {s with heap:=L,drawn:=d}):
  wpAny (model P w) A (call (.builtin "sorted") [.ref a]) Q E s:=by
 obtain⟨nd,o,es,ep,t,S,e,ex,dd,T,I,k,x⟩:=Z;refine Calls.call_function_entry kind_sorted plain_sorted entry_sorted (args_sorted1 _) ?_;unfold Builtin.«sorted»;refine Vx (m:=checkCount "sorted" 1 1 _) (VA ?_);refine Vx (z8 (A:=A.in1) (es:=es) hh ⟨o,ep,t,e,ex,dd,by have:=T.le;unfold scanBound;exact Wr this (by decide),T.fits,x,λ_=>T.Nk⟩ λg d vs C N hp=>?_);rw[I,XO] at hp;obtain⟨c,U,rfl⟩:=He (f:=λq:Addr×az=>Value.ref q.1) hp rfl;have p3:=U.trans k;have r:(c.map (·.2)).Nodup:=(p3.map (·.2)).nodup_iff.mpr nd;have y:c.length<=4:=by rw[p3.length_eq];exact h4
 have M:kZ (c.map (·.2))=kZ (p.map (·.2)):=Cw ((fK _).trans (p3.map _)) (i8 r) nd;have G:∀q∈c,dR g (.ref q.1) q.2:=λq v=>by
  obtain⟨_,as,R⟩:=hr q (p3.mem_iff.mp v);exact(EC R).keep λb o _ _ z _ _=>N b o z
 refine Vx (wpAny_newList ?_ (by rw[Xh,Vy];exact VJ y (by decide)));generalize u:(c.map λq:Addr×az=>Value.ref q.1)=vs;have J:(g.push (seqObj "list" vs.toArray 0)).get? g.objs.size=some (seqObj "list" vs.toArray 0):=VR _ rfl;have j:∀q∈c,dR (g.push (seqObj "list" vs.toArray 0)) (.ref q.1) q.2:=λq v=>(G q v).keep λb o _ _ z _ _=>VB _ z;have F:gz (g.push (seqObj "list" vs.toArray 0)) vs (c.map (·.2)):=by subst u;exact vo j
 show wpAny _ _ _ _ _ {s with heap:=g.push (seqObj "list" vs.toArray 0),drawn:=d};refine Vx (Wh (Wj slot_list_sort ⟨_,J,rfl⟩ entry_list_sort (AN (s:={s with heap:=g.push (seqObj "list" vs.toArray 0),drawn:=d}) J F r (by rw[Vy];exact y) λout g1 g2=>⟨_,rfl,?_⟩) (args_list_sort _)));obtain⟨i,rfl,Y,X⟩:=Ka j g1 (by rw[u];exact g2);have H:g.objs.size < (g.push (seqObj "list" vs.toArray 0)).objs.size:=by rw[WV];exact W3 _
 obtain⟨n,hn⟩:=sortedHeap_at (vs:=vs) (out:=(i.map λq:Addr×az=>Value.ref q.1).toArray) J;refine VA ⟨_,rfl,h _ d _ n i (λb o e=>?_) C hn (Y.trans M) λq v=>p3.mem_iff.mp (X q v)⟩;have e:=N b o e;have O:=VP e;rw[sortedHeap_old (V6 O) (YS O H)];exact VB _ e
end
noncomputable def FN(w:World)(a:Addr)(b:List (Addr×az)):HO:=.ext λh=>tU w h a b
def G2(x:tU w h a c):b8 j f H h a (FN w a c):=
 ⟨x,by obtain⟨_,o,_,_,_,_,e,_⟩:=x;exact⟨o,e⟩,λi g y k=>by obtain⟨q,o,es,d,t,b,e,r⟩:=y;exact⟨q,o,es,d,t,b,k o e,r⟩⟩
def ED:LD X (newSet (.type "set")) (λl=>FN X.w l []):=λc s d H Q E I h=>by
 unfold newSet setsByText;refine Vx (Vx (X5 (VA ?_)));dsimp only;refine Ws (h _ s.toks (I.laid (a:=s.heap.objs.size) (t':=s.toks) (λ_ _ q=>VB _ q) (VG _) (G2 ⟨.nil,_,#[],0,_,[],VR _ rfl,⟨rfl,rfl,rfl⟩,rfl,?_⟩)));refine⟨⟨rfl,rfl,λi j b=>absurd b (WJ _),rfl,Wm _,λi j e b=>?_⟩,rfl,.refl _,rfl⟩;exact absurd b (by simp[SetTable.fresh])
def Mr(K:FR)(H:Hp)(q:Addr×az):Prop:=PyData.strOk q.2.1=true/\Ck K H (.ref q.1) (gn q.2)
def LY(I:Inv X pins σ H s)(h:∀q∈b,Mr X.K H q):Sn s.heap b:=λq a=>⟨(h q a).1,(h q a).2.reads I rfl⟩
def MN(K:FR)(w:World)(e:TE)(l:Addr):TK:=λd H N=>e d H λx c=>∃a b k,c l=some (FN w l a)/\x=.ref b/\Mr K c (b,k)/\(∀q∈a,Mr K c q)/\a.length<=3/\N d (upd c l (FN w l (addQ a b k)))
def Kh{B:Cx}{f:Expr}{m:TE}{l:Addr}(t:B.A.units+64 < cLine)(y:PE B f m):PM B (emitSet f (.ref l) B.env) (MN B.K B.w m l):=λa s j H N I h=>by
 unfold emitSet;refine Vx (cv (y a s j H _ I h) λu G C=>?_);obtain⟨x,M,g,p,J,b,k,e,rfl,n,i,r,n1⟩:=C;cases p;refine Vx (Xm (Vx ?_));obtain⟨z,_,_⟩:=g.aZ l _ e;obtain⟨L,o⟩:=n.2.reads g rfl;refine Kb z (LY g i) t n.1 o r λE F v d=>VA ?_;have c:∃q,E.get? l=some q:=by obtain⟨_,q,_,_,_,_,i,_⟩:=d;exact⟨q,i⟩
 exact⟨j,_,gv g (by rw[e];exact True.intro) v c (G2 d),n1⟩
def B4{X:Cx}(y:X.calm=true):eX X (.builtin "sorted") (λf H Q=>∃a b,f=[.ref a]/\H a=some (FN X.w a b)/\(∀q∈b,Mr X.K H q)/\b.length<=4/\∀l (out:List (Addr×az)),H l=none->out.map (·.2)=kZ (b.map (·.2))->(∀q∈out,q∈b)->Q (.ref l) (upd H l (.lst (out.map λq=>V.ref q.1)))):=by
 intro g s E H f us Q I r h;obtain⟨a,b,rfl,e,v,A,q⟩:=h;obtain⟨u,rfl,j⟩:=vals1 r;cases j;obtain⟨z,_,_⟩:=I.aZ a _ e;refine yz (I.ok.hd y) z (LY I v) A λF d l n out k hl x i C=>?_;have c:out.length<=4:=by
  have:=congrArg List.length i;rw[(fK _).length_eq,Vy,Vy] at this
  lia
 have p:(out.map λq=>V.ref q.1).length<=sizeLine:=by rw[Vy,Xh];exact VJ c (by decide)
 have t:∀out:List (Addr×az),Vals (out.map λq=>V.ref q.1) (out.map λq=>Value.ref q.1):=λout=>by
  induction out with
  | nil=>exact .nil
  | cons q r m=>exact .cons rfl m
 exact⟨.ref l,_,(I.laid (t':=s.toks) (o:=.lst (out.map λq=>V.ref q.1)) k hl ⟨p,_,n,t out,x⟩).draw d,rfl,q l out (I.aZ.fresh hl) i C⟩
end L2
namespace Sm
open L2 PyProof.Rows
noncomputable def NO:D->Option az
 | .tup [.str x,.int i]=>some (x,i)
 | _=>none
noncomputable def gF(k:az):D:=.tup [.str k.1,.int k.2]
def Kc{d:D}{k:az}(e:NO d=some k):d=gF k:=by
 unfold NO at e
 split at e
 ·cases e;rfl
 ·cases e
def GD{K:FR}{a:Ad}{H:Hp}{v:V}{k:az}(r:Rep K a H v (gF k)):∃b,v=.ref b/\Mr K H (b,k):=by
 unfold gF at r;have c:PyData.strOk k.1=true:=by
  cases r with
  | tup _ l=>cases l with
   | cons q _=>cases q with
    | str x=>exact x
 have:=r.rZ (p:=gn k) rfl;cases r with
 | tup h l=>exact⟨_,rfl,c,this.1⟩
def RU(w:World):Ac (List az) where
 at_:=λK c H l a=>∃b,H l=some (FN w l b)/\a=b.map (·.2)/\∀q∈b,Rep K c H (.ref q.1) (gF q.2)
 mono:=λ⟨b,e,r,k⟩ T q=>⟨b,q.trans e,r,λx d=>(k x d).mono T⟩
noncomputable def I8(ks:List az)(k:az):List az:=if k∈ks then ks else ks++[k]
def mP(e:EM):MK (List az):=λb h a=>(e b h).bind λp=>(NO p.1).bind λk=>if a.length<=3 then some (b,p.2,I8 a k) else none
def CL{K:FR}{a:Ad}{H:Hp}{q:Addr×az}(r:Rep K a H (.ref q.1) (gF q.2)):Mr K H q:=by
 obtain⟨b,e,h⟩:=GD r;cases e;exact h
def Jy{X:Cx}{j:Expr}{r:EM}(J:X.A.units+64 < cLine)(L:SE X j r):U6 X (λl env=>emitSet j (.ref l) env) (RU X.w) (mP r):=λl=>(Kh J L).imp λy H N G=>by
 obtain⟨C,F,h,a,E,U,Y,R,S,hl,⟨o,I,s,aZ⟩,e,kk⟩:=G;obtain⟨⟨x,T⟩,P,O⟩:=a9 e;obtain⟨c,t,k⟩:=a9 O;dsimp only at t k
 by_cases n:a.length<=3
 ·rw[VE n] at k;cases k;refine⟨C,F,h,x,_,R,S,P,λu H1 u9=>?_⟩;obtain⟨d,m,Q,p⟩:=u9;have:=Kc t;subst this;obtain⟨b,rfl,M⟩:=GD p;have f:∀q∈o,Rep X.K d H1 (.ref q.1) (gF q.2):=λq g=>(aZ q g).mono m.toCh;refine⟨o,b,c,(m.res l hl).trans I,rfl,M,λq g=>CL (f q g),by rw[s,Vy] at n;exact n,?_⟩;have i:l∈d.rs:=by rw[m.rs];exact hl
  have v:Ch d H1 d (upd H1 l (FN X.w l (addQ o b c))):=Ch.put i;refine kk d _ y (lQ.put (K:=X.K) m hl) (Q.put i) ((R.mono m.toCh).mono v) ⟨_,aC,?_,λq g=>?_⟩
  ·unfold I8 addQ;rw[s]
   split
   ·rfl
   ·rw[VT];rfl
  ·refine Rep.mono v ?_;unfold addQ at g
   split at g
   ·exact f q g
   ·rcases Wk.mp g with z | z
    ·exact f q z
    ·rw[VQ] at z;subst z;exact p
 ·rw[VH n] at k;cases k
def BR(a:List (Option Nat))(i:IM)(g:GM)(c:TM)(m:MK (List az)):EM:=λb h=>(i b h).bind λp=>(fk p.2.1 g c m p.1 (gw a b) p.2.2 []).bind λq=>if q.2.2.length<=4 then some (.lv ((kZ q.2.2).map gF),q.2.1) else none
theorem yO{K:FR}{b:Ad}{H:Hp}:∀{a:List (Addr×az)},(∀q∈a,Rep K b H (.ref q.1) (gF q.2))->aw K b H (a.map λq=>V.ref q.1) ((a.map (·.2)).map gF)
 | [],_=>.nil
 | q::r,h=>.cons (h q VF) (yO λx c=>h x (VD _ c))
def GI{X:Cx}{c:List (Option Nat)}{t:IM}{g:GM}{s:TM}{m:MK (List az)}{f:L2.St}{H:Hp}{Q:VK}(hh:tM X.K (BR c t g s m) f H Q):
  Th (λr H Q=>∃a b,r=[.ref a]/\H a=some (FN X.w a b)/\(∀q∈b,Mr X.K H q)/\b.length<=4/\∀l (out:List (Addr×az)),H l=none->out.map (·.2)=kZ (b.map (·.2))->(∀q∈out,q∈b)->Q (.ref l) (upd H l (.lst (out.map λq=>V.ref q.1)))) (λf H Q=>nR c (LQ X.K t) (λl=>FN X.w l []) (AI X.K g) (yq X.K s) (λl=>Ju X.K (RU X.w) l m) f H λv e=>Q [v] e) f H Q:=by
 obtain⟨y,E,h,d,h',R,S,L,k⟩:=hh;obtain⟨⟨r,F,J⟩,P,O⟩:=a9 L;obtain⟨⟨p,Z,z⟩,N,i⟩:=a9 O;dsimp only at i
 by_cases j:z.length<=4
 ·rw[VE j] at i;cases i;show nR c (LQ X.K t) (λl=>FN X.w l []) (AI X.K g) (yq X.K s) (λl=>Ju X.K (RU X.w) l m) f H λv e=>∃a b,[v]=[V.ref a]/\e a=some (FN X.w a b)/\(∀q∈b,Mr X.K e q)/\b.length<=4/\∀l (out:List (Addr×az)),e l=none->out.map (·.2)=kZ (b.map (·.2))->(∀q∈out,q∈b)->Q (.ref l) (upd e l (.lst (out.map λq=>V.ref q.1)));refine yU (A:=RU X.w) (o:=λl=>FN X.w l []) (a0:=[]) (λy H l=>⟨[],aC,rfl,λk I=>(nomatch I)⟩) ⟨y,E,h,r,F,J,p,_,z,R,S,P,N,λl C H' T U n u9=>?_⟩;obtain⟨b,at',M,ok⟩:=u9;subst M;refine⟨l,b,rfl,at',λq u=>CL (ok q u),by rw[Vy] at j;exact j,λY out x o1 G=>?_⟩;rw[<-o1] at k;exact k _ _ (dB.step T (dB.lv U (yO λq u=>ok q (G q u)) x))
 ·rw[VH j] at i;cases i
def Ee{X:Cx}{k d j:Expr}{p pos e:Pos}{n:EM}{m:TM}{g:GM}{N':List Str}{caps:List (Option Nat)}{a:Scope}{h:List Expr}{s:IM}(C:bg X N' caps a)(t:X.calm=true)(r:Gl X "sorted")(o:X.mg "sorted"=none)(u:X.A.units+64 < cLine)(y:SI X k d s)(z:∀C b c f pl,SG (fE X N' a C b c f pl) k g)(q:∀C b c f pl,PQ (fE X N' a C b c f pl) h m)(E:∀C b c f pl,SE (fE X N' a C b c f pl) j n)(v:∀x,foldedSetIterable d X.env x=pure x:=by intro _;ac_nf):
  SE X (.Call (.Name "sorted" p) [.SetComp j [⟨k,d,h,0⟩] a e] [] pos) (BR caps s g m (mP n)):=by
 have i:=ze (g:=AI X.K g) (tc:=yq X.K m) (tm:=λl=>Ju X.K (RU X.w) l (mP n)) C t (Ex j [⟨k,d,h,0⟩] a e) rfl (λG l env=>D2 ..) ED y z q
  (λC b c f pl l=>Jy (X:=fE X N' a C b c f pl) u (E C b c f pl) l) rfl v
 exact(zf (B4 t) r o (by decide+kernel) (C7 i Hi)).imp λF H Q hh=>GI hh
end Sm
namespace L2
open PyProof.Rows
noncomputable def LH(a c:Int)(n:Nat):It:=⟨λi _=>i < n,λi H x b=>b=H/\x=.int (a+i*c),λi _=>n<=i⟩
def ym{P:Program}{w:World}{K:FR}{M:Expr}(d:Addr)(j c:Int)(n:Nat):Turn P w K M (LH j c n) [d] d (λi h=>IsRangeIter h d (j+(i:Nat)*c) ((n:Int)-(i:Nat)) c) where
 mem:=by simp
 obj:=λi h st b f=>by
  have e:b=d:=by simpa using f
  subst e;exact⟨_,st,λv z=>by
   have L:Data.fields _=Data.cell v:=z;cases L⟩
 keep:=λi h m st k=>k d (by simp) _ st
 item:=by
  intro X u p x r i a s G H E I l st q;subst u p x;obtain⟨f0,F,O,C,A,y⟩:=l d (by simp);have W:=Walks.range (prog:=X.prog) (w:=X.w) (I.ok.hd r) d j c n;refine W.item i s _ _ q st λv m J N g kk=>?_;obtain⟨t,rfl⟩:=N;have R:Inv X a G H {s with heap:=m,toks:=J}:=I.turned (λb o f e=>kk b o (by simpa using f) e) f0 F C A y;exact⟨_,rfl,zN (s:={s with heap:=m,toks:=J}) (n:="range_iterator") g rfl rfl (by decide) ⟨.int (j+i*c),H,R,⟨t,rfl⟩,⟨rfl,rfl⟩,g,λb f=>(l b f).1⟩⟩
 done:=by
  intro X u p x r i a s G H E I l st q;subst u p x;obtain⟨f0,F,O,C,A,y⟩:=l d (by simp);exact wpAny_pyNext_range_end (I.ok.hd r) st (by have:n<=i:=q;lia) λm Q=>⟨rfl,I.turned (t':=s.toks) (λb o f e=>Q b o f e) f0 F C A y⟩
 self:=λ_ _ _ _ _ st h=>wpAny_pyIter_rangeiter st h
def Ji(i j c:Int):Prop:=(-1000000<=i/\i<=1000000)/\(-1000000<=j/\j<=1000000)/\0 < c/\c<=1000
instance:Decidable (Ji i j c):=by unfold Ji;exact inferInstance
def size_pos(h:Ji i j c):0<=Builtin.Range.rangeSize i j c/\Builtin.Range.rangeSize i j c<=2000000:=by
 obtain⟨g,f,d,e⟩:=h;unfold Builtin.Range.rangeSize;rw[VE d]
 split
 ·have:=Int.ediv_nonneg (a:=j-i-1) (b:=c) (by lia) (by lia);have:=Int.ediv_le_self (a:=j-i-1) c (by lia)
  lia
 ·lia
def Es{d:List (Addr×Obj)}{g:St}{H:Hp}{s:Shared}{R:It->Hp->Prop}{E:Value->Shared->Prop}{a f c:Int}{t u v:Tok}{h:Nat}(I:Inv X d g H s)(j:Ji a f c)
  (q:R (LH a c (Builtin.Range.rangeSize a f c).toNat) H):wpAny (model X.prog X.w) X.A (pyIter (.ref s.heap.objs.size)) (UP X d g p R) E {s with heap:=s.heap.push {cls:=.type "range",data:=.fields #[.int a t,.int f u,.int c v]},toks:=h}:=by
 have k:=size_pos j;refine wpAny_pyIter_range (IsRange.new ..) ?_ ?_
 ·obtain⟨g1,g2,g3,g4⟩:=j;unfold Builtin.Range.small;simp only[Builtin.Range.rangeFitsLong,V1,Xl,Wz,Xs,show c > 0 from g3,Yi];refine⟨⟨⟨⟨⟨?_,?_⟩,?_,?_⟩,?_,?_⟩,?_,?_⟩,.inr ⟨?_,?_⟩⟩ <;> lia
 have i:Inv X d g H {s with heap:=s.heap.push {cls:=.type "range",data:=.fields #[.int a t,.int f u,.int c v]},toks:=h}:=I.kept λb o e=>VB _ e;refine⟨(s.heap.push {cls:=.type "range",data:=.fields #[.int a t,.int f u,.int c v]}).objs.size,[(s.heap.push {cls:=.type "range",data:=.fields #[.int a t,.int f u,.int c v]}).objs.size],_,_,H,rfl,
  i.kept (t':=h) λb o e=>VB _ e,ym _ a c (Builtin.Range.rangeSize a f c).toNat,?_,λb l=>?_,q⟩
 ·have n:a+((0:Nat):Int)*c=a:=by simp
  have m:(((Builtin.Range.rangeSize a f c).toNat:Nat):Int)-((0:Nat):Int)=Builtin.Range.rangeSize a f c:=by lia
  show IsRangeIter _ _ (a+((0:Nat):Int)*c) ((((Builtin.Range.rangeSize a f c).toNat:Nat):Int)-((0:Nat):Int)) c;rw[n,m];exact VR _ rfl
 ·have e:b=(s.heap.push {cls:=.type "range",data:=.fields #[.int a t,.int f u,.int c v]}).objs.size:=by simpa using l
  subst e;exact i.sY (VG _) (i.aZ.fresh (VG _))
def Rj(d:TA):TI:=λa H R=>d a H λb e=>∃i j c:Int,b=[.int i,.int j,.int c]/\Ji i j c/\R (LH i c (Builtin.Range.rangeSize i j c).toNat) e
def Ez{X:Cx}{u a b c:Expr}{p pos:Pos}{n:TA}(A:Gl X "range")(hm:X.mg "range"=none)(C:PA X [a,b,c] n)(z:starEach [a,b,c] X.env=[(false,eval a X.env),(false,eval b X.env),(false,eval c X.env)]:=by rfl)(k:starEach [b,c] X.env=[(false,eval b X.env),(false,eval c X.env)]:=by rfl):
  PI X u (.Call (.Name "range" p) [a,b,c] [] pos) (Rj n):=by
 intro g s o H R I h;refine Call_ (fU I A hm boot_range (WC (cv (C pos g s o H _ I h) λus s1 ⟨F,H1,E,w,y⟩=>?_) (by rw[z,k]) (by rw[k];rfl)));obtain⟨i,j,d,e,m,q⟩:=y;subst e;cases w with
 | cons r f=>
  cases f with
  | cons x f=>
   cases f with
   | cons l f=>
    cases f;obtain⟨t,rfl⟩:=r;obtain⟨G,rfl⟩:=x;obtain⟨v,rfl⟩:=l;refine call_range_3 (by have:=m.2.2.1;lia) (Es E m q) (.inl ?_);obtain⟨g1,g2,g3,g4⟩:=m;exact PyProof.noPylong_small (by lia)
end L2
namespace Sm
open L2 PyProof.Rows
noncomputable def KZ(m:AM):IM:=λa h=>(m a h).bind λp=>match p.1 with
 | [.int i,.int j,.int c]=>if Ji i j c then some ((List.range (Builtin.Range.rangeSize i j c).toNat).map λ(k:Nat)=>D.int (i+(k:Int)*c),[],p.2) else none
 | _=>none
def KQ{K:FR}{ρ:Ad}{H:Hp}(b c:Int)(n:Nat):LI K (LH b c n) ρ H [] ((List.range n).map λ(k:Nat)=>D.int (b+(k:Int)*c)):=by
 refine xy λd m r T S o=>⟨(List.range n).map λ(k:Nat)=>V.int (b+(k:Int)*c),?_,λi f=>?_,λi v e=>?_⟩
 ·have:=jY (K:=K) (ρ:=d) (H:=m) ((List.range n).map λ(k:Nat)=>b+(k:Int)*c);rw[XO,XO] at this;exact this
 ·rw[Vy,V2] at f;exact f
 ·rw[VN] at e;obtain⟨j,l,h⟩:=cY e;obtain⟨a,g⟩:=Vz.mp l;rw[V2] at a;rw[ZK] at g;subst g;subst h;exact⟨a,λu s ⟨p,q⟩=>⟨p,q⟩⟩
def Eb{X:Cx}{t a b c:Expr}{p pos:Pos}{m:AM}(y:Gl X "range")(hm:X.mg "range"=none)(A:SA X [a,b,c] m)(w:starEach [a,b,c] X.env=[(false,eval a X.env),(false,eval b X.env),(false,eval c X.env)]:=by ac_nf)(o:starEach [b,c] X.env=[(false,eval b X.env),(false,eval c X.env)]:=by ac_nf)(hl:kA m 3):
  SI X t (.Call (.Name "range" p) [a,b,c] [] pos) (KZ m):=
 (Ez y hm A w o).imp λσ H Q ⟨q,s,h,xs,ws,L,R,S,e,k⟩=>by
  obtain⟨⟨x,C⟩,E,f⟩:=a9 e;refine⟨q,s,h,x,C,R,S,E,λJ g I F G u=>?_⟩;dsimp only at f
  split at f
  ·rename_i _ i j d
   by_cases z:Ji i j d
   ·rw[VE z] at f;cases f;refine⟨i,j,d,?_,z,k _ g I F G (KQ i d _)⟩;cases u with
    | cons r l=>cases l with
     | cons v l=>cases l with
      | cons n l=>cases l;cases r;cases v;cases n;rfl
   ·rw[VH z] at f;cases f
  ·cases f
end Sm
namespace L2
open PyProof.Rows PySem.SeqAt
end L2
namespace Sm
open L2 PyProof.Rows
end Sm
namespace Sm
open L2 PyProof.Rows PySem.SeqAt
noncomputable local instance:DecidableEq PyData:=λa b=>Classical.propDecidable _
def xM(k:PyData)(d:D):Bool:=match jm d with
 | some p=>PyData.eqv p k
 | none=>false
def f9(a:List (D×D))(k:PyData):Option D:=(a.find? λb=>xM k b.1).map (·.2)
def jn(a:List (D×D))(k:PyData)(e v:D):List (D×D):=
 if(a.any λb=>xM k b.1)=true then a.map (λb=>if xM k b.1=true then(b.1,v) else b) else a++[(e,v)]
def zI(d:D):Option PyData:=match d with
 | .tup xs=>(jm (.tup xs)).bind λp=>if bQ 8 p=true then some p else none
 | _=>none
def xJ(hp:bQ 8 p=true)(a:bQ 8 k=true):PyData.eqv p k=decide (p=k):=by
 by_cases z:p=k
 ·subst z;rw[eqv_refl 8 hp,Wa rfl]
 ·rw[V5 z];cases q:PyData.eqv p k with
  | false=>rfl
  | true=>exact absurd (qE 8 hp a q) z
inductive R3(K:FR)(ρ:Ad)(H:Hp):List (Addr×V)->List (PyData×Addr×Value)->List (D×D)->Prop where
 | nil:R3 K ρ H [] [] []
 | cons {b:Addr} {v:V} {u:Value} {p:PyData} {d e:D} {us:List (Addr×V)} {ys:List (PyData×Addr×Value)} {kvs:List (D×D)}:
  Rep K ρ H (.ref b) d->Rep K ρ H v e->RelV v u->jm d=some p->bQ 8 p=true->R3 K ρ H us ys kvs->R3 K ρ H ((b,v)::us) ((p,b,u)::ys) ((d,e)::kvs)
section
variable {K:FR} {ρ ρ':Ad} {H H':Hp}
def R3.of:∀{us:List (Addr×V)} {g:List (PyData×Addr×Value)} {f:List (D×D)},aw K ρ H (us.map λu=>V.ref u.1) (f.map (·.1))->aw K ρ H (us.map (·.2)) (f.map (·.2))->gc (f.map (·.1))=some (g.map (·.1))->
  (g.map (·.1)).all (bQ 8)=true->Paired (λ(u:Addr×V)(y:PyData×Addr×Value)=>u.1=y.2.1/\RelV u.2 y.2.2) us g->R3 K ρ H us g f:=by
 intro us g f
 induction f generalizing us g with
 | nil=>
  intro a b c d e;cases us with
  | cons _ _=>cases a
  | nil=>cases e;exact .nil
 | cons q f n=>
  intro a b c i m;obtain⟨d,e⟩:=q;cases us with
  | nil=>cases a
  | cons u us=>
   obtain⟨E,C⟩:=u;cases m with
   | @cons _ y _ g h t=>
    obtain⟨z,A,x⟩:=y;obtain⟨k,j⟩:=h;dsimp only at k j;subst k;cases a with
    | cons a1 a2=>
     cases b with
     | cons w v=>
      obtain⟨p,s,r⟩:=a9 (show(jm d).bind (λa=>(gc (f.map (·.1))).map λb=>a::b)=_ from c);obtain⟨F,o,l⟩:=cY r;rw[VL] at l;obtain⟨rfl,rfl⟩:=List.cons.inj l;rw[VL,X8,V1] at i;exact .cons a1 w j s i.1 (n a2 v o i.2 t)
theorem R3.mono(S:Ch ρ H ρ' H'){us:List (Addr×V)}{h:List (PyData×Addr×Value)}{g:List (D×D)}(r:R3 K ρ H us h g):R3 K ρ' H' us h g:=by
 induction r with
 | nil=>exact .nil
 | cons a b c d e f i=>exact .cons (a.mono S) (b.mono S) c d e i
def R3.parts:∀{us:List (Addr×V)} {h:List (PyData×Addr×Value)} {g:List (D×D)},R3 K ρ H us h g->aw K ρ H (us.map λu=>V.ref u.1) (g.map (·.1))/\aw K ρ H (us.map (·.2)) (g.map (·.2))/\gc (g.map (·.1))=some (h.map (·.1))/\
  (h.map (·.1)).all (bQ 8)=true/\Paired (λ(u:Addr×V)(y:PyData×Addr×Value)=>u.1=y.2.1/\RelV u.2 y.2.2) us h/\us.length=g.length/\h.length=g.length
 :=by
 intro us h g r
 induction r with
 | nil=>exact⟨.nil,.nil,rfl,rfl,.nil,rfl,rfl⟩
 | cons a b c d e f i=>
  obtain⟨p,o,n,m,l,k,j⟩:=i;refine⟨.cons a p,.cons b o,?_,?_,.cons ⟨rfl,c⟩ l,congrArg Nat.succ k,congrArg Nat.succ j⟩
  ·rw[VL,VL,gc,d,VO,n];rfl
  ·rw[VL,X8,e,m];rfl
theorem R3.reads{X:Cx}{g:List (Addr×Obj)}{k:L2.St}{s:Shared}(I:Inv X g k H s){us:List (Addr×V)}{j:List (PyData×Addr×Value)}{h:List (D×D)}(r:R3 X.K ρ H us j h):∀y∈j,Je s.heap y.1 y.2.1:=by
 induction r with
 | nil=>exactλ_ z=>(nomatch z)
 | cons a b c d e f l=>
  intro y i;rcases VS.mp i with rfl | i
  ·exact⟨e,Ck.reads I (a.rZ d).1 rfl⟩
  ·exact l y i
theorem R3.val{k:PyData}(c:bQ 8 k=true):∀{us:List (Addr×V)} {ys:List (PyData×Addr×Value)} {kvs:List (D×D)},R3 K ρ H us ys kvs->(atKey ys k=none/\f9 kvs k=none)\/∃p d v,atKey ys k=some p/\f9 kvs k=some d/\RelV v p.2/\Rep K ρ H v d
 | _,_,_,.nil=>.inl ⟨rfl,rfl⟩
 | _,_,_,.cons (b:=b) (v:=v) (u:=u) (p:=p) (d:=d) (e:=e) (us:=us) (ys:=ys) (kvs:=kvs) n m l j i f=>by
  have a:xM k d=decide (p=k):=by unfold xM;rw[j];exact xJ i c
  by_cases z:p=k
  ·refine .inr ⟨(b,u),e,v,?_,?_,l,m⟩
   ·unfold atKey;rw[WQ,Wa z];rfl
   ·unfold f9;rw[WQ,a,Wa z];rfl
  ·have h:atKey ((p,b,u)::ys) k=atKey ys k:=by unfold atKey;rw[WQ,V5 z]
   have g:f9 ((d,e)::kvs) k=f9 kvs k:=by unfold f9;rw[WQ,a,V5 z]
   rw[h,g];exact f.val c
theorem R3.old{k:PyData}(r:bQ 8 k=true){x:V}{c:Value}{w:D}(o:RelV x c)(g:Rep K ρ H x w):∀{us:List (Addr×V)} {n:List (PyData×Addr×Value)} {h:List (D×D)},R3 K ρ H us n h->∃a,R3 K ρ H a (n.map (putAt k c)) (h.map λi=>if xM k i.1=true then(i.1,w) else i)
 | _,_,_,.nil=>⟨[],.nil⟩
 | _,_,_,.cons (b:=b) (v:=v) (u:=u) (p:=p) (d:=d) (e:=e) t A y m l f=>by
  have q:xM k d=decide (p=k):=by unfold xM;rw[m];exact xJ l r
  obtain⟨a,s⟩:=f.old r o g
  by_cases z:p=k
  ·refine⟨(b,x)::a,?_⟩;have j:putAt k c (p,b,u)=(p,b,c):=by simp[putAt,z]
   rw[VL,VL,j,q,Wa z,VE rfl];exact .cons t g o m l s
  ·refine⟨(b,v)::a,?_⟩;have j:putAt k c (p,b,u)=(p,b,u):=by simp[putAt,z]
   rw[VL,VL,j,q,V5 z,VH V8];exact .cons t A y m l s
def R3.app{us j:List (Addr×V)}{l i:List (PyData×Addr×Value)}{k h:List (D×D)}(g:R3 K ρ H j i h):R3 K ρ H us l k->R3 K ρ H (us++j) (l++i) (k++h):=λf=>by
 induction f with
 | nil=>exact g
 | cons a b c d e f m=>exact .cons a b c d e m
theorem R3.any{k:PyData}(a:bQ 8 k=true):∀{us:List (Addr×V)} {ys:List (PyData×Addr×Value)} {kvs:List (D×D)},R3 K ρ H us ys kvs->(kvs.any λc=>xM k c.1)=(atKey ys k).isSome
 | _,_,_,.nil=>rfl
 | _,_,_,.cons (b:=b) (v:=v) (u:=u) (p:=p) (d:=d) (e:=e) (us:=us) (ys:=ys) (kvs:=kvs) m l j i h f=>by
  have g:xM k d=decide (p=k):=by unfold xM;rw[i];exact xJ h a
  rw[XB,g,f.any a];unfold atKey;rw[WQ]
  by_cases z:p=k
  ·rw[Wa z];rfl
  ·rw[V5 z];rfl
def R3.put{k:PyData}(h:bQ 8 k=true){b:Addr}{x:V}{i:Value}{d w:D}(l:Rep K ρ H (.ref b) d)(m:jm d=some k)(j:RelV x i)(a:Rep K ρ H x w){us:List (Addr×V)}{e:List (PyData×Addr×Value)}{c:List (D×D)}(f:R3 K ρ H us e c):
  ∃g,R3 K ρ H g (storedH e k b i) (jn c k d w):=by
 unfold storedH jn;rw[f.any h]
 by_cases z:(atKey e k).isSome=true
 ·rw[VE z,VE z];exact f.old h j a
 ·rw[VH z,VH z];exact⟨_,R3.app (.cons l a j m h .nil) f⟩
end
def Iv{X:Cx}{b:List (Addr×Obj)}{i:L2.St}{H:Hp}{s:Shared}{g:Ad}{a:Addr}{c:List (D×D)}(I:Inv X b i H s)(x:Az X.K g H a (.dcH c)):
  ∃us d h,H a=some (.lI (dC a us h))/\R3 X.K g H us d c/\s.heap.DictOfH (w9 X.prog X.w) a d/\(a==sysModules)=false/\us.length<=sizeLine:=by
 obtain⟨us,h,e,k,j,p⟩:=x;obtain⟨⟨z,m,hp,nd,d,l,rfl,o,es,u,t,r,q,n⟩,_⟩:=I.aZ a _ e;have f:=R3.of k j p hp l;exact⟨us,d,_,e,f,⟨o,es,u,t,r,q,n,f.reads I,nd⟩,m,z⟩
def qI(e:zI d=some k):jm d=some k/\bQ 8 k=true/\∃b,d=.tup b:=by
 unfold zI at e
 split at e
 ·obtain⟨p,c,a⟩:=a9 e
  split at a
  ·rename_i z;cases a;exact⟨c,z,_,rfl⟩
  ·cases a
 ·cases e
noncomputable def lL(d:D)(h:MH):Option (List (D×D)):=match d with
 | .ob n=>match h[n]? with
  | some (.dcH a)=>some a
  | _=>none
 | _=>none
def qL{K:FR}{c:Ad}{H:Hp}{h:MH}{v:V}{d:D}{b:List (D×D)}(S:bC K c h H)(r:Rep K c H v d)(e:lL d h=some b):∃n a,d=.ob n/\h[n]?=some (.dcH b)/\v=.ref a/\c.ob[n]?=some a/\Az K c H a (.dcH b):=by
 unfold lL at e
 split at e
 ·split at e
  ·rename_i q;cases e;cases r with
   | ob hn=>exact⟨_,_,rfl,q,rfl,hn,S.at_ _ _ _ hn q⟩
  ·cases e
 ·cases e
def zU(d e:D)(h:MH):Option (D×MH):=(lL d h).bind λa=>(zI e).bind λk=>(f9 a k).map λz=>(z,h)
def K9(e d:D)(h:MH):Option (D×MH):=(lL d h).bind λa=>(zI e).map λk=>(.bl (f9 a k).isSome,h)
def HC:FO:=λd b h=>(lL d h).bind λa=>match b with
 | [e,x]=>(zI e).map λk=>((f9 a k).getD x,h)
 | _=>none
def vS(o i v:D)(h:MH):Option MH:=match o with
 | .ob n=>match h[n]? with
  | some (.dcH a)=>(zI i).bind λk=>if a.length < sizeLine then some (h.set n (.dcH (jn a k i v))) else none
  | _=>none
 | _=>none
def HL(d:D)(h:MH):Bool:=(lL d h).isSome
section
variable {X:Cx}
def BI{a:List (Addr×Obj)}{c:L2.St}{H:Hp}{s:Shared}{d:Ad}{y:V}{u:Value}{e:D}{k:PyData}(I:Inv X a c H s)(g:Rep X.K d H y e)(f:RelV y u)(h:zI e=some k):∃b,y=.ref b/\u=.ref b/\Je s.heap k b:=by
 obtain⟨j,i,m,rfl⟩:=qI h;cases g with
 | @tup b n ds ht l=>
  obtain rfl:u=Value.ref b:=f;exact⟨b,rfl,rfl,i,Ck.reads I ((Rep.tup ht l).rZ j).1 rfl⟩
def OQ(hu:X.A.units+64 < cLine):P6 X (rS X.K zU):=by
 intro i j m s P H x y v u Q I C t hh L;obtain⟨R,h,d,e,z,h',S,rd,E,c,k⟩:=hh;obtain⟨F,O,c⟩:=a9 c;obtain⟨ky,q,c⟩:=a9 c;obtain⟨T,g,c⟩:=cY c;cases c;obtain⟨n,a,rfl,hn,rfl,ha,ob⟩:=qL S rd O;obtain rfl:v=Value.ref a:=C;obtain⟨us,U,Y,ea,f,dd,J,Z⟩:=Iv I ob;obtain⟨b,rfl,rfl,G⟩:=BI I E t q;rcases f.val (qI q).2.1 with⟨o,l⟩ |⟨p,d',r,o,l,N,M⟩
 ·rw[l] at g;cases g
 ·rw[l] at g;cases g;exact tail_any dd.typeIs YW.lookup (wpAny_getItem_heap (knd:=w9 X.prog X.w) (show X.A.in1.units+8 < cLine by rw[YR];lia) G dd o ⟨r,H,I.tok _,N,k _ _ (.here S M)⟩) L
def Gj(hr:eU n X.A)(g:SE X a d)(f:SE X b c)(e:iG b:=by unfold iG;intro _ _;ac_nf):SE X (.Subscript a b pos) (ak zU d c):=(L6 (OQ hr.units) g f e).imp λ_ _ _=>yT
def Oa(O:X.A.units+64 < cLine):pV X (compareOp .In) K9:=by
 intro l s F H x y v u Q I q o hh;obtain⟨G,h,d,e,z,U,S,rd,r,c,k⟩:=hh;obtain⟨t,E,c⟩:=a9 c;obtain⟨ky,m,c⟩:=cY c;cases c;obtain⟨n,a,rfl,hn,rfl,P,ob⟩:=qL S r E;obtain rfl:u=Value.ref a:=o;obtain⟨us,J,M,Y,f,dd,g,N⟩:=Iv I ob;obtain⟨b,rfl,rfl,C⟩:=BI I rd q m;refine wpAny_in_heap (knd:=w9 X.prog X.w) (show X.A.in1.units+8 < cLine by rw[YR];lia) C g dd ?_;refine⟨.bl _,H,I.tok _,rfl,k _ _ (.here S ?_)⟩;rcases f.val (qI m).2.1 with⟨j,i⟩ |⟨p,Z,L,j,i,T,R⟩
 ·rw[j,i];exact .bl _
 ·rw[j,i];exact .bl _
inductive Jb(K:FR)(o i v:V)(H:Hp)(Q:Hp->Prop):Prop where
 | mk (ρ h a b c h'):bC K ρ h H->Rep K ρ H o a->Rep K ρ H i b->Rep K ρ H v c->(vS a b c h=some h')->(∀ρ' H',cm ρ H ρ' H'->bC K ρ' h' H'->Q H')->Jb K o i v H Q
def QT(K:FR):V->V->V->Hp->(Hp->Prop)->Prop:=λo i v H Q=>Jb K o i v H Q
def Dx(o i:EM):GM:=λv a h=>(o a h).bind λp=>(i a p.2).bind λq=>(vS p.1 q.1 v q.2).map λb=>(a,b)
def _root_.L2.dC.stays{a:Addr}{us:List (Addr×V)}{c:List PyData}{w:World}{h:Heap}(x:dC a us c w h):(∃o,h.get? a=some o)/\∀b d:Heap,dC a us c w b->(∀o,b.get? a=some o->d.get? a=some o)->dC a us c w d:=by
 obtain⟨_,_,_,_,_,_,_,o,_,_,b,_⟩:=x;exact⟨⟨o,b⟩,λ_ _ ⟨p,n,m,l,g,j,i,o,es,q,f,e⟩ k=>⟨p,n,m,l,g,j,i,o,es,q,k _ f,e⟩⟩
def JZ(hu:X.A.units+64 < cLine):LB X (QT X.K):=by
 intro G s σ H o i v ov iv u Q I ro R rv hh;obtain⟨r,h,d,e,c,h',S,rd,F,U,g,k⟩:=hh;cases d <;> first |(cases g;done) | skip
 rename_i n;unfold vS at g;dsimp only at g;cases q:h[n]? with
 | none=>rw[q] at g;cases g
 | some w=>
  rw[q] at g;cases w with
  | lst _=>cases g
  | dct _=>cases g
  | dcH l=>
   dsimp only at g;obtain⟨ky,O,g⟩:=a9 g
   by_cases z:l.length < sizeLine
   ·rw[VE z] at g;cases g;obtain⟨n',a,y,hn,rfl,M,ob⟩:=qL S rd (show lL (.ob n) h=some l by unfold lL;dsimp only;rw[q]);cases y;obtain rfl:ov=Value.ref a:=ro;obtain⟨us,t,ps,ea,f,dd,x,hz⟩:=Iv I ob;obtain⟨b,rfl,rfl,Y⟩:=BI I F R O;obtain⟨ek,hk,P,rfl⟩:=qI O;obtain⟨j,N⟩:=f.put hk F ek rv U;have hl:=f.parts;have m:=N.parts;refine wpAny_setItem_heap (knd:=w9 X.prog X.w) (hsz:=by have:=hl.2.2.2.2.2.2;clear hl;lia) (show X.A.in1.units+8 < cLine by rw[YR];lia) Y dd λh2 E Z=>?_;obtain⟨J,es,ep,L,g2,g3,g4,g5,g6⟩:=E;have T:cm r H r (upd H a (.lI (dC a j ((storedH t ky b u).map (·.1))))):=cm.wrote S (VC M);have p:(jn l ky (.tup P) c).length<=sizeLine:=by
     unfold jn
     split
     ·rw[Vy];exact WD z
     ·rw[VM];simp;exact z
    have new:dC a j ((storedH t ky b u).map (·.1)) X.w h2:=⟨by rw[m.2.2.2.2.2.1];exact p,x,m.2.2.2.1,g6,_,m.2.2.2.2.1,rfl,J,es,ep,L,g2,g3,g4⟩;refine⟨_,gv (ob:=.lI (dC a j ((storedH t ky b u).map (·.1)))) I (by rw[ea];exact True.intro) Z ⟨J,L⟩ ⟨new,L2.dC.stays new⟩,k r _ T (S.wrote M ?_)⟩;have C:=(N.mono T.toCh).parts;exact⟨j,_,aC,C.1,C.2.1,C.2.2.1⟩
   ·rw[VH z] at g;cases g
def CD (hr:eU n X.A) (C:SE X o mo) (E:SE X i z) (F:∀v,assign (.Subscript o i pos) X.env v=(do
   let ov<-holding [v] (eval o X.env);let a<-holding [v,ov] (eval i X.env)
   standAt pos
   holding [v,ov,a] (setItem ov a v)
   release [v,ov,a] []):=by intro _;ac_nf):SG X (.Subscript o i pos) (Dx mo z):=
 (Hb C E (JZ hr.units) F).imp λv σ H Q u9=>by
  obtain⟨s,l,h,d,t,Z,R,S,r,e,k⟩:=u9;obtain⟨⟨x,p⟩,N,M⟩:=a9 e;obtain⟨⟨y,m⟩,L,J⟩:=a9 M;obtain⟨Y,I,G⟩:=cY J;cases G;exact⟨s,l,h,x,p,R,S,N,λov H1 ⟨j,c,T,w⟩=>⟨j,l,p,y,m,R.mono c,T,L,λa H2 ⟨g,b,P,u⟩=>
   ⟨g,m,x,y,d,_,P,w.mono b,u,r.mono (c.trans b).toCh,I,λf U q O=>k f U σ (c.trans (b.trans q)) O (R.mono (c.trans (b.trans q)).toCh)⟩⟩⟩
noncomputable def Ld:EM:=λ_ h=>some (.ob h.length,h++[.dcH []])
def Gk:SE X (.Dict [] [] pos) Ld:=by
 rintro pins s σ H Q I ⟨b,c,h,d,f,R,S,e,k⟩;cases e;have hp:H s.heap.objs.size=none:=I.aZ.fresh (VG _);have new:dC s.heap.objs.size [] [] X.w (s.heap.push {cls:=.type "dict",data:=.dict #[]}):=by
  refine⟨Wm _,?_,rfl,Aah,[],.nil,rfl,_,#[],0,VR _ rfl,⟨rfl,rfl,rfl⟩,rfl,rfl⟩;have:=I.big;simp;exact X1 this
 refine wpAny_Dict_empty ⟨.ref s.heap.objs.size,_,I.laid (a:=s.heap.objs.size) (o:=.lI (dC s.heap.objs.size [] [])) (t':=s.toks) (λ_ _ q=>VB _ q) (VG _) ⟨new,L2.dC.stays new⟩,rfl,k _ _ ?_⟩;exact⟨b.more _,cm.made S hp,S.made hp ⟨[],[],aC,.nil,.nil,rfl⟩,.ob (show(b.ob++[s.heap.objs.size])[h.length]?=_ by rw[<-S.len,VY (VG _)];simp)⟩
end
end Sm
namespace Sm
open L2 PyProof.Rows
abbrev v0:EM:=aP 0
abbrev v1:EM:=aP 1
abbrev v2:EM:=aP 2
abbrev v3:EM:=aP 3
abbrev v4:EM:=aP 4
abbrev v5:EM:=aP 5
abbrev v6:EM:=aP 6
abbrev v7:EM:=aP 7
abbrev v8:EM:=aP 8
abbrev v9:EM:=aP 9
abbrev v10:EM:=aP 10
abbrev v11:EM:=aP 11
abbrev SX:EM:=aP 12
abbrev SV:EM:=aP 13
abbrev UY:EM:=aP 14
abbrev ki(i:Int):EM:=eK (.int i)
abbrev ks(x:Str):EM:=eK (.str x)
abbrev a1(x:EM):AM:=af x aY
abbrev a2(x y:EM):AM:=af x (af y aY)
abbrev a3(x y z:EM):AM:=af x (af y (af z aY))
abbrev a4(x y z u:EM):AM:=af x (af y (af z (af u aY)))
section
variable {P:Program} {w:World} {K:FR} {mg:Str->Option Value} {base:Heap} {x qual:Str} {st:Stmt} {f:Addr} {fd:FuncData} {N ps:List Str} {k:Nat}
def av(F:Cm K x qual st f fd)(b:au N ps (ah st))(d:∀(a:Value)(A:Around)(outer:List Env)(s:Shared)(H:Hp)(E:XK),eU k (A.deeper (envOfC qual (ah st) s.heap.objs.size f a))->N.Nodup->Jm (z7 wm P w K mg base N qual (ah st) f a A outer s H E).P1 (gu st) body):
  fX P w K mg base wm (k+1) f fd ps (FF K ps.length (g0 N.length body)):=OT F b λc A o s H E hr=>d c A o s H E hr b.nd
end
def Qv{c:CmpOp}(g:pV X (compareOp c) f)(i:SE X a e)(h:SE X b d)(hm:behindInMarks c b=false:=by first | exact sF _ | ac_nf):ST X (.Compare a [c] [b] pos) (ay (ak f e d)):=qX g i h hm
def Qw{c:CmpOp}(g:pV X (compareOp c) f)(i:SE X a e)(h:SE X b d)(hm:behindInMarks c b=false:=by first | exact sF _ | ac_nf):SE X (.Compare a [c] [b] pos) (ak f e d):=M7 g i h hm
def Ts{a}(h:SA X es aY):SE X (.Tuple es a pos) (aq aN aY):=cH h aA
def Tr{a}(h:SA X es (af m0 aY)):SE X (.Tuple es a pos) (aq aN (af m0 aY)):=cH h (ae aA)
def To{a}(h:SA X es (af m0 (af b aY))):SE X (.Tuple es a pos) (aq aN (af m0 (af b aY))):=cH h (ae (ae aA))
def Tn{a}(h:SA X es (af m0 (af c (af b aY)))):SE X (.Tuple es a pos) (aq aN (af m0 (af c (af b aY)))):=cH h (ae (ae (ae aA)))
def Tj{a}(h:SA X es (af m0 (af f (af e (af d (af c (af b aY))))))):SE X (.Tuple es a pos) (aq aN (af m0 (af f (af e (af d (af c (af b aY))))))):=cH h (ae (ae (ae (ae (ae (ae aA))))))
def Tw(h:SA X es aY):qq X (.List es pos) aY:=fR h aA
def Tv(h:SA X es (af m0 aY)):qq X (.List es pos) (af m0 aY):=fR h (ae aA)
def Tu(h:SA X es (af m0 (af a aY))):qq X (.List es pos) (af m0 (af a aY)):=fR h (ae (ae aA))
def Tt(h:SA X es (af m0 (af g (af f (af e (af d (af c (af b (af a aY))))))))):qq X (.List es pos) (af m0 (af g (af f (af e (af d (af c (af b (af a aY)))))))):=fR h (ae (ae (ae (ae (ae (ae (ae (ae aA))))))))
end Sm
namespace Hd
open PySem.W PyProof.Rows L2 Sm
def aU{q:Program}{a:List Str}{c:ExcName->Option Value}{mg g:Str->Option Value}{h base:Heap}{P:Program}{w:World}(T:Top q a c mg g h){n:Str}{st:Stmt}(e:(recsOf q).find? (λe=>e.name==n)=some (rY n st)){d:List Str}{k N:Nat}{F:Fn}
  (ok:∀{f:Addr} {b:FuncData},Cm (aJ h) n n st f b->keepIn (aJ h) (.ref f)=true->Binds (aJ h) b d []->mg n=some (.ref f)->fX P w (aJ h) mg base wm k f b d (FF (aJ h) N F)) (i:∀{f:Addr} {b:FuncData},Cm (aJ h) n n st f b->Binds (aJ h) b d []:=by walk_at "b"):Df P w (aJ h) mg base n k d N F:=Rb T e i ok
end Hd
namespace L2
open PyProof.Rows
section
variable {P:Program} {w:World} {A:Around} {E:Value->Shared->Prop} {s:Shared} {d J:Addr} {o:Obj} {es:Array DictEntry} {ep:Nat}
abbrev Uo(d:Addr)(n ep:Nat):Obj:={cls:=.type "dict_keyiterator",data:=.fields #[.ref d,.int 0 0,.int n 0,.int ep 0]}
def GK{Q:Value->Shared->Prop}(hd:(d==sysModules)=false)(b:s.heap.get? d=some o)(e:o.ExactDict)(a:o.data=.dict es ep)(q:Q (.ref s.heap.objs.size) {s with heap:=s.heap.push (Uo d es.size ep)}):wpAny (model P w) A (pyIter (.ref d)) Q E s:=by
 have c:s.TypeIs (.ref d) "dict":=⟨o,b,e.1⟩;refine Z7 c F.slot_dict_iter (Wj F.slot_dict_iter c F.entry_dict_iter ?_ (F.args_dict_iter_1 _));unfold Builtin.«dict.__iter__» Builtin.Dict.dictSlotNone;refine Vx (Vx (wpAny_notOrdered_dict c (VA ?_)));show wpAny _ _ (Builtin.Dict.showsAll d >>=_) _ _ s;unfold Builtin.Dict.showsAll;rw[hd];refine Vx (VA (Vx (Z8 b a (Vx (AaC b a (Vx (Ws (VA ⟨_,rfl,"dict_keyiterator",_,⟨_,VR _ rfl,rfl⟩,XD.lookup,?_⟩))))))))
 simpa [rawInt] using q
def Sk(h:Heap)(J d:Addr)(es:Array DictEntry)(ep i:Nat):Prop:=h.IsKeyIter J d i es.size ep/\∃o,h.get? d=some o/\o.ExactDict/\o.data=.dict es ep
def GL{Q:Option Value->Shared->Prop}{i:Nat}(st:Sk s.heap J d es ep i)(n:i < es.size)(q:∀j,j.IsKeyIter J d (i+1) es.size ep->Heap.SameBut J s.heap j->Q (some es[i].key) {s with heap:=j}):wpAny (model P w) A (pyNext (.ref J)) Q E s:=by
 obtain⟨c,t,b,u,e⟩:=st;obtain⟨r,h,p,hd⟩:=id c;have f:=c.typeIs;have l:Builtin.Dict_items.ownsTuple "dict_keyiterator"=false:=by decide
 unfold pyNext;refine Vx (XI (Wo (name:=Str.ofString "__next__") f XD (Wj XD f Aau ?_ (Aam _))));refine Vx (VA (Vx (Vx (Vx (Yb f (VA (Vx (ZP h hd ?_))))))));simp only[l,V0,WK];show wpAny _ _ (if(Value.ref d==Value.none)=true then _ else _) _ _ s;refine wpAny_of_eq' (VH V8) (Vx (VA (Vx (Z8 b e ?_))));refine wpAny_of_eq' (VH (by simp)) (Vx (VA (Vx (AaC b e ?_))));refine wpAny_of_eq' (VH (by simp)) (VA ?_);simp only[Int.not_lt.mpr (ZM i),WK,Wc,We n];refine Vx (Vx (Yb f (VA (Vx (wpAny_isOneOf_keyiter f ?_)))));generalize k:Obj.mapFields (·.setIfInBounds 1 (rawInt ((i:Int)+1)))=g;have n1:(s.heap.update J g).IsKeyIter J d (i+1) es.size ep:=by
  subst k;refine⟨_,Xc _ h (ZJ (Ye hd _)),(Aad ..).trans p,?_⟩;rw[Ye hd];simp[rawInt]
 subst k;refine Vx (m:=setField (.ref J) 1 (rawInt ((i:Int)+1))) (Y6 h hd (by simp) (Vx (Wh (Vx (wpAny_isOneOf_keyiter n1.typeIs ?_)))));exact VA (a:=es[i].key) (VA ⟨_,rfl,VA (q _ n1 (Yz ..))⟩)
def JM{Q:Option Value->Shared->Prop}{i:Nat}(hh:A.handled=none)(l:es.size<=i)(st:Sk s.heap J d es ep i)(q:∀j,Heap.ExtBut J s.heap j->Q none {s with heap:=j}):wpAny (model P w) A (pyNext (.ref J)) Q E s:=by
 obtain⟨e,p,c,r,f⟩:=st;obtain⟨n,h,t,hd⟩:=id e;have g:=e.typeIs;have k:Builtin.Dict_items.ownsTuple "dict_keyiterator"=false:=by decide
 unfold pyNext;refine Vx (XI (Wo (name:=Str.ofString "__next__") g XD (Wj XD g Aau ?_ (Aam _))));refine Vx (VA (Vx (Vx (Vx (Yb g (VA (Vx (ZP h hd ?_))))))));simp only[k,V0,WK];show wpAny _ _ (if(Value.ref d==Value.none)=true then _ else _) _ _ s;refine wpAny_of_eq' (VH V8) (Vx (VA (Vx (Z8 c f ?_))));refine wpAny_of_eq' (VH (by simp)) (Vx (VA (Vx (AaC c f ?_))));refine wpAny_of_eq' (VH (by simp)) (VA ?_);simp only[Int.not_lt.mpr (ZM i),WK,Wc,Zh l];refine Vx (Vx (Yb g (VA ?_)));refine Vx (m:=setField (.ref J) 0 .none) (Y6 h hd (by simp) ?_);show wpAny _ _ (newExc (.type "StopIteration") [] >>=_) _ _ _;simp only[newExc,newTuple];refine Vx (Vx (Ws ?_ (by size_fits)));refine Vx (m:=firstArgMember _ _) (wpAny_of_eq (a:=Value.none) (by simp only[firstArgMember];rfl) (Ws ?_ (by size_fits)));simp only[raiseNew];refine Vx (wpAny_handled ?_);rw[show A.in1.handled=none from hh];refine Vx (VA (wpAny_throw ?_));refine Vx (Xg (T:="StopIteration") (b:=true) ⟨_,VR _ rfl,rfl⟩ X6 ?_);exact VA (q _ (((Yz ..).extBut.push _).push _))
abbrev UO(h:Heap)(d:Addr)(es:Array DictEntry)(ep:Nat):Prop:=∃o,h.get? d=some o/\o.ExactDict/\o.data=.dict es ep
end
end L2
namespace Sm
open L2 PyProof.Rows PySem.SeqAt
end Sm
namespace L2
open PyProof.Rows
def Inv.K4{b:World->Heap->Prop}(I:Inv X pins σ H s)(e:H a=some (.lI b))(c:s.heap.get? a=some o):Inv X pins σ (upd H a (.kS o (.lI b))) s:=
 gv (h':=s.heap) (t':=s.toks) I (by rw[e];trivial) ⟨rfl,λ_ _=>rfl⟩ ⟨o,c⟩ ⟨c,I.aZ a _ e⟩
def Inv.Qh{f:World->Heap->Prop}(I:Inv X pins σ H s)(e:H a=some (.kS o (.lI f)))(r:∀o u,X.H₀ a≠some (.kS o u)):Inv X pins σ (upd H a (.lI f)) s:=by
 have ne:∀{b:Addr} {u:HO},H b=some u->(∀o i,u≠.kS o i)->b≠a:=λ{b u} q n z=>by
  subst z;rw[e] at q;cases q;exact n _ _ rfl
 have nn:∀{b:Addr},H b=none->b≠a:=λ{b} q z=>by subst z;rw[e] at q;cases q
 refine⟨I.ok,I.os,I.bare,⟨I.base.keep,I.base.slot,λb ob q n k=>?_,I.base.there,λb g q=>?_,λb ob u q=>?_,λb j q=>?_⟩,I.loc,I.cell,?_,λx c q=>?_,λp hp=>?_,λb u q=>?_,I.len⟩
 ·have:=I.base.free b ob q n k;rw[ao (nn this)];exact this
 ·have:=I.base.pW b g q;rw[ao (ne this (λ_ _ z=>by cases z))];exact this
 ·by_cases z:b=a
  ·subst z;exact absurd q (r _ _)
  ·rw[ao z];exact I.base.qm b ob u q
 ·obtain⟨more,this⟩:=I.base.t4 b j q;exact⟨more,by rw[ao (ne this (λ_ _ z=>by cases z))];exact this⟩
 ·rw[ao (nn I.free)];exact I.free
 ·have:=I.iU x c q;rw[ao (nn this)];exact this
 ·obtain⟨m,h,l⟩:=I.pin p hp;exact⟨m,by rw[ao (nn h)];exact h,l⟩
 ·by_cases z:b=a
  ·subst z;rw[aC] at q;cases q;exact(I.aZ b _ e).2
  ·rw[ao z] at q;exact(I.aZ b u q).t5 (λ_ _ _ q=>q) (λc d=>by rw[ao (ne d (λ_ _ z=>by cases z))];exact d) λc g d=>by rw[ao (ne d (λ_ _ z=>by cases z))];exact d
def Paired.at_:∀{d:List α} {c:List β} {i:Nat} {x:α},Paired F d c->d[i]?=some x->∃y,c[i]?=some y/\F x y
 :=by
 intro a b i x r
 induction r generalizing i x with
 | nil=>intro e;cases e
 | cons r _ f=>cases i with
  | zero=>intro e;cases e;exact⟨_,rfl,r⟩
  | succ i=>exactλe=>f (i:=i) e
noncomputable def UU(a:Addr)(o:Obj)(us:List (Addr×V))(b:List PyData):It:=
 ⟨λi H=>H a=some (.kS o (.lI (dC a us b)))/\i < us.length,λi H x c=>c=H/\∃u,us[i]?=some u/\x=.ref u.1,λi H=>H a=some (.kS o (.lI (dC a us b)))/\us.length<=i⟩
def Mh(I:Inv X pins σ H s)(f:o.data=.dict es x)(e:H a=some (.kS o (.lI (dC a us A)))):
  UO s.heap a es x/\es.size=us.length/\∀(i:Nat) u,us[i]?=some u->∃h:i < es.size,es[i].key=.ref u.1:=by
 obtain⟨k,⟨C,E,hp,nd,p,c,rfl,ob,t,v,n,z,m,b⟩,_⟩:=I.aZ a _ e;rw[k] at n;cases n;rw[f] at m;cases m;have l:es.size=us.length:=by rw[<-XT,b,Vy,c.length]
 refine⟨⟨o,k,z,f⟩,l,λi u d=>?_⟩;have g:i < es.size:=by rw[l];exact(Vz.mp d).1
 refine⟨g,?_⟩;obtain⟨y,r,q,_⟩:∃y,p[i]?=some y/\u.1=y.2.1/\RelV u.2 y.2.2:=by
  clear b;exact L2.Paired.at_ c d
 have j:es[i]?=some ⟨cS X.w 8 y.1,.ref y.2.1,y.2.2⟩:=by
  rw[<-W7,b,VN,r];rfl
 rw[We g] at j;rw[Option.some.inj j,q]
def Jr{P:Program}{w:World}{K:FR}{R:Expr}(a g:Addr)(o:Obj)(us:List (Addr×V))(S:List PyData){es:Array DictEntry}{O:Nat}(M:o.data=.dict es O):Turn P w K R (UU a o us S) [g] g (λi h=>h.IsKeyIter g a i es.size O/\g≠a) where
 mem:=by simp
 obj:=λi h st b l=>by
  have e:b=g:=by simpa using l
  subst e;obtain⟨⟨ob,e,c,d⟩,_⟩:=st;exact⟨ob,e,λv z=>by rw[d] at z;cases z⟩
 keep:=λi h p st k=>⟨st.1.at λob e=>k g (by simp) ob e,st.2⟩
 item:=by
  intro X t q x N i f s J H E I n st r;subst t q x;obtain⟨y,j⟩:=r;obtain⟨rw,Q,kk⟩:=Mh I M y;obtain⟨f0,G,U,F,C,A⟩:=n g (by simp);obtain⟨u,L⟩:∃u,us[i]?=some u:=⟨us[i],VI j⟩;obtain⟨T,Y⟩:=kk i u L;refine GL ⟨st.1,rw⟩ T λp m sb=>?_;have I1:Inv X f J H {s with heap:=p}:=I.turned (t':=s.toks) (λb o l e=>(sb.2 b l).trans e) f0 G F C A;obtain⟨ob,e,c,d⟩:=id m;exact⟨_,rfl,zN (s:={s with heap:=p}) e c d (by decide) ⟨.ref u.1,H,I1,Y,⟨rfl,u,L,rfl⟩,⟨m,st.2⟩,λb l=>(n b l).1⟩⟩
 done:=by
  intro X t q x N i f s J H E I n st r;subst t q x;obtain⟨y,j⟩:=r;obtain⟨rw,Q,kk⟩:=Mh I M y;obtain⟨f0,G,U,F,C,A⟩:=n g (by simp);exact JM (I.ok.hd N) (by rw[Q];exact j) ⟨st.1,rw⟩ λp Z=>⟨rfl,I.turned (t':=s.toks) (λb o l e=>Z b o l e) f0 G F C A⟩
 self:=λ_ _ _ _ _ st h=>wpAny_pyIter_keyiter st.1 h
def QX{X:Cx}{r l:Expr}{m:TE}(hl:PE X l m):PI X r l (λi H R=>m i H λx k=>∃a us f,x=.ref a/\k a=some (.lI (dC a us f))/\∀o,R (UU a o us f) (upd k a (.kS o (.lI (dC a us f))))):=by
 intro c s i H R I h;refine cv (hl c s i H _ I h) λv s1 u9=>?_;obtain⟨x,k,g,t,u⟩:=u9;obtain⟨a,us,f,e,n,q⟩:=u;subst e;cases t;obtain⟨⟨F,w,hp,nd,C,E,rfl,ob,es,G,j,z,p,J⟩,_⟩:=g.aZ a _ n;refine GK w j z p ?_;have A:=g.K4 n j;have d:s1.heap.objs.size≠a:=X1 (VP j);refine⟨s1.heap.objs.size,[s1.heap.objs.size],_,_,_,rfl,A.kept (t':=s1.toks) λb o e=>VB _ e,Jr a _ ob us _ p,⟨⟨_,VR _ rfl,rfl,rfl⟩,d⟩,λb y=>?_,q ob⟩;have e:b=s1.heap.objs.size:=by simpa using y
 subst e;exact g.sY (VG _) (by rw[ao d];exact g.aZ.fresh (VG _))
end L2
namespace Sm
open L2 PyProof.Rows
mutual
noncomputable def vn:D->Bool
 | .bx=>true
 | .bl _=>true
 | .int _=>true
 | .str _=>true
 | .tup xs=>iS xs
 | _=>false
noncomputable def iS:List D->Bool
 | []=>true
 | x::r=>vn x&&iS r
end
section
variable {K:FR} {ρ ρ':Ad} {H H':Hp} (hh:∀b vs,Rd H b (.tup vs)->¬ρ.has b->Rd H' b (.tup vs)/\¬ρ'.has b)
include hh
mutual
theorem GC{v:V}{d:D}(r:Rep K ρ H v d)(f:vn d=true):Rep K ρ' H' v d:=by
 cases r with
 | bx=>exact .bx
 | bl b=>exact .bl b
 | int i=>exact .int i
 | str h=>exact .str h
 | tup h l=>exact .tup (h.elim (λ⟨a,n⟩=>.inl (hh _ _ a n)) .inr) (jX l f)
 | _=>cases f
theorem jX{vs:List V}{a:List D}(r:aw K ρ H vs a)(f:iS a=true):aw K ρ' H' vs a:=by
 cases r with
 | nil=>exact .nil
 | cons h t=>
  have f:=V3.mp f;exact .cons (GC h f.1) (jX t f.2)
end
end
def HW(o:Option D):Option D:=o.bind λd=>if HX d=true then some d else none
def Ir(b:List (Option Nat))(e:EM)(g:GM)(c:TM)(f:EM):EM:=λd h=>(e d h).bind λp=>(lL p.1 p.2).bind λa=>(a8 [] g c f (a.map (·.1)) (gw b (d.map HW)) []).bind λq=>
 if q.1.length<=sizeLine/\iS (a.map (·.1))=true/\iS q.1=true/\q.2.length=0 then some (.lv q.1,p.2) else none
def JD{mt:TM}(C:bg X N' caps scope)(hc:X.calm=true)(hi:SE X iter mi)(hg:∀C p A Z pl,SG (fE X N' scope C p A Z pl) tg g)(hif:∀C p A Z pl,PQ (fE X N' scope C p A Z pl) ifs mt)(he:∀C p A Z pl,SE (fE X N' scope C p A Z pl) elt ma)(hs:∀x,foldedSetIterable iter X.env x=pure x:=by intro _;ac_nf):
  SE X (.ListComp elt [⟨tg,iter,ifs,0⟩] scope pos) (Ir caps mi g mt ma):=by
 intro O s σ H Q I hh;obtain⟨ρ,δ,h,d,h',R,S,ee,k⟩:=hh;obtain⟨⟨x,h1⟩,e1,e2⟩:=a9 ee;obtain⟨J,L,e4⟩:=a9 e2;obtain⟨⟨out,h2⟩,e5,e6⟩:=a9 e4;dsimp only at L e5 e6
 by_cases c:out.length<=sizeLine/\iS (J.map (·.1))=true/\iS out=true/\h2.length=0
 ·rw[VE c] at e6;cases e6;obtain⟨c1,c2,c3,c4⟩:=c;have base:=zd (X:=X) (N':=N') (caps:=caps) (scope:=scope) (tg:=tg) (iter:=iter) (elt:=elt) (ifs:=ifs) (pos:=pos) (g:=AI X.K g) (tc:=yq X.K mt) (te:=tM X.K ma) C hc (QX hi) hg hif he hs;refine cv (base O s σ H (λv H'=>∃a o us t,H' a=some (.kS o (.lI (dC a us t)))/\(∀o u,X.H₀ a≠some (.kS o u))/\Q v (upd H' a (.lI (dC a us t)))) I ?_) λu s' ⟨v,H',I',r,a,o,us,t,q1,q2,q3⟩=>⟨v,_,I'.Qh q1 q2,r,q3⟩;refine⟨ρ,δ,h,x,h',R,S,e1,λv H1 u9=>?_⟩;obtain⟨j,T1,G,r1⟩:=u9;obtain⟨n,a,rfl,hn,rfl,ra,us,t,Ha,la,-,-⟩:=qL G r1 L;have ha:a∈j.ob:=VC ra;have h0:∀o u,X.H₀ a≠some (.kS o u):=λo u z=>by
   have N:=I.base.qm a o u z
   by_cases m:ρ.has a
   ·rcases m with m | m
    ·obtain⟨_,mo,_,_,x⟩:=S.mem m;cases mo with
     | lst _=>obtain⟨_,x,_⟩:=x;rw[N] at x;cases x
     | dct _=>obtain⟨_,x,_⟩:=x;rw[N] at x;cases x
     | dcH _=>obtain⟨_,_,x,_⟩:=x;rw[N] at x;cases x
    ·have:=T1.res a m;rw[Ha,N] at this;cases this
   ·have:=(T1.old a _ m N).2;rw[Ha] at this;cases this
  refine⟨a,us,t,rfl,Ha,λo l hl=>?_⟩;have M:(upd H1 a (.kS o (.lI (dC a us t)))) a=some (.kS o (.lI (dC a us t))):=aC;have Y:l≠a:=λz=>by rw[z,M] at hl;cases hl
  have hl1:H1 l=none:=by rw[ao Y] at hl;exact hl
  have U:a∉j.rs:=λz=>(G.qy a z).2 ha;have S0:bC X.K ⟨[],j.rs⟩ [] (upd H1 a (.kS o (.lI (dC a us t)))):=⟨rfl,Aah,λm b o e=>by simp at e,λb F=>⟨by
   obtain⟨u,E⟩:=(G.qy b F).1;exact⟨u,by rw[ao (λ(z:b=a)=>U (z ▸ F))];exact E⟩,by simp⟩⟩
  have P:¬(⟨[],j.rs⟩:Ad).has a:=λz=>z.elim (λz=>by cases z) U;have tb:∀{b:Addr} {vs:List V},Rd H1 b (.tup vs)->b≠a:=λ{b vs} z y=>by
   subst y;rcases z with z |⟨_,z⟩ <;> (rw[Ha] at z;cases z)
  have lk:=jX (ρ:=j) (ρ':=⟨[],j.rs⟩) (H':=upd H1 a (.kS o (.lI (dC a us t)))) (λb vs z T=>⟨by
   have F:=tb z;unfold Rd;rw[ao F];exact z,λy=>y.elim (λy=>by cases y) λy=>T (.inr y)⟩) la c2
  have It:LI X.K (UU a o us t) ⟨[],j.rs⟩ (upd H1 a (.kS o (.lI (dC a us t)))) [] (J.map (·.1)):=⟨λρ2 H2 h2 T2 S2 _ i=>by
   have H2a:=(T2.old a _ P M).2;have hlen:(J.map (·.1)).length=us.length:=by rw[<-la.length,Vy]
   refine⟨λhle=>⟨H2a,by lia⟩,λx hx=>?_⟩;have hlt:i < us.length:=by have:=(Vz.mp hx).1;lia
   refine⟨⟨H2a,hlt⟩,λv H3 u9=>?_⟩;obtain⟨e,u,E,ev⟩:=u9;subst e;obtain⟨w,hw,rw'⟩:=(lk.mono T2).got hx;rw[VN,E] at hw;cases hw;rw[ev];exact⟨.refl _ _,S2,rw'⟩⟩
  have R1:=R.mono T1.toCh;have R0:bT X.K ⟨[],j.rs⟩ (upd H1 a (.kS o (.lI (dC a us t)))) σ (δ.map HW):=⟨by rw[Vy];exact R1.len,λi d ed=>by
   rw[VN] at ed;obtain⟨o',e1,e2⟩:=cY ed;obtain⟨d',eo,L⟩:=a9 e2
   by_cases f:HX d'=true
   ·rw[VE f] at L;cases L;rw[eo] at e1;obtain⟨v,hv,rv⟩:=R1.at_ i d e1;exact⟨v,hv,GF rv f⟩
   ·rw[VH f] at L;cases L⟩
  refine Fo R0 S0 It e5 c1 hl λρ' H' vs T' S' hl' lr=>?_;have keep:∀b u,H1 b=some u->(upd H' a (.lI (dC a us t))) b=some u:=λb u eb=>by
   by_cases z:b=a
   ·subst z;rw[aC,<-Ha];exact eb
   ·rw[ao z]
    by_cases y:b∈j.rs
    ·rw[T'.res b y,ao z];exact eb
    ·exact(T'.old b u (λq=>q.elim (λq=>by cases q) y) (by rw[ao z];exact eb)).2
  have H'a:=(T'.old a _ P M).2;refine⟨a,o,us,t,H'a,h0,?_⟩;have T2:cm j H1 j (upd H' a (.lI (dC a us t))):=⟨⟨λ_ _ e=>e,λb u T eb=>⟨T,keep b u eb⟩⟩,rfl,λb F=>by
   obtain⟨u,E⟩:=(G.qy b F).1;rw[keep b u E,E]⟩
  have S2:bC X.K j h' (upd H' a (.lI (dC a us t))):=G.same T2 λb F=>by
   obtain⟨u,E⟩:=G.has (.inl F);rw[keep b u E,E]
  have lo:=jX (ρ:=ρ') (ρ':=j) (H':=upd H' a (.lI (dC a us t))) (λb ws z T=>by
   have F:b≠a:=λy=>by
    subst y;rcases z with z |⟨_,z⟩ <;> (rw[H'a] at z;cases z)
   refine⟨by unfold Rd;rw[ao F];exact z,λy=>?_⟩;rcases y with y | y
   ·obtain⟨_,mo,_,_,x⟩:=G.mem y;have:∃u,H1 b=some u/\(∀ws,u≠.tup ws)/\∀o ws,u≠.kS o (.tup ws):=by
     cases mo with
     | lst _=>obtain⟨_,x,_⟩:=x;exact⟨_,x,λ_ z=>(nomatch z),λ_ _ z=>(nomatch z)⟩
     | dct _=>obtain⟨_,x,_⟩:=x;exact⟨_,x,λ_ z=>(nomatch z),λ_ _ z=>(nomatch z)⟩
     | dcH _=>obtain⟨_,_,x,_⟩:=x;exact⟨_,x,λ_ z=>(nomatch z),λ_ _ z=>(nomatch z)⟩
    obtain⟨u,E,u1,u2⟩:=this;have:=keep b u E;rw[ao F] at this;rcases z with z |⟨_,z⟩
    ·rw[this] at z;exact u1 _ (Option.some.inj z)
    ·rw[this] at z;exact u2 _ _ (Option.some.inj z)
   ·exact T (.inr (by rw[T'.rs];exact y))) lr c3
  refine k _ _ ⟨j,T1.trans T2,S2,.lv (vs:=vs) (by rw[ao Y];exact hl') (λz=>?_) lo⟩;obtain⟨u,E⟩:=G.has z;rw[hl1] at E;cases E
 ·rw[VH c] at e6;cases e6
end Sm
end
namespace Pg
open PySem Sm L2
abbrev Term:=Str×Int
abbrev Lock:=Str×Term
inductive Row where
 | say (w:Str)
 | call (d:Str) (ts:List Term)
 | within (l:Lock) (b:List Row)
 | all (ls:List Lock) (b:List Row)
 | ask (l:Lock) (b e:List Row)
 | Ah (s t:Term) (a b c:List Row)
 | either (a b:List Row)
 | again (a:List Row)
noncomputable def bj(t:Term):D:=.tup [.str t.1,.int t.2]
def aL(l:Lock):D:=.tup [.str l.1,bj l.2]
mutual
noncomputable def aM:Row->D
 | .say w=>.tup [.str "say",.str w]
 | .call d f=>.tup [.str "call",.str d,.tup (f.map bj)]
 | .within l b=>.tup [.str "within",aL l,.tup (ck b)]
 | .all ls b=>.tup [.str "all",.tup (ls.map aL),.tup (ck b)]
 | .ask l b e=>.tup [.str "ask",aL l,.tup (ck b),.tup (ck e)]
 | .Ah s t a b c=>.tup [.str "by",bj s,bj t,.tup (ck a),.tup (ck b),.tup (ck c)]
 | .either a b=>.tup [.str "either",.tup (ck a),.tup (ck b)]
 | .again a=>.tup [.str "again",.tup (ck a)]
noncomputable def ck:List Row->List D
 | []=>[]
 | r::rs=>aM r::ck rs
end
theorem eP:∀l:List Row,ck l=l.map aM
 | []=>by simp[ck]
 | r::rs=>by simp[ck,eP rs]
mutual
noncomputable def cnt:Row->Nat
 | .say _=>1
 | .call _ _=>1
 | .within _ b=>1+aX b
 | .all _ b=>1+aX b
 | .ask _ b e=>1+aX b+aX e
 | .Ah _ _ a b c=>1+aX a+aX b+aX c
 | .either a b=>1+aX a+aX b
 | .again a=>1+aX a
noncomputable def aX:List Row->Nat
 | []=>0
 | r::rs=>cnt r+aX rs
end
theorem z9:∀a b:List Row,aX (a++b)=aX a+aX b
 | [],b=>by simp[aX]
 | r::a,b=>by simp[aX,z9 a b];lia
structure Wd where
 names:List Str
 ag:List Str
 params:List (List Str)
def en(a:List Str)(t:Term):Prop:=(t.1=Str.ofString ""\/t.1∈a)/\-99<=t.2/\t.2<=99
def fg(W:Wd)(a:List Str)(l:Lock):Prop:=l.1∈W.names/\en a l.2
mutual
def bh(W:Wd)(f:List Str):Nat->Row->Prop
 | _,.say w=>w∈W.names++W.ag
 | _,.call d g=>(∃(j:Nat)(h:List Str),W.ag[j]?=some d/\W.params[j]?=some h/\g.length=h.length)/\∀t∈g,en f t
 | n,.within l b=>fg W f l/\n < 5/\b.length<=12/\bH W f (n+1) b
 | n,.all ls b=>(2<=ls.length/\ls.length<=4/\ls.Nodup/\∀l∈ls,fg W f l)/\n < 5/\b.length<=12/\bH W f (n+1) b
 | n,.ask l b e=>fg W f l/\n < 5/\b.length<=12/\e.length<=12/\bH W f (n+1) b/\bH W f (n+1) e
 | n,.Ah s t a b c=>en f s/\en f t/\n < 5/\a.length<=12/\b.length<=12/\c.length<=12/\bH W f (n+1) a/\bH W f (n+1) b/\bH W f (n+1) c
 | n,.either a b=>n < 5/\a.length<=12/\b.length<=12/\bH W f (n+1) a/\bH W f (n+1) b
 | n,.again a=>n < 5/\a.length<=12/\bH W f (n+1) a
def bH(W:Wd)(a:List Str):Nat->List Row->Prop
 | _,[]=>True
 | n,r::rs=>bh W a n r/\bH W a n rs
end
theorem vA{W:Wd}{c:List Str}{n:Nat}:∀{a b:List Row},bH W c n a->bH W c n b->bH W c n (a++b)
 | [],b,_,h=>h
 | r::a,b,h,d=>by
  unfold bH at h;show bH W c n (r::(a++b));unfold bH;exact⟨h.1,vA h.2 d⟩
theorem ox{W:Wd}{c:List Str}{n:Nat}:∀{a:List Row},bH W c n a->∀r∈a,bh W c n r
 | [],_,_,z=>by cases z
 | r::a,h,x,b=>by
  unfold bH at h;rcases VS.mp b with rfl | b
  ·exact h.1
  ·exact ox h.2 x b
end Pg
set_option hygiene false in
local macro_rules | `(tactic| ac_rfl) => do {let t <- (("|Sm.sv _|Sm.bD|Sm.ar|Sm.ab ? ?|Sm.aa ? ?|Sm.aI ?|Sm.bw ?|Sm.sset _ @ ?|Sm.dz ? ? ?|Sm.cz|Sm.six hr ? ?|Sm.gb @ hr ?|Sm.bG|Sm.Gi|Sm.LW|Sm.To ?|Sm.Tr ?|Sm.Tn ?|Sm.Ts ?|Sm.stp4 ?|Sm.stp5 ?|Sm.Tj ?|Sm.Qv ? ? ?|Sm.b7 ? ? ?|Sm.dN|Sm.Ht hr.units|Sm.Hr hr.units|Sm.Q3|Sm.Q5|Sm.os_le|Sm.L9|Sm.N9|Sm.Kr|Sm.Q4 hr.units|Sm.Hq hr.units|Sm.Hm|Sm.sy|Sm.LU Sm.FW ?|Sm.Gh ? ? ?|Sm.CA|Sm.Cz ?|Sm.fP ? ?|Sm.nW rfl ?|Sm.bV ? ?|Sm.ig|Sm.sgn _ @|Sm.CG Sm.O7 B.RN Sm.Pt ?|Sm.M8 Sm.hV B.gx Sm.eT ?|Sm.nV ?|Sm.F7 ?|Sm.LV ? ? ?|Sm.fu ?|Sm.pX Sm.eZ PySem.F.plainAttrs_list PySem.F.slot_list_append PySem.F.type_list_append Sm.g7 ? ?|Sm.Qz Sm.eZ PySem.F.plainAttrs_list PySem.F.slot_list_pop PySem.F.type_list_pop Sm.Oy ?|Sm.qq.lv ?|Sm.qq.ob ?|Sm.Tw ?|Sm.Tv ?|Sm.Tu ?|Sm.sfl3 ?|Sm.sfl4 ?|Sm.sfl5 ?|Sm.sfl6 ?|Sm.sfl7 ?|Sm.Tt ?|Sm.AJ ? ?|Sm.LR ? ?|Sm.wx ?|Sm.MT ?|Sm.cA PassesOwn.never rfl ? ? ?|Sm.fQ ?|Sm.MW|Sm.CG Sm.O6~rfl B.RM Sm.Pr ?|Sm.CG Sm.O5~rfl B.RL Sm.Pq ?|Sm.M8 Sm.O8 B.Mo Sm.IL ?|Sm.CG Sm.Pb B.RQ Sm.Px ?|Sm.Qw ? ? ?|Sm.SW.st ?".splitOn "|").drop 1).toArray.mapM (λl => do {let x <- (l.splitOn " ").toArray.mapM (λz => if z == "?" then `(?_) else if z == "_" then `(_) else if z == "@" then `(‹_›) else(let y := (z.splitOn "~").toArray.map (λw => (Lean.mkIdent w.toName : Lean.TSyntax `term));pure (Lean.Syntax.mkApp y[0]! (y.extract 1 y.size))));`(Lean.Parser.Tactic.tacticSeq| refine $(Lean.Syntax.mkApp x[0]! (x.extract 1 x.size)) <;> ac_rfl)});`(tactic| with_reducible first $[| $t]*)}
local macro_rules | `(tactic| walk_at "v") => `(tactic|(conv => arg 2;whnf))
local macro_rules | `(tactic| walk_at "u") => `(tactic|(walk_at "v";ac_rfl))
namespace Mi
open PySem L2 Sm PySem.Spec PyProof.Rows
local macro_rules | `(tactic| walk_at "b") => `(tactic| first | exactλF => F.binds λ_ _ _ _ _ _ => Hd.u1 (λ_ => rfl) | exactλF => F.binds λ_ _ _ _ _ _ => Hd.u2 (λ_ _ => rfl) | exactλF => F.binds λ_ _ _ _ _ _ => Hd.u3 (λ_ _ _ => rfl) | exactλF => F.binds λ_ _ _ _ _ _ => Hd.u4 (λ_ _ _ _ => rfl) | exactλF => F.binds λ_ _ _ _ _ _ => Hd.u5 (λ_ _ _ _ _ => rfl) | exactλF => F.binds λ_ _ _ _ _ _ => Hd.u6 (λ_ _ _ _ _ _ => rfl) | exactλF => F.binds λ_ _ _ _ _ _ => Hd.u7 (λ_ _ _ _ _ _ _ => rfl))
structure Bs(P:Program)(w:World)(K:FR)(mg:Str->Option Value):Prop where
 RQ:mg "abs"=none
 RP:mg "all"=none
 RO:mg "any"=none
 PB:mg "bool"=none
 Pz:mg "dict"=none
 bZ:mg "enumerate"=none
 Mo:mg "int"=none
 cT:mg "isinstance"=none
 RN:mg "len"=none
 B8:mg "list"=none
 RM:mg "max"=none
 RL:mg "min"=none
 dh:mg "range"=none
 tL:mg "sorted"=none
 Mn:mg "str"=none
 gx:mg "tuple"=none
 Mm:mg "zip"=none
 I9:Tab P w K mg "SHAPES" jV
abbrev Rc(x:Str)(s:Stmt):Prop:=(recsOf view).find? (λe=>e.name==x)=some (Hd.rY x s)
abbrev mm:Stmt:=top 26
abbrev mL:List Str:=["_law_script"]
def ue:au ["_law_script"] mL (ah mm):=by walk_at "s"
def rW:Rc "_law_drawn" mm:=by ac_nf
def fI:Fn:=g0 1
  (aR (xO (a3 (ki 0) (xO (DX (a1 (fW v0 sr (sx (ki 63)))))) (ki 0))))
abbrev o7:Stmt:=top 27
abbrev pE:List Str:=["_law_state"]
def il:au ["_law_state","_law_cells","_law_tour","_law_cell","_law_mixed"] pE (ah o7):=by walk_at "s"
def ur:Rc "_law_load" o7:=by ac_nf
def jT:Fn:=g0 5
  (aj (aQ 1 (ak aB v0 (ki 1)))
  (aj (aQ 2 (ak aB v0 (ki 2)))
  (aj (fy (ak aT v2 (ki 1)) (uI v0 (ki 2)))
  (aj (aQ 3 (ki 0))
  (aj (fS (ay (ak jE v1 (gd aY))) (aQ 3 (ak aB v1 (ak tf v2 (aq cM (a1 v1))))) bW)
  (fS (km (ay (ak Mf v2 (aq cM (a1 v1)))) (ay (ak Rx (aq OY (a1 v3)) (ak K6 (ki 10) (ki 18))))) (fy (aq OY (a1 v3)) (uI v0 (ki 0))) (aj (aQ 4 (ak tf (ak jF (ak aT (ak aT (ak tf v3 (ki 2305843009213693951)) (ak jF (ak jF (ki 7919) v2) v2)) (ki 11)) (ki 48271)) (ki 2305843009213693951)))
  (aj (aQ 4 (ak tf (ak jF v4 v4) (ki 2305843009213693921)))
  (fy (ak aT (ak tf (ak aT (ak aT (ak jF v4 (ki 69621)) v2) (ki 104729)) (ki 2305843009213693951)) (ak K6 (ki 10) (ki 9))) (uI v0 (ki 0)))))))))))
abbrev oY:Stmt:=top 28
abbrev pB:List Str:=["_law_state","_law_many"]
def wM:au ["_law_state","_law_many","_law_found"] pB (ah oY):=by walk_at "s"
def um:Rc "_law_next" oY:=by ac_nf
def aH:Fn:=g0 3
  (aj (fS (ay (ak Mf (ak aB v0 (ki 0)) v1)) (cX (aq jT (a1 v0))) bW)
  (aj (aQ 2 (ak tf (ak aB v0 (ki 0)) v1))
  (aj (fy (ak Ig (ak aB v0 (ki 0)) v1) (uI v0 (ki 0)))
  (aR v2))))
abbrev vd:Stmt:=top 29
abbrev vz:List Str:=["_law_state","_law_some"]
def AV:au ["_law_state","_law_some"] vz (ah vd):=by walk_at "s"
def yS:Rc "_law_of" vd:=by ac_nf
def aF:Fn:=g0 2
  (aR (ak aB v1 (aq aH (a2 v0 (aq cM (a1 v1))))))
abbrev md:Stmt:=top 30
abbrev mJ:List Str:=["_law_state","_law_many"]
def kC:au ["_law_state","_law_many","_law_letters","_law_stem","_law_k","_law_at","_law_first","_law_stride"] mJ (ah md):=by walk_at "s"
def rT:Rc "_law_words" md:=by ac_nf
def dX:Fn:=g0 8
  (aj (aQ 2 (ks "abcdefghijklmnopqrstuvwxyz"))
  (aj (aQ 3 (ks ""))
  (aj (gC (qk (a1 (aq aF (a2 v0 (eK (.lv [.int 0,.int 1,.int 1,.int 2,.int 3,.int 6])))))) (gN 4) (aQ 3 (ak aT v3 (ak aB v2 (aq aH (a2 v0 (ki 26)))))))
  (aj (aQ 5 (aq aH (a2 v0 (ak aT (aq cM (a1 v3)) (ki 1)))))
  (aj (aQ 6 (aq aH (a2 v0 (ki 26))))
  (aj (aQ 7 (aq aF (a2 v0 (eK (.lv [.int 1,.int 3,.int 5,.int 7,.int 9,.int 11])))))
  (aR (gd (cF [none,some 5,some 6,some 2,some 3,some 7] (qk (a1 v1)) (gN 0) cj (ak aT (ak aT (fW v4 sr (sx v1)) (ak aB v3 (ak tf (ak aT v2 (ak jF v5 v0)) (ki 26)))) (fW v4 (sx v1) sr)))))))))))
abbrev l9:Stmt:=top 31
abbrev mI:List Str:=["_law_state","_law_most","_law_odd"]
def cx:au ["_law_state","_law_most","_law_odd","_law_names","_law_deeds","_law_params","_law_many","_law_floors"] mI (ah l9):=by walk_at "s"
def rR:Rc "_law_world" l9:=by ac_nf
def iI:Fn:=g0 8
  (aj (aQ 3 (aq dX (a2 v0 (aq aF (a2 v0 (eK (.lv [.int 1,.int 2,.int 2,.int 3,.int 4,.int 6])))))))
  (aj (aQ 4 (aq dX (a2 v0 (aq aF (a2 v0 (eK (.lv [.int 1,.int 1,.int 2,.int 2,.int 3,.int 4,.int 6])))))))
  (aj (aQ 5 (aq dX (a2 v0 (ki 3))))
  (aj (aQ 6 (gd (cF [none,some 0] (gI v4) (gN 0) cj (aq aF (a2 v1 (eK (.lv [.int 0,.int 1,.int 1,.int 2,.int 2,.int 3])))))))
  (aj (aQ 7 (aq Ib (a1 (gd (cF [none,some 3,some 0] (gI v4) (gN 0) cj (aq aH (a2 v2 (aq cM (a1 v1)))))))))
  (aj (aQ 5 (gd (cF [none,some 5] (gI v6) (gN 0) cj (fW v1 sr (sx v0)))))
  (aR (tu (cV (ks "names") v3 (cV (ks "deeds") v4 (cV (ks "params") v5 (cV (ks "floors") v7 (cV (ks "left") v1 (cV (ks "odd") v2 Hj))))))))))))))
abbrev kJ:Stmt:=top 32
abbrev kP:List Str:=["_law_state","_law_world_here"]
def rm:au ["_law_state","_law_world_here"] kP (ah kJ):=by walk_at "s"
def p7:Rc "_law_is_odd" kJ:=by ac_nf
def dc:Fn:=g0 2
  (aR (BU (ak FJ (ak aB v1 (ks "odd")) (ki 0)) (ak b6 (aq aH (a2 v0 (ak aB v1 (ks "odd")))) (ki 0))))
abbrev oW:Stmt:=top 33
abbrev pA:List Str:=["_law_state","_law_params"]
def wK:au ["_law_state","_law_params","_law_far"] pA (ah oW):=by walk_at "s"
def uh:Rc "_law_term" oW:=by ac_nf
def bO:Fn:=g0 3
  (aj (aQ 2 (ak uJ (aq aH (a2 v0 (ki 81))) (ki 40)))
  (aj (fS (km (ay (ak FJ (aq cM (a1 v1)) (ki 0))) (ay (ak FJ (aq aH (a2 v0 (ki 5))) (ki 0)))) (aR (aq aN (a2 (aq aF (a2 v0 v1)) (aq aF (a2 v0 (gd (af (ki 0) (af (ki 0) (af (ki 0) (af (ki 0) (af (ki 1) (a4 (ki 1) (i3 cG (ki 1)) (ki 2) v2)))))))))))) bW)
  (aR (aq aN (a2 (ks "") (aq aF (a2 v0 (gd (af (ki 0) (af (ki 0) (af (ki 1) (af (ki 1) (a4 (ki 2) (ki 3) (i3 cG (ki 1)) v2)))))))))))))
abbrev o8:Stmt:=top 35
abbrev pF:List Str:=["_law_state","_law_world_here","_law_deed","_law_top"]
def fx:au ["_law_state","_law_world_here","_law_deed","_law_top","_law_some","_law_other","_law_terms"] pF (ah o8):=by walk_at "s"
def uu:Rc "_law_call" o8:=by ac_nf
def gA:Fn:=g0 7
  (aj (aQ 4 (gd (cF [none,some 2,some 3,some 1] (qk (a1 (aq cM (a1 (ak aB v1 (ks "deeds")))))) (gN 0) (km (ay (ak FJ (ak aB (ak aB v3 (ks "floors")) v0) v2)) (ay (ak Rx v0 v1))) v0)))
  (aj (fS (iZ (aq dc (a2 v0 v1))) (aQ 4 (gd (PD (a1 (aq cM (a1 (ak aB v1 (ks "deeds")))))))) bW)
  (aj (fS (ay (ak b6 v4 (gd aY))) (aR (aq aN (a2 (ks "say") (ak aB (ak aB v1 (ks "deeds")) v2)))) bW)
  (aj (aQ 5 (aq aF (a2 v0 v4)))
  (aj (aQ 6 (gd (cF [none,some 2,some 0,some 1] (gI (ak aB (ak aB v1 (ks "params")) v5)) (gN 0) cj (aq bO (a2 v2 (ak aB (ak aB v3 (ks "params")) v1))))))
  (aR (aq aN (a3 (ks "call") (ak aB (ak aB v1 (ks "deeds")) v5) (aq bJ (a1 v6))))))))))
abbrev o6:Stmt:=top 34
abbrev pD:List Str:=["_law_state","_law_world_here","_law_deed","_law_top","_law_held"]
def lV:au ["_law_state","_law_world_here","_law_deed","_law_top","_law_held","_law_low","_law_at","_law_name","_law_same_here","_law_word","_law_more"] pD (ah o6):=by walk_at "s"
def uq:Rc "_law_lock" o6:=by ac_nf
def eW:Fn:=g0 11
  (aj (aQ 5 (aq uL (a2 v3 (ak aB (ak aB v1 (ks "floors")) v2))))
  (aj (fS (ay (ak b6 v5 (aq cM (a1 (ak aB v1 (ks "names")))))) (aR (aq aN (a2 (eK .bx) (eK .bx)))) bW)
  (aj (aQ 6 (ak aT v5 (aq aH (a2 v0 (ak uJ (aq cM (a1 (ak aB v1 (ks "names")))) v5)))))
  (aj (fS (iZ (aq dc (a2 v0 v1))) (aQ 6 (aq aH (a2 v0 (aq cM (a1 (ak aB v1 (ks "names"))))))) bW)
  (aj (aQ 7 (ak aB (ak aB v1 (ks "names")) v6))
  (aj (aQ 8 (gd (cF [none,some 7] (gI v4) (gN 0) (ay (ak b6 (ak aB v0 (ki 0)) v1)) (ak aB v0 (ki 1)))))
  (aj (fS (km (ay (ak jE v8 (gd aY))) (qV (iZ (aq dc (a2 v0 v1))))) (aj (fy (ak aB v8 (i3 cG (ki 1))) (gT 2 (ai (gN 9) (ai (gN 10) bp))))
  (aR (aq aN (a2 v6 (aq aN (a2 v7 (aq aN (a2 v9 (aq Fb (a2 (ki 99) (ak aT (ak aT v10 (ki 1)) (aq aH (a2 v0 (ki 2)))))))))))))) bW)
  (aR (aq aN (a2 v6 (aq aN (a2 v7 (aq bO (a2 v0 (ak aB (ak aB v1 (ks "params")) v2)))))))))))))))
abbrev rC:Stmt:=top 39
abbrev lj:List Str:=["_law_state","_law_world_here","_law_deed","_law_deep","_law_top","_law_held","_law_most"]
def yH:au ["_law_state","_law_world_here","_law_deed","_law_deep","_law_top","_law_held","_law_most","_law_rows","_law_k"] lj (ah rC):=by walk_at "s"
def mC:Rc "_law_lot" rC:=by ac_nf
abbrev rB:Stmt:=top 38
abbrev lh:List Str:=["_law_state","_law_world_here","_law_deed","_law_deep","_law_top","_law_held"]
def cI:au ["_law_state","_law_world_here","_law_deed","_law_deep","_law_top","_law_held","_law_way","_law_one","_law_other","_law_lots_here","_law_sort"] lh (ah rB):=by walk_at "s"
def mB:Rc "_law_row" rB:=by ac_nf
abbrev kI:Stmt:=top 37
abbrev gG:List Str:=["_law_state","_law_world_here","_law_deed","_law_deep","_law_top","_law_held","_law_way"]
def cJ:au ["_law_state","_law_world_here","_law_deed","_law_deep","_law_top","_law_held","_law_way","_law_at","_law_lock_here","_law_some","_law_high","_law_turn","_law_low","_law_other","_law_lot_here"] gG (ah kI):=by walk_at "s"
def iR:Rc "_law_locked" kI:=by ac_nf
abbrev iQ:Stmt:=top 36
abbrev fe:List Str:=["_law_state","_law_world_here","_law_deed","_law_deep","_law_top","_law_held"]
def cQ:au ["_law_state","_law_world_here","_law_deed","_law_deep","_law_top","_law_held","_law_low","_law_name","_law_one","_law_other","_law_lots_here","_law_first","_law_second","_law_inner"] fe (ah iQ):=by walk_at "s"
def gm:Rc "_law_two_ways" iQ:=by ac_nf
mutual
noncomputable def bE:Nat->Fn
 | 0=>λ_ _=>none
 | n+1=>FG 9
  (aj (aQ 7 (xO aY))
  (aj (gC (qk (a1 (aq aH (a2 v0 (ak aT (aq aF (a2 v0 (ak aT (ak K5 (gd (a1 v6)) (ki 15)) (gd (a1 (ki 12)))))) (ki 1)))))) (gN 8) (fS (ay (ak FJ (ak aB v1 (ks "left")) (ki 0))) (aj (fy (ak uJ (ak aB v1 (ks "left")) (ki 1)) (uI v1 (ks "left")))
  (cX (eM bu bS v7 (a1 (aq (fZ n) (af v0 (af v1 (a4 v2 v3 v4 v5)))))))) bW))
  (aR (aq bJ (a1 v7)))))
noncomputable def fZ:Nat->Fn
 | 0=>λ_ _=>none
 | n+1=>g0 11
  (aj (aQ 6 (aq aH (a2 v0 (ki 16))))
  (aj (fS (D7 (ay (ak Mf v6 (ki 2))) (km (ay (ak b6 v3 (ki 5))) (ay (ak Mf v6 (ki 11))))) (aR (aq aN (a2 (ks "say") (aq aF (a2 v0 (ak aT (ak aB v1 (ks "names")) (ak aB v1 (ks "deeds")))))))) bW)
  (aj (fS (D7 (ay (ak FJ v6 (ki 12))) (ay (ak b6 v3 (ki 5)))) (aR (aq gA (a4 v0 v1 v2 v4))) bW)
  (aj (fS (km (ay (ak b6 v6 (ki 12))) (km (ay (ak Mf v3 (ki 3))) (ay (ak FJ (ak aB v1 (ks "left")) (ki 5))))) (aR (aq (cq n) (af v0 (af v1 (a4 v2 v3 v4 v5))))) bW)
  (aj (fS (D7 (ay (ak b6 v6 (ki 11))) (ay (ak b6 v6 (ki 12)))) (aj (Gw 7 8 (a2 (aq bO (a2 v0 (ak aB (ak aB v1 (ks "params")) v2))) (aq bO (a2 v0 (ak aB (ak aB v1 (ks "params")) v2)))))
  (aj (aQ 9 (gd (cF [none,some 2,some 3,some 5,some 0,some 4,some 1] (qk (a1 (ki 3))) (gN 0) cj (aq (bE n) (af v4 (af v6 (af v1 (a4 (ak aT v2 (ki 1)) v5 v3 (ki 2)))))))))
  (aR (ak aT (aq aN (a3 (ks "by") v7 v8)) (aq bJ (a1 v9)))))) bW)
  (aj (fS (ay (ak b6 v6 (ki 10))) (aj (aQ 9 (gd (cF [none,some 2,some 3,some 5,some 0,some 4,some 1] (qk (a1 (ki 2))) (gN 0) cj (aq (bE n) (af v4 (af v6 (af v1 (a4 (ak aT v2 (ki 1)) v5 v3 (ki 2)))))))))
  (aR (ak aT (aq aN (a1 (ks "either"))) (aq bJ (a1 v9))))) bW)
  (aj (fS (ay (ak b6 v6 (ki 9))) (aR (aq aN (a2 (ks "again") (aq (bE n) (af v0 (af v1 (af v2 (a4 (ak aT v3 (ki 1)) v4 v5 (ki 2))))))))) bW)
  (aj (aQ 10 (aq aF (a2 v0 (eK (.lv [.str "within",.str "within",.str "within",.str "within",.str "ask",.str "all"])))))
  (aR (aq (c9 n) (af v0 (af v1 (af v2 (a4 v3 v4 v5 v10))))))))))))))
noncomputable def c9:Nat->Fn
 | 0=>λ_ _=>none
 | n+1=>FG 15
  (aj (fy (aq eW (af v0 (a4 v1 v2 v4 v5))) (gT 2 (ai (gN 7) (ai (gN 8) bp))))
  (aj (fS (ay (ak xI v7 (eK .bx))) (aR (aq aN (a2 (ks "say") (ak aB (ak aB v1 (ks "deeds")) v2)))) bW)
  (aj (fS (ay (ak b6 v6 (ks "all"))) (aj (Gw 9 10 (a2 (xO (a1 v8)) v7))
  (aj (gC (qk (a1 (aq aF (a2 v0 (eK (.lv [.int 1,.int 1,.int 2,.int 3])))))) (gN 11) (aj (fy (aq eW (af v0 (a4 v1 v2 v4 v5))) (gT 2 (ai (gN 12) (ai (gN 13) bp))))
  (aj (aQ 10 (aq uL (a2 v10 SX)))
  (aQ 9 (xO (PF v9 (ak K5 (gd (a1 SV)) (aq zV (a1 (ak oF SV v9))))))))))
  (aj (fS (ay (ak b6 (aq cM (a1 v9)) (ki 1))) (cX (eM bu bS v9 (a1 (aq aN (a2 (ak aB v8 (ki 0)) (aq aN (a2 (ak aB (ak aB v8 (ki 1)) (ki 0)) (ak uJ (ak aT (ak aB (ak aB v8 (ki 1)) (ki 1)) (ki 1)) (ak jF (ki 2) (aq zV (a1 (ak FJ (ak aB (ak aB v8 (ki 1)) (ki 1)) (ki 90))))))))))))) bW)
  (aj (aQ 10 (ak aT v10 (aq zV (a1 (ak b6 (ak aB v1 (ks "odd")) (ki 0))))))
  (aR (aq aN (a3 (ks "all") (aq bJ (a1 v9)) (aq (bE n) (af v0 (af v1 (af v2 (a4 (ak aT v3 (ki 1)) (aq uL (a2 v4 v10)) (ak aT v5 v9) (ki 3))))))))))))) bW)
  (aj (aQ 14 (aq (bE n) (af v0 (af v1 (af v2 (a4 (ak aT v3 (ki 1)) (aq uL (a2 v4 v7)) (ak aT v5 (gd (a1 v8))) (ki 3)))))))
  (aj (fS (ay (ak b6 v6 (ks "ask"))) (aR (aq aN (a4 (ks "ask") v8 UY (aq (bE n) (af v0 (af v1 (af v2 (a4 (ak aT v3 (ki 1)) v4 v5 (ki 2))))))))) bW)
  (aR (aq aN (a3 (ks "within") v8 UY))))))))
noncomputable def cq:Nat->Fn
 | 0=>λ_ _=>none
 | n+1=>FG 14
  (aj (aQ 6 (aq uL (a2 v4 (ak aB (ak aB v1 (ks "floors")) v2))))
  (aj (fS (ay (ak b6 v6 (aq cM (a1 (ak aB v1 (ks "names")))))) (aR (aq aN (a2 (ks "say") (ak aB (ak aB v1 (ks "deeds")) v2)))) bW)
  (aj (fS (ay (ak jE (gd (cF [none,some 6,some 1] (gI v5) (gN 0) (ay (ak b6 (ak aB v0 (ki 0)) (ak aB (ak aB v2 (ks "names")) v1))) v0)) (gd aY))) (aR (aq aN (a2 (ks "say") (ak aB (ak aB v1 (ks "deeds")) v2)))) bW)
  (aj (aQ 7 (ak aB (ak aB v1 (ks "names")) v6))
  (aj (fy (ak uJ (ak aB v1 (ks "left")) (ki 5)) (uI v1 (ks "left")))
  (aj (Gw 8 9 (a2 (aq bO (a2 v0 (ak aB (ak aB v1 (ks "params")) v2))) (aq bO (a2 v0 (ak aB (ak aB v1 (ks "params")) v2)))))
  (aj (aQ 10 (xO aY))
  (aj (gC (gI (gd (a2 (aq aN (a2 v8 v9)) (aq aN (a2 v9 v8))))) (gT 2 (ai (gN 11) (ai (gN 12) bp))) (aj (aQ 13 (aq (bE n) (af v0 (af v1 (af v2 (a4 (ak aT v3 (ki 3)) v6 (ak aT v5 (gd (a2 (aq aN (a2 v7 v11)) (aq aN (a2 v7 SX))))) (ki 2)))))))
  (cX (eM bu bS v10 (a1 (aq aN (a1 (aq aN (a3 (ks "within") (aq aN (a2 v7 v11)) (aq aN (a1 (aq aN (a3 (ks "within") (aq aN (a2 v7 SX)) SV)))))))))))))
  (aR (aq aN (af (ks "by") (af v8 (a4 v9 (ak aB v10 (ki 0)) (aq aN (a1 (aq aN (a3 (ks "within") (aq aN (a2 v7 v8)) (aq aN aY))))) (ak aB v10 (ki 1)))))))))))))))
end
abbrev jf:Stmt:=top 40
abbrev jw:List Str:=["_law_state","_law_most","_law_odd"]
def iO:au ["_law_state","_law_most","_law_odd","_law_world_here","_law_deeds","_law_k","_law_deed","_law_rows"] jw (ah jf):=by walk_at "s"
def oh:Rc "_law_program" jf:=by ac_nf
def f6:Fn:=FG 8
  (aj (aQ 3 (aq iI (a3 v0 v1 v2)))
  (aj (aQ 4 (xO aY))
  (aj (gC (jB (a1 (ak aB v3 (ks "deeds")))) (gT 2 (ai (gN 5) (ai (gN 6) bp))) (aj (aQ 7 (aq (bE 20) (af v0 (af v3 (af v5 (a4 (ki 1) (i3 cG (ki 1)) (gd aY) (aq aF (a2 v0 (eK (.lv [.int 1,.int 2,.int 3,.int 4,.int 12]))))))))))
  (cX (eM bu bS v4 (a1 (aq aN (a3 v6 (aq bJ (a1 (ak aB (ak aB v3 (ks "params")) v5))) v7)))))))
  (aR (aq aN (a2 (aq bJ (a1 (aq Ia (a1 (ak aB v3 (ks "names")))))) (aq bJ (a1 v4))))))))
abbrev oV:Stmt:=top 41
abbrev pv:List Str:=["_law_state","_law_program_here","_law_most"]
def wJ:au ["_law_state","_law_program_here","_law_most","_law_town_here","_law_k","_law_deed","_law_params","_law_rows","_law_far"] pv (ah oV):=by walk_at "s"
def ug:Rc "_law_town" oV:=by ac_nf
def jR:Fn:=FG 9
  (aj (aQ 3 (xO aY))
  (aj (gC (qk (a1 (ak aT (ki 1) (aq aH (a2 v0 v2))))) (gN 4) (aj (fy (aq aF (a2 v0 (ak aB v1 (ki 1)))) (gT 3 (ai (gN 5) (ai (gN 6) (ai (gN 7) bp)))))
  (aj (aQ 8 (ak uJ (aq aH (a2 v0 (ki 199))) (ki 99)))
  (cX (eM bu bS v3 (a1 (aq aN (a2 v5 (aq bJ (a1 (gd (cF [none,some 8,some 0] (gI v6) (gN 0) cj (aq aF (a2 v2 (gd (af (i3 cG (ki 2)) (af (i3 cG (ki 1)) (af (ki 0) (af (ki 0) (af (ki 1) (a4 (ki 1) (ki 2) (ki 3) v1)))))))))))))))))))))
  (aR (aq bJ (a1 v3)))))
abbrev oZ:Stmt:=top 42
abbrev pC:List Str:=["_law_row_here"]
def wN:au ["_law_row_here"] pC (ah oZ):=by walk_at "s"
def uo:Rc "_law_lots" oZ:=by ac_nf
def jS:Fn:=g0 1
  (aR (eM HK Rf (Mg (cV (ks "within") (fW v0 (sx (ki 2)) sr) (cV (ks "all") (fW v0 (sx (ki 2)) sr) (cV (ks "ask") (fW v0 (sx (ki 2)) sr) (cV (ks "by") (fW v0 (sx (ki 3)) sr) (cV (ks "either") (fW v0 (sx (ki 1)) sr) (cV (ks "again") (fW v0 (sx (ki 1)) sr) Hj))))))) (a2 (ak aB v0 (ki 0)) (aq aN aY))))
abbrev mh:Stmt:=top 43
abbrev iu:List Str:=["_law_rows","_law_ahead","_law_table_here"]
def uc:au ["_law_rows","_law_ahead","_law_table_here","_law_k","_law_row_here","_law_lot_here","_law_inner"] iu (ah mh):=by walk_at "s"
def ji:Rc "_law_table" mh:=by ac_nf
def b5:Nat->Fn
 | 0=>λ_ _=>none
 | n+1=>g0 7
  (aj (fy (aq cM (a1 v0)) (Dx (ak aB v2 (ks "size")) v1))
  (aj (gC (jB (a1 v0)) (gT 2 (ai (gN 3) (ai (gN 4) bp))) (aj (fy v4 (Dx (ak aB v2 (ks "row")) (ak aT v1 (aq aN (a1 v3)))))
  (gC (jB (a1 (aq jS (a1 v4)))) (gT 2 (ai (gN 5) (ai (gN 6) bp))) (cX (aq (b5 n) (a3 v6 (ak aT v1 (aq aN (a2 v3 v5))) v2))))))
  (aR v2)))
abbrev kF:Stmt:=top 44
abbrev kM:List Str:=["_law_program_here"]
def rg:au ["_law_program_here"] kM (ah kF):=by walk_at "s"
def p4:Rc "_law_tables" kF:=by ac_nf
def gQ:Fn:=g0 1
  (aR (gd (cF [none] (gI (ak aB v0 (ki 1))) (gN 0) cj (aq (b5 8) (a3 (ak aB v0 (ki 2)) (aq aN aY) (tu (cV (ks "size") Ld (cV (ks "row") Ld Hj))))))))
abbrev kH:Stmt:=top 45
abbrev kO:List Str:=["_law_path"]
def rj:au ["_law_path"] kO (ah kH):=by walk_at "s"
def p6:Rc "_law_onward" kH:=by ac_nf
def c8:Fn:=g0 1
  (aR (ak aT (fW v0 sr (sx (i3 cG (ki 1)))) (aq aN (a1 (ak aT (ak aB v0 (i3 cG (ki 1))) (ki 1))))))
abbrev je:Stmt:=top 46
abbrev ju:List Str:=["_law_tables_here","_law_frames"]
def iN:au ["_law_tables_here","_law_frames","_law_deed","_law_known","_law_path","_law_word","_law_below","_law_numbers","_law_at"] ju (ah je):=by walk_at "s"
def og:Rc "_law_settled" je:=by ac_nf
def dY:Fn:=g0 9
  (aj (fO (km (ay (ak jE v1 (gd aY))) (ay (ak b6 (ak aB (ak aB (ak aB v1 (i3 cG (ki 1))) (ki 2)) (i3 cG (ki 1))) (ak zU (ak aB (ak aB v0 (ak aB (ak aB v1 (i3 cG (ki 1))) (ki 0))) (ks "size")) (fW (ak aB (ak aB v1 (i3 cG (ki 1))) (ki 2)) sr (sx (i3 cG (ki 1)))))))) (aj (fy (eM bu zA v1 aY) (gT 3 (ai (gN 2) (ai (gN 3) (ai (gN 4) bp)))))
  (fS (ay (ak FJ (aq cM (a1 v4)) (ki 1))) (aj (aQ 5 (ak aB (ak zU (ak aB (ak aB v0 v2) (ks "row")) (fW v4 sr (sx (i3 cG (ki 2))))) (ki 0)))
  (aj (fS (D7 (ay (ak Fd v5 (aq aN (a2 (ks "within") (ks "all"))))) (km (ay (ak b6 v5 (ks "ask"))) (ay (ak b6 (ak aB v4 (i3 cG (ki 2))) (ki 0))))) (aj (cX (eM bu bS v1 (a1 (aq aN (a3 v2 v3 v4)))))
  (aR v1)) bW)
  (cX (eM bu bS v1 (a1 (aq aN (a3 v2 v3 (Lc (ay (ak b6 v5 (ks "again"))) (fW v4 sr (sx (i3 cG (ki 2)))) (aq c8 (a1 (fW v4 sr (sx (i3 cG (ki 2)))))))))))))) (fS (ay (ak jE v1 (gd aY))) (aj (fy (eM bu zA v1 aY) (gT 3 (ai (gN 6) (ai (gN 7) (ai (gN 8) bp)))))
  (cX (eM bu bS v1 (a1 (aq aN (a3 v6 v7 (aq c8 (a1 v8)))))))) bW))) 1000000)
  (aR v1))
abbrev mn:Stmt:=top 47
abbrev mM:List Str:=["_law_program_here","_law_tables_here","_law_town_here"]
def kE:au ["_law_program_here","_law_tables_here","_law_town_here","_law_deeds","_law_world_here","_law_deed","_law_numbers"] mM (ah mn):=by walk_at "s"
def rX:Rc "_law_begun" mn:=by ac_nf
def iK:Fn:=g0 7
  (aj (aQ 3 (gd (cF [none] (gI (ak aB v0 (ki 1))) (gN 0) cj (ak aB v0 (ki 0)))))
  (aj (aQ 4 (xO aY))
  (aj (gC (gI v2) (gT 2 (ai (gN 5) (ai (gN 6) bp))) (cX (eM bu bS v4 (a1 (xO (a2 (aq dY (a2 v1 (xO (a1 (aq aN (a3 (eM bu dO v3 (a1 v5)) v6 (aq aN (a1 (ki 0))))))))) (xO aY)))))))
  (aR v4))))
abbrev mj:Stmt:=top 48
abbrev mK:List Str:=["_law_world_here"]
def ud:au ["_law_world_here"] mK (ah mj):=by walk_at "s"
def rV:Rc "_law_scene" mj:=by ac_nf
def iJ:Fn:=g0 1
  (aR (aq bJ (a1 (gd (cF [none,none] (gI v0) (Rt 2 (ai (gN 0) (ai (gN 1) bp))) cj (aq aN (a2 (aq bJ (a1 v0)) (aq bJ (a1 v1)))))))))
abbrev oX:Stmt:=top 49
abbrev jv:List Str:=["_law_found","_law_due"]
def wL:au ["_law_found","_law_due"] jv (ah oX):=by walk_at "s"
def kK:Rc "_law_same" oX:=by ac_nf
def bP:Nat->Fn
 | 0=>λ_ _=>none
 | n+1=>g0 2
  (aj (fS (iZ (aq xH (a2 v1 (eK (.ty "tuple"))))) (aj (fS (D7 (qV (iZ (aq xH (a2 v0 (eK (.ty "tuple")))))) (ay (ak jE (aq cM (a1 v0)) (aq cM (a1 v1))))) (aR (eK (.bl false))) bW)
  (aR (aq OX (a1 (gd (cF [none,none] (OR (a2 v0 v1)) (gT 2 (ai (gN 0) (ai (gN 1) bp))) cj (aq (bP n) (a2 v0 v1)))))))) bW)
  (aj (fS (ay (ak xI v1 (eK .bx))) (aR (ak xI v0 (eK .bx))) bW)
  (aj (fS (iZ (aq xH (a2 v1 (eK (.ty "str"))))) (aR (BU (aq xH (a2 v0 (eK (.ty "str")))) (ak b6 v0 v1))) bW)
  (aR (BU (aq xH (a2 v0 (eK (.ty "int")))) (BU (O0 (aq xH (a2 v0 (eK (.ty "bool"))))) (ak b6 v0 v1)))))))
abbrev jc:Stmt:=top 8
abbrev jt:List Str:=["program"]
def pZ:au ["program"] jt (ah jc):=by walk_at "s"
def oa:Rc "deed_numbers" jc:=by ac_nf
def dW:Fn:=g0 1
  (aR (Ry [none,none] (jB (a1 (ak aB v0 (ki 1)))) (gT 2 (ai (gN 0) (ai (gN 1) bp))) cj (mD (ak aB v1 (ki 0)) v0) [] .dv))
abbrev vb:Stmt:=top 4
abbrev vw:List Str:=["row"]
def AS:au ["row"] vw (ah vb):=by walk_at "s"
def yQ:Rc "lots_of" vb:=by ac_nf
def ib:Fn:=g0 1
  (aR (fW v0 (sx (ak aB (i3 (OU jV) (ak aB v0 (ki 0))) (ki 0))) sr))
abbrev yK:Stmt:=top 12
abbrev zl:List Str:=["rows","path"]
def Eh:au ["rows","path","lot","at"] zl (ah yK):=by walk_at "s"
def Bf:Rc "lot_on" yK:=by ac_nf
def nJ:Fn:=g0 4
  (aj (aQ 2 v0)
  (aj (gC (KZ (a3 (ki 1) (aq cM (a1 v1)) (ki 2))) (gN 3) (aQ 2 (ak aB (aq ib (a1 (ak aB v2 (ak aB v1 (ak uJ v3 (ki 1)))))) (ak aB v1 v3))))
  (aR v2)))
abbrev yI:Stmt:=top 13
abbrev zj:List Str:=["rows","path"]
def Eg:au ["rows","path","lot"] zj (ah yI):=by walk_at "s"
def Bd:Rc "row_on" yI:=by ac_nf
def ia:Fn:=g0 3
  (aj (aQ 2 (aq nJ (a2 v0 v1)))
  (aR (Lc (ay (ak Mf (ak aB v1 (i3 cG (ki 1))) (aq cM (a1 v2)))) (ak aB v2 (ak aB v1 (i3 cG (ki 1)))) (eK .bx))))
abbrev iP:Stmt:=top 17
abbrev iT:List Str:=["row","lot"]
def nY:au ["row","lot"] iT (ah iP):=by walk_at "s"
def mx:Rc "stands_at_end" iP:=by ac_nf
def di:Fn:=g0 2
  (aR (UC (ak Fd (ak aB v0 (ki 0)) (aq aN (a2 (ks "within") (ks "all")))) (BU (ak b6 (ak aB v0 (ki 0)) (ks "ask")) (ak b6 v1 (ki 0)))))
abbrev yL:Stmt:=top 16
abbrev zm:List Str:=["path"]
def Ei:au ["path"] zm (ah yL):=by walk_at "s"
def Bg:Rc "behind" yL:=by ac_nf
def jQ:Fn:=g0 1
  (aR (ak aT (fW v0 sr (sx (i3 cG (ki 1)))) (aq aN (a1 (ak aT (ak aB v0 (i3 cG (ki 1))) (ki 1))))))
abbrev lW:Stmt:=top 18
abbrev mF:List Str:=["rows","path"]
def t8:au ["rows","path","around","row"] mF (ah lW):=by walk_at "s"
def rO:Rc "path_stood" lW:=by ac_nf
def fF:Fn:=g0 4
  (aj (fO (ay (ak xI (aq ia (a2 v0 v1)) (eK .bx))) (aj (fS (ay (ak b6 (aq cM (a1 v1)) (ki 1))) (aR (eK .bx)) bW)
  (aj (aQ 2 (fW v1 sr (sx (i3 cG (ki 2)))))
  (aj (aQ 3 (aq ia (a2 v0 v2)))
  (aj (fS (iZ (aq di (a2 v3 (ak aB v1 (i3 cG (ki 2)))))) (aR v1) bW)
  (aQ 1 (Lc (ay (ak b6 (ak aB v3 (ki 0)) (ks "again"))) v2 (aq jQ (a1 v2)))))))) 1000000)
  (aR v1))
abbrev va:Stmt:=top 10
abbrev vt:List Str:=["program","deed"]
def AR:au ["program","deed"] vt (ah va):=by walk_at "s"
def yP:Rc "rows_in" va:=by ac_nf
def hZ:Fn:=g0 2
  (aR (ak aB (ak aB (ak aB v0 (ki 1)) v1) (ki 2)))
abbrev jb:Stmt:=top 19
abbrev jr:List Str:=["program","frames"]
def iM:au ["program","frames","left","deed","numbers","path"] jr (ah jb):=by walk_at "s"
def n6:Rc "frames_stood" jb:=by ac_nf
def dU:Fn:=FG 6
  (aj (aQ 2 (xO (DX (a1 v1))))
  (aj (fO (iZ v2) (aj (fy (eM bu zA v2 aY) (gT 3 (ai (gN 3) (ai (gN 4) (ai (gN 5) bp)))))
  (aj (aQ 5 (aq fF (a2 (aq hZ (a2 v0 v3)) v5)))
  (aj (fS (ay (ak vT v5 (eK .bx))) (aj (cX (eM bu bS v2 (a1 (aq aN (a3 v3 v4 v5)))))
  Nb) bW)
  (fS (iZ v2) (aj (fy (eM bu zA v2 aY) (gT 3 (ai (gN 3) (ai (gN 4) (ai (gN 5) bp)))))
  (cX (eM bu bS v2 (a1 (aq aN (a3 v3 v4 (aq jQ (a1 v5)))))))) bW)))) 1000000)
  (aR (aq bJ (a1 v2)))))
abbrev CI:Stmt:=top 20
abbrev Dc:List Str:=["program","town"]
def Gv:au ["program","town","numbers_of","scene","deed","numbers","frame"] Dc (ah CI):=by walk_at "s"
def Ep:Rc "begun" CI:=by ac_nf
def kl:Fn:=FG 7
  (aj (aQ 2 (aq dW (a1 v0)))
  (aj (aQ 3 (xO aY))
  (aj (gC (gI v1) (gT 2 (ai (gN 4) (ai (gN 5) bp))) (aj (aQ 6 (aq aN (a3 (ak aB v2 v4) v5 (aq aN (a1 (ki 0))))))
  (cX (eM bu bS v3 (a1 (aq aN (a2 (aq dU (a2 v0 (aq aN (a1 v6)))) (aq aN aY))))))))
  (aR (aq bJ (a1 v3))))))
abbrev kG:Stmt:=top 50
abbrev kN:List Str:=["_law_tables_here","_law_frames"]
def rh:au ["_law_tables_here","_law_frames","_law_deed","_law_known","_law_path","_law_places","_law_other","_law_table_here"] kN (ah kG):=by walk_at "s"
def p5:Rc "_law_row_at" kG:=by ac_nf
def c7:Fn:=FG 8
  (aj (fS (ay (ak b6 v1 (gd aY))) (aR (eK .bx)) bW)
  (aj (fy (ak aB v1 (i3 cG (ki 1))) (gT 3 (ai (gN 2) (ai (gN 3) (ai (gN 4) bp)))))
  (aj (aQ 5 (xO aY))
  (aj (gC (jB (a1 v0)) (gT 2 (ai (gN 6) (ai (gN 7) bp))) (cX (eM bu iz v5 (a1 (Ir [none,some 6] (ak aB v7 (ks "row")) (gN 0) cj (aq aN (a2 v1 v0)))))))
  (aR (eM bu dO v5 (a1 (aq aN (a2 v2 (Lc (ay (ak K9 v4 (ak aB (ak aB v0 v2) (ks "row")))) v4 (fW v4 sr (sx (i3 cG (ki 2))))))))))))))
abbrev rp:Stmt:=top 14
abbrev sk:List Str:=["program","frame"]
def yE:au ["program","frame","deed","numbers","path"] sk (ah rp):=by walk_at "s"
def wW:Rc "row_here" rp:=by ac_nf
def eI:Fn:=g0 5
  (aj (fy v1 (gT 3 (ai (gN 2) (ai (gN 3) (ai (gN 4) bp)))))
  (aR (aq ia (a2 (aq hZ (a2 v0 v2)) v4))))
abbrev rq:Stmt:=top 6
abbrev k9:List Str:=["lot","ahead"]
def yF:au ["lot","ahead","found","number","row","path","at","inner"] k9 (ah rq):=by walk_at "s"
def my:Rc "paths_in" rq:=by ac_nf
def dw:Nat->Fn
 | 0=>λ_ _=>none
 | n+1=>FG 8
  (aj (aQ 2 (xO aY))
  (aj (gC (jB (a1 v0)) (gT 2 (ai (gN 3) (ai (gN 4) bp))) (aj (aQ 5 (ak aT v1 (aq aN (a1 v3))))
  (aj (cX (eM bu bS v2 (a1 (aq aN (a2 v5 v4)))))
  (gC (jB (a1 (aq ib (a1 v4)))) (gT 2 (ai (gN 6) (ai (gN 7) bp))) (cX (eM bu iz v2 (a1 (aq (dw n) (a2 v7 (ak aT v5 (aq aN (a1 v6))))))))))))
  (aR v2)))
abbrev oU:Stmt:=top 7
abbrev pj:List Str:=["program"]
def wI:au ["program","found","deed","name","params","rows"] pj (ah oU):=by walk_at "s"
def uf:Rc "places_of" oU:=by ac_nf
def eV:Fn:=FG 6
  (aj (aQ 1 (xO aY))
  (aj (gC (jB (a1 (ak aB v0 (ki 1)))) (gT 2 (ai (gN 2) (ai (gT 3 (ai (gN 3) (ai (gN 4) (ai (gN 5) bp)))) bp))) (cX (eM bu iz v1 (a1 (gd (cF [none,none,some 2] (gI (aq (dw 10) (a2 v5 (aq aN aY)))) (gT 2 (ai (gN 0) (ai (gN 1) bp))) cj (aq aN (a3 v2 v0 v1))))))))
  (aR v1)))
abbrev yJ:Stmt:=top 22
abbrev zk:List Str:=["program","scene","hand"]
def u9:au ["program","scene","hand","frames","deed","numbers","path","places"] zk (ah yJ):=by walk_at "s"
def Be:Rc "row_at" yJ:=by ac_nf
def jP:Fn:=g0 8
  (aj (aQ 3 (ak aB (ak aB v1 v2) (ki 0)))
  (aj (fS (qV (iZ v3)) (aR (eK .bx)) bW)
  (aj (fy (ak aB v3 (i3 cG (ki 1))) (gT 3 (ai (gN 4) (ai (gN 5) (ai (gN 6) bp)))))
  (aj (fS (ay (ak xI (aq eI (a2 v0 (ak aB v3 (i3 cG (ki 1))))) (eK .bx))) (aQ 6 (fW v6 sr (sx (i3 cG (ki 2))))) bW)
  (aj (aQ 7 (gd (cF [none,none,none] (gI (aq eV (a1 v0))) (gT 3 (ai (gN 0) (ai (gN 1) (ai (gN 2) bp)))) cj (aq aN (a2 v0 v1)))))
  (aR (eM bu dO v7 (a1 (aq aN (a2 v4 v6))))))))))
abbrev ja:Stmt:=top 15
abbrev jq:List Str:=["program","scene","hand"]
def pY:au ["program","scene","hand","frames"] jq (ah ja):=by walk_at "s"
def n5:Rc "row_stood_at" ja:=by ac_nf
def dS:Fn:=g0 4
  (aj (aQ 3 (ak aB (ak aB v1 v2) (ki 0)))
  (aR (Lc (iZ v3) (aq eI (a2 v0 (ak aB v3 (i3 cG (ki 1))))) (eK .bx))))
abbrev rA:Stmt:=top 5
abbrev sm:List Str:=["row"]
def yG:au ["row"] sm (ah rA):=by walk_at "s"
def wX:Rc "locks_of" rA:=by ac_nf
def iH:Fn:=g0 1
  (aj (fS (ay (ak b6 (ak aB v0 (ki 0)) (ks "all"))) (aR (ak aB v0 (ki 1))) bW)
  (aR (Lc (ay (ak Fd (ak aB v0 (ki 0)) (aq aN (a2 (ks "within") (ks "ask"))))) (aq aN (a1 (ak aB v0 (ki 1)))) (aq aN aY))))
abbrev lX:Stmt:=top 11
abbrev mG:List Str:=["program","frame"]
def t9:au ["program","frame","deed","numbers","path"] mG (ah lX):=by walk_at "s"
def rP:Rc "numbers_in" lX:=by ac_nf
def fG:Fn:=g0 5
  (aj (fy v1 (gT 3 (ai (gN 2) (ai (gN 3) (ai (gN 4) bp)))))
  (aR (BS (a2 (ak aB (ak aB (ak aB v0 (ki 1)) v2) (ki 1)) v3))))
abbrev rn:Stmt:=top 1
abbrev sj:List Str:=["term","numbers"]
def yD:au ["term","numbers","word","figure"] sj (ah rn):=by walk_at "s"
def wV:Rc "value_of" rn:=by ac_nf
def fY:Fn:=g0 4
  (aj (fy v0 (gT 2 (ai (gN 2) (ai (gN 3) bp))))
  (aR (Lc (ay (ak b6 v2 (ks ""))) v3 (ak aT (ak aB v1 v2) v3))))
abbrev lY:Stmt:=top 23
abbrev mH:List Str:=["program","frame"]
def ua:au ["program","frame","locks","numbers"] mH (ah lY):=by walk_at "s"
def rQ:Rc "locks_told" lY:=by ac_nf
def fH:Fn:=g0 4
  (aj (aQ 2 (aq iH (a1 (aq eI (a2 v0 v1)))))
  (aj (aQ 3 (aq fG (a2 v0 v1)))
  (aR (aq bJ (a1 (BR [none,none,some 3] (gI v2) (gT 2 (ai (gN 0) (ai (gN 1) bp))) cj (mP (aq aN (a2 v0 (aq fY (a2 v1 v2)))))))))))
abbrev vc:Stmt:=top 21
abbrev vy:List Str:=["scene","lock"]
def AU:au ["scene","lock","hand","frames","held"] vy (ah vc):=by walk_at "s"
def yR:Rc "held_by" vc:=by ac_nf
def fN:Fn:=g0 5
  (aj (gC (jB (a1 v0)) (gT 2 (ai (gN 2) (ai (gT 2 (ai (gN 3) (ai (gN 4) bp))) bp))) (fS (iZ (aq OW (a1 (gd (cF [none,some 1] (gI v4) (gN 0) cj (ak Fd v1 v0)))))) (aR v2) bW))
  (aR (eK .bx)))
abbrev CH:Stmt:=top 24
abbrev C8:List Str:=["program","scene","hand"]
def Gs:au ["program","scene","hand","row"] C8 (ah CH):=by walk_at "s"
def Eo:Rc "waits" CH:=by ac_nf
def qP:Fn:=g0 4
  (aj (aQ 3 (aq dS (a3 v0 v1 v2)))
  (aj (fS (D7 (ay (ak xI v3 (eK .bx))) (ay (ak oF (ak aB v3 (ki 0)) (aq aN (a2 (ks "within") (ks "all")))))) (aR (aq aN aY)) bW)
  (aR (aq bJ (a1 (gd (cF [none,some 1] (gI (aq fH (a2 v0 (ak aB (ak aB (ak aB v1 v2) (ki 0)) (i3 cG (ki 1)))))) (gN 0) (ay (ak vT (aq fN (a2 v1 v0)) (eK .bx))) v0)))))))
abbrev lZ:Stmt:=top 51
abbrev L7:List Str:=["_law_script"]
def Gu:au ["_law_script","_law_state","_law_k","_law_program_here","_law_town_here","_law_tables_here","_law_world_here","_law_scene_here","_law_hand"] L7 (ah lZ):=by walk_at "s"
def JK:Rc "law" lZ:=by ac_nf
def Aw:Fn:=g0 9
  (aj (aQ 1 (aq fI (a1 v0)))
  (aj (gC (qk (a1 (aq uL (a2 (ki 3) (aq Fb (a2 (ki 8) (aq cM (a1 v0)))))))) (gN 2) (aj (aQ 3 (aq f6 (a3 v1 (aq aF (a2 v1 (eK (.lv [.int 3,.int 10,.int 20,.int 60])))) (aq aF (a2 v1 (eK (.lv [.int 0,.int 4,.int 12])))))))
  (aj (aQ 4 (aq jR (a3 v1 v3 (ki 4))))
  (aj (aQ 5 (aq gQ (a1 v3)))
  (aj (aQ 6 (aq iK (a3 v3 v5 v4)))
  (aj (aQ 7 (aq iJ (a1 v6)))
  (aj (fS (D7 (qV (iZ (aq (bP 8) (a2 (aq kl (a2 v3 v4)) v7)))) (qV (iZ (aq (bP 8) (a2 (aq kl (a2 v3 v4)) v7))))) (aR (eK (.bl false))) bW)
  (aj (gC (qk (a1 (aq cM (a1 v4)))) (gN 8) (aj (fS (qV (iZ (aq (bP 8) (a2 (aq jP (a3 v3 v7 v8)) (aq c7 (a2 v5 (ak aB (ak aB v6 v8) (ki 0)))))))) (aR (eK (.bl false))) bW)
  (fS (qV (iZ (aq (bP 8) (a2 (aq qP (a3 v3 v7 v8)) (aq aN aY))))) (aR (eK (.bl false))) bW)))
  (fS (ay (ak vT (aq fN (a2 v7 (aq aN (a2 (aq aF (a2 v1 (ak aB v3 (ki 0)))) (ak uJ (aq aH (a2 v1 (ki 9))) (ki 4)))))) (eK .bx))) (aR (eK (.bl false))) bW)))))))))
  (aR (eK (.bl true)))))
structure Cc where
 l:PySem.W.OpenLaw
 w:World
 h:Heap
 mg:Str->Option Value
 base:Heap
section
variable (c:Cc)
abbrev nG:Prop:=Df c.l.prog c.w (Hd.aJ c.h) c.mg c.base "_law_drawn" 1 mL 1 fI
abbrev pT:Prop:=Df c.l.prog c.w (Hd.aJ c.h) c.mg c.base "_law_load" 1 pE 1 jT
abbrev bN:Prop:=Df c.l.prog c.w (Hd.aJ c.h) c.mg c.base "_law_next" 2 pB 2 aH
abbrev cU:Prop:=Df c.l.prog c.w (Hd.aJ c.h) c.mg c.base "_law_of" 3 vz 2 aF
abbrev nE:Prop:=Df c.l.prog c.w (Hd.aJ c.h) c.mg c.base "_law_words" 4 mJ 2 dX
abbrev nD:Prop:=Df c.l.prog c.w (Hd.aJ c.h) c.mg c.base "_law_world" 5 mI 3 iI
abbrev gO:Prop:=Df c.l.prog c.w (Hd.aJ c.h) c.mg c.base "_law_is_odd" 3 kP 2 dc
abbrev gy:Prop:=Df c.l.prog c.w (Hd.aJ c.h) c.mg c.base "_law_term" 4 pA 2 bO
abbrev pU:Prop:=Df c.l.prog c.w (Hd.aJ c.h) c.mg c.base "_law_call" 5 pF 4 gA
abbrev pS:Prop:=Df c.l.prog c.w (Hd.aJ c.h) c.mg c.base "_law_lock" 5 pD 5 eW
abbrev Cj:Prop:=Df c.l.prog c.w (Hd.aJ c.h) c.mg c.base "_law_lot" 26 lj 7 (bE 20)
abbrev PK:Prop:=Df c.l.prog c.w (Hd.aJ c.h) c.mg c.base "_law_row" 26 lh 6 (fZ 20)
abbrev Jl:Prop:=Df c.l.prog c.w (Hd.aJ c.h) c.mg c.base "_law_locked" 26 gG 7 (c9 20)
abbrev FK:Prop:=Df c.l.prog c.w (Hd.aJ c.h) c.mg c.base "_law_two_ways" 26 fe 6 (cq 20)
abbrev jN:Prop:=Df c.l.prog c.w (Hd.aJ c.h) c.mg c.base "_law_program" 27 jw 3 f6
abbrev pQ:Prop:=Df c.l.prog c.w (Hd.aJ c.h) c.mg c.base "_law_town" 4 pv 3 jR
abbrev pR:Prop:=Df c.l.prog c.w (Hd.aJ c.h) c.mg c.base "_law_lots" 1 pC 1 jS
abbrev x9:Prop:=Df c.l.prog c.w (Hd.aJ c.h) c.mg c.base "_law_table" 10 iu 3 (b5 8)
abbrev kU:Prop:=Df c.l.prog c.w (Hd.aJ c.h) c.mg c.base "_law_tables" 11 kM 1 gQ
abbrev kX:Prop:=Df c.l.prog c.w (Hd.aJ c.h) c.mg c.base "_law_onward" 1 kO 1 c8
abbrev jM:Prop:=Df c.l.prog c.w (Hd.aJ c.h) c.mg c.base "_law_settled" 2 ju 2 dY
abbrev nI:Prop:=Df c.l.prog c.w (Hd.aJ c.h) c.mg c.base "_law_begun" 3 mM 3 iK
abbrev nF:Prop:=Df c.l.prog c.w (Hd.aJ c.h) c.mg c.base "_law_scene" 1 mK 1 iJ
abbrev Ar:Prop:=Df c.l.prog c.w (Hd.aJ c.h) c.mg c.base "_law_same" 9 jv 2 (bP 8)
abbrev jL:Prop:=Df c.l.prog c.w (Hd.aJ c.h) c.mg c.base "deed_numbers" 1 jt 1 dW
abbrev oO:Prop:=Df c.l.prog c.w (Hd.aJ c.h) c.mg c.base "lots_of" 1 vw 1 ib
abbrev Aq:Prop:=Df c.l.prog c.w (Hd.aJ c.h) c.mg c.base "lot_on" 2 zl 2 nJ
abbrev tQ:Prop:=Df c.l.prog c.w (Hd.aJ c.h) c.mg c.base "row_on" 3 zj 2 ia
abbrev iX:Prop:=Df c.l.prog c.w (Hd.aJ c.h) c.mg c.base "stands_at_end" 1 iT 2 di
abbrev tS:Prop:=Df c.l.prog c.w (Hd.aJ c.h) c.mg c.base "behind" 1 zm 1 jQ
abbrev nA:Prop:=Df c.l.prog c.w (Hd.aJ c.h) c.mg c.base "path_stood" 4 mF 2 fF
abbrev oN:Prop:=Df c.l.prog c.w (Hd.aJ c.h) c.mg c.base "rows_in" 1 vt 2 hZ
abbrev jK:Prop:=Df c.l.prog c.w (Hd.aJ c.h) c.mg c.base "frames_stood" 5 jr 2 dU
abbrev DZ:Prop:=Df c.l.prog c.w (Hd.aJ c.h) c.mg c.base "begun" 6 Dc 2 kl
abbrev kW:Prop:=Df c.l.prog c.w (Hd.aJ c.h) c.mg c.base "_law_row_at" 1 kN 2 c7
abbrev iF:Prop:=Df c.l.prog c.w (Hd.aJ c.h) c.mg c.base "row_here" 4 sk 2 eI
abbrev Ci:Prop:=Df c.l.prog c.w (Hd.aJ c.h) c.mg c.base "paths_in" 12 k9 2 (dw 10)
abbrev pP:Prop:=Df c.l.prog c.w (Hd.aJ c.h) c.mg c.base "places_of" 13 pj 1 eV
abbrev Ap:Prop:=Df c.l.prog c.w (Hd.aJ c.h) c.mg c.base "row_at" 14 zk 3 jP
abbrev jJ:Prop:=Df c.l.prog c.w (Hd.aJ c.h) c.mg c.base "row_stood_at" 5 jq 3 dS
abbrev tR:Prop:=Df c.l.prog c.w (Hd.aJ c.h) c.mg c.base "locks_of" 1 sm 1 iH
abbrev nB:Prop:=Df c.l.prog c.w (Hd.aJ c.h) c.mg c.base "numbers_in" 1 mG 2 fG
abbrev tP:Prop:=Df c.l.prog c.w (Hd.aJ c.h) c.mg c.base "value_of" 1 sj 2 fY
abbrev nC:Prop:=Df c.l.prog c.w (Hd.aJ c.h) c.mg c.base "locks_told" 5 mH 2 fH
abbrev oP:Prop:=Df c.l.prog c.w (Hd.aJ c.h) c.mg c.base "held_by" 1 vy 2 fN
abbrev DY:Prop:=Df c.l.prog c.w (Hd.aJ c.h) c.mg c.base "waits" 6 C8 3 qP
end
section
variable {c:Cc} {mb:Str->Option Value} {mean:ExcName->Option Value} (T:Top view (PySem.W.looseW view (["SHAPES"]:List Str)) mean c.mg mb c.h) (B:Bs c.l.prog c.w (Hd.aJ c.h) c.mg)
include T B
theorem uD:nG c:=Hd.aU T rW λF _ _ _=>
 (av F ue λ_ _ _ _ _ _ hr _=>by walk_at "v";with_reducible exact(aI (bw (qq.ob (fR (ab bD (ab (qq.ob (CF (by unfold Gl;ac_nf) B.B8 xZ ∅ (ae aA))) ∅)) (ae (ae (ae aA))))))))
theorem xm:pT c:=Hd.aU T ur λF _ _ _=>
 (av F il λ_ _ _ _ _ _ hr _=>by walk_at "v";with_reducible exact(aa ∅
   (aa ∅
   (aa (fP ∅ (nX hr.units (sv 0) bD))
   (aa ∅
   (aa ∅
   (aI (dz (SW.st (AJ ∅ (wx (qX L9 ∅ (b7 Ho bD bD) (sF _))))) (aI (fP ∅ (nX hr.units (sv 0) bD))) (aa (sset 4 il.nd (b7 sy (b7 iw (b7 dN (b7 dN ∅ (b7 iw (b7 iw bD (sv 2)) (sv 2))) bD) bD) bD))
   (aa (sset 4 il.nd (b7 sy (b7 iw (sv 4) (sv 4)) bD))
   (aI (fP (b7 dN (b7 sy (b7 dN (b7 dN (b7 iw (sv 4) bD) (sv 2)) bD) bD) (b7 Ho bD bD)) (nX hr.units (sv 0) bD)))))))))))))
theorem xj(a:pT c):bN c:=Hd.aU T um λF _ _ _=>
 (av F wM λ_ _ _ _ _ _ hr _=>by walk_at "v";with_reducible exact(aa ∅
   (aa ∅
   (aa (fP (b7 Ob ∅ (sv 1)) (nX hr.units (sv 0) bD))
   ∅))))
theorem Bw(a:bN c):cU c:=Hd.aU T yS λF _ _ _=>
 (av F AV λ_ _ _ _ _ _ hr _=>by walk_at "u")
theorem uB(a:cU c)(b:bN c):nE c:=Hd.aU T rT λF _ _ _=>
 (av F kC λ_ _ _ _ _ _ hr _=>by walk_at "v";with_reducible exact(aa ∅
   (aa ∅
   (aa (cA Wx rfl (cw (by unfold Gl;ac_nf) B.dh (ab (gb a hr (ab (sv 0) (ab (de 9 (by ac_nf)) ar))) ar) (hl:=(ae aA))) ∅ ∅)
   (aa ∅
   (aa ∅
   (aa (sset 7 kC.nd (gb a hr (ab (sv 0) (ab (de 9 (by ac_nf)) ar))))
   (aI (bw (dI (N':=["_law_k","_law_at","_law_first","_law_letters","_law_stem","_law_stride"]) (caps:=[none,some 5,some 6,some 2,some 3,some 7]) (aV (by ac_nf)) rfl (cw (by unfold Gl;ac_nf) B.dh ∅ (hl:=(ae aA))) (λ_ _ _ _ _=>(sgn 0 (by show(["_law_k","_law_at","_law_first","_law_letters","_law_stem","_law_stride"]:List Str).Nodup;decide+kernel))) (λ_ _ _ _ _=>bR) (λ_ _ _ _ _=>(b7 dN (b7 dN ∅ (six hr (sv 3) (b7 sy (b7 dN (sv 2) (b7 iw (sv 5) (sv 0))) bD))) ∅))))))))))))
theorem uA(b:nE c)(a:cU c)(e:bN c):nD c:=Hd.aU T rR λF _ _ _=>
 (av F cx λ_ _ _ _ _ _ hr _=>by walk_at "v";with_reducible exact(aa (sset 3 cx.nd (gb b hr (ab (sv 0) (ab (gb a hr (ab (sv 0) (ab (de 9 (by ac_nf)) ar))) ar))))
   (aa (sset 4 cx.nd (gb b hr (ab (sv 0) (ab (gb a hr (ab (sv 0) (ab (de 9 (by ac_nf)) ar))) ar))))
   (aa ∅
   (aa (gh (i:=6) cx.nd (by ac_nf) (by ac_nf) (N':=["_law_deed","_law_state"]) (caps:=[none,some 0]) (aV (by ac_nf)) rfl (fQ (sv 4)) (λ_ _ _ _ _=>(sgn 0 (by show(["_law_deed","_law_state"]:List Str).Nodup;decide+kernel))) (λ_ _ _ _ _=>bR) (λ_ _ _ _ _=>(gb a hr (ab (sv 1) (ab (de 9 (by ac_nf)) ar)))))
   (aa (sset 7 cx.nd (CG Iz B.tL wa (ab (dI (N':=["_law_deed","_law_names","_law_state"]) (caps:=[none,some 3,some 0]) (aV (by ac_nf)) rfl (fQ (sv 4)) (λ_ _ _ _ _=>(sgn 0 (by show(["_law_deed","_law_names","_law_state"]:List Str).Nodup;decide+kernel))) (λ_ _ _ _ _=>bR) (λ_ _ _ _ _=>∅)) ar)))
   (aa (sset 5 cx.nd (dI (N':=["_law_k","_law_params"]) (caps:=[none,some 5]) (aV (by ac_nf)) rfl (fQ (sv 6)) (λ_ _ _ _ _=>(sgn 0 (by show(["_law_k","_law_params"]:List Str).Nodup;decide+kernel))) (λ_ _ _ _ _=>bR) (λ_ _ _ _ _=>∅)))
   (aI (bw (yC (cE bG (sv 3) (cE bG (sv 4) (cE bG (sv 5) (cE bG (sv 7) (cE bG (sv 1) (cE bG (sv 2) AL)))))) (by ac_nf) (by ac_nf) (by simp) λd h=>xc h (by ac_nf) (by ac_nf) (by simp) (by decide)))))))))))
theorem sE(a:bN c):gO c:=Hd.aU T p7 λF _ _ _=>
 (av F rm λ_ _ _ _ _ _ hr _=>by walk_at "v";with_reducible exact(aI (bw (rf ∅ (q9 ∅)))))
theorem xi(b:bN c)(a:cU c):gy c:=Hd.aU T uh λF _ _ _=>
 (av F wK λ_ _ _ _ _ _ hr _=>by walk_at "v";with_reducible exact(aa ∅
   (aa (dz ∅ (aI (bw (cH (ab ∅ (ab (gb a hr (ab (sv 0) (ab (qq.lv (fR ∅ (ae (ae (ae (ae (ae (ae (ae (ae (ae aA))))))))))) ar))) ar)) (ae (ae aA))))) cz)
   ∅)))
theorem xn(b:gO c)(d:cU c)(a:gy c):pU c:=Hd.aU T uu λF _ _ _=>
 (av F fx λ_ _ _ _ _ _ hr _=>by walk_at "v";with_reducible exact(aa (gh (i:=4) fx.nd (by ac_nf) (by ac_nf) (N':=["_law_k","_law_deed","_law_top","_law_world_here"]) (caps:=[none,some 2,some 3,some 1]) (aV (by ac_nf)) rfl (cw (by unfold Gl;ac_nf) B.dh ∅ (hl:=(ae aA))) (λ_ _ _ _ _=>(sgn 0 (by show(["_law_k","_law_deed","_law_top","_law_world_here"]:List Str).Nodup;decide+kernel))) (λ_ _ _ _ _=>(qw ∅)) (λ_ _ _ _ _=>(sv 0)))
   (aa (dz ∅ (aI (sset 4 fx.nd (qq.lv (Ec rfl (by unfold Gl;ac_nf) B.B8 (by unfold Gl;ac_nf) B.dh xZ ∅)))) cz)
   (aa ∅
   (aa ∅
   (aa (gh (i:=6) fx.nd (by ac_nf) (by ac_nf) (N':=["_law_one","_law_deed","_law_state","_law_world_here"]) (caps:=[none,some 2,some 0,some 1]) (aV (by ac_nf)) rfl ∅ (λ_ _ _ _ _=>(sgn 0 (by show(["_law_one","_law_deed","_law_state","_law_world_here"]:List Str).Nodup;decide+kernel))) (λ_ _ _ _ _=>bR) (λ_ _ _ _ _=>∅))
   ∅))))))
theorem xl(d:bN c)(b:gO c)(a:gy c):pS c:=Hd.aU T uq λF _ _ _=>
 (av F lV λ_ _ _ _ _ _ hr _=>by walk_at "v";with_reducible exact(aa ∅
   (aa ∅
   (aa ∅
   (aa ∅
   (aa ∅
   (aa (gh (i:=8) lV.nd (by ac_nf) (by ac_nf) (N':=["_law_lock_here","_law_name"]) (caps:=[none,some 7]) (aV (by ac_nf)) rfl (fQ (sv 4)) (λ_ _ _ _ _=>(sgn 0 (by show(["_law_lock_here","_law_name"]:List Str).Nodup;decide+kernel))) (λ_ _ _ _ _=>(qw ∅)) (λ_ _ _ _ _=>∅))
   ∅)))))))
theorem De(f:bN c)(d:cU c)(g:pU c)(b:gy c)(e:pS c):∀n,Df c.l.prog c.w (Hd.aJ c.h) c.mg c.base "_law_lot" (6+n) lj 7 (bE n)/\Df c.l.prog c.w (Hd.aJ c.h) c.mg c.base "_law_row" (6+n) lh 6 (fZ n)/\Df c.l.prog c.w (Hd.aJ c.h) c.mg c.base "_law_locked" (6+n) gG 7 (c9 n)/\Df c.l.prog c.w (Hd.aJ c.h) c.mg c.base "_law_two_ways" (6+n) fe 6 (cq n)
 | 0=>⟨Hd.aU T mC λ_ _ _ _=>ix,Hd.aU T mB λ_ _ _ _=>ix,Hd.aU T iR λ_ _ _ _=>ix,Hd.aU T gm λ_ _ _ _=>ix⟩
 | n+1=>by
  obtain⟨a,j,k,m⟩:=De f d g b e n;refine⟨?_,?_,?_,?_⟩
  ·exact Hd.aU T mC λF _ _ _=>cZ (av F yH λ_ _ _ _ _ _ hr _=>by walk_at "v";with_reducible exact(aa ∅
   (aa (cA Wx rfl (cw (by unfold Gl;ac_nf) B.dh (ab (gb f hr (ab (sv 0) (ab (b7 dN (gb d hr (ab (sv 0) (ab (b7 dN (b7 Hn ∅ bD) ∅) ar)) (VJ (by decide) (V9 _ _))) bD) ar)) (VJ (by decide) (V9 _ _))) ar) (hl:=(ae aA))) ∅ (aI (dz ∅ (aa (fP ∅ (nX hr.units (sv 1) bG))
   (aI (fu (pX (isT:=bu) eZ WH XY Yr g7 (sv 7) (ab (gb j hr ∅ (VG _)) ar))))) cz)))
   ∅)))
  ·exact Hd.aU T mB λF _ _ _=>(av F cI λ_ _ _ _ _ _ hr _=>by walk_at "v";with_reducible exact(aa (sset 6 cI.nd (gb f hr ∅ (VJ (by decide) (V9 _ _))))
   (aa (dz ∅ (aI (bw (cH (ab bG (ab (gb d hr ∅ (VJ (by decide) (V9 _ _))) ar)) (ae (ae aA))))) cz)
   (aa (dz ∅ (aI (bw (gb g hr ∅ (VJ (by decide) (V9 _ _))))) cz)
   (aa (dz ∅ (aI (bw (gb m hr ∅ (VG _)))) cz)
   (aa (dz ∅ (aa (MX 7 8 cI.nd (ae (ae aA)) rfl (by decide) (by with_unfolding_all exact(Bl rfl cI.nd rfl rfl (by decide) rfl rfl (ab (gb b hr (ab (sv 0) (ab (six hr (six hr (sv 1) bG) (sv 2)) ar)) (VJ (by decide) (V9 _ _))) (ab (gb b hr (ab (sv 0) (ab (six hr (six hr (sv 1) bG) (sv 2)) ar)) (VJ (by decide) (V9 _ _))) ar)) rfl)))
   (aa (gh (i:=9) cI.nd (by ac_nf) (by ac_nf) (N':=["_law_k","_law_deed","_law_deep","_law_held","_law_state","_law_top","_law_world_here"]) (caps:=[none,some 2,some 3,some 5,some 0,some 4,some 1]) (aV (by ac_nf)) rfl (cw (by unfold Gl;ac_nf) B.dh ∅ (hl:=(ae aA))) (λ_ _ _ _ _=>(sgn 0 (by show(["_law_k","_law_deed","_law_deep","_law_held","_law_state","_law_top","_law_world_here"]:List Str).Nodup;decide+kernel))) (λ_ _ _ _ _=>bR) (λ_ _ _ _ _=>(gb a hr ∅ (VG _))))
   ∅)) cz)
   (aa (dz ∅ (aa (gh (i:=9) cI.nd (by ac_nf) (by ac_nf) (N':=["_law_k","_law_deed","_law_deep","_law_held","_law_state","_law_top","_law_world_here"]) (caps:=[none,some 2,some 3,some 5,some 0,some 4,some 1]) (aV (by ac_nf)) rfl (cw (by unfold Gl;ac_nf) B.dh ∅ (hl:=(ae aA))) (λ_ _ _ _ _=>(sgn 0 (by show(["_law_k","_law_deed","_law_deep","_law_held","_law_state","_law_top","_law_world_here"]:List Str).Nodup;decide+kernel))) (λ_ _ _ _ _=>bR) (λ_ _ _ _ _=>(gb a hr ∅ (VG _))))
   ∅) cz)
   (aa (dz ∅ (aI (bw (cH (ab bG (ab (gb a hr ∅ (VG _)) ar)) (ae (ae aA))))) cz)
   (aa (sset 10 cI.nd (gb d hr (ab (sv 0) (ab (de 9 (by ac_nf)) ar)) (VJ (by decide) (V9 _ _))))
   (aI (bw (gb k hr ∅ (VG _)))))))))))))
  ·exact Hd.aU T iR λF _ _ _=>cZ (av F cJ λ_ _ _ _ _ _ hr _=>by walk_at "v";with_reducible exact(aa (fP (gb e hr ∅ (VJ (by decide) (V9 _ _))) ∅)
   (aa ∅
   (aa (dz ∅ (aa (MX 9 10 cJ.nd (ae (ae aA)) rfl (by decide) (by with_unfolding_all exact(Bl rfl cJ.nd rfl rfl (by decide) rfl rfl (ab (qq.ob (fR (ab (sv 8) ar) (ae aA))) (ab (sv 7) ar)) rfl)))
   (aa (cA Wx rfl (cw (by unfold Gl;ac_nf) B.dh (ab (gb d hr (ab (sv 0) (ab (de 9 (by ac_nf)) ar)) (VJ (by decide) (V9 _ _))) ar) (hl:=(ae aA))) ∅ (aa (fP (gb e hr ∅ (VJ (by decide) (V9 _ _))) ∅)
   (aa ∅
   (aI (sset 9 cJ.nd (qq.ob (M3 (sv 9) (b7 Hn ∅ ∅))))))))
   (aa (dz ∅ (aI (fu (pX (isT:=bu) eZ WH XY Yr g7 (sv 9) (ab (cH (ab ∅ (ab (cH (ab ∅ (ab (b7 Hm ∅ (b7 iw bD ∅)) ar)) (ae (ae aA))) ar)) (ae (ae aA))) ar)))) cz)
   (aa ∅
   (aI (bw (cH (ab bG (ab ∅ (ab (gb a hr ∅ (VG _)) ar))) (ae (ae (ae aA)))))))))) cz)
   (aa (sset 14 cJ.nd (gb a hr ∅ (VG _)))
   (aa (dz ∅ (aI (bw (cH (ab bG (ab (sv 8) (ab (sv 14) (ab (gb a hr ∅ (VG _)) ar)))) (ae (ae (ae (ae aA))))))) cz)
   ∅))))))
  ·exact Hd.aU T gm λF _ _ _=>cZ (av F cQ λ_ _ _ _ _ _ hr _=>by walk_at "v";with_reducible exact(aa ∅
   (aa ∅
   (aa (dz (qX (Hr hr.units) (dI (N':=["_law_lock_here","_law_low","_law_world_here"]) (caps:=[none,some 6,some 1]) (aV (by ac_nf)) rfl (fQ (sv 5)) (λ_ _ _ _ _=>(sgn 0 (by show(["_law_lock_here","_law_low","_law_world_here"]:List Str).Nodup;decide+kernel))) (λ_ _ _ _ _=>(qw ∅)) (λ_ _ _ _ _=>(sv 0))) ∅ (sF _)) ∅ cz)
   (aa ∅
   (aa (fP ∅ (nX hr.units (sv 1) bG))
   (aa (MX 8 9 cQ.nd (ae (ae aA)) rfl (by decide) (by with_unfolding_all exact(Bl rfl cQ.nd rfl rfl (by decide) rfl rfl (ab (gb b hr (ab (sv 0) (ab (six hr (six hr (sv 1) bG) (sv 2)) ar)) (VJ (by decide) (V9 _ _))) (ab (gb b hr (ab (sv 0) (ab (six hr (six hr (sv 1) bG) (sv 2)) ar)) (VJ (by decide) (V9 _ _))) ar)) rfl)))
   (aa ∅
   (aa (cA Wx rfl ∅ ∅ (aa (sset 13 cQ.nd (gb a hr ∅ (VG _)))
   ∅))
   ∅)))))))))
theorem qg(d:nD c)(a:Cj c)(b:cU c):jN c:=Hd.aU T oh λF _ _ _=>
 cZ (av F iO λ_ _ _ _ _ _ hr _=>by walk_at "v";with_reducible exact(aa ∅
   (aa ∅
   (aa (cA Wx rfl (fv (by unfold Gl;ac_nf) B.bZ ∅ (ae aA)) ∅ (aa (sset 7 iO.nd (gb a hr (ab (sv 0) (ab (sv 3) (ab (sv 5) (ab bD (ab ∅ (ab ∅ (ab (gb b hr (ab (sv 0) (ab (de 9 (by ac_nf)) ar))) ar)))))))))
   ∅))
   (aI (bw (cH (ab (M8 hV B.gx eT (ab (CG Iy B.tL wa ∅) ar)) ∅) (ae (ae aA)))))))))
theorem xh(b:bN c)(a:cU c):pQ c:=Hd.aU T ug λF _ _ _=>
 cZ (av F wJ λ_ _ _ _ _ _ hr _=>by walk_at "v";with_reducible exact(aa ∅
   (aa (cA Wx rfl (cw (by unfold Gl;ac_nf) B.dh ∅ (hl:=(ae aA))) ∅ (aa ∅
   (aa ∅
   (aI (fu (pX (isT:=bu) eZ WH XY Yr g7 (sv 3) (ab (cH (ab (sv 5) (ab (M8 hV B.gx eT (ab (dI (N':=["_law_one","_law_far","_law_state"]) (caps:=[none,some 8,some 0]) (aV (by ac_nf)) rfl (fQ (sv 6)) (λ_ _ _ _ _=>(sgn 0 (by show(["_law_one","_law_far","_law_state"]:List Str).Nodup;decide+kernel))) (λ_ _ _ _ _=>bR) (λ_ _ _ _ _=>(gb a hr (ab (sv 2) (ab (qq.lv (fR ∅ (ae (ae (ae (ae (ae (ae (ae (ae (ae aA))))))))))) ar))))) ar)) ar)) (ae (ae aA))) ar)))))))
   ∅)))
theorem xk:pR c:=Hd.aU T uo λF _ _ _=>
 (av F wN λ_ _ _ _ _ _ hr _=>by walk_at "v";with_reducible exact(aI (bw (pX (isT:=HK) MF PySem.F.plainAttrs_dict X9 PySem.F.type_dict_get (Oz (Rl hr)) (JE (cE bG ∅ (cE bG ∅ (cE bG ∅ (cE bG ∅ (cE bG ∅ (cE bG ∅ AL)))))) (by ac_nf) (by ac_nf) (by simp) λa h=>xc h (by ac_nf) (by ac_nf) (by simp) (by decide)) ∅))))
theorem kQ(a:pR c):∀n,Df c.l.prog c.w (Hd.aJ c.h) c.mg c.base "_law_table" (2+n) iu 3 (b5 n)
 | 0=>Hd.aU T ji λ_ _ _ _=>ix
 | n+1=>by
  have b:=kQ a n;exact Hd.aU T ji λF _ _ _=>(av F uc λ_ _ _ _ _ _ hr _=>by walk_at "v";with_reducible exact(aa (fP ∅ (CD hr ∅ (sv 1)))
   (aa (cA Wx rfl (fv (by unfold Gl;ac_nf) B.bZ ∅ (ae aA)) ∅ (aa (fP (sv 4) (CD hr ∅ ∅))
   (aI (cA Wx rfl (fv (by unfold Gl;ac_nf) B.bZ (ab (gb a hr ∅ (VJ (by decide) (V9 _ _))) ar) (ae aA)) ∅ (aI (fu (gb b hr ∅ (VG _))))))))
   ∅)))
theorem sA(a:x9 c):kU c:=Hd.aU T p4 λF _ _ _=>
 (av F rg λ_ _ _ _ _ _ hr _=>by walk_at "v";with_reducible exact(aI (bw (dI (N':=["_law_deed"]) (caps:=[none]) (aV (by ac_nf)) rfl ∅ (λ_ _ _ _ _=>(sgn 0 (by show(["_law_deed"]:List Str).Nodup;decide+kernel))) (λ_ _ _ _ _=>bR) (λ_ _ _ _ _=>(gb a hr (ab ∅ (ab ∅ (ab (yC (cE bG Gk (cE bG Gk AL)) (by ac_nf) (by ac_nf) (by simp) λb h=>xc h (by ac_nf) (by ac_nf) (by simp) (by decide)) ar)))))))))
theorem sD:kX c:=Hd.aU T p6 λF _ _ _=>
 (av F rj λ_ _ _ _ _ _ hr _=>by walk_at "u")
theorem qf(a:kX c):jM c:=Hd.aU T og λF _ _ _=>
 (av F iN λ_ _ _ _ _ _ hr _=>by walk_at "v";with_reducible exact(aa (qY (n:=1000000) Wx (SW.st (AJ ∅ (wx (qX (Ht hr.units) ∅ (Gj hr ∅ ∅) (sF _))))) (aa ∅
   (aI (dz ∅ (aa (sset 5 iN.nd (six hr (Gj hr ∅ ∅) bD))
   ∅) ∅))))
   ∅))
theorem uE(a:jM c):nI c:=Hd.aU T rX λF _ _ _=>
 (av F kE λ_ _ _ _ _ _ hr _=>by walk_at "v";with_reducible exact(aa (gh (i:=3) kE.nd (by ac_nf) (by ac_nf) (N':=["_law_deed"]) (caps:=[none]) (aV (by ac_nf)) rfl ∅ (λ_ _ _ _ _=>(sgn 0 (by show(["_law_deed"]:List Str).Nodup;decide+kernel))) (λ_ _ _ _ _=>bR) (λ_ _ _ _ _=>∅))
   (aa ∅
   (aa (cA Wx rfl (fQ (sv 2)) ∅ (aI (fu (pX (isT:=bu) eZ WH XY Yr g7 (sv 4) (ab (qq.ob (fR (ab (gb a hr (ab (sv 1) (ab (qq.ob (fR (ab (cH (ab (pX (isT:=bu) eZ WH Yw Y9 (oy hr.units) (sv 3) ∅) ∅) (ae (ae (ae aA)))) ar) (ae aA))) ar))) ∅) (ae (ae aA)))) ar)))))
   ∅))))
theorem uC:nF c:=Hd.aU T rV λF _ _ _=>
 (av F ud λ_ _ _ _ _ _ hr _=>by walk_at "v";with_reducible exact(aI (bw (M8 hV B.gx eT (ab (dI (N':=["_law_frames","_law_held"]) (caps:=[none,none]) (aV (by ac_nf)) rfl (fQ (sv 0)) (λ_ _ _ _ _=>(M1 rfl (bV (sgn 0 (by show(["_law_frames","_law_held"]:List Str).Nodup;decide+kernel)) (bV (sgn 1 (by show(["_law_frames","_law_held"]:List Str).Nodup;decide+kernel)) ig)))) (λ_ _ _ _ _=>bR) (λ_ _ _ _ _=>∅)) ar)))))
theorem mN:∀n,Df c.l.prog c.w (Hd.aJ c.h) c.mg c.base "_law_same" (1+n) jv 2 (bP n)
 | 0=>Hd.aU T kK λ_ _ _ _=>ix
 | n+1=>by
  have a:=mN  n;exact Hd.aU T kK λF _ _ _=>(av F wL λ_ _ _ _ _ _ hr _=>by walk_at "v";with_reducible exact(aa (dz (nV (CG oJ B.cT cy (ab (sv 1) (ab (P0 B.gx eT) ar)))) (aa (dz (SW.st (LR (F7 (nV (CG oJ B.cT cy (ab (sv 0) (ab (P0 B.gx eT) ar))))) ∅)) ∅ cz)
   (aI (bw (CG (Pa rfl) B.RP Pw (ab (dI (N':=["_law_one","_law_other"]) (caps:=[none,none]) (aV (by ac_nf)) rfl (M0 (by unfold Gl;ac_nf) B.Mm ∅ (ae (ae aA))) (λ_ _ _ _ _=>(nW rfl (bV (sgn 0 (by show(["_law_one","_law_other"]:List Str).Nodup;decide+kernel)) (bV (sgn 1 (by show(["_law_one","_law_other"]:List Str).Nodup;decide+kernel)) ig)))) (λ_ _ _ _ _=>bR) (λ_ _ _ _ _=>(gb a hr ∅ (VG _)))) ar))))) cz)
   (aa ∅
   (aa (dz (nV (CG oJ B.cT cy (ab (sv 1) (ab (P0 B.Mn IK) ar)))) (aI (bw (rf (CG oJ B.cT cy (ab (sv 0) (ab (P0 B.Mn IK) ar))) (q9 ∅)))) cz)
   (aI (bw (rf (CG oJ B.cT cy (ab (sv 0) (ab (P0 B.Mo IL) ar))) (rf (M6 (CG oJ B.cT cy (ab (sv 0) (ab (P0 B.PB Lr) ar)))) (q9 ∅)))))))))
theorem qe:jL c:=Hd.aU T oa λF _ _ _=>
 (av F pZ λ_ _ _ _ _ _ hr _=>by walk_at "v";with_reducible exact(aI (bw (Gn (N':=["number","deed"]) (caps:=[none,none]) (aV (by ac_nf)) rfl (fv (by unfold Gl;ac_nf) B.bZ ∅ (ae aA)) (λ_ _ _ _ _=>(nW rfl (bV (sgn 0 (by show(["number","deed"]:List Str).Nodup;decide+kernel)) (bV (sgn 1 (by show(["number","deed"]:List Str).Nodup;decide+kernel)) ig)))) (λ_ _ _ _ _=>bR) (λ_ _ _ _ _=>∅) (λ_ _ _ _ _=>(sv 0))))))
theorem Bu:oO c:=Hd.aU T yQ λF _ _ _=>
 (av F AS λ_ _ _ _ _ _ hr _=>by walk_at "v";with_reducible exact(aI (bw (Gh (sv 0) (Cz (six hr (M5 B.I9 ∅) bD)) CA))))
theorem EH(d1:oO c):Aq c:=Hd.aU T Bf λF _ _ _=>
 (av F Eh λ_ _ _ _ _ _ hr _=>by walk_at "v";with_reducible exact(aa ∅
   (aa (cA Wx rfl (Eb (by unfold Gl;ac_nf) B.dh ∅ (hl:=(ae (ae (ae aA))))) ∅ ∅)
   ∅)))
theorem EF(a:Aq c):tQ c:=Hd.aU T Bd λF _ _ _=>
 (av F Eg λ_ _ _ _ _ _ hr _=>by walk_at "u")
theorem ow:iX c:=Hd.aU T mx λF _ _ _=>
 (av F nY λ_ _ _ _ _ _ hr _=>by walk_at "v";with_reducible exact(aI (bw (Qy ∅ (q9 (rf ∅ (q9 ∅)))))))
theorem EI:tS c:=Hd.aU T Bg λF _ _ _=>
 (av F Ei λ_ _ _ _ _ _ hr _=>by walk_at "u")
theorem ux(d:tQ c)(a:iX c)(b:tS c):nA c:=Hd.aU T rO λF _ _ _=>
 (av F t8 λ_ _ _ _ _ _ hr _=>by walk_at "v";with_reducible exact(aa (qY (n:=1000000) Wx ∅ ∅)
   ∅))
theorem Bt:oN c:=Hd.aU T yP λF _ _ _=>
 (av F AR λ_ _ _ _ _ _ hr _=>by walk_at "u")
theorem qb(a:nA c)(d:oN c)(b:tS c):jK c:=Hd.aU T n6 λF _ _ _=>
 cZ (av F iM λ_ _ _ _ _ _ hr _=>by walk_at "v";with_reducible exact(aa (sset 2 iM.nd (qq.ob (CF (by unfold Gl;ac_nf) B.B8 xZ ∅ (ae aA))))
   (aa (qY (n:=1000000) Wx (nV (sv 2)) ∅)
   ∅)))
theorem Hy(b:jL c)(a:jK c):DZ c:=Hd.aU T Ep λF _ _ _=>
 cZ (av F Gv λ_ _ _ _ _ _ hr _=>by walk_at "u")
theorem sC:kW c:=Hd.aU T p5 λF _ _ _=>
 cZ (av F rh λ_ _ _ _ _ _ hr _=>by walk_at "v";with_reducible exact(aa ∅
   (aa ∅
   (aa ∅
   (aa (cA Wx rfl (fv (by unfold Gl;ac_nf) B.bZ ∅ (ae aA)) ∅ (aI (fu (pX (isT:=bu) eZ WH YA Y1 oz (sv 5) (ab (JD (N':=["_law_one","_law_other"]) (caps:=[none,some 6]) (aV (by ac_nf)) rfl ∅ (λ_ _ _ _ _=>(sgn 0 (by show(["_law_one","_law_other"]:List Str).Nodup;decide+kernel))) (λ_ _ _ _ _=>bR) (λ_ _ _ _ _=>∅)) ar)))))
   (aI (bw (pX (isT:=bu) eZ WH Yw Y9 (oy hr.units) (sv 5) (ab (cH (ab (sv 2) (ab (LV (qX (Oa hr.units) (sv 4) ∅ (by ac_nf)) (sv 4) ∅) ar)) (ae (ae aA))) ar)))))))))
theorem zp(a:tQ c)(b:oN c):iF c:=Hd.aU T wW λF _ _ _=>
 (av F yE λ_ _ _ _ _ _ hr _=>by walk_at "u")
theorem pH(d1:oO c):∀n,Df c.l.prog c.w (Hd.aJ c.h) c.mg c.base "paths_in" (2+n) k9 2 (dw n)
 | 0=>Hd.aU T my λ_ _ _ _=>ix
 | n+1=>by
  have a:=pH d1 n;exact Hd.aU T my λF _ _ _=>cZ (av F yF λ_ _ _ _ _ _ hr _=>by walk_at "v";with_reducible exact(aa ∅
   (aa (cA Wx rfl (fv (by unfold Gl;ac_nf) B.bZ ∅ (ae aA)) ∅ (aa ∅
   (aa ∅
   (aI (cA Wx rfl (fv (by unfold Gl;ac_nf) B.bZ (ab (gb d1 hr ∅ (VJ (by decide) (V9 _ _))) ar) (ae aA)) ∅ (aI (fu (pX (isT:=bu) eZ WH YA Y1 oz (sv 2) (ab (gb a hr ∅ (VG _)) ar)))))))))
   ∅)))
theorem xg(a:Ci c):pP c:=Hd.aU T uf λF _ _ _=>
 cZ (av F wI λ_ _ _ _ _ _ hr _=>by walk_at "v";with_reducible exact(aa ∅
   (aa (cA Wx rfl (fv (by unfold Gl;ac_nf) B.bZ ∅ (ae aA)) ∅ (aI (fu (pX (isT:=bu) eZ WH YA Y1 oz (sv 1) (ab (dI (N':=["path","row","deed"]) (caps:=[none,none,some 2]) (aV (by ac_nf)) rfl ∅ (λ_ _ _ _ _=>(nW rfl (bV (sgn 0 (by show(["path","row","deed"]:List Str).Nodup;decide+kernel)) (bV (sgn 1 (by show(["path","row","deed"]:List Str).Nodup;decide+kernel)) ig)))) (λ_ _ _ _ _=>bR) (λ_ _ _ _ _=>∅)) ar)))))
   ∅)))
theorem EG(a:iF c)(b:pP c):Ap c:=Hd.aU T Be λF _ _ _=>
 (av F u9 λ_ _ _ _ _ _ hr _=>by walk_at "v";with_reducible exact(aa ∅
   (aa ∅
   (aa ∅
   (aa ∅
   (aa (gh (i:=7) u9.nd (by ac_nf) (by ac_nf) (N':=["other","along","row"]) (caps:=[none,none,none]) (aV (by ac_nf)) rfl ∅ (λ_ _ _ _ _=>(nW rfl (bV (sgn 0 (by show(["other","along","row"]:List Str).Nodup;decide+kernel)) (bV (sgn 1 (by show(["other","along","row"]:List Str).Nodup;decide+kernel)) (bV (sgn 2 (by show(["other","along","row"]:List Str).Nodup;decide+kernel)) ig))))) (λ_ _ _ _ _=>bR) (λ_ _ _ _ _=>∅))
   (aI (bw (pX (isT:=bu) eZ WH Yw Y9 (oy hr.units) (sv 7) ∅)))))))))
theorem qa(a:iF c):jJ c:=Hd.aU T n5 λF _ _ _=>
 (av F pY λ_ _ _ _ _ _ hr _=>by walk_at "u")
theorem zq:tR c:=Hd.aU T wX λF _ _ _=>
 (av F yG λ_ _ _ _ _ _ hr _=>by walk_at "u")
theorem uy:nB c:=Hd.aU T rP λF _ _ _=>
 (av F t9 λ_ _ _ _ _ _ hr _=>by walk_at "v";with_reducible exact(aa ∅
   (aI (bw (Gm rfl (by unfold Gl;ac_nf) B.Pz Lq (by unfold Gl;ac_nf) B.Mm ∅ (ae (ae aA)))))))
theorem zo:tP c:=Hd.aU T wV λF _ _ _=>
 (av F yD λ_ _ _ _ _ _ hr _=>by walk_at "u")
theorem uz(d2:tR c)(a:iF c)(b:nB c)(d:tP c):nC c:=Hd.aU T rQ λF _ _ _=>
 (av F ua λ_ _ _ _ _ _ hr _=>by walk_at "v";with_reducible exact(aa ∅
   (aa ∅
   (aI (bw (M8 hV B.gx eT (ab (Ee (N':=["name","term","numbers"]) (caps:=[none,none,some 3]) (aV (by ac_nf)) rfl (by unfold Gl;ac_nf) B.tL hr.units (fQ (sv 2)) (λ_ _ _ _ _=>(nW rfl (bV (sgn 0 (by show(["name","term","numbers"]:List Str).Nodup;decide+kernel)) (bV (sgn 1 (by show(["name","term","numbers"]:List Str).Nodup;decide+kernel)) ig)))) (λ_ _ _ _ _=>bR) (λ_ _ _ _ _=>∅)) ar)))))))
theorem Bv:oP c:=Hd.aU T yR λF _ _ _=>
 (av F AU λ_ _ _ _ _ _ hr _=>by walk_at "v";with_reducible exact(aa (cA Wx rfl (fv (by unfold Gl;ac_nf) B.bZ ∅ (ae aA)) ∅ (aI (dz (nV (CG (O9 rfl) B.RO Pu (ab (dI (N':=["block","lock"]) (caps:=[none,some 1]) (aV (by ac_nf)) rfl (fQ (sv 4)) (λ_ _ _ _ _=>(sgn 0 (by show(["block","lock"]:List Str).Nodup;decide+kernel))) (λ_ _ _ _ _=>bR) (λ_ _ _ _ _=>∅)) ar))) ∅ cz)))
   ∅))
theorem Hx(d:jJ c)(a:nC c)(b:oP c):DY c:=Hd.aU T Eo λF _ _ _=>
 (av F Gs λ_ _ _ _ _ _ hr _=>by walk_at "v";with_reducible exact(aa ∅
   (aa ∅
   (aI (bw (M8 hV B.gx eT (ab (dI (N':=["lock","scene"]) (caps:=[none,some 1]) (aV (by ac_nf)) rfl ∅ (λ_ _ _ _ _=>(sgn 0 (by show(["lock","scene"]:List Str).Nodup;decide+kernel))) (λ_ _ _ _ _=>(qw ∅)) (λ_ _ _ _ _=>(sv 0))) ar)))))))
theorem Ot(F:Cm (Hd.aJ c.h) "law" "law" lZ f fd)(n:nG c)(b:jN c)(a:cU c)(k:pQ c)(j:kU c)(i:nI c)(g:nF c)(e:Ar c)(r:DZ c)(d:kW c)(p:Ap c)(o:DY c)(q:oP c)(m:bN c):fX c.l.prog c.w (Hd.aJ c.h) c.mg c.base wm 28 f fd L7 (FF (Hd.aJ c.h) 1 Aw):=
 (av F Gu λ_ _ _ _ _ _ hr _=>by walk_at "v";with_reducible exact(aa ∅
   (aa (cA Wx rfl (cw (by unfold Gl;ac_nf) B.dh ∅ (hl:=(ae aA))) ∅ (aa (sset 3 Gu.nd (gb b hr (ab (sv 1) (ab (gb a hr (ab (sv 1) (ab (de 9 (by ac_nf)) ar))) (ab (gb a hr (ab (sv 1) (ab (de 9 (by ac_nf)) ar))) ar)))))
   (aa ∅
   (aa ∅
   (aa ∅
   (aa ∅
   (aa ∅
   (aa (cA Wx rfl (cw (by unfold Gl;ac_nf) B.dh ∅ (hl:=(ae aA))) ∅ ∅)
   ∅))))))))
   ∅)))
theorem RS(F:Cm (Hd.aJ c.h) "law" "law" lZ f fd)(S:∀ns:List Int,ns.length<=63->∃U,Aw [.ro (ns.map D.int)] []=some (.bl true,U)):fX c.l.prog c.w (Hd.aJ c.h) c.mg c.base wm 28 f fd ["_law_script"] (spT (Hd.aJ c.h)):=by
 have G:=uD T B;have E:=xm T B;have a:=xj T B E;have b:=Bw T B a;have C:=uB T B b a;have A:=uA T B C b a;have g:=sE T B a;have d:=xi T B a b;have y:=xn T B g b d;have z:=xl T B a g d;obtain⟨x,d33,d32,d31⟩:=De T B a b y d z 20;have v:=qg T B A x b;have u:=xh T B a b;have t:=xk T B;have s:=kQ T B t 8;have r:=sA T B s;have q:=sD T B;have p:=qf T B q;have o:=uE T B p;have n:=uC T B;have m:=mN T B  8;have Z:=qe T B;have d1:=Bu T B;have X:=EH T B d1;have Q:=EF T B X;have O:=ow T B;have j:=EI T B;have N:=ux T B Q O j;have R:=Bt T B;have M:=qb T B N R j;have L:=Hy T B Z M;have k:=sC T B;have e:=zp T B Q R;have d3:=pH T B d1 10;have d4:=xg T B d3;have J:=EG T B e d4;have P:=qa T B e;have d2:=zq T B;have Y:=uy T B;have d0:=zo T B;have I:=uz T B d2 e Y d0;have i:=Bv T B;have H:=Hx T B P I i;exact KJ (Ot T B F G v b u r o n m L k J H i a) S
end
def eR:Hd.freeOk view (["SHAPES"]:List Str) ["abs","all","any","bool","dict","enumerate","int","isinstance","len","list","max","min","range","sorted","str","tuple","zip"]=true:=by decide+kernel
def all_mk{l:PySem.W.OpenLaw}{w:World}{h:Heap}{mg j:Str->Option Value}{b:ExcName->Option Value}(T:Top view (PySem.W.looseW view (["SHAPES"]:List Str)) b mg j h)
  (a:Hd.tabAt h "SHAPES"=some (jV.map λx=>(x.1,hashStr w x.1,x.2)))
  (k:∀ns:List Int,ns.length<=63->∃n,Aw [.ro (ns.map D.int)] []=some (.bl true,n)):
  ∃(e:Addr)(d:FuncData),mg "law"=some (.ref e)/\(∀(s:Shared)(v:Value),BindsTo s d ⟨[v],[]⟩ [("_law_script",v)])/\∀base:Heap,(Hd.aJ h).In base->base.Ns mainGlobals mg->fX l.prog w (Hd.aJ h) mg base wm 28 e d ["_law_script"] (spT (Hd.aJ h)):=by
 have B:Bs l.prog w (Hd.aJ h) mg:=⟨Hd.bY T eR (VC (i:=0) rfl),Hd.bY T eR (VC (i:=1) rfl),Hd.bY T eR (VC (i:=2) rfl),Hd.bY T eR (VC (i:=3) rfl),Hd.bY T eR (VC (i:=4) rfl),Hd.bY T eR (VC (i:=5) rfl),Hd.bY T eR (VC (i:=6) rfl),Hd.bY T eR (VC (i:=7) rfl),Hd.bY T eR (VC (i:=8) rfl),Hd.bY T eR (VC (i:=9) rfl),Hd.bY T eR (VC (i:=10) rfl),Hd.bY T eR (VC (i:=11) rfl),Hd.bY T eR (VC (i:=12) rfl),Hd.bY T eR (VC (i:=13) rfl),Hd.bY T eR (VC (i:=14) rfl),Hd.bY T eR (VC (i:=15) rfl),Hd.bY T eR (VC (i:=16) rfl),Hd.tab_of a T.g (by decide+kernel)⟩;obtain⟨f,d,m,F⟩:=Hd.Me T JK;exact⟨f,d,m,F.one λ_ _ _ _ _ _ _=>rfl,λbase _ _=>RS (c:=⟨l,w,h,mg,base⟩) T B F k⟩
end Mi
local macro_rules | `(tactic| exists $x:term) => `(tactic|(nofun;refine Sm.rv $x ?_))
local macro_rules | `(tactic| walk_at $s:str) => let k := s.getString.front;let a := "|Sm.RF|Sm.RK|Sm.Po|Sm.RH|Sm.RG|Sm.UG|Sm.UE|Sm.UJ|Sm.UI|Sm.UH|Sm.Vr|Sm.Vs|Sm.RJ|Sm.RI|Sm.Pl|Sm.Pm|Sm.jj|Sm.FZ|Sm.L0|Sm.L3|Sm.GU|Sm.GQ|Sm.GP|Sm.GO|Sm.QJ|Sm.Nv|Sm.r_scont|Sm.Bi|Sm.TC|Sm.QL|Sm.JN|Sm.iq|Sm.CO|Sm.TN|Sm.TL|Sm.TH|Sm.r_dv|Sm.r_do|Sm.NC|Sm.Nr|Sm.Nt|Sm.Nu|Sm.QG|Sm.QR|Sm.TF|Sm.QK|Sm.r_sl|Sm.QH|Sm.QI|Sm.Et|Sm.NA|Sm.gW|Sm.wZ|Sm.QP|Sm.NB|Sm.Ue|Sm.Ug|Sm.SY|Sm.S8|Sm.t_ct|Sm.Ul|Sm.l_ct|Sm.Um|Sm.Uk|Sm.Nq|Sm.QN";if k != 'o' && k != 'g' && k != 'r' then Lean.Macro.throwUnsupported else do {let t <- (((if k == 'r' then a ++ "|Sm.P7|Sm.P9|Sm.w_add|Sm.w_sub|Sm.w_lt|Sm.w_le|Sm.SR|Sm.SU|Sm.Qf|Sm.Qa|Sm.Qe|Sm.w_neS|Sm.Qd|Sm.Qc|Sm.Qb|Sm.Mz|Sm.MA|Sm.Bj" else a).splitOn "|").drop 1).toArray.mapM (λn => `(Lean.Parser.Tactic.tacticSeq| refine $(Lean.mkIdent n.toName) ?_));if k == 'o' then `(tactic| with_reducible first $[| $t]*) else `(tactic|((repeat with_reducible first $[| $t]*);(try dsimp only)))}
namespace Mi
open PySem Sm
def k6(c:0 < b)(q:Q (.int (a % b),h)):Rn (tf (.int a) (.int b) h) Q:=⟨_,by unfold tf;dsimp only;rw[VE c],q⟩
def Ni(d:0 < b)(c:b<=10^40)(q:Q (.int (a / b),h)):Rn (Ig (.int a) (.int b) h) Q:=⟨_,by unfold Ig;dsimp only;rw[VE ⟨d,c⟩],q⟩
def nZ(c:mO a b=true)(q:Q (.int (a*b),h)):Rn (jF (.int a) (.int b) h) Q:=⟨_,by show(if mO a b then _ else _)=_;rw[VE c],q⟩
def mul_r(d:-(2^64) < b)(c:b < 2^64):mO a b=true:=by unfold mO;simp only[Xl,V1,Wz];exact .inr ⟨d,c⟩
def HB(d:-(2^64) < a)(c:a < 2^64):mO a b=true:=by unfold mO;simp only[Xl,V1,Wz];exact .inl ⟨d,c⟩
def EO{h:MH}{s c:Nat}{cs:List Int}{n t:Int}(e:h[s]?=some (.lst [.int n,.ob c,.int t]))(m:h[c]?=some (.lst (cs.map D.int)))(ne:c≠s)(t0:0<=t)(r:t < 2^60):
  Rn (jT [.ob s] h) λp=>∃i,0<=i/\p=(.bx,h.set s (.lst [.int i,.ob c,.int (t+1)])):=by
 have hl:s < h.length:=(Vz.mp e).1;generalize f:h.set s (.lst [.int n,.ob c,.int (t+1)])=H;have q:H[s]?=some (.lst [.int n,.ob c,.int (t+1)]):=by rw[<-f];exact Wy hl
 have g:H[c]?=some (.lst (cs.map D.int)):=by rw[<-f,Wn (WO ne)];exact m
 have a:∀v:Int,uK (.ob s) (.int 0) (.int v) H=some (h.set s (.lst [.int v,.ob c,.int (t+1)])):=λv=>by
  rw[xF (p:=0) q rfl,<-f,YD];rfl
 have o:uK (.ob s) (.int 2) (.int (t+1)) h=some H:=by rw[xF (p:=2) e rfl,<-f];rfl
 have k:cM [.ob c] H=some (.int cs.length,H):=by rw[DC g,Vy]
 refine br ?_;walk_at "g";refine rv (jG e rfl) ?_;walk_at "g";refine rv (jG e rfl) ?_;walk_at "g";refine rv rfl ?_;walk_at "g";refine rv o ?_;walk_at "g";refine rv (E9 g) ⟨_,rfl,λd=>?pos,λd=>?neg⟩
 case' pos=>
  have j:0 < cs.length:=by cases cs with | nil=>simp at d | cons _ _=>simp
  walk_at "g";refine rv k (k6 (by lia) ?_);obtain⟨z,l⟩:=IW cs (t % (cs.length:Int)) (W9 _ (by lia)) (Xv _ (by lia));refine rv (jG g l) ?_
 all_goals
  walk_at "g";refine rv k (rv rfl ⟨_,rfl,?_⟩);refine(λb=>⟨λw=>?thenA,λ_=>⟨λz=>(nomatch z),λ_=>b⟩⟩) ?thenB
  case thenA=>
   walk_at "g";refine rv rfl ?_;walk_at "g";refine rv rfl (rv rfl ⟨_,rfl,λu=>?_,λ_=>b⟩);walk_at "g";refine rv rfl ?_;walk_at "g";refine rv (a _) ?_;walk_at "g";exact⟨_,by split <;> lia,rfl⟩
  case thenB=>
   walk_at "g";refine k6 (by decide) ?_;walk_at "g";refine nZ (HB (by decide) (by decide)) ?_;walk_at "g";refine nZ (mul_r (by lia) (by lia)) (rv rfl ?_);walk_at "g";refine rv rfl ?_;walk_at "g";refine nZ (mul_r (by decide) (by decide)) ?_;walk_at "g";refine k6 (by decide) ?_;walk_at "g";refine nZ (HB (Int.lt_of_lt_of_le (by decide) (W9 _ (by decide))) (Int.lt_trans (Xv _ (by decide)) (by decide))) ?_;walk_at "g";refine k6 (by decide) ?_;walk_at "g";refine nZ (mul_r (by decide) (by decide)) ?_;walk_at "g";refine rv rfl ?_;walk_at "g";refine rv rfl ?_;walk_at "g";refine k6 (by decide) ?_;walk_at "g";refine rv rfl (rv rfl ?_);walk_at "g";refine rv (a _) ?_;walk_at "g";exact⟨_,Int.add_nonneg (W9 _ (by decide)) (by decide),rfl⟩
structure St(s c:Nat)(cs:List Int)(R:Nat)(h:MH):Prop where
 st:∃n t:Int,h[s]?=some (.lst [.int n,.ob c,.int t])/\0<=n/\0<=t/\t+R<=2^60
 ce:h[c]?=some (.lst (cs.map D.int))
 ne:c≠s
def tX(s:Nat)(h a:MH):Prop:=a.length=h.length/\∀k,k≠s->a[k]?=h[k]?
def tX.refl(s:Nat)(h:MH):tX s h h:=⟨rfl,λ_ _=>rfl⟩
theorem tX.trans(a:tX s h d)(b:tX s d c):tX s h c:=⟨b.1.trans a.1,λk n=>(b.2 k n).trans (a.2 k n)⟩
theorem tX.set:tX s h (h.set s o):=⟨Xz,λk n=>Wn (WO n)⟩
section
variable {s c R:Nat} {cs:List Int} {h:MH}
theorem St.le(S:St s c cs R h)(f:R'<=R):St s c cs R' h:=by
 obtain⟨n,t,e,a,b,d⟩:=S.st;exact⟨⟨n,t,e,a,b,by lia⟩,S.ce,S.ne⟩
theorem St.dn(k:Nat)(S:St s c cs (R+k) h):St s c cs R h:=S.le (V9 _ _)
theorem St.set{a:Nat}{n t:Int}(S:St s c cs R h)(f:0<=n)(d:0<=t)(b:t+a<=2^60):St s c cs a (h.set s (.lst [.int n,.ob c,.int t])):=by
 obtain⟨g,t0,e,_⟩:=S.st;exact⟨⟨n,t,Wy (Vz.mp e).1,f,d,b⟩,by rw[Wn (WO S.ne)];exact S.ce,S.ne⟩
theorem St.more(S:St s c cs R h)(g:MH):St s c cs R (h++g):=by
 obtain⟨n,t,e,r⟩:=S.st;exact⟨⟨n,t,by rw[VW (Vz.mp e).1];exact e,r⟩,by rw[VW (Vz.mp S.ce).1];exact S.ce,S.ne⟩
theorem St.off(S:St s c cs R h)(b:k≠s)(a:k≠c):St s c cs R (h.set k o):=by
 obtain⟨n,t,e,r⟩:=S.st;exact⟨⟨n,t,by rw[Wn b];exact e,r⟩,by rw[Wn a];exact S.ce,S.ne⟩
theorem St.lt(S:St s c cs R h):s < h.length/\c < h.length:=by
 obtain⟨n,t,e,r⟩:=S.st;exact⟨(Vz.mp e).1,(Vz.mp S.ce).1⟩
structure Sb(s c:Nat)(cs:List Int)(h0:MH)(R:Nat)(h:MH):Prop where
 S:St s c cs R h
 b:tX s h0 h
theorem St.sb(S:St s c cs R h):Sb s c cs h R h:=⟨S,tX.refl _ _⟩
theorem Sb.dn(k:Nat)(A:Sb s c cs h0 (R+k) h):Sb s c cs h0 R h:=⟨A.S.dn k,A.b⟩
theorem Sb.le(A:Sb s c cs h0 R h)(a:R'<=R):Sb s c cs h0 R' h:=⟨A.S.le a,A.b⟩
theorem Sb.at_(A:Sb s c cs h0 R h)(e:h0[k]?=some o)(n:k≠s):h[k]?=some o:=(A.b.2 k n).trans e
variable {h0:MH}
theorem du{m:Int}{Q:D×MH->Prop}(A:Sb s c cs h0 (R+1) h)(i:0 < m)(v:m<=10^40)(k:∀(r:Int)(j:MH),0<=r->r < m->Sb s c cs h0 R j->Q (.int r,j)):Rn (aH [.ob s,.int m] h) Q:=by
 have S:=A.S;obtain⟨n,t,q,z,t0,x⟩:=S.st;refine br ?_;walk_at "g";refine rv (jG q rfl) ?_;walk_at "g";refine rv rfl ⟨_,rfl,λ_=>?pos,λ_=>?neg⟩
 case' pos=>
  walk_at "g";obtain⟨p,w,o,g,rfl⟩:=EO q S.ce S.ne t0 (by lia);refine rv w ?_;have l:St s c cs R (h.set s (.lst [.int o,.ob c,.int (t+1)])):=S.set g (by lia) (by lia);have u:tX s h (h.set s (.lst [.int o,.ob c,.int (t+1)])):=tX.set
 case' neg=>
  have l:St s c cs R h:=S.dn 1;have u:tX s h h:=tX.refl s h
 all_goals
  generalize h.set s (MO.lst [D.int _,D.ob c,D.int (t+1)])=j at*;obtain⟨n2,y,a,f,e,d⟩:=l.st;walk_at "g";refine rv (jG a rfl) ?_;walk_at "g";refine k6 i ?_;walk_at "g";refine rv (jG a rfl) ?_;walk_at "g";refine Ni i v ?_;walk_at "g";refine rv (xF (p:=0) a rfl) ?_;walk_at "g";exact k _ _ (W9 _ (by lia)) (Xv _ i) ⟨l.set (Int.ediv_nonneg f (by lia)) e d,A.b.trans (u.trans tX.set)⟩
theorem Fx(A:Sb s c cs h0 (R+1) h)(hd:d=.lv xs\/d=.tup xs)(o:0 < xs.length)(n:xs.length<=1000000)(k:∀(x:D)(b:MH),x∈xs->Sb s c cs h0 R b->Q (x,b)):Rn (aF [.ob s,d] h) Q:=by
 refine br ?_;walk_at "g";have l:cM [d] h=some (.int xs.length,h):=by rcases hd with rfl | rfl <;> rfl
 refine rv l ?_;walk_at "g";refine du A (by lia) (by lia) λr a f e m=>?_;obtain⟨v,j,g⟩:=IV f e;have i:aB d (.int r) a=some (v,a):=by rcases hd with rfl | rfl <;> simp only[aB,cc,b9,VO,j,Wt]
 refine rv i ?_;walk_at "g";exact k v a g m
theorem jI{is:List Int}{Q:D×MH->Prop}(P:Int->Prop)(f:∀i∈is,P i)(A:Sb s c cs h0 (R+1) h)(k:∀(i:Int)(a:MH),P i->i∈is->Sb s c cs h0 R a->Q (.int i,a))(d:0 < is.length:=by simp)(j:is.length<=1000:=by simp):Rn (aF [.ob s,.lv (is.map D.int)] h) Q:=
 Fx A (.inl rfl) (by rw[Vy];exact d) (by rw[Vy];lia) λx a e g=>by
  obtain⟨i,b,rfl⟩:=V7.mp e;exact k i a (f i b) b g
end
def BV(ns:List Int)(hn:ns.length<=63)(R:Nat)(b:R<=2^60):∃cs:List Int,fI [.ro (ns.map D.int)] []=some (.ob 1,[.lst (cs.map D.int),.lst [.int 0,.ob 0,.int 0]])/\St 1 0 cs R [.lst (cs.map D.int),.lst [.int 0,.ob 0,.int 0]]:=by
 refine⟨(ns.drop (HT.cn ns.length 0 none)).take (HT.cn ns.length ns.length (some 63)-HT.cn ns.length 0 none),?_,⟨⟨0,0,rfl,by decide,by decide,by lia⟩,rfl,by decide⟩⟩;have e:Rn (fI [.ro (ns.map D.int)] []) λp=>p=(.ob 1,[.lst (((ns.drop (HT.cn ns.length 0 none)).take (HT.cn ns.length ns.length (some 63)-HT.cn ns.length 0 none)).map D.int),.lst [.int 0,.ob 0,.int 0]]):=by
  refine br ?_;walk_at "g";refine GS ?_;walk_at "g";refine⟨_,rfl,rv rfl ?_⟩;walk_at "g";refine⟨_,_,_,rfl,rfl,?_⟩;walk_at "g";simp only[cutD,Vy,List.map_drop,Aao,WZ,Z4,Yn,VU]
 obtain⟨p,a,rfl⟩:=e;exact a
end Mi
namespace Mi
open PySem Sm L2
def oH(hl:a.length+b.length<=10000):aT (.str a) (.str b) h=some (.str (a++b),h):=by
 show(if a.length+b.length<=sizeLine then some (D.str (a++b),h) else none)=_;rw[VE (by rw[show sizeLine=16777216 from rfl];lia)]
def Ic(hl:a.length<=10000):cM [.str a] h=some (.int a.length,h):=by
 show(if a.length<=sizeLine then some (D.int a.length,h) else none)=_;rw[VE (by rw[show sizeLine=16777216 from rfl];lia)]
def zS(hl:a.length<=10000):td (.str a) lo b h=some (.str (Txt.slice a lo b),h):=by
 show(if a.length<=sizeLine then some (D.str (Txt.slice a lo b),h) else none)=_;rw[VE (by rw[show sizeLine=16777216 from rfl];lia)]
def tI(z:Str)(i:Int):Str:=match fq z.cps.toList i with
 | some c=>⟨#[c]⟩
 | none=>""
def K7(hl:z.length<=10000)(b:0<=i)(a:i < z.cps.toList.length):(tI z i).length=1/\aB (.str z) (.int i) h=some (.str (tI z i),h):=by
 obtain⟨v,e,_⟩:=IV (xs:=z.cps.toList) b a;have d:tI z i=⟨#[v]⟩:=by unfold tI;rw[e]
 rw[d];refine⟨rfl,?_⟩;show(if z.length<=sizeLine then(fq z.cps.toList i).map λc=>(D.str ⟨#[c]⟩,h) else none)=_;rw[VE (by rw[show sizeLine=16777216 from rfl];lia),e];rfl
noncomputable def eJ:Str:="abcdefghijklmnopqrstuvwxyz"
def lE(b:0<=i)(a:i < 26):(tI eJ i).length=1/\aB (.str "abcdefghijklmnopqrstuvwxyz") (.int i) h=some (.str (tI eJ i),h):=
 K7 (z:=eJ) (by decide) b (by rw[show(eJ.cps.toList.length:Int)=26 by decide];exact a)
def low(w:Str):Prop:=∀c∈w.cps,97<=c/\c<=122
def Kz:low "":=λc a=>absurd (show c∈(#[]:Array Nat) from a) (by simp)
def xt(g:low a)(f:low b):low (a++b):=by
 intro c e;have d:c∈a.cps++b.cps:=e;rcases Array.mem_append.mp d with z | z
 ·exact g c z
 ·exact f c z
def vJ(l u:Option Int)(h:low x):low (Txt.slice x l u):=by
 unfold Txt.slice
 split
 ·exact h
 ·intro c b;have a:c∈(List.filterMap (x.cps[·]?) (Builtin.Str.strSliceIndices l u 1 x.length)).toArray:=b;rw[List.mem_toArray] at a;obtain⟨i,_,e⟩:=YU.mp a;exact h c (Zo e)
def BG:eJ.cps.toList=(List.range 26).map (97+·):=by decide+kernel
def xT(b:0<=i)(a:i < 26):tI eJ i=⟨#[97+i.toNat]⟩:=by
 obtain⟨n,rfl⟩:=Xy b;have:fq eJ.cps.toList (n:Int)=some (97+n):=by
  rw[BG];exact kj (by rw[VN,XS (by exact Yo.mp a)];rfl)
 unfold tI;rw[this];rfl
def Af(d:0<=i)(b:i < 26):low (tI eJ i):=by
 rw[xT d b];intro c a;have:c=97+i.toNat:=by simpa using a
 lia
def yB(b:0<=j):(Txt.slice x none (some j)).length<=j.toNat:=by
 have a:(Builtin.Str.strSliceIndices none (some j) 1 x.length).length<=j.toNat:=by
  unfold Builtin.Str.strSliceIndices sliceRange;simp only[show(1:Int) > 0 by decide,Yi,Vy,V2]
  (split <;> (try split) <;> (try split) <;> (try simp only[AaJ]) <;> lia)
 unfold Txt.slice
 split
 ·next z=>simp at z;have:x.cps.size=x.length:=rfl;lia
 ·show(List.filterMap _ (Builtin.Str.strSliceIndices none (some j) 1 x.length)).toArray.size<=_;rw[VZ];exact VJ (Y4 _ _) a
def yA(b:0<=j):(Txt.slice x (some j) none).length<=x.length-j.toNat:=by
 have a:(Builtin.Str.strSliceIndices (some j) none 1 x.length).length<=x.length-j.toNat:=by
  unfold Builtin.Str.strSliceIndices sliceRange;simp only[show(1:Int) > 0 by decide,Yi,Vy,V2]
  (split <;> (try split) <;> (try split) <;> (try simp only[AaJ]) <;> lia)
 unfold Txt.slice
 split
 ·next z=>simp at z;have:x.cps.size=x.length:=rfl;lia
 ·show(List.filterMap _ (Builtin.Str.strSliceIndices (some j) none 1 x.length)).toArray.size<=_;rw[VZ];exact VJ (Y4 _ _) a
def Ca{a b x y:Str}(e:a++x++b=a++y++b):x=y:=by
 have f:(a.cps++x.cps)++b.cps=(a.cps++y.cps)++b.cps:=congrArg Str.cps e;have c:=congrArg Array.toList f;simp only[Array.toList_append] at c;have d:=List.append_cancel_left (List.append_cancel_right c);cases x;cases y;exact congrArg Str.mk (YK.mp d)
def wordAt(b:Str)(at_ first a:Int)(k:Int):Str:=Txt.slice b none (some at_)++tI eJ ((first+a*k) % 26)++Txt.slice b (some at_) none
def FQ{b:Str}{at_ first a:Int}{k j:Nat}(f:a∈[1,3,5,7,9,11])(g:k < 6)(hj:j < 6)(e:wordAt b at_ first a k=wordAt b at_ first a j):k=j:=by
 have c:=Ca (show Txt.slice b none (some at_)++_++Txt.slice b (some at_) none=Txt.slice b none (some at_)++_++_ from e);rw[xT (W9 _ (by decide)) (Xv _ (by decide)),xT (W9 _ (by decide)) (Xv _ (by decide))] at c;have i:97+((first+a*k) % 26).toNat=97+((first+a*j) % 26).toNat:=by injection c with c;injection c with c;injection c
 have h:(first+a*k) % 26=(first+a*j) % 26:=by
  have a1:=W9 (first+a*k) (show(26:Int)≠0 by decide);have a2:=W9 (first+a*j) (show(26:Int)≠0 by decide);rw[<-YQ a1,<-YQ a2,Nat.add_left_cancel i]
 have d:=Int.emod_eq_emod_iff_emod_sub_eq_zero.mp h;rw[show first+a*(k:Int)-(first+a*(j:Int))=a*((k:Int)-(j:Int)) by rw[Int.mul_sub,Int.add_sub_add_left]] at d;exact(by decide:∀s∈([1,3,5,7,9,11]:List Int),∀k:Nat,k < 6->∀j:Nat,j < 6->(s*((k:Int)-(j:Int))) % 26=0->k=j) a f k g j hj d
def xX{h:MH}{s c R:Nat}{cs:List Int}{m:Int}{q:MH}{Q:D×MH->Prop}(A:Sb s c cs q (R+20) h)(m0:0<=m)(m1:m<=6)
  (kk:∀(p:List Str)(F:MH),p.length=m.toNat->(∀w∈p,1<=w.length/\w.length<=7/\low w)->p.Nodup->Sb s c cs q R F->Q (.lv (p.map D.str),F)):Rn (dX [.ob s,.int m] h) Q:=by
 refine br ?_;walk_at "g";refine gE ?_;walk_at "g";refine jI (is:=[0,1,1,2,3,6]) (λi=>0<=i/\i<=6) (by decide) A λk F v _ A1=>?_;walk_at "g";refine⟨k,rfl,by exact W4 (by decide) v.1,by exact XE v.2 (by decide),?_⟩;refine cB (λi l h'=>∃g G,l=[some (.ob s),some (.int m),some (.str "abcdefghijklmnopqrstuvwxyz"),some (.str g),G,none,none,none]/\g.length<=i/\low g/\Sb s c cs q (R+19-i) h')
  ⟨"",_,rfl,VG _,Kz,A1⟩ (λ_ _ _ _ _=>rfl) ?_ ?_
 ·rintro i x l E t ⟨g,G,rfl,o,aZ,j⟩;have hi:i < k.toNat:=by
   have:=(Vz.mp t).1
   simpa using this
  rw[show R+19-i=R+19-(i+1)+1 by lia] at j;walk_at "g";refine du j (by decide) (by decide) λr M J I H=>?_;walk_at "g";obtain⟨L,e4⟩:=lE (h:=M) J I;refine rv e4 ?_;walk_at "g";refine rv (oH (by lia)) ?_;walk_at "g";exact⟨g++tI eJ r,_,rfl,by rw[Yv];lia,xt aZ (Af J I),H⟩
 ·rintro l E ⟨g,G,rfl,o,aZ,j⟩;rw[Vy,V2] at o j;have j:Sb s c cs q (R+3) E:=j.le (by lia);walk_at "g";refine rv (Ic (by lia)) ?_;walk_at "g";refine rv (a:=(.int ((g.length:Int)+1),E)) rfl ?_;walk_at "g";refine du j (by simp) (by lia) λat_ M S a1 H=>?_
  walk_at "g";refine du H (by decide) (by decide) λfirst h4 f0 f1 A4=>?_
  walk_at "g";refine jI (is:=[1,3,5,7,9,11]) (λi=>0<=i/\i<=11) (by decide) A4 λd C ht T A5=>?_;obtain⟨t0,U⟩:=ht;walk_at "g";refine gE ?_;walk_at "g";refine⟨m,rfl,by exact W4 (by decide) m0,by exact XE m1 (by decide),?_⟩;have hw:∀k:Int,1<=(wordAt g at_ first d k).length/\(wordAt g at_ first d k).length<=7/\low (wordAt g at_ first d k):=by
   intro k;have P:=W9 (first+d*k) (show(26:Int)≠0 by decide);have O:=Xv (first+d*k) (show(0:Int) < 26 by decide);obtain⟨L,e⟩:=lE (i:=(first+d*k) % 26) (h:=[]) P O;have Z:=yB (x:=g) S;have Y:=yA (x:=g) S;have X:low (wordAt g at_ first d k):=xt (xt (vJ _ _ aZ) (Af P O)) (vJ _ _ aZ);refine(λ(z:_/\_)=>⟨z.1,z.2,X⟩) ?_;unfold wordAt;rw[Yv,Yv]
   lia
  refine rv (CS rfl (λx=>match x with | .int k=>some (.str (wordAt g at_ first d k)) | _=>none) (λl=>∃N,l=[N,some (.int at_),some (.int first),some (.str "abcdefghijklmnopqrstuvwxyz"),some (.str g),some (.int d)]) ⟨_,rfl⟩ ?_) ⟨?_,?_⟩
  ·rintro x t l ⟨N,rfl⟩;obtain⟨k,v,rfl⟩:=V7.mp t;refine rv rfl ⟨rfl,rv rfl ⟨rfl,⟨_,rfl⟩,λ_=>⟨_,rfl,?_⟩,λz=>(nomatch z)⟩⟩;refine Bi (Bi (Bj ?_));walk_at "g";refine⟨_,rfl,rv (zS (a:=g) (by lia)) ?_⟩;walk_at "g";refine nZ (HB (by exact W4 (by decide) t0) (by exact XE U (by decide))) ?_;refine rv (a:=(.int (first+d*(k:Int)),C)) rfl ?_;walk_at "g";refine k6 (by decide) ?_;obtain⟨L,e⟩:=lE (i:=(first+d*(k:Int)) % 26) (h:=C) (W9 _ (by decide)) (Xv _ (by decide));have Z:=Txt.slice_le g none (some at_);have Y:=Txt.slice_le g (some at_) none;refine rv e (rv (oH (by lia)) ?_);refine Bj ?_;walk_at "g";refine⟨_,rfl,?_⟩;walk_at "g";refine rv (zS (a:=g) (by lia)) (rv (oH (by rw[Yv];lia)) ?_);rfl
  ·rw[YV];exact VJ (Y4 _ _) (by rw[V2,show sizeLine=16777216 from rfl];lia)
  ·walk_at "g";rw[show List.filterMap (λx=>match x with | D.int k=>some (D.str (wordAt g at_ first d k)) | _=>none) ((List.range m.toNat).map λ(k:Nat)=>D.int k)=((List.range m.toNat).map λ(k:Nat)=>wordAt g at_ first d (k:Int)).map D.str by
    rw[YV,XO];exact congrFun (AaO (f:=D.str∘λ(k:Nat)=>wordAt g at_ first d (k:Int))) _]
   refine kk _ C (by simp) (λw u=>?_) ?_ A5
   ·obtain⟨k,_,rfl⟩:=V7.mp u;exact hw k
   ·rw[Aai,YZ];refine(ZY (n:=m.toNat)).imp_of_mem λ{a b} ha hb y e=>y ?_;have:=WY.mp ha;have:=WY.mp hb;exact FQ T (by lia) (by lia) e
def tX.app{s:Nat}{a d:MH}{o:MO}(b:tX s (a++[o]) d)(f:s < a.length):∃c,d=c++[o]/\tX s a c:=by
 have hl:d.length=a.length+1:=by rw[b.1];simp
 refine⟨d.take a.length,?_,by rw[V4];lia,λk g=>?_⟩
 ·refine YE λk=>?_
  by_cases z:k < a.length
  ·rw[VW (by rw[V4];lia),Ww z]
  ·by_cases e:k=a.length
   ·subst e;rw[b.2 _ (by exact X1 f),VY (VG _),VY (by rw[V4];lia),V4];rw[show min a.length d.length=a.length by lia]
   ·rw[Wu (by lia),Wu (by rw[VM,V4];simp;lia)]
 ·by_cases z:k < a.length
  ·rw[Ww z,b.2 k g,VW z]
  ·rw[Wu (by rw[V4];lia),Wu (by exact WR z)]
def St.cut{s c:Nat}{cs:List Int}{B:Nat}{a g:MH}(S:Mi.St s c cs B (a++g))(f:s < a.length)(d:c < a.length):Mi.St s c cs B a:=by
 obtain⟨n,t,e,r⟩:=S.st;have b:=S.ce;rw[VW f] at e;rw[VW d] at b;exact⟨⟨n,t,e,r⟩,b,S.ne⟩
def Cl(h:MH):Prop:=∀o∈h,yf h.length o=true
theorem DQ(n:Nat):∀a:List Int,cC n (a.map D.int)=true
 | []=>rfl
 | j::r=>by rw[VL];show(fD n (.int _)&&cC n _)=true;rw[DQ n r];rfl
def Cl.but{s c:Nat}{cs:List Int}{B:Nat}{h d:MH}(C:Cl h)(S:Mi.St s c cs B d)(b:tX s h d):Cl d:=by
 intro o f;obtain⟨k,a⟩:=WN.mp f
 by_cases z:k=s
 ·subst z;obtain⟨n,t,e,_⟩:=S.st;rw[e] at a;cases a;show(true&&(decide (c < d.length)&&(true&&true)))=true;rw[Wa S.lt.2];rfl
 ·rw[b.2 k z] at a;rw[b.1];exact C o (VC a)
def jz{h a g:MH}{d:D}(hl:a.length=h.length)(C:Cl a)(f:∀n,d≠.ob n)(e:fD h.length d=true):leave h d (a++g)=some (d,a):=by
 have c:AG h.length (a++g) d=d:=by
  cases d with
  | ob n=>exact absurd rfl (f n)
  | _=>rfl
 unfold leave;rw[c,<-hl,YM (VG _),Wq,hl,e];have:(a.all (yf h.length))=true:=by
  rw[Xd];intro o b;rw[<-hl];exact C o b
 rw[this,Bool.or_true];rfl
def Pf{n:Nat}{o:MO}{h:MH}(e:h[n]?=some o):gR [(n,o)] h=true:=by
 unfold gR;rw[e];dsimp only;rw[we];rfl
def Cl.add{h:MH}(C:Cl h){o:MO}(b:yf (h.length+1) o=true)(up:∀o∈h,yf h.length o=true->yf (h.length+1) o=true):Cl (h++[o]):=by
 intro x a;rw[VM,YH];rcases Wk.mp a with z | z
 ·exact up x z (C x z)
 ·rw[VQ.mp z];exact b
mutual
theorem B2{n m:Nat}(hm:n<=m):∀d:D,fD n d=true->fD m d=true
 | .bx,_=>rfl
 | .bl _,_=>rfl
 | .int _,_=>rfl
 | .str _,_=>rfl
 | .ty _,_=>rfl
 | .ob k,h=>by simp only[fD,Wz] at h ⊢;exact VJ h hm
 | .tup xs,h=>by simp only[fD] at h ⊢;exact lN hm xs h
 | .lv xs,h=>by simp only[fD] at h ⊢;exact lN hm xs h
 | .ro xs,h=>by simp only[fD] at h ⊢;exact lN hm xs h
 | .dv xs,h=>by simp only[fD] at h ⊢;exact B1 hm xs h
theorem lN{n m:Nat}(hm:n<=m):∀d:List D,cC n d=true->cC m d=true
 | [],_=>rfl
 | x::r,h=>by
  simp only[cC,V1] at h ⊢;exact⟨B2 hm x h.1,lN hm r h.2⟩
theorem B1{n m:Nat}(hm:n<=m):∀d:List (Key×D),Lm n d=true->Lm m d=true
 | [],_=>rfl
 |(_,x)::r,h=>by
  simp only[Lm,V1] at h ⊢;exact⟨B2 hm x h.1,B1 hm r h.2⟩
end
def IC{n m:Nat}(hm:n<=m)(o:MO)(h:yf n o=true):yf m o=true:=by
 cases o with
 | lst xs=>exact lN hm xs h
 | dct xs=>exact B1 hm xs h
 | dcH xs=>have h:=V3.mp h;exact V3.mpr ⟨lN hm _ h.1,lN hm _ h.2⟩
def Cl.snoc{h:MH}(C:Cl h){o:MO}(a:yf (h.length+1) o=true):Cl (h++[o]):=C.add a λx _ z=>IC (Yx _) x z
theorem Cl.set{h:MH}(C:Cl h){n:Nat}{o:MO}(b:yf h.length o=true):Cl (h.set n o):=by
 intro x a;rw[Xz];rcases List.mem_or_eq_of_mem_set a with z | z
 ·exact C x z
 ·rw[z];exact b
theorem Pe{n:Nat}:∀{a:List D},(∀x∈a,fD n x=true)->cC n a=true
 | [],_=>rfl
 | x::r,h=>by
  show(fD n x&&cC n r)=true;rw[h x VF,Pe λy b=>h y (VD _ b)];rfl
end Mi
namespace Sm
open PySem L2
theorem DK{e:EM}{h:MH}{t:DS}(f:D->D):∀(a:List D)(o:Option D),(∀x∈a,e (some x::t) h=some (f x,h))->a8 [] (gN 0) cj e a (o::t) h=some (a.map f,h)
 | [],o,_=>rfl
 | x::r,o,b=>by
  have g:e (some x::t) h=some (f x,h):=b x VF;have d:=DK f r (some x) λy c=>b y (VD _ c);show((some ((o::t).set 0 (some x),h)).bind λq=>(cj q.1 q.2).bind λt=>if t.1=true then(e q.1 t.2).bind λy=>(a8 [] (gN 0) cj e r q.1 y.2).map λz=>(y.1::z.1,z.2) else a8 [] (gN 0) cj e r q.1 t.2)=_;show((e (some x::t) h).bind λy=>(a8 [] (gN 0) cj e r (some x::t) y.2).map λz=>(y.1::z.1,z.2))=_;rw[g];show((a8 [] (gN 0) cj e r (some x::t) h).map λz=>(f x::z.1,z.2))=_;rw[d];rfl
theorem DR{a:Type}(f:a->Bool):∀(l:List a),uO (l.map λx=>D.bl (f x))=some (l.map f)
 | []=>rfl
 | x::r=>by show(uO (r.map λx=>D.bl (f x))).map _=_;rw[DR f r];rfl
def rL{b:Type}{o:Option b}{a:b}(r:Rn o λp=>p=a):o=some a:=let⟨_,e,q⟩:=r;by rw[e,q]
def tt(a:A):(true=true->A)/\(true=false->B):=⟨λ_=>a,λz=>(nomatch z)⟩
def ff(b:B):(false=true->A)/\(false=false->B):=⟨λz=>(nomatch z),λ_=>b⟩
end Sm
namespace Mi
open PySem Sm L2 Pg
noncomputable def nM(W:Wd)(fl:List Int)(left odd:Int):MO:=.dct [(.inr (Str.ofString "names"),.lv (W.names.map D.str)),(.inr (Str.ofString "deeds"),.lv (W.ag.map D.str)),(.inr (Str.ofString "params"),.lv (W.params.map λa=>.lv (a.map D.str))),(.inr (Str.ofString "floors"),.lv (fl.map D.int)),(.inr (Str.ofString "left"),.int left),(.inr (Str.ofString "odd"),.int odd)]
structure Cf(W:Wd)(fl:List Int)(odd:Int):Prop where
 n1:1<=W.names.length
 n2:W.names.length<=6
 d1:1<=W.ag.length
 d2:W.ag.length<=6
 pl:W.params.length=W.ag.length
 p3:∀ps∈W.params,ps.length<=3
 UA:fl.length=W.ag.length
 f0:∀f∈fl,0<=f/\f < W.names.length
 o0:0<=odd
 o1:odd<=1000
 sn:∀w∈W.names,1<=w.length/\w.length<=7/\low w
 sd:∀w∈W.ag,1<=w.length/\w.length<=7/\low w
 sp:∀ps∈W.params,∀w∈ps,1<=w.length/\w.length<=7/\low w
 nn:W.names.Nodup
 nd:W.ag.Nodup
 np:∀ps∈W.params,ps.Nodup
section
variable {h:MH} {wd:Nat} {W:Wd} {fl:List Int} {left odd:Int}
theorem dE(a:h[wd]?=some (nM W fl left odd)):aB (.ob wd) (.str (Str.ofString "names")) h=some (.lv (W.names.map D.str),h):=by simp only[aB,cc,a,nM];rfl
theorem dG(a:h[wd]?=some (nM W fl left odd)):aB (.ob wd) (.str (Str.ofString "deeds")) h=some (.lv (W.ag.map D.str),h):=by simp only[aB,cc,a,nM];rfl
theorem cN(b:h[wd]?=some (nM W fl left odd)):aB (.ob wd) (.str (Str.ofString "params")) h=some (.lv (W.params.map λa=>.lv (a.map D.str)),h):=by simp only[aB,cc,b,nM];rfl
theorem nO(a:h[wd]?=some (nM W fl left odd)):aB (.ob wd) (.str (Str.ofString "floors")) h=some (.lv (fl.map D.int),h):=by simp only[aB,cc,a,nM];rfl
theorem qt(a:h[wd]?=some (nM W fl left odd)):aB (.ob wd) (.str (Str.ofString "left")) h=some (.int left,h):=by simp only[aB,cc,a,nM];rfl
theorem AA(a:h[wd]?=some (nM W fl left odd)):aB (.ob wd) (.str (Str.ofString "odd")) h=some (.int odd,h):=by simp only[aB,cc,a,nM];rfl
theorem FT(a:h[wd]?=some (nM W fl left odd))(v:Int):uK (.ob wd) (.str (Str.ofString "left")) (.int v) h=some (h.set wd (nM W fl v odd)):=by
 have b:(6:Nat) < sizeLine:=by decide
 simp only[uK,a,nM,lG,VO,VU,WZ];rw[VE b];rfl
end
section
variable {h h0:MH} {s c wd R:Nat} {cs:List Int} {W:Wd} {fl:List Int} {left odd:Int} {Q:D×MH->Prop}
theorem IJ(A:Sb s c cs h0 (R+1) h)(d:h[wd]?=some (nM W fl left odd))(ok:Cf W fl odd)(k:∀(b:Bool)(a:MH),Sb s c cs h0 R a->Q (.bl b,a)):Rn (dc [.ob s,.ob wd] h) Q:=by
 refine br ?_;exists AA d;nofun;refine⟨_,rfl,λz=>?_,λz=>?_⟩
 ·exists AA d;nofun;refine du A (WT z) (by have:=ok.o1;exact W4 this (by decide)) λm a _ _ e=>?_;nofun;exact k _ _ e
 ·nofun;exact k _ _ (A.dn 1)
theorem xY{e:List Str}(A:Sb s c cs h0 (R+4) h)(hp:e.length<=3)(k:∀(t:Term)(n:MH),en e t->t.2<=40->Sb s c cs h0 R n->Q (bj t,n)):Rn (bO [.ob s,.lv (e.map D.str)] h) Q:=by
 refine br ?_;nofun;refine du A (by decide) (by decide) λm n y v o=>?_;nofun;have plain:∀{l:MH} {P:D×MH->Prop},Sb s c cs h0 (R+1) l->(∀(i:Int)(b:MH),-40<=i/\i<=40->Sb s c cs h0 R b->P (.int i,b))->Rn (aF [.ob s,.lv [.int 0,.int 0,.int 1,.int 1,.int 2,.int 3,.int (-1),.int (m-40)]] l) P:=λf kk=>
  jI (is:=[0,0,1,1,2,3,-1,m-40]) (λi=>-40<=i/\i<=40) (by intro x g;simp at g;lia) f λi b a _ d=>kk i b a d
 refine⟨_,rfl,λz=>?_,λz=>⟨λz=>(nomatch z),λ_=>?_⟩⟩
 ·have z:0 < e.length:=by simpa using z
  nofun;refine du o (by decide) (by decide) λu l _ _ f=>?_;nofun;refine⟨_,rfl,λ_=>?_,λ_=>?_⟩
  ·nofun;refine Fx f (.inl rfl) (by simpa using z) (by simp;lia) λC b j d=>?_;obtain⟨w,p,rfl⟩:=V7.mp j;nofun;refine jI (is:=[0,0,0,0,1,1,-1,2,m-40]) (λi=>-40<=i/\i<=40) (by intro x g;simp at g;lia) d λi q a _ r=>?_;nofun;exact k (w,i) q ⟨.inr p,by dsimp only;exact W4 (by decide) a.1,by dsimp only;exact W4 a.2 (by decide)⟩ a.2 r
  ·nofun;refine plain (f.dn 1) λi b a d=>?_;nofun;exact k (Str.ofString "",i) b ⟨.inl rfl,by dsimp only;exact W4 (by decide) a.1,by dsimp only;exact W4 a.2 (by decide)⟩ a.2 d
 ·nofun;refine plain (o.dn 2) λi b a d=>?_;nofun;exact k (Str.ofString "",i) b ⟨.inl rfl,by dsimp only;exact W4 (by decide) a.1,by dsimp only;exact W4 a.2 (by decide)⟩ a.2 d
end
def cg{b:Type}{a:List b}{f:b->D}{h:MH}{j:Nat}{x:b}(e:a[j]?=some x):aB (.lv (a.map f)) (.int j) h=some (f x,h):=by
 have hj:j < a.length:=by
  rcases X2 j a.length with z | z
  ·exact z
  ·rw[Wu z] at e;cases e
 show((fq (a.map f) j).map λz=>(z,h))=_;have:fq (a.map f) j=some (f x):=by
  unfold fq;rw[show uH (a.map f).length j=some j by unfold uH;simp;exact hj];show(a.map f)[j]?=_;rw[VN,e];rfl
 rw[this];rfl
def kd(i j:Int)(h:MH):uL [.int i,.int j] h=some (.int (max i j),h):=by
 show some (D.int (if j > i then j else i),h)=_;rw[show(if j > i then j else i)=max i j by split <;> lia]
def DB(i j:Int)(h:MH):Fb [.int i,.int j] h=some (.int (min i j),h):=by
 show some (D.int (if j < i then j else i),h)=_;rw[show(if j < i then j else i)=min i j by split <;> lia]
def Du{d:Type}{o:Option Bool}{x y:Option d}{X Y:d->Prop}(r:∃c,o=some c/\(c=true->Rn x Y)/\(c=false->Rn y Y))(f:∀p,Y p->X p):∃c,o=some c/\(c=true->Rn x X)/\(c=false->Rn y X):=
 let⟨c,e,a,b⟩:=r
 ⟨c,e,λz=>(a z).imp f,λz=>(b z).imp f⟩
noncomputable def qT(t:Term):PyData:=.tuple [.str t.1,.int t.2]
theorem vg:∀a:List Term,gc (a.map bj)=some (a.map qT)
 | []=>rfl
 | c::r=>by simp only[VL,gc,vg r,bj,jm,VO,Wt];rfl
theorem pK:∀a:List Term,PyData.depthAll (a.map qT)<=1
 | []=>by simp[PyData.depthAll]
 | c::r=>by
  have:=pK r;simp only[VL,PyData.depthAll,qT,PyData.depth]
  lia
def BL(a:List Term)(h:MH):jE (.lv (a.map bj)) (.lv []) h=some (.bl (!a.isEmpty),h):=by
 have:=pK a;simp only[jE,Jk,cc,Jj,ye,vg,jm,gc,Wt,VO];rw[VE ⟨show PyData.depthAll _+1<=64 by exact Wr this (by decide),by decide⟩];cases a <;> rfl
section
variable {h h0:MH} {s c wd R:Nat} {cs:List Int} {W:Wd} {fl:List Int} {left odd:Int} {Q:D×MH->Prop}
theorem Pn{G:List Str}{j:Nat}{top:Int}{n:List Lock}(A:Sb s c cs h0 (R+10) h)(q:h0[wd]?=some (nM W fl left odd))(u:wd≠s)(ok:Cf W fl odd)(hp:W.params[j]?=some G)(hj:j < W.ag.length)(ht:top<=W.names.length)(hh:∀l∈n,fg W G l)(hl:n.length<=1000)
  (o:∀(k:Int)(l:Lock)(p:MH),max top (fl[j]?.getD 0) < W.names.length->0<=k->k < W.names.length->fg W G l->Sb s c cs h0 R p->Q (.tup [.int k,aL l],p))
  (H:∀(p:MH),max top (fl[j]?.getD 0)=W.names.length->Sb s c cs h0 R p->Q (.tup [.bx,.bx],p)):Rn (eW [.ob s,.ob wd,.int j,.int top,.lv (n.map aL)] h) Q:=by
 have hw:=A.at_ q u;obtain⟨f,hf⟩:∃f,fl[j]?=some f:=⟨_,VI (by rw[ok.UA];exact hj)⟩;have N:=ok.f0 f (VC hf);have n2:=ok.n2;rw[hf] at o H;dsimp only[Option.getD_some] at o H;refine br ?_;exists nO hw;exists cg hf;exists kd top f h;have Z:0<=max top f:=by lia
 have X:max top f<=W.names.length:=by lia
 generalize max top f=lo at Z X o H ⊢;exists dE hw;nofun;refine⟨_,rfl,λz=>?_,λz=>?_⟩
 ·have z:lo=W.names.length:=by simpa using z
  nofun;exact H h z (A.dn 10)
 have z:lo≠W.names.length:=by simpa using z
 have z0:lo < W.names.length:=by lia
 have o:=λk l p=>o k l p z0;clear H;exists dE hw;nofun;simp only[Vy];refine du A (by lia) (by lia) λm p m0 m1 A1=>?_;nofun;refine IJ A1 (A1.at_ q u) ok λb h2 A2=>?_;nofun;refine Du (Y:=λr=>∃(k:Int)(F:MH),r=(Fl.nx,[some (.ob s),some (.ob wd),some (.int j),some (.int top),some (.lv (n.map aL)),some (.int lo),some (.int k),none,none,none,none],F)/\0<=k/\k < W.names.length/\Sb s c cs h0 (R+7) F) ?_ ?_
 ·refine⟨b,rfl,λ_=>?_,λ_=>?_⟩
  ·exists dE (A2.at_ q u);nofun;simp only[Vy];refine du A2 (by exact XE N.1 N.2) (by lia) λk F T o S=>?_;exact⟨k,F,rfl,T,o,S⟩
  ·nofun;exact⟨lo+m,h2,rfl,by lia,by lia,A2.dn 1⟩
 rintro _ ⟨k,F,rfl,T,kL,S⟩;have E:=S.at_ q u;have o:=λl p=>o k l p T kL;obtain⟨kn,rfl⟩:=Xy T;obtain⟨nm,w⟩:∃f,W.names[kn]?=some f:=⟨_,VI (by exact Yo.mp kL)⟩;show Rn _ _;exists dE E;exists cg w;nofun;refine dm ?_;nofun;refine⟨_,_,rfl,?_⟩;obtain⟨⟨ys,h4⟩,e4,J,I,δ4,M,_⟩:=w5 (ws:=[]) (g:=gN 0) (c:=ay (ak b6 (ak aB (aP 0) (eK (D.int 0))) (aP 1))) (e:=ak aB (aP 0) (eK (D.int 1))) (λx y=>∃l∈n,x=aL l/\y=bj l.2)
  (xs:=n.map aL) (δ:=[none,some (.str nm)]) (h:=F) (λj δ h'=>h'=F/\∃d0,δ=[d0,some (.str nm)]) ⟨rfl,_,rfl⟩ (λ_ _ _ _ _=>rfl) (by
   rintro i x δ h' hx ⟨rfl,d0,rfl⟩;obtain⟨l,hl,rfl⟩:=V7.mp (VC hx);nofun;refine rv (a:=(.str l.1,_)) rfl ?_;nofun;refine⟨_,rfl,λ_=>?_,λ_=>⟨rfl,_,rfl⟩⟩;nofun;exact rv (a:=(bj l.2,_)) rfl ⟨⟨l,hl,rfl,rfl⟩,rfl,_,rfl⟩)
 dsimp only at M;subst M;refine rv e4 ⟨VJ J (by rw[Vy,show sizeLine=16777216 from rfl];exact VJ hl (by decide)),?_⟩;obtain⟨C,rfl,htm⟩:∃C:List Term,ys=C.map bj/\∀t∈C,en G t:=by
  clear e4 J
  induction ys with
  | nil=>exact⟨[],rfl,λ_ z=>(nomatch z)⟩
  | cons y r ih=>
   obtain⟨js,rfl,p⟩:=ih λz hz=>I z (VD _ hz);obtain⟨x,hx,l,hl,rfl,rfl⟩:=I y VF;exact⟨l.2::js,rfl,List.forall_mem_cons.mpr ⟨(hh l hl).2,p⟩⟩
 nofun;have pl:=ok.p3 G (VC hp);refine rv (BL C _) ⟨_,rfl,λz=>?_,λz=>⟨λz=>(nomatch z),λ_=>?_⟩⟩
 ·nofun;refine IJ S E ok λb' h5 A5=>⟨_,rfl,λ_=>?_,λ_=>?_⟩
  ·have L:C≠[]:=by rintro rfl;cases z
   obtain⟨us,d,rfl⟩:∃us d,C=us++[d]:=⟨C.dropLast,C.getLast L,(List.dropLast_concat_getLast L).symm⟩;have v:=htm d (by simp);nofun;refine rv (a:=(bj d,_)) (by
    show((fq ((us++[d]).map bj) (-1)).map λz=>(z,h5))=_;rw[VT];show((fq (us.map bj++[bj d]) (-1)).map λz=>(z,h5))=_;rw[nr];rfl) ?_
   nofun;refine rv (a:=_) rfl ?_;nofun;refine du A5 (by decide) (by decide) λm6 O m60 m61 P=>?_;exists DB _ _ _;nofun;exact o (nm,(d.1,min 99 (d.2+1+m6))) O ⟨VC w,v.1,by dsimp only;have:=v.2;lia,by dsimp only;lia⟩ (P.dn 5)
  ·exists cN (A5.at_ q u);exists cg hp;nofun;refine xY (A5.dn 2) pl λt O U _ P=>?_;nofun;exact o (nm,t) O ⟨VC w,U⟩ P
 ·exists cN E;exists cg hp;nofun;refine xY (S.dn 3) pl λt O U _ P=>?_;nofun;exact o (nm,t) O ⟨VC w,U⟩ P
end
def zW(cs:List Int)(h:MH):b6 (.lv (cs.map D.int)) (.lv []) h=some (.bl cs.isEmpty,h):=by
 simp only[b6,Jk,cc,Jj,ye,r8,jm,gc,Wt,VO,PyData.depth,lK];cases cs <;> rfl
def ND(r:Rn (m a h) λp=>∃j:Int,p.1=[.int j]/\0<=j/\j<=1000/\Q ((List.range j.toNat).map λ(k:Nat)=>D.int (k:Int),p.2)):Rn (PD m a h) Q:=aS (r.imp λp u9=>by
 obtain⟨j,e,c,b,q⟩:=u9;rw[e];dsimp only;rw[VE ⟨c,b⟩];exact⟨_,rfl,q⟩)
section
variable {h h0:MH} {s c wd R:Nat} {cs:List Int} {W:Wd} {fl:List Int} {left odd:Int} {Q:D×MH->Prop}
theorem Pp{top:Int}(A:Sb s c cs h0 (R+14) h)(d:h0[wd]?=some (nM W fl left odd))(l:wd≠s)(ok:Cf W fl odd)(hp:W.params[j]?=some ps)(hj:j < W.ag.length)
  (kk:∀(r:Row)(T:MH),(∀n,bh W ps n r)->cnt r=1->Sb s c cs h0 R T->Q (aM r,T)):Rn (gA [.ob s,.ob wd,.int j,.int top] h) Q:=by
 have hw:=A.at_ d l;have d2:=ok.d2;have pl:=ok.p3 ps (VC hp);obtain⟨dj,S⟩:∃f,W.ag[j]?=some f:=⟨_,VI hj⟩;refine br ?_;nofun;refine gE ?_;exists dG hw;nofun;refine⟨(W.ag.map D.str).length,rfl,by rw[Vy];simp,by rw[Vy];lia,?_⟩;rw[Vy,Wc];obtain⟨⟨ys,T⟩,e1,J,hym,δ1,O,_⟩:=w5 (ws:=[]) (g:=gN 0) (c:=km (ay (ak FJ (ak aB (ak aB (aP 3) (eK (.str "floors"))) (aP 0)) (aP 2))) (ay (ak Rx (aP 0) (aP 1)))) (e:=aP 0) (λx y=>y=x)
  (xs:=(List.range W.ag.length).map λ(k:Nat)=>D.int (k:Int)) (δ:=[none,some (.int j),some (.int top),some (.ob wd)]) (h:=h) (λi δ U=>U=h/\∃X,δ=[X,some (.int j),some (.int top),some (.ob wd)]) ⟨rfl,_,rfl⟩ (λ_ _ _ _ _=>rfl) (by
   rintro i x δ U E ⟨rfl,X,rfl⟩;rw[VN] at E;obtain⟨k,N,G⟩:=WB.mp E;subst G;have o:k < fl.length:=by rw[ok.UA];exact WY.mp (VC N)
   obtain⟨f,hf⟩:∃f,fl[k]?=some f:=⟨_,VI o⟩;exists nO hw;exists cg hf;nofun;refine⟨_,rfl,λ_=>?_,λ_=>⟨λz=>(nomatch z),λ_=>⟨rfl,_,rfl⟩⟩⟩;nofun;refine⟨_,rfl,λ_=>?_,λ_=>⟨rfl,_,rfl⟩⟩;nofun;exact⟨rfl,rfl,_,rfl⟩)
 dsimp only at O;subst O;refine rv e1 ⟨VJ J (by rw[Vy,V2,show sizeLine=16777216 from rfl];exact VJ d2 (by decide)),?_⟩;have u:∀v:List D,(∀y∈v,∃x,x∈(List.range W.ag.length).map (λ(k:Nat)=>D.int (k:Int))/\y=x)->∃p:List Int,v=p.map D.int/\∀k∈p,0<=k/\k < W.ag.length:=by
  intro v hz
  induction v with
  | nil=>exact⟨[],rfl,λ_ z=>(nomatch z)⟩
  | cons y r ih=>
   obtain⟨p,rfl,q⟩:=ih λz hz'=>hz z (VD _ hz');obtain⟨x,E,rfl⟩:=hz y VF;obtain⟨k,N,rfl⟩:=V7.mp E;exact⟨k::p,rfl,λi hi=>by
    rcases VS.mp hi with rfl | hi
    ·have:=WY.mp N;clear ih;lia
    ·exact q i hi⟩
 have I:ys.length<=6:=by
  have h9:ys.length<=_:=J;rw[Vy,V2] at h9;exact VJ h9 d2
 obtain⟨p,rfl,hjs⟩:=u ys hym;rw[Vy] at I;nofun;refine IJ A hw ok λb h2 A2=>?_;have L:=A2.at_ d l;nofun;refine Du (Y:=λr=>∃(ks:List Int),r=(Fl.nx,[some (.ob s),some (.ob wd),some (.int j),some (.int top),some (.lv (ks.map D.int)),none,none],h2)/\ks.length<=6/\∀k∈ks,0<=k/\k < W.ag.length) ?_ ?_
 ·refine⟨b,rfl,λ_=>?_,λ_=>?_⟩
  ·nofun;refine ND ?_;exists dG L;nofun;refine⟨(W.ag.map D.str).length,rfl,by rw[Vy];simp,by rw[Vy];lia,?_⟩;rw[Vy,Wc];obtain⟨ks,M,G⟩:=u _ λy hy=>⟨y,hy,rfl⟩;refine⟨ks,?_,?_,G⟩
   ·show _=_;rw[<-M];rfl
   ·have:=congrArg List.length M;rw[Vy,Vy,V2] at this
    lia
  ·nofun;exact⟨p,rfl,I,hjs⟩
 rintro _ ⟨ks,rfl,kn,hks⟩;show Rn _ _;nofun;refine rv (zW ks _) ⟨_,rfl,λz=>?_,λz=>?_⟩
 ·exists dG L;exists cg S;nofun;have:=kk (.say dj) h2 (λn=>by unfold bh;exact Wf _ (VC S)) (by rw[cnt]) (A2.dn 13);rw[aM] at this;exact this
 have z0:0 < ks.length:=by cases ks with | nil=>cases z | cons _ _=>simp
 nofun;refine Fx A2 (.inl rfl) (by simpa using z0) (by simp;lia) λd3 h3 hd3 A3=>?_;have hw3:=A3.at_ d l;obtain⟨k,N,rfl⟩:=V7.mp hd3;obtain⟨k0,k1⟩:=hks k N;obtain⟨m,rfl⟩:=Xy k0;have o:m < W.ag.length:=by exact Yo.mp k1
 obtain⟨dk,P⟩:∃f,W.ag[m]?=some f:=⟨_,VI o⟩;obtain⟨qs,F⟩:∃f,W.params[m]?=some f:=⟨_,VI (by rw[ok.pl];exact o)⟩;have ql:=ok.p3 qs (VC F);nofun;refine dm ?_;exists cN hw3;exists cg F;refine⟨_,_,rfl,?_⟩;obtain⟨⟨v,h4⟩,e4,w,δ4,_,Z⟩:=qC (ws:=[]) (g:=gN 0) (e:=aq bO (af (aP 2) (af (ak aB (ak aB (aP 3) (eK (.str "params"))) (aP 1)) aY))) (λ_ y=>∃t:Term,y=bj t/\en ps t)
  (xs:=qs.map D.str) (δ:=[none,some (.int j),some (.ob s),some (.ob wd)]) (h:=h3) (λi δ U=>(∃X,δ=[X,some (.int j),some (.ob s),some (.ob wd)])/\Sb s c cs h0 (R+4*(3-i)) U) ⟨⟨_,rfl⟩,A3⟩ (λ_ _ _ _ _=>rfl) (by
   rintro i x δ U E ⟨⟨X,rfl⟩,Ai⟩;have hi:i < 3:=by
    have:=(Vz.mp E).1;rw[Vy] at this
    lia
   rw[show R+4*(3-i)=R+4*(3-(i+1))+4 by clear Ai;lia] at Ai;have hwi:=Ai.at_ d l;exists cN hwi;exists cg hp;nofun;exact xY Ai pl λt h6 tk _ A6=>⟨⟨t,rfl,tk⟩,⟨_,rfl⟩,A6⟩)
 obtain⟨H,rfl,htm⟩:∃H:List Term,v=H.map bj/\∀t∈H,en ps t:=by
  have hr:=w.right;clear e4 w Z;dsimp only at hr
  induction v with
  | nil=>exact⟨[],rfl,λ_ z=>(nomatch z)⟩
  | cons y r ih=>
   obtain⟨p,rfl,T⟩:=ih λz hz=>hr z (VD _ hz);obtain⟨x,E,t,rfl,tk⟩:=hr y VF;exact⟨t::p,rfl,λj hj=>by
    rcases VS.mp hj with rfl | hj
    ·exact tk
    ·exact T j hj⟩
 have C:=w.length;dsimp only at C;rw[Vy,Vy] at C;refine rv e4 ⟨by dsimp only;rw[Vy,show sizeLine=16777216 from rfl];lia,?_⟩;have Z:Sb s c cs h0 R h4:=Z.le (V9 _ _);have hw4:=Z.at_ d l;exists dG hw4;exists cg P;nofun;refine rv (a:=(.tup (H.map bj),_)) rfl ?_;nofun;have:=kk (.call dk H) h4 (λn=>by unfold bh;exact⟨⟨m,qs,P,F,C⟩,htm⟩) (by rw[cnt]) Z;rw[aM] at this;exact this
end
def gg(s wd:Nat)(h a:MH):Prop:=a.length=h.length/\∀k,k≠s->k≠wd->a[k]?=h[k]?
def gg.refl(s wd:Nat)(h:MH):gg s wd h h:=⟨rfl,λ_ _ _=>rfl⟩
theorem gg.trans(a:gg s wd h d)(b:gg s wd d c):gg s wd h c:=⟨b.1.trans a.1,λk n m=>(b.2 k n m).trans (a.2 k n m)⟩
def tX.two(a:tX s h b):gg s wd h b:=⟨a.1,λk n _=>a.2 k n⟩
theorem gg.set:gg s wd h (h.set wd o):=⟨Xz,λk _ n=>Wn (WO n)⟩
def gg.UK(b:gg s wd (a++g) d)(i:s < a.length)(h:wd < a.length):∃c,d=c++g/\gg s wd a c:=by
 have hl:d.length=a.length+g.length:=by rw[b.1];simp
 refine⟨d.take a.length,?_,by rw[V4];lia,λk f e=>?_⟩
 ·refine YE λk=>?_
  by_cases z:k < a.length
  ·rw[VW (by rw[V4];lia),Ww z]
  ·rw[b.2 _ (by lia) (by lia),VY (by exact WR z),VY (by rw[V4];lia),V4];rw[show min a.length d.length=a.length by lia]
 ·by_cases z:k < a.length
  ·rw[Ww z,b.2 k f e,VW z]
  ·rw[Wu (by rw[V4];lia),Wu (by exact WR z)]
theorem hW(n:Nat):∀a:List Str,cC n (a.map D.str)=true
 | []=>rfl
 | j::r=>by rw[VL];show(fD n (.str _)&&cC n _)=true;rw[hW n r];rfl
theorem vZ(n:Nat):∀b:List (List Str),cC n (b.map λa=>.lv (a.map D.str))=true
 | []=>rfl
 | j::r=>by rw[VL];show(cC n (j.map D.str)&&cC n _)=true;rw[hW n j,vZ n r];rfl
def BZ(n:Nat)(W:Wd)(fl:List Int)(l odd:Int):yf n (nM W fl l odd)=true:=by
 show(cC n _&&(cC n _&&(cC n _&&(cC n _&&(true&&(true&&true))))))=true;rw[hW,hW,vZ,DQ];rfl
structure En where
 s:Nat
 c:Nat
 wd:Nat
 cs:List Int
 W:Wd
 fl:List Int
 odd:Int
 ok:Cf W fl odd
 ne:wd≠s
 nc:wd≠c
structure Wb(E:En)(h0:MH)(R l:Nat)(h:MH):Prop where
 S:St E.s E.c E.cs R h
 w:h[E.wd]?=some (nM E.W E.fl l E.odd)
 C:Cl h
 b:gg E.s E.wd h0 h
section
variable {E:En} {h0 h h1 h' g:MH} {R R' l l' k:Nat} {Q:D×MH->Prop}
theorem Wb.lt(A:Wb E h0 R l h):E.s < h.length/\E.c < h.length/\E.wd < h.length:=⟨A.S.lt.1,A.S.lt.2,(Vz.mp A.w).1⟩
theorem Wb.by(A:Wb E h0 R l h)(B:Sb E.s E.c E.cs h R' h1):Wb E h0 R' l h1:=⟨B.S,(B.b.2 _ E.ne).trans A.w,A.C.but B.S B.b,A.b.trans B.b.two⟩
theorem Wb.le(A:Wb E h0 R l h)(a:R'<=R):Wb E h0 R' l h:=⟨A.S.le a,A.w,A.C,A.b⟩
theorem Wb.here(A:Wb E h0 R l h):Wb E h R l h:=⟨A.S,A.w,A.C,gg.refl _ _ _⟩
theorem Wb.tr(A:Wb E h1 R l h)(b:gg E.s E.wd h0 h1):Wb E h0 R l h:=⟨A.S,A.w,A.C,b.trans A.b⟩
theorem Wb.set(A:Wb E h0 R l h)(v:Nat):Wb E h0 R v (h.set E.wd (nM E.W E.fl v E.odd)):=
 ⟨A.S.off E.ne E.nc,Wy A.lt.2.2,A.C.set (BZ _ _ _ _ _),A.b.trans gg.set⟩
theorem Wb.push(A:Wb E h0 R l h)(a:yf (h.length+1) o=true):Wb E (h++[o]) R l (h++[o]):=⟨A.S.more _,by rw[VW A.lt.2.2];exact A.w,A.C.snoc a,gg.refl _ _ _⟩
theorem Pd(C:Cl h)(S:St E.s E.c E.cs R h')(w:h'[E.wd]?=some (nM E.W E.fl l E.odd))(b:gg E.s E.wd h h'):Cl h':=by
 intro o f;obtain⟨k,a⟩:=WN.mp f
 by_cases z:k=E.s
 ·subst z;obtain⟨n,t,e,_⟩:=S.st;rw[e] at a;cases a;show(true&&(decide (E.c < h'.length)&&(true&&true)))=true;rw[Wa S.lt.2];rfl
 ·by_cases d:k=E.wd
  ·subst d;rw[w] at a;cases a;exact BZ _ _ _ _ _
  ·rw[b.2 k z d] at a;rw[b.1];exact C o (VC a)
theorem Wb.pop(c:Wb E h0 j f h)(A:Wb E (h++g) R l h'):∃a,h'=a++g/\a.length=h.length/\Wb E h0 R l a:=by
 obtain⟨h1,i,d⟩:=c.lt;obtain⟨a,rfl,b⟩:=A.b.UK h1 d;have e:=b.1;have S:=A.S.cut (by lia) (by lia);have w:=A.w;rw[VW (by lia)] at w;exact⟨a,rfl,e,S,w,Pd c.C S w b,c.b.trans b⟩
theorem w_next(A:Wb E h0 (R+1) l h)(d:0 < m)(c:m<=10^40)(k:∀(r:Int)(h1:MH),0<=r->r < m->Wb E h0 R l h1->Q (.int r,h1)):Rn (aH [.ob E.s,.int m] h) Q:=
 du A.S.sb d c λr h1 b a e=>k r h1 b a (A.by e)
theorem P8(A:Wb E h0 (R+1) l h)(hd:d=.lv xs\/d=.tup xs)(b:0 < xs.length)(a:xs.length<=1000000)(k:∀(x:D)(h1:MH),x∈xs->Wb E h0 R l h1->Q (x,h1)):Rn (aF [.ob E.s,d] h) Q:=
 Fx A.S.sb hd b a λx h1 c e=>k x h1 c (A.by e)
theorem FU{is:List Int}(P:Int->Prop)(d:∀i∈is,P i)(A:Wb E h0 (R+1) l h)(k:∀(i:Int)(h1:MH),P i->Wb E h0 R l h1->Q (.int i,h1))(b:0 < is.length:=by simp)(a:is.length<=1000:=by simp):Rn (aF [.ob E.s,.lv (is.map D.int)] h) Q:=
 jI P d A.S.sb (λi h1 c _ e=>k i h1 c (A.by e)) b a
theorem wq(A:Wb E h0 (R+4) l h)(hp:a.length<=3)(k:∀(t:Term)(h1:MH),en a t->Wb E h0 R l h1->Q (bj t,h1)):Rn (bO [.ob E.s,.lv (a.map D.str)] h) Q:=
 xY A.S.sb hp λt h1 ht _ b=>k t h1 ht (A.by b)
structure Cd(W:Wd)(j:Nat)(ps:List Str)(d:Nat)(top:Int)(held:List Lock):Prop where
 hp:W.params[j]?=some ps
 hj:j < W.ag.length
 d1:1<=d
 ht:top<=W.names.length
 hh:∀x∈held,fg W ps x
 hl:held.length<=4*d
variable {j d f:Nat} {ps:List Str} {top:Int} {held:List Lock}
theorem Cd.more{W:Wd}{n:Nat}{a:Int}{ls:List Lock}(G:Cd W j ps d top held)(ht:a<=W.names.length)(hl:ls.length<=4*n)(c:∀x∈ls,fg W ps x):Cd W j ps (d+n) a (held++ls):=
 ⟨G.hp,G.hj,VJ G.d1 (V9 _ _),ht,λx b=>(Wk.mp b).elim (G.hh x) (c x),by have:=G.hl;rw[VM];lia⟩
theorem Cd.deep{W:Wd}(G:Cd W j ps d top held):Cd W j ps (d+1) top held:=⟨G.hp,G.hj,W6 G.d1,G.ht,G.hh,by have:=G.hl;lia⟩
theorem Cd.pl(G:Cd E.W j ps d top held):ps.length<=3:=E.ok.p3 ps (VC G.hp)
theorem FV(A:Wb E h0 (R+10) l h)(G:Cd E.W j ps d top held)(hd:d<=5)(n:∀(k:Int)(x:Lock)(h1:MH),max top (E.fl[j]?.getD 0) < E.W.names.length->0<=k->k < E.W.names.length->fg E.W ps x->Wb E h0 R l h1->Q (.tup [.int k,aL x],h1))
  (m:∀(h1:MH),max top (E.fl[j]?.getD 0)=E.W.names.length->Wb E h0 R l h1->Q (.tup [.bx,.bx],h1)):Rn (eW [.ob E.s,.ob E.wd,.int j,.int top,.lv (held.map aL)] h) Q:=
 Pn A.S.sb A.w E.ne E.ok G.hp G.hj G.ht G.hh (by have:=G.hl;lia) (λk x h1 a b c e i=>n k x h1 a b c e (A.by i)) λh1 a i=>m h1 a (A.by i)
theorem MB(A:Wb E h0 (R+14) l h)(G:Cd E.W j ps d top held)(k:∀(r:Row)(h1:MH),(∀n,bh E.W ps n r)->cnt r=1->Wb E h0 R l h1->Q (aM r,h1)):Rn (gA [.ob E.s,.ob E.wd,.int j,.int top] h) Q:=
 Pp A.S.sb A.w E.ne E.ok G.hp G.hj λr h1 a b c=>k r h1 a b (A.by c)
abbrev Jd(E:En)(h0:MH)(R l:Nat)(ps:List Str)(d:Nat)(Q:D×MH->Prop):Prop:=∀(r:Row)(l':Nat)(h':MH),bh E.W ps d r->l'+cnt r=l+1->Wb E h0 (R+100*l') l' h'->Q (aM r,h')
abbrev UR(E:En)(h0:MH)(R l:Nat)(ps:List Str)(d:Nat)(Q:D×MH->Prop):Prop:=∀(t:List Row)(l':Nat)(h':MH),bH E.W ps d t->t.length<=12->l'+aX t=l->Wb E h0 (R+100*l') l' h'->Q (.tup (ck t),h')
def FE(E:En)(f:Nat):Prop:=∀{h0 h:MH} {R l j:Nat} {ps:List Str} {d:Nat} {top:Int} {held:List Lock} {a:Int} {Q:D×MH->Prop},Wb E h0 (R+100*l+4) l h->Cd E.W j ps d top held->d<=5->3*(5-d)+2<=f->1<=a->a<=12->UR E h0 R l ps d Q->
 Rn (bE f [.ob E.s,.ob E.wd,.int j,.int d,.int top,.lv (held.map aL),.int a] h) Q
def PR(E:En)(f:Nat):Prop:=∀{h0 h:MH} {R l j:Nat} {ps:List Str} {d:Nat} {top:Int} {held:List Lock} {Q:D×MH->Prop},Wb E h0 (R+100*l+100) l h->Cd E.W j ps d top held->d<=5->3*(5-d)+1<=f->Jd E h0 R l ps d Q->
 Rn (fZ f [.ob E.s,.ob E.wd,.int j,.int d,.int top,.lv (held.map aL)] h) Q
def Jc(E:En)(f:Nat):Prop:=∀{h0 h:MH} {R l j:Nat} {ps:List Str} {d:Nat} {top:Int} {held:List Lock} {a:Str} {Q:D×MH->Prop},Wb E h0 (R+100*l+95) l h->Cd E.W j ps d top held->d < 5->3*(5-d)<=f->a∈[Str.ofString "within",Str.ofString "ask",Str.ofString "all"]->Jd E h0 R l ps d Q->
 Rn (c9 f [.ob E.s,.ob E.wd,.int j,.int d,.int top,.lv (held.map aL),.str a] h) Q
def PH(E:En)(f:Nat):Prop:=∀{h0 h:MH} {R l j:Nat} {ps:List Str} {d:Nat} {top:Int} {held:List Lock} {Q:D×MH->Prop},Wb E h0 (R+100*l+95) l h->Cd E.W j ps d top held->d < 3->5 < l->3*(5-d)<=f->Jd E h0 R l ps d Q->
 Rn (cq f [.ob E.s,.ob E.wd,.int j,.int d,.int top,.lv (held.map aL)] h) Q
end
def jk(r:Rn (b (entry len ds) h) (El λp=>Rn (leave h p.1 p.2) Q)):Rn (FG len b ds h) Q:=by
 obtain⟨p,e,q⟩:=br r;obtain⟨z,a,k⟩:=q;refine⟨z,?_,k⟩;have e:((b (entry len ds) h).bind JJ)=some p:=e;show((b (entry len ds) h).bind JJ).bind _=_;rw[e];exact a
def fT{a:D->MH->Bool}{f:FO}{o:EM}{m:AM}{b:DS}{h:MH}{Q:D×MH->Prop}(r:Rn (o b h) λp=>a p.1 p.2=true/\Rn (m b p.2) λq=>Rn (f p.1 q.1 q.2) Q):Rn (eM a f o m b h) Q:=
 aS (r.imp λp u9=>by obtain⟨e,r⟩:=u9;rw[VE e];exact aS r)
def bI(e:h[n]?=some (.lst xs)):bu (.ob n) h=true:=by unfold bu cL;dsimp only;rw[e];rfl
def bL(e:h[n]?=some (.lst xs))(hl:xs.length < sizeLine):bS (.ob n) [y] h=some (.bx,h.set n (.lst (xs++[y]))):=by unfold bS;dsimp only;rw[e];dsimp only;rw[VE hl]
def xQ(n:Nat)(t:Term):fD n (bj t)=true:=rfl
def qN(n:Nat)(t:Lock):fD n (aL t)=true:=rfl
theorem eC(n:Nat)(f:α->D)(a:∀x,fD n (f x)=true):∀b:List α,cC n (b.map f)=true
 | []=>rfl
 | x::r=>by rw[VL];show(fD n (f x)&&cC n _)=true;rw[a x,eC n f a r];rfl
mutual
theorem oK(n:Nat):∀r:Row,fD n (aM r)=true
 | .say w=>by rw[aM];rfl
 | .call d f=>by rw[aM];show(true&&(true&&(cC n _&&true)))=true;rw[eC n _ (xQ n)];rfl
 | .within l b=>by rw[aM];show(true&&(fD n (aL l)&&(cC n _&&true)))=true;rw[qN,dP n b];rfl
 | .all ls b=>by rw[aM];show(true&&(cC n _&&(cC n _&&true)))=true;rw[eC n _ (qN n),dP n b];rfl
 | .ask l b e=>by rw[aM];show(true&&(fD n (aL l)&&(cC n _&&(cC n _&&true))))=true;rw[qN,dP n b,dP n e];rfl
 | .Ah s t a b c=>by rw[aM];show(true&&(fD n (bj s)&&(fD n (bj t)&&(cC n _&&(cC n _&&(cC n _&&true))))))=true;rw[xQ,xQ,dP n a,dP n b,dP n c];rfl
 | .either a b=>by rw[aM];show(true&&(cC n _&&(cC n _&&true)))=true;rw[dP n a,dP n b];rfl
 | .again a=>by rw[aM];show(true&&(cC n _&&true))=true;rw[dP n a];rfl
theorem dP(n:Nat):∀r:List Row,cC n (ck r)=true
 | []=>by rw[ck];rfl
 | r::rs=>by rw[ck];show(fD n _&&cC n _)=true;rw[oK n r,dP n rs];rfl
end
def lH(e:H.length=n):(H++[a])[n]?=some a:=by rw[<-e];simp
def Gf(e:H.length=n):(H++[a]).set n b=H++[b]:=by rw[<-e];simp
section
variable {E:En} {f:Nat}
theorem BF(hr:PR E f):FE E (f+1):=by
 intro h0 h R l j X d top F c Q A G d5 hf m0 m1 k;unfold bE;refine jk ?_;nofun;refine gE ?_;nofun;refine rv (a:=(.lv (List.replicate 15 (D.int c)),_)) rfl ?_;nofun;refine rv (a:=(.lv ((List.replicate 15 c++[12]).map D.int),_)) rfl ?_;nofun;refine FU (λi=>1<=i/\i<=12) (by intro x N;simp at N;lia) (A.push (o:=.lst []) rfl) λi h2 hi A2=>?_;nofun;refine w_next (m:=i+1) A2 (by lia) (by exact XE hi.2 (by decide)) λm h3 Y n1 U=>?_;nofun;refine⟨m,rfl,by exact W4 (by decide) Y,by lia,?_⟩;obtain⟨e,rfl,b,U⟩:=A.pop U;refine cB (λi J S=>∃(t:List Row)(p:Nat)(T:Option D)(e:MH),J=[some (.ob E.s),some (.ob E.wd),some (.int j),some (.int d),some (.int top),some (.lv (F.map aL)),some (.int c),some (.ob h.length),T]/\S=e++[.lst (ck t)]/\e.length=h.length/\bH E.W X d t/\t.length<=i/\p+aX t=l/\Wb E h0 (R+100*p+2) p e)
  ⟨[],l,_,e,rfl,by rw[ck],b,by unfold bH;trivial,VG _,by simp[aX],U⟩ (λ_ _ _ _ _=>rfl) ?_ ?_
 ·rintro q x J S N ⟨t,p,T,e,rfl,rfl,b,g,u,O,y⟩;have hq:q < 12:=by
   have:=(Vz.mp N).1;simp at this
   lia
  have I:=y.push (o:=.lst (ck t)) (dP _ t);exists qt I.w;nofun;refine⟨_,rfl,λz=>?_,λz=>?_⟩
  ·obtain⟨M,rfl⟩:∃n,p=n+1:=⟨p-1,by have:=WT z;lia⟩;exists qt I.w;exists FT I.w _;rw[show((M+1:Nat):Int)-1=(M:Int) by simp];have A6:=I.set M;nofun;refine fT ?_;nofun;refine⟨bI (xs:=ck t) (by rw[Wn (by have:=y.lt;lia)];exact lH b),?_⟩;nofun;refine hr (R:=R+2) (A6.le (by lia)) G d5 (by exact WU hf) λr Z h6 L cr A7=>?_;obtain⟨P,rfl,H,A8⟩:=y.pop A7;nofun;have v:=H.trans b;refine rv (bL (lH v) (by rw[eP,Vy,show sizeLine=16777216 from rfl];lia)) ?_;rw[Gf v];nofun;have hcn:aX (t++[r])=aX t+cnt r:=by rw[z9];simp[aX]
   exact⟨t++[r],Z,_,P,rfl,by rw[eP,eP,VT];rfl,v,vA g (by unfold bH;exact⟨L,by unfold bH;trivial⟩),by simp;exact u,by lia,A8.le (by lia)⟩
  ·nofun;exact⟨t,p,_,e,rfl,rfl,b,g,by exact W6 u,O,y⟩
 ·rintro J S ⟨t,p,T,e,rfl,rfl,b,g,u,O,y⟩;rw[Vy,V2] at u;nofun;refine rv (a:=(.tup (ck t),e++[.lst (ck t)])) (by simp only[bJ,b9,lH b,Wt]) ?_;nofun;exact rv (jz b y.C (λn z=>(nomatch z)) (dP _ t)) (k t p e g (by lia) O (y.le (by lia)))
end
def JP:∀{f:List D} {b:DS} {h:MH} (J:List D->DS->MH->Prop),J [] b h->(∀c b h,J c b h->gR ws h=true)->
  (∀x c b h,x∈f->c.length < f.length->J c b h->Rn (g x b h) λq=>Rn (e q.1 q.2) λy=>J (c++[y.1]) q.1 y.2)->Rn (a8 ws g cj e f b h) λp=>p.1.length=f.length/\∃d,J p.1 d p.2:=by
 intro f
 induction f with
 | nil=>
  intro b h J i j _;unfold a8;rw[VE (j [] b h i)];exact⟨_,rfl,rfl,b,i⟩
 | cons x f n=>
  intro b h J i j ht;unfold a8;rw[VE (j [] b h i)];obtain⟨⟨m,s⟩,t,⟨y,w⟩,l,v⟩:=ht x [] b h VF (Yk _) i;obtain⟨⟨c,r⟩,k,a,d,u⟩:=n (λc=>J (y::c)) v (λc b h=>j (y::c) b h) λx c b h o hl=>ht x (y::c) b h (VD _ o) (Nat.succ_lt_succ hl);refine⟨(y::c,r),?_,congrArg Nat.succ a,d,u⟩;rw[t];dsimp only[Option.bind_some];show((some (true,s)).bind _)=_;dsimp only[Option.bind_some] at l k ⊢;rw[VE rfl,l];dsimp only[Option.bind_some];rw[k];rfl
def tq(f:α->D)(b a:List α)(h:MH)(hl:b.length+a.length<=1000):aT (.lv (b.map f)) (.lv (a.map f)) h=some (.lv ((b++a).map f),h):=by
 rw[VT];simp only[aT,BP,cL,VO,Vy];rw[VE (by rw[show sizeLine=16777216 from rfl];exact VJ hl (by decide))]
def QM(P:Prop)[Decidable P](e:Rn (t a h) λp=>p=(decide P,h))(c:P->Rn (x a h) Q)(b:¬P->Rn (y a h) Q):Rn (fS t x y a h) Q:=by
 refine GP (e.imp ?_);rintro _ rfl;exact⟨λz=>c (WT z),λz=>b (of_decide_eq_false z)⟩
def fz(P:Prop)[Decidable P](e:Rn (t a h) λp=>p=(decide P,h))(d:P->Rn (x a h) (qS b Q))(c:¬P->Rn (b a h) Q):Rn (aj (fS t x bW) b a h) Q:=
 jj (QM P e d λz=>⟨_,rfl,c z⟩)
def dT [Decidable P](p:P)(h:MH):(true,h)=(decide P,h):=by rw[Wa p]
def dF [Decidable P](p:¬P)(h:MH):(false,h)=(decide P,h):=by rw[V5 p]
section
variable {E:En} {f:Nat}
theorem vK{n:Nat}(e:FE E f){r h:MH}{R l j:Nat}{i:List Str}{d:Nat}{top:Int}{b:List Lock}{Q:List D×MH->Prop}
  (A:Wb E r (R+100*l+12) l h) (hn:n<=3) (G:Cd E.W j i d top b) (L:d < 5) (O:3*(5-d)<=f) (k:∀(a:List (List Row)) (c:Nat) (g:MH),a.length=n->(∀t∈a,t.length<=12/\bH E.W i (d+1) t)->c+(a.map aX).sum=l->Wb E r (R+100*c) c g->Q (a.map (λt=>D.tup (ck t)),g)):
  Rn (a8 [] (gN 0) Sm.cj (aq (bE f) (af (aP 4) (af (aP 6) (af (aP 1) (af (ak aT (aP 2) (eK (.int 1))) (af (aP 5) (af (aP 3) (af (eK (.int 2)) aY)))))))) ((List.range n).map λ(k:Nat)=>D.int k) [none,some (.int j),some (.int d),some (.lv (b.map aL)),some (.ob E.s),some (.int top),some (.ob E.wd)] h) Q:=by
 refine(JP (ws:=[]) (λC y g=>∃(v:Option D)(a:List (List Row)) (c:Nat),y=[v,some (.int j),some (.int d),some (.lv (b.map aL)),some (.ob E.s),some (.int top),some (.ob E.wd)]/\C=a.map (λt=>D.tup (ck t))/\(∀t∈a,t.length<=12/\bH E.W i (d+1) t)/\c+(a.map aX).sum=l/\Wb E r (R+100*c+(12-4*a.length)) c g) ⟨none,[],l,rfl,rfl,λ_ z=>(nomatch z),by simp,A⟩ (λ_ _ _ _=>rfl) ?_).imp ?_
 ·rintro x _ y g N o ⟨v,a,c,rfl,rfl,aZ,H,w⟩;rw[Vy,Vy,V2] at o;nofun;refine e (R:=R+(8-4*a.length)) (d:=d+1) (w.le (by lia)) G.deep L (by lia) (by decide) (by decide) λt J I m q P M=>?_;refine⟨_,a++[t],J,rfl,by rw[VT];rfl,λu z=>?_,by simp;lia,M.le (by rw[VM,YH];lia)⟩;rcases Wk.mp z with z | z
  ·exact aZ u z
  ·rw[VQ.mp z];exact⟨q,m⟩
 ·rintro⟨C,I⟩ ⟨p,_,v,a,c,_,F,aZ,H,w⟩;dsimp only at p F;subst F;rw[Vy,Vy,V2] at p;exact k a c I p aZ H (w.le (by simp))
theorem Nf(g:FE E f)(P:Jc E f)(N:PH E f):PR E (f+1):=by
 intro h0 h R l j ps d top Z Q A G d5 I k;have pl:=G.pl;have n1:=E.ok.n1;have n2:=E.ok.n2;have d2:=E.ok.d2;unfold fZ;refine br ?_;nofun;refine w_next (m:=16) A (by decide) (by decide) λw h1 w0 w1 o=>?_;refine fz (w < 2\/(d=5/\w < 11)) ?_ (λz=>?_) (λz=>?_)
 ·nofun;refine⟨_,rfl,λz=>?_,λz=>?_⟩
  ·have z:w < 2:=by simpa using z
   exact dT (.inl z) _
  ·have z:¬w < 2:=by simpa using z
   nofun;refine⟨_,rfl,λy=>?_,λy=>?_⟩
   ·have y0:(d:Int)=5:=by simpa using y
    have y:d=5:=by lia
    nofun;refine⟨_,rfl,?_⟩;rw[show decide (w < 11)=decide (w < 2\/(d=5/\w < 11)) from decide_eq_decide.mpr (by lia)]
   ·have y0:(d:Int)≠5:=by simpa using y
    have y:d≠5:=by lia
    exact dF (by lia) _
 ·exists dE o.w;exists dG o.w;exists tq D.str E.W.names E.W.ag _ (by lia);nofun;refine P8 (xs:=(E.W.names++E.W.ag).map D.str) o (.inl rfl) (by simp;lia) (by simp;lia) λx i q b=>?_;obtain⟨H,s,rfl⟩:=V7.mp q;nofun;rw[show D.tup [.str "say",.str H]=aM (.say H) by rw[aM]];exact k (.say H) l i (by unfold bh;exact s) (by rw[cnt]) (b.le (by lia))
 have nd:d=5->11<=w:=by lia
 have w2:2<=w:=by lia
 refine fz (12 < w\/d=5) ?_ (λz=>?_) (λz=>?_)
 ·nofun;refine⟨_,rfl,λy=>?_,λy=>?_⟩
  ·have y:12 < w:=by simpa using y
   exact dT (.inl y) _
  ·have y:¬12 < w:=by simpa using y
   nofun;refine⟨_,rfl,?_⟩;rw[show((d:Int)==5)=decide (12 < w\/d=5) by
    rw[Xa];simp only[Xs,Wz];lia]
 ·nofun;refine MB (R:=R+100*l) (o.le (by simp)) G λr i c p b=>?_;nofun;exact k r l i (c d) (by rw[p]) b
 have u:d < 5:=by lia
 refine fz (w=12/\d < 3/\5 < (l:Int)) ?_ (λz=>?_) (λz=>?_)
 ·nofun;refine⟨_,rfl,λy=>?_,λy=>?_⟩
  ·have y:w=12:=by simpa using y
   nofun;refine⟨_,rfl,λx=>?_,λx=>?_⟩
   ·have T:(d:Int) < 3:=by simpa using x
    have x:d < 3:=by exact Yo.mp T
    exists qt o.w;nofun;refine⟨_,rfl,?_⟩;rw[show decide (5 < (l:Int))=decide (w=12/\d < 3/\5 < (l:Int)) from decide_eq_decide.mpr (by lia)]
   ·have T:¬(d:Int) < 3:=by simpa using x
    have x:¬d < 3:=by lia
    exact dF (by lia) _
  ·have y:w≠12:=by simpa using y
   exact dF (by clear y z;lia) _
 ·nofun;refine N (R:=R) (o.le (by simp)) G z.2.1 (by exact Yo.mp z.2.2) (by exact WU I) λr C i c p b=>?_;nofun;exact k r C i c p b
 refine fz (w=11\/w=12) ?_ (λz=>?_) (λz=>?_)
 ·nofun;refine⟨_,rfl,λy=>?_,λy=>?_⟩
  ·have y:w=11:=by simpa using y
   exact dT (.inl y) _
  ·have y:w≠11:=by simpa using y
   nofun;refine⟨_,rfl,?_⟩;rw[show(w==12)=decide (w=11\/w=12) by rw[Xa];simp only[Xs,Wz];lia]
 ·show Rn (aj _ _ _ _) _;exists cN o.w;exists cg G.hp;nofun;refine wq o pl λX i L b=>?_;exists cN b.w;exists cg G.hp;nofun;refine wq b pl λU h3 J S=>?_;nofun;refine⟨_,_,rfl,?_⟩;nofun;refine gE ?_;nofun;refine⟨3,rfl,by lia,by lia,?_⟩;refine vK (n:=3) (R:=R) g (S.le (by simp)) (by lia) G u (by exact WU I) λe l4 h4 hn aZ p A4=>?_
  match e,hn with
  | [x,y,v],_=>
   refine⟨by show 3<=sizeLine;decide,?_⟩;nofun;refine rv (a:=(.tup [.tup (ck x),.tup (ck y),.tup (ck v)],_)) rfl ?_;nofun;refine rv (a:=(aM (.Ah X U x y v),_)) (by rw[aM];rfl) ?_;nofun;simp only[VL,Yl,Aan,List.sum_nil] at p;have q:=aZ x (by simp);have F:=aZ y (by simp);have Y:=aZ v (by simp);exact k (.Ah X U x y v) l4 h4 (by unfold bh;exact⟨L,J,u,q.1,F.1,Y.1,q.2,F.2,Y.2⟩) (by rw[cnt];lia) A4
 refine fz (w=10) ?_ (λz=>?_) (λz=>?_)
 ·nofun;refine⟨_,rfl,?_⟩;rw[show(w==10)=decide (w=10) by rw[Xa];simp only[Xs,Wz]]
 ·nofun;refine gE ?_;nofun;refine⟨2,rfl,by lia,by lia,?_⟩;refine vK (n:=2) (R:=R) g (o.le (by simp)) (by lia) G u (by exact WU I) λe C i hn aZ p b=>?_
  match e,hn with
  | [x,y],_=>
   refine⟨by show 2<=sizeLine;decide,?_⟩;nofun;refine rv (a:=(.tup [.tup (ck x),.tup (ck y)],_)) rfl ?_;nofun;refine rv (a:=(aM (.either x y),_)) (by rw[aM];rfl) ?_;nofun;simp only[VL,Yl,Aan,List.sum_nil] at p;have q:=aZ x (by simp);have F:=aZ y (by simp);exact k (.either x y) C i (by unfold bh;exact⟨u,q.1,F.1,q.2,F.2⟩) (by rw[cnt];lia) b
 refine fz (w=9) ?_ (λz=>?_) (λz=>?_)
 ·nofun;refine⟨_,rfl,?_⟩;rw[show(w==9)=decide (w=9) by rw[Xa];simp only[Xs,Wz]]
 ·nofun;refine g (R:=R) (d:=d+1) (o.le (by simp)) G.deep u (by clear z;lia) (by decide) (by decide) λt C i M O p b=>?_;nofun;rw[show D.tup [.str "again",.tup (ck t)]=aM (.again t) by rw[aM]];exact k (.again t) C i (by unfold bh;exact⟨u,O,M⟩) (by rw[cnt];lia) b
 nofun;refine P8 (xs:=[Str.ofString "within",Str.ofString "within",Str.ofString "within",Str.ofString "within",Str.ofString "ask",Str.ofString "all"].map D.str) o (.inl rfl) (by simp) (by simp) λx i q b=>?_;obtain⟨H,s,rfl⟩:=V7.mp q;nofun;refine P (R:=R) (b.le (by simp)) G u (by exact WU I) (by simp at s ⊢;assumption) λr l3 h3 c p S=>?_;nofun;exact k r l3 h3 c p S
end
def fh(t:Lock):PyData:=.tuple [.str t.1,qT t.2]
def GX(t:Term):jm (bj t)=some (qT t):=by simp only[bj,jm,gc,VO,Wt];rfl
def yZ(t:Lock):jm (aL t)=some (fh t):=by simp only[aL,jm,gc,GX,VO,Wt];rfl
theorem om:∀a:List Lock,gc (a.map aL)=some (a.map fh)
 | []=>rfl
 | c::r=>by simp only[VL,gc,om r,yZ,VO,Wt]
theorem gr:∀a:List Lock,PyData.depthAll (a.map fh)<=2
 | []=>by simp[PyData.depthAll]
 | c::r=>by
  have:=gr r;simp only[VL,PyData.depthAll,fh,qT,PyData.depth]
  lia
def xG{h:MH}{n:Nat}{ls:List Lock}(x:Lock)(e:h[n]?=some (.lst (ls.map aL))):oF (aL x) (.ob n) h=some (.bl (!(ls.map fh).any λb=>PyData.eqv b (fh x)),h):=by
 have d:=gr ls;have c:=gr [x];have a:(fh x).depth<=60:=by
  simp only[VL,Yl,PyData.depthAll] at c
  lia
 unfold oF inD;simp only[cc,e];show((b9 (.ob n) h).bind _).map _=_;simp only[b9,e,VO,om];show(((ye h (aL x)).bind _).map _)=_;rw[show ye h (aL x)=some (fh x) from yZ x];dsimp only[Option.bind_some];rw[VE ⟨a,by exact VJ d (by decide)⟩];rfl
def NF(r:Rn (f c h) λp=>Rn (e c p.2) λq=>∃b a,cL p.1 q.2=some b/\cL q.1 q.2=some a/\b.length+a.length<=sizeLine/\Q (b++a,q.2)):Rn (PF f e c h) Q:=
 aS (r.imp λp r=>aS (r.imp λq d=>by obtain⟨b,a,j,i,hl,g⟩:=d;exact⟨_,by rw[j];dsimp only[Option.bind_some];rw[i];dsimp only[Option.bind_some];rw[VE hl],g⟩))
def BH(hl:a.length=h.length)(C:Cl a)(c:∀n,d≠.ob n)(b:fD h.length d=true):leave h d a=some (d,a):=by
 have:=jz (g:=[]) hl C c b
 rwa [Wl] at this
def Il(x:Lock):PyData.eqv (fh x) (fh x)=true:=by
 simp[fh,qT,PyData.eqv,PyData.eqvAll]
def JI(r:Row)(n:Nat):aM r≠.ob n:=by cases r <;> rw[aM] <;> exactλz=>(nomatch z)
def Wb.ext(A:Wb E h0 R l h)(C:Cl (h++g)):Wb E (h++g) R l (h++g):=⟨A.S.more _,by rw[VW A.lt.2.2];exact A.w,C,gg.refl _ _ _⟩
def GR(b:gg E.s E.wd h0 h)(k:Jd E h0 R l f d Q)(r:Row)(ok:bh E.W f d r)(i:a+cnt r=l+1)(A:Wb E h (R+100*a) a c)(e:aM r=x):Rn (leave h x (c++g)) Q:=
 ⟨_,e ▸ jz A.b.1 A.C (JI r) (oK _ r),k r a c ok i (A.tr b)⟩
def wY(b:gg E.s E.wd h0 h)(k:Jd E h0 R l c d Q)(r:Row)(ok:bh E.W c d r)(f:a+cnt r=l+1)(A:Wb E h (R+100*a) a i)(e:aM r=x):Rn (leave h x i) Q:=by
 have:=GR (g:=[]) b k r ok f A e
 rwa [Wl] at this
section
variable {E:En} {f:Nat}
theorem EN(I:FE E f):Jc E (f+1):=by
 intro h0 h R l j ps d top m c Q A G Z hf hw k;obtain⟨dj,hdj⟩:∃f,E.W.ag[j]?=some f:=⟨_,VI G.hj⟩;have hl:=G.hl;have ht:=G.ht;have b0:=A.b;replace A:=A.here;unfold c9;refine jk ?_;nofun;refine FV A G (by exact WD Z) (λk1 lk h1 hmx k0 k2 N A1=>?_) λh1 _ A1=>?_
 ·nofun;refine rv (a:=(.bl false,_)) rfl ⟨_,rfl,λz=>(nomatch z),λ_=>?_⟩;refine⟨_,rfl,?_⟩;show Rn (aj _ _ _ _) _;refine fz (c=Str.ofString "all") ?_ (λz=>?_) (λz=>?_)
  ·nofun;refine⟨_,rfl,?_⟩;rw[show(c==Str.ofString "all")=decide (c=Str.ofString "all") by rw[Xa];simp only[Xs,Wz]]
  ·show Rn (aj _ _ _ _) _;nofun;refine⟨_,_,rfl,?_⟩;nofun;refine gE ?_;nofun;refine FU (is:=[1,1,2,3]) (λi=>1<=i/\i<=3) (by decide) (A1.push (o:=.lst [aL lk]) rfl) λi h2 hi A2=>?_;obtain⟨hb2,rfl,e2,A2'⟩:=A1.pop A2;nofun;refine⟨i,rfl,by exact W4 (by decide) hi.1,by exact XE hi.2 (by decide),?_⟩;refine cB (λi δ h'=>∃(ls:List Lock)(hi:Int)(n:Nat)(U T S:Option D)(p g:MH),δ=[some (.ob E.s),some (.ob E.wd),some (.int j),some (.int d),some (.int top),some (.lv (m.map aL)),some (.str c),some (.int k1),some (aL lk),some (.ob n),some (.int hi),U,T,S,none]/\h'=p++g/\h'[n]?=some (.lst (ls.map aL))/\h.length<=n/\lk∈ls/\ls.Nodup/\(∀x∈ls,fg E.W ps x)/\ls.length<=i+1/\0<=hi/\hi < E.W.names.length/\Wb E h (R+100*l+(80-10*i)) l p/\Cl (p++g))
    ⟨[lk],k1,h1.length,none,none,none,hb2,[.lst [aL lk]],rfl,rfl,lH e2,by rw[A1.b.1];exact VG _,by simp,by simp,by simpa using N,VG _,k0,k2,A2'.le (by simp),A2.C⟩ (λ_ _ _ _ _=>rfl) ?_ ?_
   ·rintro q x δ h' O ⟨ls,Y,n,U,T,S,p,g,rfl,rfl,hn,hnl,P,nd,aZ,J,hi0,hi1,L,C3⟩;have hq:q < 3:=by
     have:=(Vz.mp O).1;simp at this
     lia
    nofun;refine FV (R:=R+100*l+(80-10*(q+1))) ((L.ext C3).le (by lia)) G (by lia) (λk4 e h4 _ k40 k41 okk4 A4=>?_) λh1 z4 _=>absurd z4 (by lia)
    ·have hn4:h4[n]?=some (.lst (ls.map aL)):=by
      have:=A.lt;rw[A4.b.2 n (by lia) (by lia)];exact hn
     obtain⟨u,rfl,e4,A4'⟩:=L.pop A4;exists kd _ _ _;nofun;refine NF ?_;exists xG e hn4;obtain⟨us,v,hv,hus,husl,hnd,hokk⟩:∃(us:List Lock)(v:Int),zV [.bl (!(ls.map fh).any λb=>PyData.eqv b (fh e))] (u++g)=some (.int v,u++g)/\K5 (.lv [aL e]) (.int v) (u++g)=some (.lv (us.map aL),u++g)/\us.length<=1/\(ls++us).Nodup/\∀x∈ls++us,fg E.W ps x:=by
      cases hb0:((ls.map fh).any λb=>PyData.eqv b (fh e)) with
      | true=>exact⟨[],0,rfl,rfl,by simp,by simpa using nd,by simpa using aZ⟩
      | false=>
       have hnot:e∉ls:=λz=>by
        rw[List.any_eq_false] at hb0;exact hb0 (fh e) (List.mem_map_of_mem z) (Il e)
       refine⟨[e],1,rfl,rfl,by simp,?_,?_⟩
       ·rw[Y0];refine⟨nd,by simp,λx O y hy z=>hnot ?_⟩;rw[VQ.mp hy] at z;rw[<-z];exact O
       ·intro x O;rcases Wk.mp O with z | z
        ·exact aZ x z
        ·rw[VQ.mp z];exact okk4
     exists hv;exists hus;refine⟨ls.map aL,us.map aL,by simp only[cL,hn4],rfl,by rw[Vy,Vy,show sizeLine=16777216 from rfl];lia,?_⟩;refine⟨ls++us,max Y k4,(u++g).length,_,_,_,u,g++[.lst ((ls++us).map aL)],rfl,by rw[VT];exact Wg _ _ _,by rw[VT];simp,?_,Zw _ P,hnd,hokk,by simp;lia,by lia,by lia,A4',?_⟩
     ·have:=A4'.b.1;rw[VM];lia
     ·rw[<-Wg];exact A4.C.snoc (o:=.lst _) (eC _ _ (qN _) _)
   ·rintro δ h' ⟨ls,Y,n,U,T,S,p,g,rfl,rfl,hn,hnl,P,nd,aZ,J,hi0,hi1,L,C3⟩;rw[Vy,V2] at J L;replace L:=L.le (R':=R+100*l+10) (by lia);show Rn (aj _ _ _ _) _;refine jj ?_;refine Rn.imp (Q:=λr=>∃(ls:List Lock)(g:MH),r=(Fl.nx,[some (.ob E.s),some (.ob E.wd),some (.int j),some (.int d),some (.int top),some (.lv (m.map aL)),some (.str c),some (.int k1),some (aL lk),some (.ob n),some (.int Y),U,T,S,none],p++g)/\(p++g)[n]?=some (.lst (ls.map aL))/\2<=ls.length/\ls.length<=4/\ls.Nodup/\(∀x∈ls,fg E.W ps x)/\Cl (p++g)) ?_ ?_
    ·exists DC hn;nofun;refine⟨_,rfl,λz=>?_,λz=>?_⟩
     ·have z:ls.length=1:=by
       have:((ls.map aL).length:Int)=1:=by simpa using z
       rw[Vy] at this
       lia
      obtain⟨x0,rfl⟩:∃x0,ls=[x0]:=X4.mp z;obtain rfl:lk=x0:=VQ.mp P;obtain⟨nm,wo,F⟩:=lk;have H:=aZ _ (VQ.mpr rfl);nofun;refine fT ?_;nofun;refine⟨bI hn,?_⟩;nofun;refine rv (a:=(.str nm,_)) rfl ?_;nofun;refine rv (a:=(bj (wo,F),_)) rfl ?_;nofun;refine rv (a:=(.str wo,_)) rfl ?_;nofun;refine rv (a:=(bj (wo,F),_)) rfl ?_;nofun;refine rv (a:=(.int F,_)) rfl ?_;nofun;refine rv (a:=(bj (wo,F),_)) rfl ?_;nofun;refine rv (a:=(.int F,_)) rfl ?_;nofun;obtain⟨v,hv,hm,v1,v0⟩:∃v:Int,zV [.bl (decide (90 < F))] (p++g)=some (.int v,p++g)/\jF (.int 2) (.int v) (p++g)=some (.int (2*v),p++g)/\(90 < F->v=1)/\(¬90 < F->v=0):=by
       by_cases z:90 < F
       ·exact⟨1,by rw[Wa z];rfl,rfl,λ_=>rfl,λy=>absurd z y⟩
       ·exact⟨0,by rw[V5 z];rfl,rfl,λy=>absurd y z,λ_=>rfl⟩
      refine rv hv ?_;exists hm;exists bL hn (by rw[Vy,show sizeLine=16777216 from rfl];simp);nofun;have hlen:=L.b.1;rw[XG _ _ (by lia)];have X:=H.2;have okn:=H.1;dsimp only at okn;unfold en at X;dsimp only at X;have hvv:v=0\/v=1:=by by_cases z:90 < F <;> lia
      refine⟨[(nm,wo,F),(nm,wo,F+1-2*v)],_,rfl,?_,by simp,by simp,?_,?_,?_⟩
      ·rw[VY (by lia),Wy]
       ·rfl
       ·have:=(Vz.mp hn).1;rw[VM] at this
        lia
      ·simp;lia
      ·intro x O;rcases VS.mp O with rfl | O
       ·exact H
       ·rw[VQ.mp O];exact⟨okn,X.1,by dsimp only;lia,by dsimp only;lia⟩
      ·rw[<-XG _ _ (by lia)];exact C3.set (o:=.lst _) rfl
     ·have z:ls.length≠1:=by
       have:((ls.map aL).length:Int)≠1:=by simpa using z
       rw[Vy] at this
       lia
      have:0 < ls.length:=AaG P;exact⟨_,rfl,ls,g,rfl,hn,by lia,by lia,nd,aZ,C3⟩
    rintro _ ⟨ls,g,rfl,hn,l2,l4,nd,aZ,C4⟩;have A4:=L.ext C4;show Rn (aj _ _ _ _) _;exists AA A4.w;nofun;obtain⟨v,hv,v0,v1⟩:∃v:Int,zV [.bl (E.odd==0)] (p++g)=some (.int v,p++g)/\0<=v/\v<=1:=by
     cases E.odd==0
     ·exact⟨0,rfl,by lia,by lia⟩
     ·exact⟨1,rfl,by lia,by lia⟩
    refine rv hv ?_;nofun;refine rv (a:=(.tup (ls.map aL),_)) (by simp only[bJ,b9,hn,Wt];rfl) ?_;exists kd _ _ _;nofun;refine rv (a:=(.lv ((m++ls).map aL),_)) (by
     rw[VT];simp only[aT,BP,cL,hn,VO,Vy];rw[VE (by rw[show sizeLine=16777216 from rfl];lia)]) ?_
    nofun;refine I (R:=R) (d:=d+1) (A4.le (by simp)) (G.more (n:=1) (by lia) (by lia) aZ) Z (by lia) (by decide) (by decide) λt l5 h5 M hll5 cr A5=>?_;obtain⟨hb5,rfl,_,A5'⟩:=L.pop A5;nofun;exact GR b0 k (.all ls t) (by unfold bh;exact⟨⟨l2,l4,nd,aZ⟩,Z,hll5,M⟩) (by rw[cnt];lia) A5' (by rw[aM])
  refine jj ?_;exists kd _ _ _;exists tq aL m [lk] _ (by simp;lia);nofun;refine I (R:=R+10) (d:=d+1) (A1.le (by lia)) (G.more (n:=1) (ls:=[lk]) (by clear hmx;lia) (by simp) (by simpa using N)) Z (by lia) (by decide) (by decide) λt l2 h2 M J cr A2=>?_;refine Rn.imp (Q:=_) (fz (c=Str.ofString "ask") ?_ (λz=>?_) (λz=>?_)) λ_ z=>z
  ·nofun;refine⟨_,rfl,?_⟩;rw[show(c==Str.ofString "ask")=decide (c=Str.ofString "ask") by rw[Xa];simp only[Xs,Wz]]
  ·nofun;refine I (R:=R) (d:=d+1) (A2.le (by lia)) G.deep Z (by lia) (by decide) (by decide) λt3 l3 h3 okl3 hll3 cr3 L=>?_;nofun;exact wY b0 k (.ask lk t t3) (by unfold bh;exact⟨N,Z,J,hll3,M,okl3⟩) (by rw[cnt];lia) L (by rw[aM])
  ·nofun;exact wY b0 k (.within lk t) (by unfold bh;exact⟨N,Z,J,M⟩) (by rw[cnt];lia) (A2.le (by lia)) (by rw[aM])
 ·nofun;refine rv (a:=(.bl true,_)) rfl ⟨_,rfl,λ_=>?_,λz=>(nomatch z)⟩;exists dG A1.w;exists cg hdj;nofun;exact wY b0 k (.say dj) (by unfold bh;exact Wf _ (VC hdj)) (by rw[cnt]) (A1.le (by lia)) (by rw[aM])
end
def BM(a:List Lock)(h:MH):jE (.lv (a.map aL)) (.lv []) h=some (.bl (!a.isEmpty),h):=by
 have:=gr a;simp only[jE,Jk,cc,Jj,ye,om,jm,gc,Wt,VO];rw[VE ⟨show PyData.depthAll _+1<=64 by exact Wr this (by decide),by decide⟩];cases a <;> rfl
section
variable {E:En}
theorem MJ{f:Nat}(hlot:FE E f):PH E (f+1):=by
 intro h0 h R l j ps d top p Q A G d3 l5 hf k;have pl:=G.pl;have hl:=G.hl;have ht:=G.ht;have b0:=A.b;replace A:=A.here;obtain⟨dj,S⟩:∃f,E.W.ag[j]?=some f:=⟨_,VI G.hj⟩;obtain⟨fj,hfj⟩:∃f,E.fl[j]?=some f:=⟨_,VI (by rw[E.ok.UA];exact G.hj)⟩;have hfm:=E.ok.f0 fj (VC hfj);have J:Rn (leave h (.tup [.str "say",.str dj]) h) Q:=wY b0 k (.say dj) (by unfold bh;exact Wf _ (VC S)) (by rw[cnt]) (A.le (by lia)) (by rw[aM]);unfold cq;refine jk ?_;exists nO A.w;exists cg hfj;exists kd top fj h;have lo0:0<=max top fj:=by lia
 have lo1:max top fj<=E.W.names.length:=by lia
 generalize max top fj=lo at lo0 lo1 ⊢;refine fz (lo=E.W.names.length) ?_ (λz=>?_) (λz=>?_)
 ·exists dE A.w;nofun;refine⟨_,rfl,?_⟩;rw[Vy,show(lo==(E.W.names.length:Int))=decide (lo=E.W.names.length) by rw[Xa];simp only[Xs,Wz]]
 ·exists dG A.w;exists cg S;nofun;exact J
 obtain⟨kn,rfl⟩:=Xy lo0;have hkn:kn < E.W.names.length:=by lia
 obtain⟨nm,O⟩:∃f,E.W.names[kn]?=some f:=⟨_,VI hkn⟩;refine jj ?_;nofun;refine dm ?_;nofun;refine⟨_,_,rfl,?_⟩;obtain⟨⟨ys,h4⟩,e4,hyl,hym,δ4,hh4,_⟩:=w5 (ws:=[]) (g:=gN 0) (c:=ay (ak b6 (ak aB (aP 0) (eK (.int 0))) (ak aB (ak aB (aP 2) (eK (.str "names"))) (aP 1)))) (e:=aP 0) (λx y=>∃l∈p,y=aL l)
  (xs:=p.map aL) (δ:=[none,some (.int kn),some (.ob E.wd)]) (h:=h) (λj δ h'=>h'=h/\∃d0,δ=[d0,some (.int kn),some (.ob E.wd)]) ⟨rfl,_,rfl⟩ (λ_ _ _ _ _=>rfl) (by
   rintro i x δ h' H ⟨rfl,d0,rfl⟩;obtain⟨l,hl,rfl⟩:=V7.mp (VC H);nofun;refine rv (a:=(.str l.1,_)) rfl ?_;exists dE A.w;exists cg O;nofun;refine⟨_,rfl,λ_=>?_,λ_=>⟨rfl,_,rfl⟩⟩;nofun;exact⟨⟨l,hl,rfl⟩,rfl,_,rfl⟩)
 dsimp only at hh4;subst hh4;refine rv e4 ⟨VJ hyl (by rw[Vy,show sizeLine=16777216 from rfl];lia),?_⟩;obtain⟨ts,rfl⟩:∃ts:List Lock,ys=ts.map aL:=by
  clear e4 hyl
  induction ys with
  | nil=>exact⟨[],rfl⟩
  | cons y r ih=>
   obtain⟨js,rfl⟩:=ih λz hz=>hym z (VD _ hz);obtain⟨x,H,l,hl,rfl⟩:=hym y VF;exact⟨l::js,rfl⟩
 nofun;refine rv (BM ts _) ⟨_,rfl,λz=>?_,λz=>?_⟩
 ·exists dG A.w;exists cg S;nofun;exact J
 exists dE A.w;exists cg O;exists qt A.w;exists FT A.w _;rw[show(l:Int)-5=((l-5:Nat):Int) by lia];have A1:=A.set (l-5);generalize h4.set E.wd (nM E.W E.fl ((l-5:Nat):Int) E.odd)=h5 at A1 ⊢;exists cN A1.w;exists cg G.hp;nofun;refine wq A1 pl λt1 h2 F A2=>?_;exists cN A2.w;exists cg G.hp;nofun;refine wq A2 pl λt2 h3 L A3=>?_;nofun;refine⟨_,_,rfl,?_⟩;nofun;refine dm ?_;nofun;refine⟨_,_,rfl,?_⟩;have C:=A3.b.1;have q:=VC O;refine cB (λi δ h'=>∃(m:List Row)(l':Nat)(Y X U:Option D)(T:MH),δ=[some (.ob E.s),some (.ob E.wd),some (.int j),some (.int d),some (.int top),some (.lv (p.map aL)),some (.int kn),some (.str nm),some (bj t1),some (bj t2),some (.ob h3.length),Y,X,U]/\h'=T++[.lst (m.map λr=>.tup [aM r])]/\m.length=i/\(∀r∈m,bh E.W ps (d+1) r)/\l'+(m.map cnt).sum+5=l+2*i/\Wb E h4 (R+100*l'+(8-4*i)) l' T)
  ⟨[],l-5,_,_,_,h3,rfl,rfl,rfl,λ_ z=>(nomatch z),by simp;lia,A3.le (by lia)⟩ (λ_ _ _ _ _=>rfl) ?_ ?_
 ·rintro i x δ h' H ⟨m,l',Y,X,U,T,rfl,rfl,N,I,hc,A6⟩;have hi:i < 2:=(Vz.mp H).1;obtain⟨u,v,rfl,uk,vk⟩:∃u v:Term,x=.tup [bj u,bj v]/\en ps u/\en ps v:=by
   rcases VS.mp (VC H) with rfl | H
   ·exact⟨t1,t2,rfl,F,L⟩
   ·rw[VQ.mp H];exact⟨t2,t1,rfl,L,F⟩
  have hlb:T.length=h3.length:=A6.b.1.trans C.symm;generalize M:m.map (λr=>D.tup [aM r])=rs;have hcl:cC (T.length+1) rs=true:=by rw[<-M];exact eC _ _ (λr=>by show(fD _ (aM r)&&true)=true;rw[oK];rfl) m
  exists tq aL p [(nm,u),(nm,v)] _ (by simp;lia);nofun;refine hlot (R:=R+(8-4*(i+1))) (d:=d+3) ((A6.push (o:=.lst rs) hcl).le (by lia)) (G.more (n:=3) (ls:=[(nm,u),(nm,v)]) lo1 (by simp) (by
   intro x H;rcases VS.mp H with rfl | z
   ·exact⟨q,uk⟩
   ·rw[VQ.mp z];exact⟨q,vk⟩)) (by lia) (by lia) (by decide) (by decide) λt l7 h7 okl hll cr A7=>?_
  obtain⟨hb7,rfl,e7,A7'⟩:=A6.pop A7;have P:=e7.trans hlb;nofun;refine fT ?_;nofun;refine⟨bI (lH P),?_⟩;exists bL (lH P) (by rw[<-M,Vy,show sizeLine=16777216 from rfl];lia);rw[Gf P];nofun;have hcn:((m++[Row.within (nm,u) [Row.within (nm,v) t]]).map cnt).sum=(m.map cnt).sum+(2+aX t):=by
   rw[VT,Z2];simp[cnt,aX]
   lia
  refine⟨m++[.within (nm,u) [.within (nm,v) t]],l7,_,_,_,hb7,rfl,?_,by simp[N],?_,by rw[hcn];lia,A7'.le (by lia)⟩
  ·rw[VT,M];simp[aM,ck,aL]
  ·intro r hr;rcases Wk.mp hr with z | z
   ·exact I r z
   ·rw[VQ.mp z];simp only[bh,bH];exact⟨⟨q,uk⟩,by exact Wr d3 (by decide),by simp,⟨⟨q,vk⟩,by lia,hll,okl⟩,trivial⟩
 ·rintro δ h' ⟨m,l',Y,X,U,T,rfl,rfl,N,I,hc,A6⟩
  match m,N with
  | [r0,Z],_=>
   have hc:l'+(([r0,Z]:List Row).map cnt).sum+5=l+2*2:=hc;have hat:(T++[MO.lst [.tup [aM r0],.tup [aM Z]]])[h3.length]?=some (.lst [.tup [aM r0],.tup [aM Z]]):=lH (A6.b.1.trans C.symm);show Rn _ _;exists jG hat (d:=.tup [aM r0]) rfl;exists jG hat (d:=.tup [aM Z]) rfl;nofun;refine GR b0 k (.Ah t1 t2 [r0] [.within (nm,t1) []] [Z]) ?_ ?_ (A6.le (by exact VG _)) (by simp[aM,ck,aL])
   ·simp only[bh,bH];exact⟨F,L,by exact VX d3 (by decide),by simp,by simp,by simp,⟨I r0 (by simp),trivial⟩,⟨⟨⟨q,F⟩,by exact Wr d3 (by decide),by simp,trivial⟩,trivial⟩,⟨I Z (by simp),trivial⟩⟩
   ·simp[cnt,aX] at hc ⊢;lia
theorem ring:∀f,FE E f/\PR E f/\Jc E f/\PH E f
 | 0=>⟨λ_ _ _ z=>absurd z (by lia),λ_ _ _ z=>absurd z (by lia),λ_ _ e z=>absurd z (by lia),λ_ _ e _ z=>absurd z (by lia)⟩
 | f+1=>let⟨a,b,c,d⟩:=ring f;⟨BF b,Nf a c d,EN a,MJ a⟩
end
theorem qJ{P:Int->Prop}:∀{zs:List D},(∀y∈zs,∃i,y=.int i/\P i)->∃a:List Int,zs=a.map D.int/\∀j∈a,P j
 | [],_=>⟨[],rfl,λ_ z=>(nomatch z)⟩
 | y::r,h=>by
  obtain⟨a,rfl,q⟩:=qJ (zs:=r) λz b=>h z (VD _ b);obtain⟨i,rfl,p⟩:=h y VF;exact⟨i::a,rfl,λj hj=>by
   rcases VS.mp hj with rfl | hj
   ·exact p
   ·exact q j hj⟩
def E8(f:α->D)(a:List α)(k:Nat)(h:MH):td (.lv (a.map f)) none (some (k:Int)) h=some (.lv ((a.take k).map f),h):=by
 show some (D.lv (cutD (a.map f) none (some (k:Int))),h)=_;unfold cutD;rw[HT.yM,HT.JG,Zy,Nat.sub_zero,Vy,<-Aao]
 by_cases z:k<=a.length
 ·rw[X7 z]
 ·rw[Nat.min_eq_right (by lia),YC (VG _),YC (by lia)]
def Lp{h O:MH}{s c R:Nat}{cs:List Int}{m odd:Int}{Q:D×MH->Prop}(A:Sb s c cs O (R+80) h)(o0:0<=odd)(o1:odd<=1000)(k:∀(W:Wd)(fl:List Int)(Z:MH),Cf W fl odd->Sb s c cs O R Z->Q (.ob Z.length,Z++[nM W fl m odd])):Rn (iI [.ob s,.int m,.int odd] h) Q:=by
 refine br ?_;nofun;refine jI (is:=[1,2,2,3,4,6]) (λi=>1<=i/\i<=6) (by decide) A λn1 h1 I _ A1=>?_;nofun;refine xX A1 (by exact AaI I.1) I.2 λns h2 nl nk U A2=>?_;nofun;refine jI (is:=[1,1,2,2,3,4,6]) (λi=>1<=i/\i<=6) (by decide) A2 λn2 h3 H _ A3=>?_;nofun;refine xX A3 (by exact AaI H.1) H.2 λC h4 dl dk dnd A4=>?_;nofun;refine xX A4 (by lia) (by lia) λo h5 pl pk T A5=>?_;nofun;refine dm ?_;nofun;refine⟨_,_,rfl,?_⟩;obtain⟨⟨ys,h6⟩,e6,a6,δ6,_,S⟩:=qC (ws:=[]) (g:=gN 0) (e:=aq aF (af (aP 1) (af (eK (.lv [.int 0,.int 1,.int 1,.int 2,.int 2,.int 3])) aY))) (λ_ y=>∃i,y=.int i/\0<=i/\i<=3)
  (xs:=C.map D.str) (δ:=[none,some (.ob s)]) (h:=h5) (λi δ M=>(∃u,δ=[u,some (.ob s)])/\Sb s c cs O (R+18-i) M) ⟨⟨_,rfl⟩,A5⟩ (λ_ _ _ _ _=>rfl) (by
   rintro i x δ M F ⟨⟨u,rfl⟩,S⟩;have Y:i < 6:=by
    have:=(Vz.mp F).1;rw[Vy] at this
    lia
   nofun;exact jI (R:=R+18-(i+1)) (is:=[0,1,1,2,2,3]) (λi=>0<=i/\i<=3) (by decide) (S.le (by lia)) λi t Y _ E=>⟨⟨i,rfl,Y⟩,⟨_,rfl⟩,E⟩)
 have l6:=a6.length;obtain⟨j,rfl,v⟩:=qJ (P:=λi=>0<=i/\i<=3) λy X=>(let⟨_,_,r⟩:=a6.right y X;r);dsimp only at l6;rw[Vy,Vy] at l6;rw[Vy] at S;refine rv e6 ⟨by dsimp only;rw[Vy,show sizeLine=16777216 from rfl];lia,?_⟩;nofun;refine dm ?_;nofun;refine⟨_,_,rfl,?_⟩;obtain⟨⟨ys,t⟩,e7,a7,δ7,_,E⟩:=qC (ws:=[]) (g:=gN 0) (e:=aq aH (af (aP 2) (af (aq cM (af (aP 1) aY)) aY))) (λ_ y=>∃i,y=.int i/\0<=i/\i < ns.length)
  (xs:=C.map D.str) (δ:=[none,some (.lv (ns.map D.str)),some (.ob s)]) (h:=h6) (λi δ M=>(∃u,δ=[u,some (.lv (ns.map D.str)),some (.ob s)])/\Sb s c cs O (R+12-i) M) ⟨⟨_,rfl⟩,S.le (by lia)⟩ (λ_ _ _ _ _=>rfl) (by
   rintro i x δ M F ⟨⟨u,rfl⟩,E⟩;have Y:i < 6:=by
    have:=(Vz.mp F).1;rw[Vy] at this
    lia
   nofun;rw[Vy];exact du (R:=R+12-(i+1)) (E.le (by clear E F;lia)) (by lia) (by lia) λr h8 r0 r1 A8=>⟨⟨r,rfl,r0,r1⟩,⟨_,rfl⟩,A8⟩)
 have l7:=a7.length;obtain⟨l,rfl,J⟩:=qJ (P:=λi=>0<=i/\i < ns.length) λy X=>(let⟨_,_,r⟩:=a7.right y X;r);dsimp only at l7;rw[Vy,Vy] at l7;rw[Vy] at E;refine rv e7 ⟨by dsimp only;rw[Vy,show sizeLine=16777216 from rfl];lia,?_⟩;nofun;refine rv (a:=(.lv ((kB l).map D.int),t)) (by
  show(sU (l.map D.int)).bind _=_;rw[vR];show(if l.length < 64 then _ else _)=_;rw[VE (by lia)]) ?_
 nofun;refine dm ?_;nofun;refine⟨_,_,rfl,?_⟩;have e8:a8 [] (gN 0) cj (fW (aP 1) sr (sx (aP 0))) (j.map D.int) [none,some (.lv (o.map D.str))] t=some ((j.map D.int).filterMap λd=>match d with | .int k=>some (.lv ((o.take k.toNat).map D.str)) | _=>none,t):=
  CS rfl _ (λδ=>∃u,δ=[u,some (.lv (o.map D.str))]) ⟨_,rfl⟩ (by
   rintro x F δ ⟨u,rfl⟩;obtain⟨k,N,rfl⟩:=V7.mp F;refine rv rfl ⟨rfl,rv rfl ⟨rfl,⟨_,rfl⟩,λ_=>⟨_,rfl,?_⟩,λz=>(nomatch z)⟩⟩;obtain⟨n,rfl⟩:=Xy (v k N).1;nofun;refine⟨_,rfl,rv (E8 D.str o n _) ?_⟩;rfl)
 have e9:((j.map D.int).filterMap λd=>match d with | .int k=>some (D.lv ((o.take k.toNat).map D.str)) | _=>none)=(j.map λk=>o.take k.toNat).map λo=>D.lv (o.map D.str):=by
  rw[YV,XO];exact congrFun (AaO (f:=(λo:List Str=>D.lv (o.map D.str))∘λk:Int=>o.take k.toNat)) _
 rw[e9] at e8;refine rv e8 ⟨by dsimp only;rw[Vy,Vy,show sizeLine=16777216 from rfl];lia,?_⟩;nofun;have L:∀(a b c d e f:D),Rn (tu (cV (eK (.str "names")) (aP 3) (cV (eK (.str "deeds")) (aP 4) (cV (eK (.str "params")) (aP 5) (cV (eK (.str "floors")) (aP 7) (cV (eK (.str "left")) (aP 1) (cV (eK (.str "odd")) (aP 2) Hj)))))) [some (.ob s),some (.int m),some (.int odd),some a,some b,some c,some d,some e] t) λp=>p=(.ob t.length,t++[.dct [(.inr (Str.ofString "names"),a),(.inr (Str.ofString "deeds"),b),(.inr (Str.ofString "params"),c),(.inr (Str.ofString "floors"),e),(.inr (Str.ofString "left"),.int m),(.inr (Str.ofString "odd"),.int odd)]]):=λa b c d e f=>⟨_,rfl,rfl⟩;refine(L _ _ _ _ _ .bx).imp ?_;rintro _ rfl;nofun;refine k ⟨ns,C,j.map λk=>o.take k.toNat⟩ (kB l) t ⟨?_,?_,?_,?_,?_,?_,?_,?_,o0,o1,nk,dk,?_,U,dnd,?_⟩ (E.le (by lia))
 ·show 1<=ns.length;lia
 ·show ns.length<=6;lia
 ·show 1<=C.length;lia
 ·show C.length<=6;lia
 ·show(j.map _).length=C.length;rw[Vy];lia
 ·intro q G;obtain⟨k,N,rfl⟩:=V7.mp G;rw[V4];have:=pl
  lia
 ·show(kB l).length=C.length;rw[(ic l).length_eq];lia
 ·intro f hf;exact J f ((ic l).mem_iff.mp hf)
 ·intro q G w hw;obtain⟨k,N,rfl⟩:=V7.mp G;exact pk w (Zv hw)
 ·intro q G;obtain⟨k,N,rfl⟩:=V7.mp G;exact T.sublist (ZU _ _)
end Mi
namespace Pg
open PySem Sm L2
abbrev dD:=Str×List Str×List Row
structure Prog where
 names:List Str
 ag:List dD
def dA(d:dD):D:=.tup [.str d.1,.tup (d.2.1.map D.str),.tup (ck d.2.2)]
def bt(P:Prog):D:=.tup [.tup (P.names.map D.str),.tup (P.ag.map dA)]
structure Sr(W:Wd)(most:Nat)(P:Prog):Prop where
 nm:P.names=iL W.names
 dl:P.ag.length=W.ag.length
 dd:∀(j:Nat)(d:dD),P.ag[j]?=some d->W.ag[j]?=some d.1/\W.params[j]?=some d.2.1/\bH W d.2.1 1 d.2.2/\d.2.2.length<=12
 ct:(P.ag.map λd=>aX d.2.2).sum<=most
end Pg
namespace Mi
open PySem Sm L2 Pg
def xS(n:Nat)(d:dD):fD n (dA d)=true:=by
 show(true&&(cC n (d.2.1.map D.str)&&(cC n (ck d.2.2)&&true)))=true;rw[hW,dP];rfl
def Lj(n:Nat)(P:Prog):fD n (bt P)=true:=by
 show(cC n (P.names.map D.str)&&(cC n (P.ag.map dA)&&true))=true;rw[hW,eC n _ (xS n)];rfl
def iB{c:Type}{f:c->D}{b:List c}{i:Nat}{x:D}(h:(iV 0 (b.map f))[i]?=some x):∃a,b[i]?=some a/\x=.tup [.int (i:Int),f a]:=by
 rw[kh,VN] at h;cases e:b[i]? with
 | none=>rw[e] at h;cases h
 | some a=>
  rw[e] at h;cases h;exact⟨a,rfl,by rw[WG]⟩
def Wb.out(C:Cl h)(B:Sb E.s E.c E.cs h r h0)(e:E.wd=h0.length)(A:Wb E (h0++[o]) R l a):∃f j,a=f++[j]/\Sb E.s E.c E.cs h R f/\Cl f:=by
 have b:=A.b;obtain⟨n,q⟩:=B.S.lt;have hl:a.length=h0.length+1:=by rw[b.1];simp
 have m:h0.length < a.length:=by lia
 have g:a=a.take h0.length++[a[h0.length]'m]:=by rw[List.take_append_getElem,YC (by exact ZS hl)]
 have d:tX E.s h0 (a.take h0.length):=⟨by rw[V4];lia,λk p=>by
  by_cases z:k < h0.length
  ·rw[Ww z,b.2 k p (by lia),VW z]
  ·rw[Wu (by rw[V4];lia),Wu (by exact WR z)]⟩
 have S:=A.S;rw[g] at S;have i:=S.cut (by rw[d.1];exact n) (by rw[d.1];exact q);exact⟨_,_,g,⟨i,B.b.trans d⟩,C.but i (B.b.trans d)⟩
def Fw{h h0:MH}{s c R e:Nat}{cs:List Int}{odd:Int}{Q:D×MH->Prop}(A:Sb s c cs h0 (R+100*e+120) h)(C:Cl h)(o0:0<=odd)(o1:odd<=1000)(k:∀(W:Wd)(fl:List Int)(P:Prog)(h1:MH),Cf W fl odd->Sr W e P->Sb s c cs h0 R h1->Cl h1->Q (bt P,h1)):Rn (f6 [.ob s,.int e,.int odd] h) Q:=by
 refine jk ?_;nofun;refine Lp (R:=R+100*e+40) A.S.sb o0 o1 λW fl F ok G=>?_;obtain⟨U,T⟩:=G.S.lt;have d2:=ok.d2;have n1:=ok.n1;have n2:=ok.n2;have I:=G.b.1;let E:En:=⟨s,c,F.length,cs,W,fl,odd,ok,by exact X1 U,by exact X1 T⟩;have B0:Wb E (F++[nM W fl e odd]) (R+100*e+40) e (F++[nM W fl e odd]):=⟨G.S.more _,lH rfl,(C.but G.S G.b).snoc (BZ _ _ _ _ _),gg.refl _ _ _⟩;nofun;refine fA ?_;exists dG (B0.push (o:=.lst []) rfl).w;nofun;refine⟨_,_,_,rfl,rfl,?_⟩;have p:(F++[nM W fl e odd]).length=h.length+1:=by simp[I]
 rw[p];refine cB (λi M h'=>∃(g:List dD)(v:Nat)(d5 d6 d7:Option D)(y:MH),M=[some (.ob s),some (.int e),some (.int odd),some (.ob F.length),some (.ob (h.length+1)),d5,d6,d7]/\h'=y++[.lst (g.map dA)]/\y.length=h.length+1/\g.length=i/\(∀(j:Nat)(d:dD),g[j]?=some d->W.ag[j]?=some d.1/\W.params[j]?=some d.2.1/\bH W d.2.1 1 d.2.2/\d.2.2.length<=12)/\v+(g.map λd=>aX d.2.2).sum=e/\Wb E (F++[nM W fl e odd]) (R+100*v+(40-5*i)) v y)
  ⟨[],e,_,_,_,_,rfl,rfl,p,rfl,λ_ _ z=>by simp at z,by simp,B0⟩ (λ_ _ _ _ _=>rfl) ?_ ?_
 ·rintro i x M h' hx ⟨g,v,d5,d6,d7,y,rfl,rfl,q,m,u,hc,L⟩;obtain⟨dn,J,rfl⟩:=iB hx;have hi:i < W.ag.length:=(Vz.mp J).1;obtain⟨N,r⟩:∃f,W.params[i]?=some f:=⟨_,VI (by rw[ok.pl];exact hi)⟩;nofun;refine FU (E:=E) (R:=R+100*v+(39-5*i)) (is:=[1,2,3,4,12]) (λi=>1<=i/\i<=12) (by decide) ((L.push (o:=.lst (g.map dA)) (eC _ _ (xS _) g)).le (by lia)) λmo h7 H A7=>?_;nofun;refine(ring (E:=E) 20).1 (R:=R+(40-5*(i+1))) (d:=1) (held:=[]) (A7.le (by lia)) ⟨r,hi,by decide,show(-1:Int)<=W.names.length by simp,λ_ z=>(nomatch z),by simp⟩ (by decide) (by decide) H.1 H.2 λt l8 h8 O Y cr A8=>?_;have w8:=A8.w;obtain⟨X,rfl,e8,A8'⟩:=L.pop A8;have l:=e8.trans q;nofun;refine fT ?_;nofun;refine⟨bI (lH l),?_⟩;exists cN w8;exists cg r;nofun;refine rv (a:=(.tup (N.map D.str),_)) rfl ?_;exists bL (lH l) (by rw[Vy,show sizeLine=16777216 from rfl];lia);rw[Gf l];nofun;have hcn:((g++[(dn,N,t)]).map λd:dD=>aX d.2.2).sum=(g.map λd:dD=>aX d.2.2).sum+aX t:=by
   rw[VT,Z2];simp
  refine⟨g++[(dn,N,t)],l8,_,_,_,X,rfl,by rw[VT];rfl,l,by simp[m],?_,by rw[hcn];lia,A8'.le (by lia)⟩;intro j d hj
  by_cases z:j < g.length
  ·rw[VW z] at hj;exact u j d hj
  ·rw[VY (by exact WR z)] at hj;have Z:j-g.length=0:=by
    have:=(Vz.mp hj).1;simp at this
    lia
   rw[Z] at hj;cases hj;obtain rfl:j=i:=by lia
   exact⟨J,r,O,Y⟩
 ·rintro M h' ⟨g,v,d5,d6,d7,y,rfl,rfl,q,m,u,hc,L⟩;rw[bF,Vy] at m;have w6:=(L.push (o:=.lst (g.map dA)) (eC _ _ (xS _) g)).w;have hat:(y++[MO.lst (g.map dA)])[h.length+1]?=some (.lst (g.map dA)):=lH q;obtain⟨hb',o',rfl,B9,C9⟩:=Wb.out (E:=E) C G rfl L;exists dE w6;nofun;refine rv (a:=(.lv ((iL W.names).map D.str),_)) (by
   show(qW (W.names.map D.str)).bind _=_;rw[uU];show(if W.names.length < 64 then _ else _)=_;rw[VE (by exact Wr n2 (by decide))]) ?_
  nofun;refine rv (a:=(.tup ((iL W.names).map D.str),_)) rfl ?_;nofun;refine rv (a:=(.tup (g.map dA),_)) (by simp only[bJ,b9,hat,Wt];rfl) ?_;nofun;rw[Wg];exact rv (jz B9.b.1 C9 (λn z=>(nomatch z)) (Lj _ ⟨iL W.names,g⟩)) (k W fl ⟨iL W.names,g⟩ hb' ok ⟨rfl,m,u,by show _<=_;dsimp only;lia⟩ ⟨B9.S.le (by lia),A.b.trans B9.b⟩ C9)
end Mi
namespace Pg
open PySem Sm L2
def eO(l:List Row):D:=.tup (ck l)
noncomputable def ax:Row->List (List Row)
 | .say _=>[]
 | .call _ _=>[]
 | .within _ b=>[b]
 | .all _ b=>[b]
 | .ask _ b e=>[b,e]
 | .Ah _ _ a b c=>[a,b,c]
 | .either a b=>[a,b]
 | .again a=>[a]
noncomputable def gB:Row->Str
 | .say _=>"say"
 | .call _ _=>"call"
 | .within _ _=>"within"
 | .all _ _=>"all"
 | .ask _ _ _=>"ask"
 | .Ah _ _ _ _ _=>"by"
 | .either _ _=>"either"
 | .again _=>"again"
mutual
noncomputable def dM(p:List Nat):Row->List (List Nat×Row)
 | .say _=>[]
 | .call _ _=>[]
 | .within _ b=>aE (p++[0]) 0 b
 | .all _ b=>aE (p++[0]) 0 b
 | .ask _ b e=>aE (p++[0]) 0 b++aE (p++[1]) 0 e
 | .Ah _ _ a b c=>aE (p++[0]) 0 a++(aE (p++[1]) 0 b++aE (p++[2]) 0 c)
 | .either a b=>aE (p++[0]) 0 a++aE (p++[1]) 0 b
 | .again a=>aE (p++[0]) 0 a
noncomputable def aE(a:List Nat)(k:Nat):List Row->List (List Nat×Row)
 | []=>[]
 | r::rs=>(a++[k],r)::(dM (a++[k]) r++aE a (k+1) rs)
end
def cf(p:List Nat):Nat->List (List Row)->List (List Nat×Row)
 | _,[]=>[]
 | k,l::ls=>aE (p++[k]) 0 l++cf p (k+1) ls
def oo(p:List Nat)(r:Row):dM p r=cf p 0 (ax r):=by
 cases r <;> simp[dM,ax,cf]
theorem ir(a:List Nat):∀(k:Nat)(x y:List Row),aE a k (x++y)=aE a k x++aE a (k+x.length) y
 | k,[],y=>by simp[aE]
 | k,r::x,y=>by simp[aE,ir a (k+1) x y,Zg,ZT]
theorem j5(p:List Nat):∀(k:Nat)(x y:List (List Row)),cf p k (x++y)=cf p k x++cf p (k+x.length) y
 | k,[],y=>by simp[cf]
 | k,r::x,y=>by simp[cf,j5 p (k+1) x y,Zg,ZT]
mutual
noncomputable def dZ:Row->Nat
 | .say _=>0
 | .call _ _=>0
 | .within _ b=>cp b
 | .all _ b=>cp b
 | .ask _ b e=>max (cp b) (cp e)
 | .Ah _ _ a b c=>max (cp a) (max (cp b) (cp c))
 | .either a b=>max (cp a) (cp b)
 | .again a=>cp a
noncomputable def cp:List Row->Nat
 | []=>1
 | r::rs=>max (1+dZ r) (cp rs)
end
def vE{a:List Row}{r:Row}(h:r∈a):1+dZ r<=cp a:=by
 induction a with
 | nil=>cases h
 | cons x xs b=>
  rw[cp];rcases VS.mp h with rfl | h
  ·lia
  ·have:=b h;lia
def vD{r:Row}{l:List Row}(h:l∈ax r):cp l<=dZ r:=by
 cases r <;> simp[ax] at h
 case within=>subst h;simp[dZ]
 case all=>subst h;simp[dZ]
 case ask=>rcases h with rfl | rfl <;> rw[dZ] <;> lia
 case Ah=>rcases h with rfl | rfl | rfl <;> rw[dZ] <;> lia
 case either=>rcases h with rfl | rfl <;> rw[dZ] <;> lia
 case again=>subst h;simp[dZ]
def Aa(r:Row):cnt r=1+((ax r).map aX).sum:=by cases r <;> simp[cnt,ax] <;> lia
mutual
theorem Bo(p:List Nat):∀r:Row,1+(dM p r).length=cnt r
 | .say _=>by simp[dM,cnt]
 | .call _ _=>by simp[dM,cnt]
 | .within _ b=>by simp[dM,cnt,bo (p++[0]) 0 b]
 | .all _ b=>by simp[dM,cnt,bo (p++[0]) 0 b]
 | .ask _ b e=>by simp[dM,cnt,bo (p++[0]) 0 b,bo (p++[1]) 0 e];lia
 | .Ah _ _ a b c=>by simp[dM,cnt,bo (p++[0]) 0 a,bo (p++[1]) 0 b,bo (p++[2]) 0 c];lia
 | .either a b=>by simp[dM,cnt,bo (p++[0]) 0 a,bo (p++[1]) 0 b];lia
 | .again a=>by simp[dM,cnt,bo (p++[0]) 0 a]
theorem bo(a:List Nat):∀(k:Nat)(l:List Row),(aE a k l).length=aX l
 | k,[]=>by simp[aE,aX]
 | k,r::rs=>by
  have:=Bo (a++[k]) r;have:=bo a (k+1) rs;simp[aE,aX];lia
end
mutual
theorem Bx{W:Wd}{i:List Str}:∀(n:Nat)(r:Row),bh W i n r->n<=5->dZ r<=5-n
 | n,.say _,_,_=>by simp[dZ]
 | n,.call _ _,_,_=>by simp[dZ]
 | n,.within _ b,h,hn=>by rw[bh] at h;have:=bK (n+1) b h.2.2.2 h.2.1;rw[dZ];lia
 | n,.all _ b,h,hn=>by rw[bh] at h;have:=bK (n+1) b h.2.2.2 h.2.1;rw[dZ];lia
 | n,.ask _ b e,h,hn=>by rw[bh] at h;have:=bK (n+1) b h.2.2.2.2.1 h.2.1;have:=bK (n+1) e h.2.2.2.2.2 h.2.1;rw[dZ];clear h;lia
 | n,.Ah _ _ a b c,h,hn=>by
  rw[bh] at h;obtain⟨_,_,d,_,_,_,f,g,j⟩:=h;have:=bK (n+1) a f d;have:=bK (n+1) b g d;have:=bK (n+1) c j d;rw[dZ];lia
 | n,.either a b,h,hn=>by
  rw[bh] at h;obtain⟨d,_,_,f,g⟩:=h;have:=bK (n+1) a f d;have:=bK (n+1) b g d;rw[dZ];lia
 | n,.again a,h,hn=>by
  rw[bh] at h;obtain⟨d,_,f⟩:=h;have:=bK (n+1) a f d;rw[dZ];lia
theorem bK{W:Wd}{a:List Str}:∀(n:Nat)(l:List Row),bH W a n l->n<=5->cp l<=6-n
 | n,[],_,hn=>by simp[cp];lia
 | n,r::rs,h,hn=>by
  rw[bH] at h;have:=Bx n r h.1 hn;have:=bK n rs h.2 hn;rw[cp];lia
end
noncomputable def aD(n:Nat):D:=.int (n:Int)
def aG(p:List Nat):D:=.tup (p.map aD)
def ph(x:List Nat×Row):D:=.tup [aG x.1,aM x.2]
end Pg
namespace Mi
open PySem Sm L2 Pg
def Lk(n:Nat)(x:List Nat×Row):fD n (ph x)=true:=by
 show(cC n (x.1.map aD)&&(fD n (aM x.2)&&true))=true;rw[eC n _ (λ_=>rfl),oK];rfl
def wg(h:MH):x6 h h=true:=by
 induction h with
 | nil=>rfl
 | cons o r a=>show(IQ o o&&x6 r r)=true;rw[we,a];rfl
def vN{H:MH}{a:List D}(b:cC H.length a=true):leave H (.ob H.length) (H++[.lst a])=some (.lv a,H):=by
 have c:AG H.length (H++[.lst a]) (.ob H.length)=.lv a:=by
  show(if H.length < H.length then _ else _)=_;rw[VH (WI _)];simp
 unfold leave;rw[c,YM (VG _),Wq,wg];show(if(cC H.length a&&_)=true then _ else _)=_;rw[b];rfl
def mR(r:Row)(h:MH):ib [aM r] h=some (.tup ((ax r).map eO),h):=by
 have e:Rn (ib [aM r] h) λp=>p=(.tup ((ax r).map eO),h):=by
  refine br ?_;cases r <;> rw[aM] <;> (exists rfl;exists rfl;dsimp only;refine⟨_,rfl,?_⟩;exists rfl;rfl)
 obtain⟨p,a,rfl⟩:=e;exact a
def ke{a ys:List D}{h:MH}(hl:a.length+ys.length<=10000):aT (.tup a) (.tup ys) h=some (.tup (a++ys),h):=by
 cases a with
 | nil=>rfl
 | cons x a=>
  show(if a.length+1+ys.length<=sizeLine then some (D.tup (x::a++ys),h) else none)=_;rw[VE (by rw[show sizeLine=16777216 from rfl];rw[VU] at hl;exact VJ hl (by decide))]
def sL{h:MH}{n:Nat}{b a:List D}(e:h[n]?=some (.lst b))(hl:b.length+a.length<=1000000):iz (.ob n) [.lv a] h=some (.bx,h.set n (.lst (b++a))):=by
 unfold iz;dsimp only;rw[e];show(if b.length+a.length<=sizeLine then _ else _)=_;rw[VE (by rw[show sizeLine=16777216 from rfl];exact VJ hl (by decide))]
def dH{H:MH}{o a:MO}:(H++[o]).set H.length a=H++[a]:=by
 rw[XG _ _ (VG _),X0];rfl
def aW{H:MH}{o:MO}:(H++[o])[H.length]?=some o:=by simp
def oG(a:List Nat)(i:Nat)(hl:a.length<=1000)(h:MH):aT (aG a) (.tup [.int (i:Int)]) h=some (aG (a++[i]),h):=by
 show aT (.tup (a.map aD)) (.tup [aD i]) _=_;rw[ke (by rw[Vy];simp;lia)];simp[aG]
theorem sg:∀(n:Nat)(b:List Row)(a:List Nat)(h:MH),cp b<=n->aX b<=1000->a.length+2*n<=100->dw n [.tup (ck b),aG a] h=some (.lv ((aE a 0 b).map ph),h)
 | 0,b,a,h,hn,C,G=>by
  exfalso;cases b with
  | nil=>simp[cp] at hn
  | cons r rs=>rw[cp] at hn;lia
 | n+1,b,a,h,hn,C,G=>by
  have e:Rn (dw (n+1) [.tup (ck b),aG a] h) λp=>p=(.lv ((aE a 0 b).map ph),h):=by
   unfold dw;refine jk ?_;nofun;refine fA ?_;nofun;refine⟨_,_,_,rfl,rfl,?_⟩;rw[eP];refine cB (λi d m=>∃(A z y q o:Option D),d=[some (.tup (b.map aM)),some (aG a),some (.ob h.length),A,z,y,q,o]/\m=h++[.lst ((aE a 0 (b.take i)).map ph)])
    ⟨_,_,_,_,_,rfl,by simp[aE]⟩ (λ_ _ _ _ _=>rfl) ?_ ?_
   ·rintro i x d m u ⟨A,z,y,q,o,rfl,rfl⟩;obtain⟨r,hr,rfl⟩:=iB u;have v:=VC hr;have F:i < b.length:=(Vz.mp hr).1;have f:b.take (i+1)=b.take i++[r]:=by
     rw[W0,hr];rfl
    have k:aE a 0 (b.take (i+1))=aE a 0 (b.take i)++((a++[i],r)::cf (a++[i]) 0 (ax r)):=by
     rw[f,ir];simp only[aE,oo,V4,Wl,WG];rw[X7 (by exact WD F)]
    have c:(aE a 0 b).length<=1000:=by rw[bo];exact C
    have s:(aE a 0 (b.take (i+1))).length<=1000:=by
     have:aE a 0 b=aE a 0 (b.take (i+1))++aE a (0+(b.take (i+1)).length) (b.drop (i+1)):=by
      rw[<-ir,Xr]
     rw[this,VM] at c;exact VJ (V9 _ _) c
    generalize aE a 0 (b.take i)=I at k ⊢;exists oG a i (by lia) _;nofun;rw[k,VM,VU] at s;refine fT ?_;nofun;refine⟨bI aW,?_⟩;exists bL aW (by rw[Vy,show sizeLine=16777216 from rfl];lia);nofun;rw[dH];refine fA ?_;exists mR r _;nofun;refine⟨_,_,_,rfl,rfl,?_⟩;refine cB (λj d m=>∃(q o:Option D),d=[some (.tup (b.map aM)),some (aG a),some (.ob h.length),some (.int i),some (aM r),some (aG (a++[i])),q,o]/\m=h++[.lst ((I++((a++[i],r)::cf (a++[i]) 0 ((ax r).take j))).map ph)])
     ⟨_,_,rfl,by simp[cf,ph]⟩ (λ_ _ _ _ _=>rfl) ?_ ?_
    ·rintro j x d m u ⟨q,o,rfl,rfl⟩;obtain⟨l,hl,rfl⟩:=iB u;have w:=VC hl;have hj:j < (ax r).length:=(Vz.mp hl).1;have f:(ax r).take (j+1)=(ax r).take j++[l]:=by
      rw[W0,hl];rfl
     have t:cf (a++[i]) 0 ((ax r).take (j+1))=cf (a++[i]) 0 ((ax r).take j)++aE (a++[i]++[j]) 0 l:=by
      rw[f,j5];simp only[cf,V4,Wl,WG];rw[X7 (by exact WD hj)]
     have g:(cf (a++[i]) 0 ((ax r).take (j+1))).length<=(cf (a++[i]) 0 (ax r)).length:=by
      have:cf (a++[i]) 0 (ax r)=cf (a++[i]) 0 ((ax r).take (j+1))++cf (a++[i]) (0+((ax r).take (j+1)).length) ((ax r).drop (j+1)):=by
       rw[<-j5,Xr]
      rw[this,VM];exact V9 _ _
     rw[t,VM] at g;have E:=λhh=>sg n l (a++[i]++[j]) hh (by have:=vE v;have:=vD w;lia) (by rw[<-bo (a++[i]++[j]) 0];lia) (by simp;lia);nofun;refine fT ?_;nofun;refine⟨bI aW,?_⟩;exists oG (a++[i]) j (by simp;lia) _;exists E _;exists sL aW (by rw[Vy,Vy,VM,VU];lia);nofun;rw[dH,<-VT];refine⟨_,_,rfl,?_⟩;rw[t];simp
    ·rintro d m ⟨q,o,rfl,rfl⟩;rw[bF,Vy,Wq];nofun;exact⟨_,_,_,_,_,rfl,by rw[k]⟩
   ·rintro d m ⟨A,z,y,q,o,rfl,rfl⟩;rw[bF,Vy,Wq];nofun;exact rv (vN (eC _ _ (Lk _) _)) rfl
  obtain⟨p,H,rfl⟩:=e;exact H
end Mi
namespace Pg
open PySem Sm L2
def placesFrom:Nat->List dD->List (Nat×List Nat×Row)
 | _,[]=>[]
 | k,d::ds=>(aE [] 0 d.2.2).map (λx=>(k,x.1,x.2))++placesFrom (k+1) ds
def k8(x:Nat×List Nat×Row):D:=.tup [aD x.1,aG x.2.1,aM x.2.2]
theorem cK:∀(k:Nat)(x y:List dD),placesFrom k (x++y)=placesFrom k x++placesFrom (k+x.length) y
 | k,[],y=>by simp[placesFrom]
 | k,d::x,y=>by simp[placesFrom,cK (k+1) x y,Zg,ZT]
theorem dJ:∀(k:Nat)(a:List dD),(placesFrom k a).length=(a.map λd=>aX d.2.2).sum
 | _,[]=>rfl
 | k,d::a=>by simp[placesFrom,dJ (k+1) a,bo]
theorem wz:∀{a:List dD} {d:dD},d∈a->aX d.2.2<=(a.map λd=>aX d.2.2).sum
 | x::r,d,h=>by
  rw[VL,Aan];rcases VS.mp h with rfl | h
  ·exact V9 _ _
  ·have:=wz h;lia
structure SO(P:Prog):Prop where
 nd:∀d∈P.ag,cp d.2.2<=6
 ct:(P.ag.map λd=>aX d.2.2).sum<=1000
 dl:P.ag.length<=1000
def Sr.fit{W:Wd}{m:Nat}{P:Prog}(o:Sr W m P)(hm:m<=1000)(hd:W.ag.length<=6):SO P:=by
 refine⟨λd hd=>?_,VJ o.ct hm,by rw[o.dl];lia⟩;obtain⟨j,hj⟩:=WN.mp hd;obtain⟨_,_,ok,_⟩:=o.dd j d hj;have:=bK 1 d.2.2 ok (by lia);exact W6 this
end Pg
namespace Mi
open PySem Sm L2 Pg
def IB(n:Nat)(x:Nat×List Nat×Row):fD n (k8 x)=true:=by
 show(true&&(cC n (x.2.1.map aD)&&(fD n (aM x.2.2)&&true)))=true;rw[eC n _ (λ_=>rfl),oK];rfl
def qM{c:Type}{ws:W}{g:GM}{e:EM}{h:MH}(d:gR ws h=true)(f k:c->D)(J:DS->Prop)(b:List c){a:DS}(o:J a)(ht:∀x∈b,∀a,J a->Rn (g (f x) a h) λq=>q.2=h/\J q.1/\Rn (e q.1 h) λp=>p=(k x,h)):
  a8 ws g cj e (b.map f) a h=some (b.map k,h):=by
 induction b generalizing a with
 | nil=>rw[Yl];unfold a8;rw[VE d];rfl
 | cons x r l=>
  rw[VL];unfold a8;rw[VE d];obtain⟨⟨j,n⟩,s,rfl,t,p,i,rfl⟩:=ht x VF a o;rw[s];dsimp only[Option.bind_some] at i ⊢;show((some (true,n)).bind _)=_;dsimp only[Option.bind_some];rw[VE rfl,i];dsimp only[Option.bind_some];rw[l t λy m=>ht y (VD _ m)];rfl
def zc{P:Prog}(fit:SO P)(h:MH):eV [bt P] h=some (.lv ((placesFrom 0 P.ag).map k8),h):=by
 have e:Rn (eV [bt P] h) λp=>p=(.lv ((placesFrom 0 P.ag).map k8),h):=by
  refine jk ?_;nofun;refine fA ?_;nofun;refine rv (a:=(.tup (P.ag.map dA),_)) rfl ?_;nofun;refine⟨_,_,_,rfl,rfl,?_⟩;refine cB (λi f m=>∃(d2 q o n:Option D),f=[some (bt P),some (.ob h.length),d2,q,o,n]/\m=h++[.lst ((placesFrom 0 (P.ag.take i)).map k8)])
   ⟨_,_,_,_,rfl,by simp[placesFrom]⟩ (λ_ _ _ _ _=>rfl) ?_ ?_
  ·rintro i x f m r ⟨d2,q,o,n,rfl,rfl⟩;obtain⟨d,hd,rfl⟩:=iB r;have k:=VC hd;have s:i < P.ag.length:=(Vz.mp hd).1;have l:P.ag.take (i+1)=P.ag.take i++[d]:=by rw[W0,hd];rfl
   have g:placesFrom 0 (P.ag.take (i+1))=placesFrom 0 (P.ag.take i)++(aE [] 0 d.2.2).map λx=>(i,x.1,x.2):=by
    rw[l,cK];simp only[placesFrom,V4,Wl,WG];rw[X7 (by exact WD s)]
   have t:=wz k;have ct:=fit.ct;have j:(placesFrom 0 P.ag).length<=1000:=by rw[dJ];exact ct
   have c:(placesFrom 0 (P.ag.take (i+1))).length<=1000:=by
    have:placesFrom 0 P.ag=placesFrom 0 (P.ag.take (i+1))++placesFrom (0+(P.ag.take (i+1)).length) (P.ag.drop (i+1)):=by
     rw[<-cK,Xr]
    rw[this,VM] at j
    lia
   rw[g,VM,Vy] at c;unfold dA;nofun;refine fT ?_;nofun;refine⟨bI aW,?_⟩;nofun;refine dm ?_;exists sg 10 d.2.2 [] _ (VJ (fit.nd d k) (by decide)) (by exact VJ t ct) (by simp);refine⟨_,_,rfl,?_⟩;refine rv (qM rfl ph (λx=>k8 (i,x.1,x.2)) (λf=>∃a b,f=[a,b,some (.int i)]) (aE [] 0 d.2.2) ⟨_,_,rfl⟩ ?_) ⟨?_,?_⟩
   ·rintro x r f ⟨a,b,rfl⟩;unfold ph;nofun;refine⟨rfl,⟨_,_,rfl⟩,?_⟩;nofun;rfl
   ·dsimp only;rw[Vy,show sizeLine=16777216 from rfl]
    lia
   ·exists sL aW (by rw[Vy,Vy];exact VJ c (by decide));nofun;rw[dH];refine⟨_,_,_,_,rfl,?_⟩;rw[g,VT,XO];rfl
  ·rintro f m ⟨d2,q,o,n,rfl,rfl⟩;rw[bF,Vy,Wq];nofun;exact rv (vN (eC _ _ (IB _) _)) rfl
 obtain⟨p,u,rfl⟩:=e;exact u
end Mi
namespace Mi
open PySem Sm L2
def j6{H g:MH}{d:D}(c:∀n,d≠.ob n)(b:fD H.length d=true):leave H d (H++g)=some (d,H):=by
 have a:AG H.length (H++g) d=d:=by
  cases d with
  | ob n=>exact absurd rfl (c n)
  | _=>rfl
 unfold leave;rw[a,YM (VG _),Wq,b,wg];rfl
def wG{h:MH}{n:Nat}{a:List D}(e:h[n]?=some (.lst a)):b9 (.ob n) h=some (a,[(n,.lst a)]):=by unfold b9;dsimp only;rw[e]
theorem mE{c:TM}{b:SM}{Q:SQ}(I:Nat->DS->MH->Prop)(step:∀k a h,I k a h->Rn (c a h) λp=>(p.1=true->Rn (b a p.2) (zD (λa h=>∃g,g < k/\I g a h) Q))/\(p.1=false->Q (.nx,a,p.2))):
  ∀(n k:Nat)(a:DS)(h:MH),k < n->I k a h->Rn (fO c b n a h) Q
 | 0,k,a,h,l,_=>absurd l (by lia)
 | n+1,k,a,h,l,s=>by
  obtain⟨p,u,r,o⟩:=step k a h s;unfold fO;rw[u];dsimp only[Option.bind_some]
  by_cases z:p.1=true
  ·rw[VE z];obtain⟨⟨f,i,m⟩,t,q⟩:=r z;rw[t];dsimp only[Option.bind_some];cases f with
   | nx=>obtain⟨g,j,e⟩:=q;exact mE I step n g i m (by lia) e
   | ct=>obtain⟨g,j,e⟩:=q;exact mE I step n g i m (by lia) e
   | bk=>exact⟨_,rfl,q⟩
   | rt d=>exact⟨_,rfl,q⟩
  ·rw[VH z];exact⟨_,rfl,o (by simpa using z)⟩
end Mi
namespace Mi
open PySem Sm L2 Pg
noncomputable def flat(st:List (Nat×Nat)):List Nat:=st.flatMap λs=>[s.1,s.2]
def bM(st:List (Nat×Nat))(k:Nat):D:=aG (flat st++[k])
def P2(l:List Row)(s:Nat×Nat):Option (List Row):=(l[s.1]?).bind λr=>(ax r)[s.2]?
def bB(a:List Row):List (Nat×Nat)->Option (List Row)
 | []=>some a
 | s::r=>(P2 a s).bind λl=>bB l r
theorem vM:∀(st:List (Nat×Nat)) (a:List Row) (b:List (Nat×Nat)),bB a (st++b)=(bB a st).bind λl=>bB l b
 | [],_,_=>rfl
 | s::r,a,b=>by
  show((P2 a s).bind λl=>bB l (r++b))=((P2 a s).bind λl=>bB l r).bind _;cases P2 a s with
  | none=>rfl
  | some l=>exact vM r l b
def jD(st:List (Nat×Nat)):(flat st).length=2*st.length:=by
 induction st with
 | nil=>rfl
 | cons s r a=>show([s.1,s.2]++flat r).length=_;rw[VM,a];simp;lia
def zR(a b:List (Nat×Nat)):flat (a++b)=flat a++flat b:=by unfold flat;rw[List.flatMap_append]
theorem DA:∀{st:List (Nat×Nat)} {i:Nat} {s:Nat×Nat} (t:List Nat),st[i]?=some s->(flat st++t)[2*i]?=some s.1/\(flat st++t)[2*i+1]?=some s.2
 | x::r,0,s,t,e=>by cases e;exact⟨rfl,rfl⟩
 | x::r,i+1,s,t,e=>by
  have ⟨b,a⟩:=DA (st:=r) (i:=i) t e;show(x.1::x.2::(flat r++t))[2*(i+1)]?=_/\(x.1::x.2::(flat r++t))[2*(i+1)+1]?=_;rw[show 2*(i+1)=2*i+1+1 by lia,WS,WS,WS,WS];exact⟨b,a⟩
def eS{a:List D}{i:Nat}{d:D}{h:MH}(e:a[i]?=some d):aB (.tup a) (.int (i:Int)) h=some (d,h):=by
 have q:fq a (i:Int)=some d:=kj e;simp only[aB,cc,b9,VO,q,Wt]
def tj{a:List D}{i:Int}{d:D}{h:MH}(q:fq a i=some d):aB (.tup a) (.int i) h=some (d,h):=by
 simp only[aB,cc,b9,VO,q,Wt]
def Ie{p:List Nat}{i x:Nat}{h:MH}(e:p[i]?=some x):aB (aG p) (.int (i:Int)) h=some (aD x,h):=
 eS (by rw[VN,e];rfl)
def vU{p:List Nat}{i:Int}{j x:Nat}{h:MH}(a:i=(j:Int))(e:p[j]?=some x):aB (aG p) (.int i) h=some (aD x,h):=by
 subst a;exact Ie e
def DF{l:List Row}{i:Nat}{r:Row}{h:MH}(e:l[i]?=some r):aB (eO l) (aD i) h=some (aM r,h):=
 eS (by rw[eP,VN,e];rfl)
def Gb(n:Nat):(Builtin.Range.rangeSize 1 ((2*n+1:Nat):Int) 2).toNat=n:=by
 unfold Builtin.Range.rangeSize;rw[VE (by decide)]
 split
 ·lia
 ·lia
def Ny{m:AM}{a:DS}{h:MH}{Q:List D×W×MH->Prop}(r:Rn (m a h) λp=>∃i j c,p.1=[.int i,.int j,.int c]/\Ji i j c/\Q ((List.range (Builtin.Range.rangeSize i j c).toNat).map λ(k:Nat)=>D.int (i+(k:Int)*c),[],p.2)):Rn (KZ m a h) Q:=by
 obtain⟨⟨d,b⟩,e,i,j,c,rfl,ok,q⟩:=r;refine⟨_,?_,q⟩;unfold KZ;rw[e];show(if Ji i j c then _ else _)=_;rw[VE ok]
def zC{b c:List Row}{st:List (Nat×Nat)}{k:Nat}{h:MH}(e:bB b st=some c)(hl:st.length<=1000):nJ [eO b,bM st k] h=some (eO c,h):=by
 have A:Rn (nJ [eO b,bM st k] h) λp=>p=(eO c,h):=by
  refine br ?_;nofun;refine Ny ?_;nofun;refine rv (a:=(.int ((2*st.length+1:Nat):Int),h)) ?_ ?_
  ·show some (D.int (((flat st++[k]).map aD).length:Int),h)=_;rw[Vy,VM,jD];rfl
  nofun;refine⟨_,_,_,rfl,?_,?_⟩
  ·unfold Ji;lia
  rw[Gb];refine cB (λi g n=>n=h/\∃(l:List Row)(t:Option D),g=[some (eO b),some (bM st k),some (eO l),t]/\bB l (st.drop i)=some c) ⟨rfl,b,_,rfl,e⟩ (λ_ _ _ _ _=>rfl) ?_ ?_
  ·rintro i x g n v ⟨rfl,l,t,rfl,f⟩;rw[VN] at v;obtain⟨j,hj,y⟩:=cY v;obtain⟨m,hj⟩:=Vz.mp hj;rw[ZK] at hj;subst hj;rw[V2] at m;cases y;rw[Yp m] at f;have w:st[i]?=some st[i]:=VI m;obtain⟨g1,g2⟩:=DA [k] w;obtain⟨u,s,q⟩:=a9 f;obtain⟨r,er,o⟩:=a9 s;exists vU (j:=2*i) (by lia) g1;exists DF er;exists mR r _;exists vU (j:=2*i+1) (by lia) g2;exists eS (d:=eO u) (by rw[VN,o];rfl);nofun;exact⟨rfl,u,_,rfl,q⟩
  ·rintro g n ⟨rfl,l,t,rfl,f⟩;rw[Vy,V2,List.drop_length] at f;cases f;nofun
 obtain⟨p,z,rfl⟩:=A;exact z
def yN:Option Row->D
 | none=>.bx
 | some r=>aM r
def gY(st:List (Nat×Nat))(k:Nat)(h:MH):aB (bM st k) (.int (-1)) h=some (aD k,h):=by
 refine tj ?_;rw[VT];exact nr _ _
def Dl(l:List Row)(h:MH):cM [eO l] h=some (.int (l.length:Int),h):=by
 show some (D.int ((ck l).length:Int),h)=_;rw[eP,Vy]
def jg{d b:List Row}{st:List (Nat×Nat)}{k:Nat}{h:MH}(e:bB d st=some b)(hl:st.length<=1000):ia [eO d,bM st k] h=some (yN b[k]?,h):=by
 have i:Rn (ia [eO d,bM st k] h) λp=>p=(yN b[k]?,h):=by
  refine br ?_;exists zC e hl;exists gY _ _ _;exists Dl _ _;nofun;refine rv (a:=(.bl (decide ((k:Int) < (b.length:Int))),h)) rfl ⟨_,rfl,λc=>?_,λc=>?_⟩
  ·have f:k < b.length:=by have:=WT c;exact Yo.mp this
   have hr:b[k]?=some b[k]:=VI f;rw[hr];exists gY _ _ _;exists DF hr;rfl
  ·have f:b.length<=k:=by have:=of_decide_eq_false c;lia
   have hr:b[k]?=none:=Wu f;rw[hr];nofun;rfl
 obtain⟨p,g,rfl⟩:=i;exact g
def Lv(a:List D)(u v:D):fq (a++[u,v]) (-2)=some u:=by
 have hl:(a++[u,v]).length=a.length+2:=by simp
 have e:uH (a++[u,v]).length (-2)=some a.length:=by
  unfold uH;rw[hl,VH (by decide),VE (by lia)];congr 1
  lia
 unfold fq;rw[e];simp
def DJ{a ys:List D}{h:MH}(b:0 < ys.length):td (.tup (a++ys)) none (some (-(ys.length:Int))) h=some (.tup a,h):=by
 have e:HT.cn (a++ys).length (a++ys).length (some (-(ys.length:Int)))=a.length:=by
  show(if(-(ys.length:Int)) < 0 then _ else _)=_;rw[VE (by lia),VM]
  lia
 show(if HT.cn (a++ys).length 0 none=0/\HT.cn (a++ys).length (a++ys).length (some (-(ys.length:Int)))=(a++ys).length then _ else _)=_;rw[e,VH (by rw[VM];lia)];unfold cutD;rw[e,HT.yM,Zy,Nat.sub_zero,List.take_left'];rfl
def ou(st:List (Nat×Nat))(k:Nat)(h:MH):td (bM st k) none (some (-1)) h=some (aG (flat st),h):=by
 unfold bM aG;rw[VT];exact DJ (ys:=[aD k]) (Yk _)
def gZ(st:List (Nat×Nat))(a b k:Nat)(h:MH):td (bM (st++[(a,b)]) k) none (some (-2)) h=some (bM st a,h):=by
 unfold bM aG;rw[zR,show flat st++flat [(a,b)]++[k]=(flat st++[a])++[b,k] by simp[flat],VT];exact DJ (ys:=[aD b,aD k]) (Yk _)
def zg(st:List (Nat×Nat))(a b k:Nat)(h:MH):aB (bM (st++[(a,b)]) k) (.int (-2)) h=some (aD b,h):=by
 refine tj ?_;rw[zR,show flat st++flat [(a,b)]++[k]=(flat st++[a])++[b,k] by simp[flat],VT];exact Lv _ _ _
def pO(st:List (Nat×Nat))(k:Nat)(h:MH)(hl:st.length<=1000):jQ [bM st k] h=some (bM st (k+1),h):=by
 have c:Rn (jQ [bM st k] h) λp=>p=(bM st (k+1),h):=by
  refine br ?_;nofun;refine⟨_,rfl,rv (ou st k _) ?_⟩;exists gY _ _ _;nofun;refine rv (a:=(aD (k+1),h)) rfl ?_;exists ke (ys:=[aD (k+1)]) (by rw[Vy,jD];simp;lia);show(D.tup ((flat st).map aD++[aD (k+1)]),h)=(D.tup ((flat st++[k+1]).map aD),h);rw[VT];rfl
 obtain⟨p,b,rfl⟩:=c;exact b
noncomputable def cO(r:Row)(l:Nat):Bool:=match r with
 | .within _ _=>true
 | .all _ _=>true
 | .ask _ _ _=>l==0
 | _=>false
def zX(l:Nat)(i:Int)(h:MH):b6 (aD l) (.int i) h=some (.bl ((l:Int)==i),h):=rfl
def yx(r:Row)(l:Nat)(h:MH):di [aM r,aD l] h=some (.bl (cO r l),h):=by
 have c:Rn (di [aM r,aD l] h) λp=>p=(.bl (cO r l),h):=by
  refine br ?_;cases r with
  | within _ _=>rw[aM];nofun;refine rv (a:=(.bl true,h)) (by ac_nf) ⟨true,rfl,tt ?_⟩;rfl
  | all _ _=>rw[aM];nofun;refine rv (a:=(.bl true,h)) (by ac_nf) ⟨true,rfl,tt ?_⟩;rfl
  | ask _ _ _=>
   rw[aM];nofun;refine rv (a:=(.bl false,h)) (by ac_nf) ⟨false,rfl,ff ?_⟩;nofun;refine⟨true,by ac_nf,tt ?_⟩;exists zX l 0 h;show(D.bl ((l:Int)==0),h)=(D.bl (l==0),h);have:((l:Int)==0)=(l==0):=by cases l <;> rfl
   rw[this]
  | _=>
   rw[aM];nofun;refine rv (a:=(.bl false,h)) (by ac_nf) ⟨false,rfl,ff ?_⟩;nofun;refine⟨false,by ac_nf,ff ?_⟩;rfl
 obtain⟨p,b,rfl⟩:=c;exact b
noncomputable def j9:Row->Bool
 | .again _=>true
 | _=>false
def k7(a:List Row):List (Nat×Nat)->Nat->Option (List (Nat×Nat)×Nat)
 | rs,k=>match (bB a rs.reverse).bind λl=>l[k]? with
  | some _=>some (rs,k)
  | none=>match rs with
   | []=>none
   | s::b=>match (bB a b.reverse).bind λl=>l[s.1]? with
    | some r=>if cO r s.2 then some (s::b,k) else k7 a b (if j9 r then s.1 else s.1+1)
    | none=>none
def JV:Option (List (Nat×Nat)×Nat)->D
 | none=>.bx
 | some p=>bM p.1.reverse p.2
def tO(r:Row):∃x,aM r=.tup (.str (gB r)::x)/\(gB r=="again")=j9 r:=by
 cases r <;> (rw[aM];exact⟨_,rfl,by ac_nf⟩)
def mS{a b:List Row}{s:Nat×Nat}{rs:List (Nat×Nat)}(e:bB a (s::rs).reverse=some b):∃l r,bB a rs.reverse=some l/\l[s.1]?=some r/\(ax r)[s.2]?=some b:=by
 rw[Wi,vM] at e;obtain⟨l,i,h⟩:=a9 e;obtain⟨j,g,f⟩:=a9 h;cases f;obtain⟨r,d,c⟩:=a9 g;exact⟨l,r,i,d,c⟩
def sO(st:List (Nat×Nat))(k:Nat)(h:MH):cM [bM st k] h=some (.int ((2*st.length+1:Nat):Int),h):=by
 show some (D.int (((flat st++[k]).map aD).length:Int),h)=_;rw[Vy,VM,jD];rfl
def xA(o:Option Row)(h:MH):xI (yN o) .bx h=some (.bl o.isNone,h):=by
 cases o with
 | none=>rfl
 | some r=>obtain⟨x,e,_⟩:=tO r;show xI (aM r) .bx h=_;rw[e];rfl
def gX{a l:List Row}{rs:List (Nat×Nat)}{k:Nat}{r:Row}(e:bB a rs.reverse=some l)(hr:l[k]?=some r):k7 a rs k=some (rs,k):=by
 unfold k7;rw[e];simp only[VO,hr]
def qD{a l:List Row}{k:Nat}(e:bB a []=some l)(hr:l[k]?=none):k7 a [] k=none:=by
 unfold k7;rw[show([]:List (Nat×Nat)).reverse=[] from rfl,e];simp only[VO,hr]
def xa{a b l:List Row}{s:Nat×Nat}{rs:List (Nat×Nat)}{k:Nat}{r:Row}(e:bB a (s::rs).reverse=some b)(hn:b[k]?=none)(c:bB a rs.reverse=some l)(hr:l[s.1]?=some r):k7 a (s::rs) k=if cO r s.2 then some (s::rs,k) else k7 a rs (if j9 r then s.1 else s.1+1):=by
 rw[k7,e];simp only[VO,hn,c,hr]
def p8{d o:List Row}{rs:List (Nat×Nat)}{k:Nat}{h:MH}(e:bB d rs.reverse=some o)(hl:rs.length<=1000):fF [eO d,bM rs.reverse k] h=some (JV (k7 d rs k),h):=by
 have F:Rn (fF [eO d,bM rs.reverse k] h) λp=>p=(JV (k7 d rs k),h):=by
  refine br ?_;refine jj ?_;refine mE (λm z t=>t=h/\∃(b:List (Nat×Nat)) (j:Nat) (d2 C:Option D) (f:List Row),m=b.length/\b.length<=1000/\z=[some (eO d),some (bM b.reverse j),d2,C]/\bB d b.reverse=some f/\k7 d b j=k7 d rs k) ?_ _ rs.length _ _ (by exact Wr hl (by decide)) ⟨rfl,rs,k,_,_,o,rfl,hl,rfl,e,rfl⟩;rintro m z t ⟨rfl,b,j,d2,C,f,rfl,g,rfl,v,u⟩;exists jg v (by rw[WA];exact g);nofun;refine rv (xA _ _) ⟨_,rfl,λc=>?_,λc=>?_⟩
  ·have hn:f[j]?=none:=by cases q:f[j]? with
    | none=>rfl
    | some r=>rw[q] at c;cases c
   cases b with
   | nil=>
    cases v;exists sO _ _ _;nofun;refine⟨true,rfl,tt ?_⟩;rw[<-u,qD rfl hn];nofun;rfl
   | cons s b=>
    obtain⟨l,r,g1,g2,g3⟩:=mS v;have n:=xa v hn g1 g2;exists sO _ _ _;nofun;refine⟨false,by rw[WA,VU];congr 1,ff ?_⟩;nofun;refine⟨_,rfl,?_⟩;rw[Wi];refine rv (gZ b.reverse s.1 s.2 j _) ?_;exists jg g1 (by rw[WA];rw[VU] at g;exact WD g);rw[g2];exists zg b.reverse s.1 s.2 j _;exists yx r s.2 _;nofun;refine⟨_,rfl,λy=>?_,λy=>?_⟩
    ·rw[y,VE rfl] at n;rw[<-u,n];nofun;show(bM (b.reverse++[s]) j,t)=(bM (s::b).reverse j,t);rw[Wi]
    ·rw[y,VH V8] at n;obtain⟨x,ex,A⟩:=tO r;nofun;refine rv (a:=(.str (gB r),t)) (by show aB (aM r) _ _=_;rw[ex];exact eS (i:=0) rfl) ?_;nofun;refine⟨_,rfl,λw=>?_,λw=>?_⟩
     ·rw[<-A,w,VE rfl] at n;nofun;exact⟨b.length,W3 _,rfl,b,s.1,_,_,l,rfl,XN g,rfl,g1,n.symm.trans u⟩
     ·rw[<-A,w,VH V8] at n;exists pO b.reverse s.1 _ (by rw[WA];exact XN g);exact⟨b.length,W3 _,rfl,b,s.1+1,_,_,l,rfl,XN g,rfl,g1,n.symm.trans u⟩
  ·cases q:f[j]? with
   | none=>rw[q] at c;cases c
   | some r=>
    rw[<-u,gX v q];nofun;rfl
 obtain⟨p,E,rfl⟩:=F;exact E
structure cD where
 bA:Nat
 nums:List Int
 rs:List (Nat×Nat)
 k:Nat
def eY(f:cD):D:=.tup [aD f.bA,.tup (f.nums.map D.int),bM f.rs.reverse f.k]
def gP(P:Prog)(f:cD):Prop:=∃d a,P.ag[f.bA]?=some d/\bB d.2.2 f.rs.reverse=some a/\f.rs.length<=1000
noncomputable def bU(P:Prog)(i:Nat):List Row:=((P.ag[i]?).map λd=>d.2.2).getD []
def mr{P:Prog}{i:Nat}{d:dD}{h:MH}(e:P.ag[i]?=some d):hZ [bt P,aD i] h=some (eO (bU P i),h):=by
 have b:Rn (hZ [bt P,aD i] h) λp=>p=(eO d.2.2,h):=by
  refine br ?_;unfold bt;exists eS (by rw[VN,e];rfl);unfold dA;nofun;rfl
 obtain⟨p,a,rfl⟩:=b;rw[a];unfold bU;rw[e];rfl
def eQ(P:Prog):List cD->cD->List cD
 | [],f=>match k7 (bU P f.bA) f.rs f.k with
  | some p=>[{f with rs:=p.1,k:=p.2}]
  | none=>[]
 | g::a,f=>match k7 (bU P f.bA) f.rs f.k with
  | some p=>{f with rs:=p.1,k:=p.2}::g::a
  | none=>eQ P a {g with k:=g.k+1}
def gJ(P:Prog):List cD->List cD
 | []=>[]
 | f::fs=>eQ P fs f
def qo(fs:List cD):D:=.tup (fs.reverse.map eY)
theorem eB{P:Prog}{f:cD}{p:List (Nat×Nat)×Nat}:∀{fs:List cD},k7 (bU P f.bA) f.rs f.k=some p->eQ P fs f={f with rs:=p.1,k:=p.2}::fs
 | [],e=>by unfold eQ;rw[e]
 | _::_,e=>by unfold eQ;rw[e]
def g9{P:Prog}{f:cD}(e:k7 (bU P f.bA) f.rs f.k=none):eQ P [] f=[]:=by unfold eQ;rw[e]
def kc{P:Prog}{f g:cD}{a:List cD}(e:k7 (bU P f.bA) f.rs f.k=none):eQ P (g::a) f=eQ P a {g with k:=g.k+1}:=by rw[eQ,e]
def jZ{h:MH}{n:Nat}{a:List D}{y:D}(e:h[n]?=some (.lst (a++[y]))):zA (.ob n) [] h=some (y,h.set n (.lst a)):=by
 unfold zA;dsimp only;rw[e];dsimp only;rw[VM,YH,Nat.add_sub_cancel,VY (VG _),X0,List.dropLast_concat];rfl
theorem xR(n:Nat):∀a:List Int,cC n (a.map D.int)=true
 | []=>rfl
 | j::r=>xR n r
theorem DN(n:Nat):∀a:List Nat,cC n (a.map aD)=true
 | []=>rfl
 | j::r=>DN n r
def RD(n:Nat)(f:cD):fD n (eY f)=true:=by
 show(true&&(cC n (f.nums.map D.int)&&(cC n ((flat f.rs.reverse++[f.k]).map aD)&&true)))=true;rw[xR,DN];rfl
theorem tG(n:Nat):∀fs:List cD,cC n (fs.map eY)=true
 | []=>rfl
 | f::r=>by show(fD n (eY f)&&cC n (r.map eY))=true;rw[RD,tG n r];rfl
def KR(o:Option (List (Nat×Nat)×Nat))(h:MH):vT (JV o) .bx h=some (.bl o.isSome,h):=by
 cases o with
 | none=>rfl
 | some r=>rfl
def fM{h:MH}{n:Nat}{a:List D}(e:h[n]?=some (.lst a)):bJ [.ob n] h=some (.tup a,h):=by
 unfold bJ b9;dsimp only;rw[e];rfl
def Ct{h:MH}{n:Nat}{a:List D}(e:h[n]?=some (.lst a)):yn (.ob n) h=some (!a.isEmpty):=by
 unfold yn;dsimp only;rw[e]
def fV(f:cD):eY f=.tup [aD f.bA,.tup (f.nums.map D.int),bM f.rs.reverse f.k]:=rfl
def sX{P:Prog}{fs:List cD}{h:MH}(ok:∀f∈fs,gP P f)(hl:fs.length<=1000):dU [bt P,qo fs] h=some (qo (gJ P fs),h):=by
 have L:Rn (dU [bt P,qo fs] h) λp=>p=(qo (gJ P fs),h):=by
  refine jk ?_;nofun;refine GS ?_;nofun;refine⟨_,fs.reverse.map eY,_,rfl,rfl,?_⟩;nofun;have v:∀(j:DS)(a:List cD)(r o l:Option D),j=[some (bt P),some (qo fs),some (.ob h.length),r,o,l]->a=gJ P fs->qS (aR (aq bJ (af (aP 2) aY))) (El λp=>Rn (leave h p.fst p.snd) λp=>p=(qo (gJ P fs),h)) (Fl.nx,j,h++[.lst (a.reverse.map eY)]):=by
   rintro j a r o l rfl rfl;exists fM aW;exact rv (j6 (λn z=>(nomatch z)) (tG _ _)) rfl
  refine mE (λm j y=>∃(a:List cD)(r o l:Option D),m=a.length/\a.length<=1000/\(∀f∈a,gP P f)/\j=[some (bt P),some (qo fs),some (.ob h.length),r,o,l]/\y=h++[.lst (a.reverse.map eY)]/\gJ P a=gJ P fs) ?_ _ fs.length _ _ (by exact Wr hl (by decide)) ⟨fs,_,_,_,rfl,hl,ok,rfl,rfl,rfl⟩;rintro m j y ⟨a,r,o,l,rfl,b,e,rfl,rfl,t⟩;nofun;refine⟨_,Ct aW,λc=>?_,λc=>?_⟩
  ·cases a with
   | nil=>cases c
   | cons f a=>
    obtain⟨d,C,A,I,H⟩:=e f VF;have er:bU P f.bA=d.2.2:=by unfold bU;rw[A];rfl
    rw[Wi,VT];nofun;refine fT ?_;nofun;refine⟨bI aW,?_⟩;exists jZ aW;rw[dH,fV f];exists mr A;exists p8 (er ▸ I) H;exists KR _ _;refine⟨_,rfl,λs=>?_,λs=>?_⟩
    ·cases q:k7 (bU P f.bA) f.rs f.k with
     | none=>rw[q] at s;cases s
     | some p=>
      nofun;refine fT ?_;nofun;refine⟨bI aW,?_⟩;exists bL aW (by rw[Vy,WA,show sizeLine=16777216 from rfl];rw[VU] at b;exact VX b (by decide));rw[dH];nofun;have i:List.map eY a.reverse++[D.tup [aD f.bA,D.tup (List.map D.int f.nums),JV (some p)]]=(gJ P fs).reverse.map eY:=by
       rw[<-t];show _=(eQ P a f).reverse.map eY;rw[eB q,Wi,VT];rfl
      rw[i];refine rv (fM aW) ?_;exact rv (j6 (λn z=>(nomatch z)) (tG _ _)) rfl
    ·cases q:k7 (bU P f.bA) f.rs f.k with
     | some p=>rw[q] at s;cases s
     | none=>
      nofun;refine⟨_,Ct aW,λu=>?_,λu=>?_⟩
      ·cases a with
       | nil=>cases u
       | cons g a=>
        obtain⟨M,E,G,F,w⟩:=e g (VD _ VF);rw[Wi,VT];nofun;refine fT ?_;nofun;refine⟨bI aW,?_⟩;exists jZ aW;rw[dH,fV g];nofun;refine fT ?_;nofun;refine⟨bI aW,?_⟩;exists pO g.rs.reverse g.k _ (by rw[WA];exact w);exists bL aW (by rw[Vy,WA,show sizeLine=16777216 from rfl];rw[VU,VU] at b;lia);rw[dH];refine⟨(g::a).length,W3 _,{g with k:=g.k+1}::a,_,_,_,rfl,XN b,λx i=>?_,rfl,?_,?_⟩
        ·rcases VS.mp i with rfl | i
         ·exact⟨M,E,G,F,w⟩
         ·exact e x (VD _ (VD _ i))
        ·rw[Wi,VT];rfl
        ·rw[<-t];show eQ P a {g with k:=g.k+1}=eQ P (g::a) f;rw[kc q]
      ·cases a with
       | cons g a=>rw[Wi,VT] at u;simp at u
       | nil=>
        nofun;exact⟨0,Nat.zero_lt_one,[],_,_,_,rfl,Wm _,λx i=>(nomatch i),rfl,rfl,by rw[<-t];exact(g9 q).symm⟩
  ·cases a with
   | nil=>exact v _ [] _ _ _ rfl (by rw[<-t];rfl)
   | cons f a=>rw[Wi,VT] at c;simp at c
 obtain⟨p,J,rfl⟩:=L;exact J
def Ja(a:List Row)(rs:List (Nat×Nat))(k:Nat):Prop:=∃b,bB a rs.reverse=some b/\((∃r,b[k]?=some r)\/(b[k]?=none/\∃s c l r,rs=s::c/\bB a c.reverse=some l/\l[s.1]?=some r/\cO r s.2=true))
theorem Bk{d:List Row}:∀{rs:List (Nat×Nat)} {k:Nat} {a:List Row} {p:List (Nat×Nat)×Nat},bB d rs.reverse=some a->k7 d rs k=some p->Ja d p.1 p.2/\p.1.length<=rs.length
 | [],k,a,p,e,b=>by
  cases q:a[k]? with
  | none=>rw[qD e q] at b;cases b
  | some r=>rw[gX e q] at b;cases b;exact⟨⟨a,e,.inl ⟨r,q⟩⟩,VG _⟩
 | s::rs,k,a,p,e,b=>by
  cases q:a[k]? with
  | some r=>rw[gX e q] at b;cases b;exact⟨⟨a,e,.inl ⟨r,q⟩⟩,VG _⟩
  | none=>
   obtain⟨l,r,g1,g2,g3⟩:=mS e;rw[xa e q g1 g2] at b
   by_cases c:cO r s.2=true
   ·rw[VE c] at b;cases b;exact⟨⟨a,e,.inr ⟨q,s,rs,l,r,rfl,g1,g2,c⟩⟩,VG _⟩
   ·rw[VH c] at b;obtain⟨g,f⟩:=Bk g1 b;exact⟨g,W6 f⟩
def yc(P:Prog)(f:cD):Prop:=∃d,P.ag[f.bA]?=some d/\Ja d.2.2 f.rs f.k/\f.rs.length<=1000
def yc.ok{P:Prog}{f:cD}(h:yc P f):gP P f:=let⟨d,e,⟨a,c,_⟩,b⟩:=h;⟨d,a,e,c,b⟩
def eN{P:Prog}{i:Nat}{d:dD}(h:P.ag[i]?=some d):bU P i=d.2.2:=by unfold bU;rw[h];rfl
def Av(P:Prog):List cD->Prop
 | []=>True
 | f::fs=>yc P f/\∀g∈fs,gP P g
theorem Dy{P:Prog}:∀{fs:List cD} {f:cD},gP P f->(∀g∈fs,gP P g)->Av P (eQ P fs f)/\(eQ P fs f).length<=fs.length+1
 | fs,f,⟨d,e,f1,f2,o⟩,a=>by
  have er:=eN f1;cases q:k7 (bU P f.bA) f.rs f.k with
  | some p=>
   rw[eB q];obtain⟨c,b⟩:=Bk (er ▸ f2) q;exact⟨⟨⟨d,f1,er ▸ c,VJ b o⟩,a⟩,VG _⟩
  | none=>
   cases fs with
   | nil=>rw[g9 q];exact⟨True.intro,Wm _⟩
   | cons g n=>
    rw[kc q];obtain⟨r,h,l,j,i⟩:=a g VF;obtain⟨c,b⟩:=Dy (fs:=n) (f:={g with k:=g.k+1}) ⟨r,h,l,j,i⟩ λx m=>a x (VD _ m);exact⟨c,W6 b⟩
theorem K2{P:Prog}:∀{fs:List cD},(∀g∈fs,gP P g)->Av P (gJ P fs)/\(gJ P fs).length<=fs.length
 | [],_=>⟨True.intro,VG _⟩
 | f::fs,h=>Dy (h f VF) λg a=>h g (VD _ a)
def i0(P:Prog)(f:cD):Option Row:=(bB (bU P f.bA) f.rs.reverse).bind λl=>l[f.k]?
def gD{P:Prog}{f:cD}{h:MH}(ok:gP P f):eI [bt P,eY f] h=some (yN (i0 P f),h):=by
 obtain⟨d,c,b,a,e⟩:=ok;have er:=eN b;have i:Rn (eI [bt P,eY f] h) λp=>p=(yN (i0 P f),h):=by
  refine br ?_;rw[fV f];exists mr b;exists jg (er ▸ a) (by rw[WA];exact e);nofun;unfold i0;rw[er,a];rfl
 obtain⟨p,g,rfl⟩:=i;exact g
abbrev Hand:=List cD×List (List az)
def eD(b:List az):D:=.tup (b.map gF)
def jC(x:Hand):D:=.tup [qo x.1,.tup (x.2.map eD)]
def fb(S:List Hand):D:=.tup (S.map jC)
def mX(f:cD)(fs:List cD)(h:MH):aB (qo (f::fs)) (.int (-1)) h=some (eY f,h):=by
 refine tj ?_;rw[Wi,VT];exact nr _ _
def wH{S:List Hand}{i:Nat}{x:Hand}{h:MH}(e:S[i]?=some x):aB (fb S) (aD i) h=some (jC x,h):=eS (by rw[VN,e];rfl)
def Cs(fs:List cD)(h:MH):yn (qo fs) h=some (!fs.isEmpty):=by
 cases fs with
 | nil=>rfl
 | cons f fs=>
  show some (!((f::fs).reverse.map eY).isEmpty)=_;rw[Wi,VT];simp
def Nh(P:Prog)(x:Hand):Option Row:=x.1.head?.bind λf=>i0 P f
def rG{P:Prog}{S:List Hand}{i:Nat}{x:Hand}{h:MH}(e:S[i]?=some x)(ok:Av P x.1):dS [bt P,fb S,aD i] h=some (yN (Nh P x),h):=by
 have d:Rn (dS [bt P,fb S,aD i] h) λp=>p=(yN (Nh P x),h):=by
  refine br ?_;exists wH e;unfold jC;nofun;refine⟨_,Cs _ _,λc=>?_,λc=>?_⟩
  ·obtain⟨fs,a⟩:=x;cases fs with
   | nil=>cases c
   | cons f fs=>
    exists mX f fs _;exists gD ok.1.ok;rfl
  ·obtain⟨fs,a⟩:=x;cases fs with
   | nil=>nofun;rfl
   | cons f fs=>cases c
 obtain⟨p,b,rfl⟩:=d;exact b
noncomputable def gU:Row->List Lock
 | .within l _=>[l]
 | .all ls _=>ls
 | .ask l _ _=>[l]
 | _=>[]
def uF(r:Row)(h:MH):iH [aM r] h=some (.tup ((gU r).map aL),h):=by
 have c:Rn (iH [aM r] h) λp=>p=(.tup ((gU r).map aL),h):=by
  refine br ?_;cases r with
  | all _ _=>rw[aM];nofun;refine⟨true,by ac_nf,tt ?_⟩;nofun;rfl
  | within _ _=>rw[aM];nofun;refine⟨false,by ac_nf,ff ?_⟩;nofun;refine rv (a:=(.bl true,h)) (by ac_nf) ⟨true,rfl,tt ?_⟩;nofun;rfl
  | ask _ _ _=>rw[aM];nofun;refine⟨false,by ac_nf,ff ?_⟩;nofun;refine rv (a:=(.bl true,h)) (by ac_nf) ⟨true,rfl,tt ?_⟩;nofun;rfl
  | _=>rw[aM];nofun;refine⟨false,by ac_nf,ff ?_⟩;nofun;refine rv (a:=(.bl false,h)) (by ac_nf) ⟨false,rfl,ff ?_⟩;nofun;rfl
 obtain⟨p,b,rfl⟩:=c;exact b
def GZ{a:List (Key×D)}{k:Key}{v:D}(h:k∈a.map (·.1)):putD a k v=a.map (λb=>if b.1=k then(b.1,v) else b):=by
 unfold putD;rw[VE];obtain⟨p,hp,e⟩:=V7.mp h;exact YJ.mpr ⟨p,hp,Wa e⟩
def fJ{a j:Key}{b:D}{r:List (Key×D)}:cW ((a,b)::r) j=if a=j then some b else cW r j:=by
 by_cases h:a=j
 ·rw[VE h];simp[cW,h]
 ·rw[VH h];simp only[cW,WQ,h,decide_false]
theorem qR{k j:Key}{v:D}(hj:j≠k):∀l:List (Key×D),cW (l.map (λd=>if d.1=k then(d.1,v) else d)) j=cW l j
 | []=>rfl
 |(a,b)::r=>by
  rw[VL]
  by_cases c:a=k
  ·rw[VE c,fJ,fJ,VH (λz=>hj (z.symm.trans c)),VH (λz=>hj (z.symm.trans c))];exact qR hj r
  ·rw[VH c,fJ,fJ,qR hj r]
theorem valD_map'{k:Key}{v:D}:∀l:List (Key×D),k∈l.map (·.1)->cW (l.map (λd=>if d.1=k then(d.1,v) else d)) k=some v
 | [],h=>(nomatch h)
 |(a,b)::r,h=>by
  rw[VL]
  by_cases c:a=k
  ·rw[VE c,fJ,VE c]
  ·rw[VH c,fJ,VH c];exact valD_map' r ((VS.mp h).resolve_left λe=>c e.symm)
def yl{a:List (Key×D)}{k j:Key}{v:D}:cW (putD a k v) j=if j=k then some v else cW a j:=by
 by_cases h:k∈a.map (·.1)
 ·rw[GZ h]
  by_cases hj:j=k
  ·subst hj;rw[VE rfl];exact valD_map' a h
  ·rw[VH hj];exact qR hj a
 ·rw[y8 h]
  by_cases hj:j=k
  ·subst hj;rw[VE rfl];unfold cW;rw[List.find?_append];have:a.find? (λb=>decide (b.1=j))=none:=by
    rw[List.find?_eq_none];intro p hp e;exact h (V7.mpr ⟨p,hp,WT e⟩)
   rw[this];simp
  ·rw[VH hj];unfold cW;rw[List.find?_append];cases a.find? (λb=>decide (b.1=j)) with
   | some p=>rfl
   | none=>
    simp[WO hj]
noncomputable def CC(a:List Str)(ns:List Int):List (Key×D):=(a.zip ns).map λp=>((.inr p.1:Key),D.int p.2)
theorem CB:∀(a:List Str)(ns:List Int),uZ (a.map D.str) (ns.map D.int)=some (CC a ns)
 | [],_=>rfl
 | _::_,[]=>rfl
 | n::ns,r::rs=>by
  rw[VL,VL];show(lG (.str n)).bind (λk=>(uZ (ns.map D.str) (rs.map D.int)).map λa=>(k,D.int r)::a)=_;rw[CB ns rs];rfl
theorem vG{w:Str}:∀(z:List (Str×Int)) (a:List (Key×D)),(w∈z.map (·.1)\/∃v,cW a (.inr w)=some (.int v))->∃v,cW (iy a (z.map λp=>((.inr p.1:Key),D.int p.2))) (.inr w)=some (.int v)
 | [],a,h=>h.resolve_left λz=>(nomatch z)
 | p::z,a,h=>by
  show ∃v,cW (iy (putD a (.inr p.1) (.int p.2)) (z.map λp=>((.inr p.1:Key),D.int p.2))) (.inr w)=some (.int v);refine vG z _ ?_
  by_cases e:w=p.1
  ·exact .inr ⟨p.2,by rw[yl,VE (by rw[e])]⟩
  ·rcases h with h |⟨v,h⟩
   ·exact .inl ((VS.mp h).resolve_left e)
   ·exact .inr ⟨v,by rw[yl,VH (λz=>e (Sum.inr.inj z)),h]⟩
noncomputable def zh(P:Prog)(i:Nat):List Str:=((P.ag[i]?).map λd=>d.2.1).getD []
def lu(P:Prog)(f:cD):List (Key×D):=iy [] (CC (zh P f.bA) f.nums)
def Hz{P:Prog}{f:cD}{w:Str}(a:w∈zh P f.bA)(hl:(zh P f.bA).length<=f.nums.length):∃v,cW (lu P f) (.inr w)=some (.int v):=
 vG _ [] (.inl (by rw[List.map_fst_zip hl];exact a))
def JO{m:AM}{g:DS}{h:MH}{Q:D×MH->Prop}(r:Rn (m g h) λp=>∃d e f c i a b,p.1=[d,e]/\b9 d p.2=some (f,i)/\b9 e p.2=some (c,a)/\uZ f c=some b/\b.length<=1000000/\Q (.dv (iy [] b),p.2)):Rn (BS m g h) Q:=
 aS (r.imp λp j=>by obtain⟨d,e,f,c,i,a,b,s,o,n,l,k,q⟩:=j;exact⟨_,by rw[s];dsimp only;rw[o];dsimp only[Option.bind_some];rw[n];dsimp only[Option.bind_some];rw[l];dsimp only[Option.bind_some];rw[VE k],q⟩)
def qh{P:Prog}{f:cD}{d:dD}{h:MH}(e:P.ag[f.bA]?=some d)(hl:d.2.1.length<=1000):fG [bt P,eY f] h=some (.dv (lu P f),h):=by
 have a:zh P f.bA=d.2.1:=by unfold zh;rw[e];rfl
 have c:Rn (fG [bt P,eY f] h) λp=>p=(.dv (lu P f),h):=by
  refine br ?_;rw[fV f];unfold bt;nofun;refine JO ?_;exists eS (by rw[VN,e];rfl);unfold dA;nofun;refine⟨_,_,_,_,_,_,CC d.2.1 f.nums,rfl,rfl,rfl,CB _ _,?_,?_⟩
  ·unfold CC;rw[Vy,List.length_zip]
   lia
  ·unfold lu;rw[a];rfl
 obtain⟨p,b,rfl⟩:=c;exact b
noncomputable def vI:Option D->Int
 | some (.int z)=>z
 | _=>0
def wt(a:List (Key×D))(t:Term):Int:=if t.1="" then t.2 else vI (cW a (.inr t.1))+t.2
def gM(a:List (Key×D))(t:Term):Prop:=t.1=""\/∃z,cW a (.inr t.1)=some (.int z)
def tZ{a:List (Key×D)}{t:Term}{h:MH}(f:gM a t):fY [bj t,.dv a] h=some (.int (wt a t),h):=by
 have e:Rn (fY [bj t,.dv a] h) λp=>p=(.int (wt a t),h):=by
  refine br ?_;unfold bj;nofun;refine⟨_,rfl,λc=>?_,λc=>?_⟩
  ·have b:t.1="":=by simpa using c
   nofun;unfold wt;rw[VE b]
  ·have b:¬t.1="":=by simpa using c
   obtain⟨z,d⟩:=f.resolve_left b;exists DG rfl d;nofun;unfold wt;rw[VH b,d];rfl
 obtain⟨p,g,rfl⟩:=e;exact g
def sN:EM:=aq aN (af (aP 0) (af (aq fY (af (aP 1) (af (aP 2) aY))) aY))
def KC:GM:=gT 2 (ai (gN 0) (ai (gN 1) bp))
def mT(b:List (Key×D))(a:List az)(l:Lock):List az:=I8 a (l.1,wt b l.2)
def HG{a:List (Key×D)}{l:Lock}{h:MH}(b:gM a l.2):sN [some (.str l.1),some (bj l.2),some (.dv a)] h=some (gF (l.1,wt a l.2),h):=by
 have e:Rn (sN [some (.str l.1),some (bj l.2),some (.dv a)] h) λp=>p=(gF (l.1,wt a l.2),h):=by
  unfold sN;exists tZ b;nofun;rfl
 obtain⟨p,c,rfl⟩:=e;exact c
def Am(a:List az)(k:az):(I8 a k).length<=a.length+1:=by unfold I8;split <;> simp
theorem Dj{a:List (Key×D)}{h:MH}:∀(ls:List Lock)(f d1:Option D)(b:List az),(∀l∈ls,gM a l.2)->b.length+ls.length<=4->
  ∃d c,fk [] KC cj (mP sN) (ls.map aL) [f,d1,some (.dv a)] h b=some ([d,c,some (.dv a)],h,ls.foldl (mT a) b)
 | [],f,d1,b,_,_=>⟨f,d1,rfl⟩
 | l::ls,f,d1,b,hw,hl=>by
  have j:=Am b (l.1,wt a l.2);rw[VU] at hl;obtain⟨d,c,e⟩:=Dj (h:=h) ls (some (.str l.1)) (some (bj l.2)) (mT a b l) (λx g=>hw x (VD _ g)) (by unfold mT;lia);refine⟨d,c,?_⟩;have i:mP sN [some (.str l.1),some (bj l.2),some (.dv a)] h b=some ([some (.str l.1),some (bj l.2),some (.dv a)],h,mT a b l):=by
   unfold mP;rw[HG (hw l VF)];show(if b.length<=3 then _ else _)=_;rw[VE (by lia)];rfl
  rw[VL,Z5];show(if gR [] h then(KC (aL l) [f,d1,some (.dv a)] h).bind _ else none)=_;rw[VE (show gR [] h=true from rfl),show KC (aL l) [f,d1,some (.dv a)] h=some ([some (.str l.1),some (bj l.2),some (.dv a)],h) from rfl];show(mP sN [some (.str l.1),some (bj l.2),some (.dv a)] h b).bind _=_;rw[i];exact e
def HF(P:Prog)(f:cD):List az:=kZ (((i0 P f).map gU).getD [] |>.foldl (mT (lu P f)) [])
theorem oD(b:List (Key×D)):∀(ls:List Lock)(a:List az),(ls.foldl (mT b) a).length<=a.length+ls.length
 | [],_=>VG _
 | l::ls,a=>by
  have d:=Am a (l.1,wt b l.2);have c:=oD b ls (mT b a l);rw[Z5,VU];unfold mT at c ⊢
  lia
def qi{P:Prog}{f:cD}{d:dD}{r:Row}{h:MH}(ok:gP P f)(e:P.ag[f.bA]?=some d)(hl:d.2.1.length<=1000)(er:i0 P f=some r)(c:∀l∈gU r,gM (lu P f) l.2)(b:(gU r).length<=4):fH [bt P,eY f] h=some (eD (HF P f),h):=by
 have j:Rn (fH [bt P,eY f] h) λp=>p=(eD (HF P f),h):=by
  refine br ?_;exists gD ok;rw[er];exists uF r _;exists qh e hl;nofun;obtain⟨k,d1,g⟩:=Dj (h:=h) (gU r) none none [] c (by simpa using b);refine rv (a:=(.lv ((HF P f).map gF),h)) ?_ ?_
  ·show((fk [] KC cj (mP sN) ((gU r).map aL) [none,none,some (.dv (lu P f))] h []).bind _)=_;rw[g];show(if((gU r).foldl (mT (lu P f)) []).length<=4 then _ else _)=_;rw[VE (by have:=oD (lu P f) (gU r) [];simp at this;exact VJ this b)];unfold HF;rw[er];rfl
  ·exists rfl;rfl
 obtain⟨p,i,rfl⟩:=j;exact i
theorem CT:∀b:List az,gc (b.map gF)=some (b.map gn)
 | []=>rfl
 | k::r=>by
  show(jm (gF k)).bind (λa=>(gc (r.map gF)).map λbs=>a::bs)=_;rw[CT r];rfl
theorem vX:∀b:List az,PyData.depthAll (b.map gn)<=2
 | []=>by simp[PyData.depthAll]
 | k::r=>by
  have:=vX r;simp only[VL,PyData.depthAll,gn,PyData.depth];simp
  lia
def Ij(k l:az):PyData.eqv (gn k) (gn l)=decide (k=l):=by
 show((k.1==l.1)&&((k.2==l.2)&&true))=_;rw[Bool.and_true,Xa,V1,Xs,Xs,Xb];constructor
 ·rintro⟨b,a⟩;exact Prod.ext b a
 ·rintro rfl;exact⟨rfl,rfl⟩
def DI(l:az)(b:List az)(h:MH):Fd (gF l) (eD b) h=some (.bl (decide (l∈b)),h):=by
 have c:inD (gF l) (eD b) h=some (decide (l∈b)):=by
  show((gc (b.map gF)).bind λbs=>if(gn l).depth<=60/\PyData.depthAll bs<=60 then some (bs.any λx=>PyData.eqv x (gn l)) else none)=_;rw[CT];show(if(gn l).depth<=60/\PyData.depthAll (b.map gn)<=60 then some ((b.map gn).any λx=>PyData.eqv x (gn l)) else none)=_;rw[VE ⟨by simp[gn,PyData.depth,PyData.depthAll],VJ (vX b) (by decide)⟩,List.any_map];congr 1;rw[Xa,YJ,Xb];constructor
  ·rintro⟨x,a,e⟩;have e:PyData.eqv (gn x) (gn l)=true:=e;rw[Ij] at e;exact WT e ▸ a
  ·intro a;exact⟨l,a,by show PyData.eqv (gn l) (gn l)=true;rw[Ij];simp⟩
 unfold Fd;rw[c];rfl
noncomputable def xC(l:az)(x:Hand):Bool:=x.2.any λb=>decide (l∈b)
def U2:Option Nat->D
 | none=>.bx
 | some i=>aD i
def PC{a:Type}(p:a->Bool)(l:List a)(h:MH):OW [.lv (l.map λw=>D.bl (p w))] h=some (.bl (l.any p),h):=by
 show(uO (l.map λx=>D.bl (p x))).map (λbs=>(D.bl (bs.any id),h))=_;rw[DR];show some (D.bl ((l.map p).any id),h)=_;rw[List.any_map];rfl
def E4{l:az}{bs:List (List az)}{h:MH}:a8 [] (gN 0) cj (ak Fd (aP 1) (aP 0)) (bs.map eD) [none,some (gF l)] h=some (bs.map (λb=>D.bl (decide (l∈b))),h):=by
 have:=DK (e:=ak Fd (aP 1) (aP 0)) (t:=[some (gF l)]) (h:=h) (λd=>match Fd (gF l) d h with | some (z,_)=>z | none=>.bx) (bs.map eD) none (λy a=>by
  obtain⟨b,c,rfl⟩:=V7.mp a;show Fd (gF l) (eD b) h=_;rw[DI])
 rw[this,XO];congr 2;refine List.map_congr_left λb c=>?_;show(match Fd (gF l) (eD b) h with | some (z,_)=>z | none=>.bx)=_;rw[DI]
def qK(x:Hand):jC x=.tup [qo x.1,.tup (x.2.map eD)]:=rfl
def mV{S:List Hand}{l:az}{h:MH}(r:∀x∈S,x.2.length<=1000):fN [fb S,gF l] h=some (U2 (S.findIdx? (xC l)),h):=by
 have v:Rn (fN [fb S,gF l] h) λp=>p=(U2 (S.findIdx? (xC l)),h):=by
  refine br ?_;unfold fb;nofun;refine fA ?_;nofun;refine⟨_,_,_,rfl,rfl,?_⟩;refine cB (λi f e=>e=h/\(∃(d2 q o:Option D),f=[some (.tup (S.map jC)),some (gF l),d2,q,o])/\∀(j:Nat)(x:Hand),j < i->S[j]?=some x->xC l x=false) ⟨rfl,⟨_,_,_,rfl⟩,λj x hj=>absurd hj (WJ _)⟩ (λ_ _ _ _ _=>rfl) ?_ ?_
  ·rintro i x f e n ⟨rfl,⟨d2,q,o,rfl⟩,b⟩;obtain⟨y,m,rfl⟩:=iB n;have g:=VC m;rw[qK y];nofun;refine rv (a:=(y.2.map eD,[],e)) rfl ?_;refine rv E4 ⟨by rw[Vy,show sizeLine=16777216 from rfl];have:=r y g;exact VJ this (by decide),?_⟩;nofun;refine rv (PC _ _ _) ⟨_,rfl,λc=>?_,λc=>?_⟩
   ·have t:S.findIdx? (xC l)=some i:=by
     rw[ZN];obtain⟨s,k⟩:=Vz.mp m;refine⟨s,by rw[k];exact c,λj hj=>?_⟩;have:=b j (S[j]'(by lia)) hj (VI _);rw[this];exact V8
    rw[t];nofun;rfl
   ·nofun;refine⟨rfl,⟨_,_,_,rfl⟩,λj x hj d=>?_⟩;rcases Nat.lt_succ_iff_lt_or_eq.mp hj with z | z
    ·exact b j x z d
    ·subst z;rw[m] at d;cases d;exact c
  ·rintro f e ⟨rfl,⟨d2,q,o,rfl⟩,b⟩;rw[bF,Vy] at b;have:S.findIdx? (xC l)=none:=by
    rw[YX];intro x n;obtain⟨j,hj⟩:=WN.mp n;exact b j x (Vz.mp hj).1 hj
   rw[this];nofun;rfl
 obtain⟨p,u,rfl⟩:=v;exact u
def kR(S:List Hand)(l:az):Bool:=(S.findIdx? (xC l)).isSome
def LO:TM:=ay (ak vT (aq fN (af (aP 1) (af (aP 0) aY))) (eK .bx))
def My{S:List Hand}{l:az}{h:MH}(a:∀x∈S,x.2.length<=1000):LO [some (gF l),some (fb S)] h=some (kR S l,h):=by
 have e:Rn (LO [some (gF l),some (fb S)] h) λp=>p=(kR S l,h):=by
  unfold LO;exists mV a;nofun;unfold kR;cases S.findIdx? (xC l) with
  | none=>exact rv rfl ⟨_,rfl,rfl⟩
  | some i=>exact rv rfl ⟨_,rfl,rfl⟩
 obtain⟨p,b,rfl⟩:=e;exact b
theorem Co{S:List Hand}{h:MH}(b:∀x∈S,x.2.length<=1000):∀(ls:List az)(o:Option D),a8 [] (gN 0) LO (aP 0) (ls.map gF) [o,some (fb S)] h=some ((ls.filter (kR S)).map gF,h)
 | [],o=>rfl
 | l::ls,o=>by
  have a:=Co b ls (some (gF l)) (h:=h);rw[VL];show(if gR [] h then(LO [some (gF l),some (fb S)] h).bind (λt=>if t.1 then(some (gF l,t.2)).bind λy=>(a8 [] (gN 0) LO (aP 0) (ls.map gF) [some (gF l),some (fb S)] y.2).map λz=>(y.1::z.1,z.2) else a8 [] (gN 0) LO (aP 0) (ls.map gF) [some (gF l),some (fb S)] t.2) else none)=_;rw[VE (show gR [] h=true from rfl),My b];cases c:kR S l with
  | true=>
   rw[List.filter_cons_of_pos c];show(a8 [] (gN 0) LO (aP 0) (ls.map gF) [some (gF l),some (fb S)] h).map _=_;rw[a];rfl
  | false=>
   rw[List.filter_cons_of_neg (by rw[c];exact V8)];exact a
noncomputable def EV:Row->Bool
 | .within _ _=>true
 | .all _ _=>true
 | _=>false
structure Sl(P:Prog)(f:cD)(r:Row):Prop where
 Vw:∃d,P.ag[f.bA]?=some d/\d.2.1.length<=1000
 lk:∀l∈gU r,gM (lu P f) l.2
 four:(gU r).length<=4
def Jf(P:Prog)(S:List Hand)(x:Hand):List az:=match x.1 with
 | []=>[]
 | f::_=>match i0 P f with
  | none=>[]
  | some r=>if EV r then(HF P f).filter (kR S) else[]
def Ng(r:Row)(h:MH):oF (.str (gB r)) (.tup [.str "within",.str "all"]) h=some (.bl (!EV r),h):=by
 cases r <;> ac_nf
def pb(r:Row)(h:MH):aB (aM r) (.int 0) h=some (.str (gB r),h):=by
 obtain⟨x,e,_⟩:=tO r;rw[e];exact eS (i:=0) rfl
def AB{P:Prog}{S:List Hand}{i:Nat}{x:Hand}{h:MH}(e:S[i]?=some x)(ok:Av P x.1)(g:∀x∈S,x.2.length<=1000)(j:∀f fs r,x.1=f::fs->i0 P f=some r->Sl P f r):qP [bt P,fb S,aD i] h=some (eD (Jf P S x),h):=by
 have l:Rn (qP [bt P,fb S,aD i] h) λp=>p=(eD (Jf P S x),h):=by
  refine br ?_;exists rG e ok;exists xA _ _;cases er:Nh P x with
  | none=>
   refine⟨true,rfl,tt (tt ?_)⟩;nofun;obtain⟨fs,hd⟩:=x;cases fs with
   | nil=>rfl
   | cons f fs=>
    have er:i0 P f=none:=er;show(eD [],h)=(eD (Jf P S (f::fs,hd)),h);unfold Jf;dsimp only;rw[er]
  | some r=>
   obtain⟨fs,hd⟩:=x;cases fs with
   | nil=>cases er
   | cons f fs=>
    have er:i0 P f=some r:=er;obtain⟨⟨d,d1,d2⟩,b,a⟩:=j f fs r rfl er;refine⟨false,rfl,ff ?_⟩;exists pb r _;exists Ng r _;cases c:EV r with
    | false=>
     refine⟨true,rfl,tt ?_⟩;nofun;show(eD [],h)=(eD (Jf P S (f::fs,hd)),h);unfold Jf;dsimp only;rw[er];dsimp only;rw[c];rfl
    | true=>
     refine⟨false,rfl,ff ?_⟩;nofun;refine dm ?_;exists wH e;rw[qK];exists mX f fs _;exists qi ok.1.ok d1 d2 er b a;refine⟨(HF P f).map gF,[],rfl,?_⟩;refine rv (Co g (HF P f) none) ⟨?_,?_⟩
     ·have n:=List.length_filter_le (kR S) (HF P f);have m:(HF P f).length<=4:=by
       unfold HF;rw[er,(fK _).length_eq];have:=oD (lu P f) (gU r) [];simp at this ⊢;exact VJ this a
      rw[Vy,show sizeLine=16777216 from rfl]
      lia
     exists rfl;show(eD ((HF P f).filter (kR S)),h)=(eD (Jf P S (f::fs,hd)),h);unfold Jf;dsimp only;rw[er];dsimp only;rw[c];rfl
 obtain⟨p,k,rfl⟩:=l;exact k
def Vt(a:List (Key×D)):Row->Prop
 | .Ah s t _ _ _=>gM a s/\gM a t
 | _=>True
def nums:Nat->List Str->List (Key×D)
 | _,[]=>[]
 | k,w::r=>(.inr w,aD k)::nums (k+1) r
theorem zt:∀(k:Nat)(x y:List Str),nums k (x++y)=nums k x++nums (k+x.length) y
 | k,[],y=>by simp[nums]
 | k,w::x,y=>by simp only[Yn,nums,zt (k+1) x y,VU];congr 3;lia
theorem vB:∀(k:Nat)(x:List Str),(nums k x).map (·.1)=x.map Sum.inr
 | _,[]=>rfl
 | k,w::r=>by rw[nums,VL,VL,vB (k+1) r]
theorem zr:∀(k:Nat)(x:List Str),(nums k x).length=x.length
 | _,[]=>rfl
 | k,w::r=>by rw[nums,VU,VU,zr (k+1) r]
theorem Dh:∀(k i:Nat)(x:List Str)(w:Str),x.Nodup->x[i]?=some w->cW (nums k x) (.inr w)=some (aD (k+i))
 | k,0,v::r,w,_,e=>by
  cases e;unfold cW nums;rw[List.find?_cons_of_pos (by simp)];rfl
 | k,i+1,v::r,w,hn,e=>by
  have a:v≠w:=λz=>(XJ.mp hn).1 (z ▸ VC (by simpa using e));have:=Dh (k+1) i r w (XJ.mp hn).2 (by simpa using e);unfold cW at this ⊢;rw[nums,AaH (by simpa using a),this];congr 2
  lia
def ni{h:MH}{a:D}{b:List D}{c:List Str}(hd:b.length=c.length)(u:∀(i:Nat)(d:D),b[i]?=some d->∃(w:Str)(f:List D),c[i]?=some w/\d=D.tup (.str w::f))(hn:c.Nodup)(hl:c.length<=1000):
  dW [.tup [a,.tup b]] h=some (.dv (nums 0 c),h):=by
 refine rL (br ?_);nofun;refine QQ (fA ?_);nofun;refine⟨_,_,_,rfl,rfl,?_⟩;refine JQ (iV 0 b) (λr l p k=>∃i v0 v1,i<=b.length/\r=iV i (b.drop i)/\p=h/\l=[v0,v1]/\k=nums 0 (c.take i)) _ _ _ ⟨0,_,_,Wm _,by rw[Zy],rfl,rfl,by rw[List.take_zero];rfl⟩ ?_ ?_
 ·rintro x r l p k ⟨i,v0,v1,v,hr,rfl,rfl,rfl⟩;have g:i < b.length:=by
   rcases X2 i b.length with z | z
   ·exact z
   ·rw[List.drop_eq_nil_of_le z] at hr;cases hr
  rw[Yp g] at hr;obtain⟨w,f,q,F⟩:=u i b[i] (VI g);rw[F] at hr;injection hr with t hr
  subst t;refine⟨rfl,?_⟩;nofun;refine⟨_,rfl,?_⟩;dsimp only;rw[VE rfl];refine TJ ?_;nofun;have n:w∉c.take i:=λm=>by
   obtain⟨j,hj⟩:=WN.mp m;rw[List.getElem?_take] at hj
   by_cases z:j < i
   ·rw[VE z] at hj;have E:=(Vz.mp hj);have C:=(Vz.mp q);obtain⟨a1,H⟩:=E;obtain⟨a2,G⟩:=C;have:=(List.pairwise_iff_getElem.mp hn) j i a1 a2 z;exact this (H.trans G.symm)
   ·rw[VH z] at hj;cases hj
  refine⟨.inr w,rfl,by rw[zr,V4,Xh];lia,i+1,_,_,g,hr,rfl,rfl,?_⟩;show putD (nums 0 (c.take i)) (.inr w) (aD i)=_;have o:(c.take i).length=i:=by rw[V4];lia
  rw[y8 (by rw[vB];intro m;obtain⟨y,s,e⟩:=V7.mp m;cases e;exact n s),take_snoc q,zt,o,WG];rfl
 ·rintro l p k ⟨i,v0,v1,v,hr,rfl,rfl,rfl⟩;have A:i=b.length:=by
   rcases X2 i b.length with z | z
   ·rw[Yp z] at hr;cases hr
   ·lia
  refine⟨rfl,?_⟩;show _=_;dsimp only;rw[A,hd,Wq]
def xo{P:Prog}{h:MH}(nd:(P.ag.map (·.1)).Nodup)(hl:P.ag.length<=1000):dW [bt P] h=some (.dv (nums 0 (P.ag.map (·.1))),h):=
 ni (by rw[Vy,Vy]) (λi d e=>by
  rw[VN] at e;obtain⟨x,a,rfl⟩:=cY e;exact⟨x.1,_,by rw[VN,a];rfl,rfl⟩) nd (by rw[Vy];exact hl)
abbrev Ao:=List (Str×List Int)
noncomputable def LP(t:Ao):D:=.tup (t.map λp=>.tup [.str p.1,.tup (p.2.map D.int)])
def i4(P:Prog)(num:Str->Nat)(p:Str×List Int):Hand:=(gJ P [{bA:=num p.1,nums:=p.2,rs:=[],k:=0}],[])
def DP(n:Nat)(x:Hand):fD n (jC x)=true:=by
 have c:∀bs:List (List az),cC n (bs.map eD)=true:=λbs=>by
  induction bs with
  | nil=>rfl
  | cons b r a=>
   have hp:∀b:List az,cC n (b.map gF)=true:=λb=>by
    induction b with
    | nil=>rfl
    | cons k r a=>exact a
   show(cC n (b.map gF)&&cC n (r.map eD))=true;rw[hp,a];rfl
 show(cC n (x.1.reverse.map eY)&&(cC n (x.2.map eD)&&true))=true;rw[tG,c];rfl
theorem Ae(n:Nat):∀S:List Hand,cC n (S.map jC)=true
 | []=>rfl
 | x::r=>by show(fD n (jC x)&&cC n (r.map jC))=true;rw[DP,Ae n r];rfl
def B7{P:Prog}{t:Ao}{num:Str->Nat}{h:MH}(nd:(P.ag.map (·.1)).Nodup)(hp:P.ag.length<=1000)(ht:t.length<=1000)(hn:∀p∈t,(P.ag.map (·.1))[num p.1]?=some p.1):kl [bt P,LP t] h=some (fb (t.map (i4 P num)),h):=by
 have s:Rn (kl [bt P,LP t] h) λp=>p=(fb (t.map (i4 P num)),h):=by
  refine jk ?_;exists xo nd hp;nofun;refine dm ?_;nofun;refine⟨_,_,rfl,?_⟩;refine cB (λi c g=>∃(m l j:Option D),c=[some (bt P),some (LP t),some (.dv (nums 0 (P.ag.map (·.1)))),some (.ob h.length),m,l,j]/\g=h++[.lst (((t.take i).map (i4 P num)).map jC)]) ⟨_,_,_,rfl,rfl⟩ (λ_ _ _ _ _=>rfl) ?_ ?_
  ·rintro i x c g o ⟨m,l,j,rfl,rfl⟩;rw[VN] at o;obtain⟨p,a,rfl⟩:=cY o;have b:=VC a;obtain⟨d,hd⟩:∃d,P.ag[num p.1]?=some d:=by
    have:=hn p b;rw[VN] at this;obtain⟨d,hd,_⟩:=cY this;exact⟨d,hd⟩
   have u:i < t.length:=(Vz.mp a).1;have e:t.take (i+1)=t.take i++[p]:=by rw[W0,a];rfl
   exists DG rfl (Dh 0 _ _ p.1 nd (hn p b));rw[WG];nofun;refine fT ?_;nofun;refine⟨bI aW,?_⟩;nofun;refine rv (sX (P:=P) (fs:=[{bA:=num p.1,nums:=p.2,rs:=[],k:=0}]) (λf q=>by
    rw[VQ] at q;subst q;exact⟨d,d.2.2,hd,rfl,Wm _⟩) (by simp)) ?_
   exists bL aW (by rw[Vy,Vy,V4,show sizeLine=16777216 from rfl];lia);rw[dH];nofun;refine⟨_,_,_,rfl,?_⟩;rw[e,VT,VT];rfl
  ·rintro c g ⟨m,l,j,rfl,rfl⟩;rw[Vy,Wq];exists fM aW;exact rv (j6 (λn z=>(nomatch z)) (Ae _ _)) rfl
 obtain⟨p,r,rfl⟩:=s;exact r
def SD(a:List Row)(rs:List (Nat×Nat))(s:Nat×Nat):Bool:=(((bB a rs.reverse).bind λl=>l[s.1]?).map λr=>cO r s.2).getD false
def BY(a:List Row):List (Nat×Nat)->Nat
 | []=>0
 | s::rs=>(SD a rs s).toNat+BY a rs
theorem CW{rows:List Row}:∀{rs:List (Nat×Nat)} {k:Nat} {a:List Row},bB rows rs.reverse=some a->BY rows rs=((k7 rows rs k).map λp=>BY rows p.1).getD 0
 | [],k,a,e=>by
  cases q:a[k]? with
  | none=>rw[qD e q];rfl
  | some r=>rw[gX e q];rfl
 | s::rs,k,a,e=>by
  cases q:a[k]? with
  | some r=>rw[gX e q];rfl
  | none=>
   obtain⟨l,r,g1,g2,g3⟩:=mS e;rw[xa e q g1 g2]
   by_cases c:cO r s.2=true
   ·rw[VE c];rfl
   ·have b:SD rows rs s=false:=by
     unfold SD;rw[g1,VO,g2]
     simpa using c
    rw[VH c,<-CW g1];show(SD rows rs s).toNat+BY rows rs=_;rw[b];exact WG _
def Lh(P:Prog)(f:cD):Nat:=BY (bU P f.bA) f.rs
def BX(P:Prog)(fs:List cD):Nat:=(fs.map (Lh P)).sum
def Fq(P:Prog)(f:cD)(fs:List cD):BX P (f::fs)=Lh P f+BX P fs:=rfl
theorem zQ{P:Prog}:∀{fs:List cD} {f:cD},gP P f->(∀g∈fs,gP P g)->BX P (eQ P fs f)=Lh P f+BX P fs
 | fs,f,⟨d,c,f1,f2,o⟩,b=>by
  have er:=eN f1;have a:=CW (rows:=bU P f.bA) (k:=f.k) (er ▸ f2);cases q:k7 (bU P f.bA) f.rs f.k with
  | some p=>
   rw[q] at a;rw[eB q,Fq];show BY (bU P f.bA) p.1+_=BY (bU P f.bA) f.rs+_;rw[a];rfl
  | none=>
   rw[q] at a;have a:Lh P f=0:=a;rw[a,WG];cases fs with
   | nil=>rw[g9 q]
   | cons g m=>
    obtain⟨n,e,j,i,h⟩:=b g VF;rw[kc q,zQ (fs:=m) (f:={g with k:=g.k+1}) ⟨n,e,j,i,h⟩ λx l=>b x (VD _ l)];rfl
theorem HR{P:Prog}:∀{fs:List cD},(∀g∈fs,gP P g)->BX P (gJ P fs)=BX P fs
 | [],_=>rfl
 | f::fs,h=>zQ (h f VF) λg a=>h g (VD _ a)
structure Mv(P:Prog)(n:Nat)(f:cD):Prop where
 nm:(zh P f.bA).length<=f.nums.length
 rs:f.rs.length<=n
theorem Dz{P:Prog}{n:Nat}:∀{fs:List cD} {f:cD},gP P f->(∀g∈fs,gP P g)->Mv P n f->(∀g∈fs,Mv P n g)->∀g∈eQ P fs f,Mv P n g
 | fs,f,⟨d,e,f1,f2,t⟩,b,hf,hn,x,a=>by
  have er:=eN f1;cases q:k7 (bU P f.bA) f.rs f.k with
  | some p=>
   rw[eB q] at a;obtain⟨s,m⟩:=Bk (er ▸ f2) q;rcases VS.mp a with rfl | a
   ·exact⟨hf.nm,VJ m hf.rs⟩
   ·exact hn x a
  | none=>
   cases fs with
   | nil=>rw[g9 q] at a;cases a
   | cons g o=>
    rw[kc q] at a;obtain⟨r,h,l,j,i⟩:=b g VF;have c:=hn g VF;exact Dz (fs:=o) (f:={g with k:=g.k+1}) ⟨r,h,l,j,i⟩ (λx a=>b x (VD _ a)) ⟨c.nm,c.rs⟩ (λx a=>hn x (VD _ a)) x a
theorem K3{P:Prog}{n:Nat}:∀{fs:List cD},(∀g∈fs,gP P g)->(∀g∈fs,Mv P n g)->∀g∈gJ P fs,Mv P n g
 | [],_,_=>λ_ z=>(nomatch z)
 | f::fs,h,hn=>Dz (h f VF) (λg a=>h g (VD _ a)) (hn f VF) λg a=>hn g (VD _ a)
structure jO(P:Prog)(n:Nat)(x:Hand):Prop where
 fr:Av P x.1
 nm:∀f∈x.1,Mv P n f
 fl:x.1.length<=n+1
 hl:x.2.length<=n
 ct:BX P x.1=x.2.length
def By{W:Wd}{f:List Str}{n:Nat}{r:Row}{l:List Row}(h:bh W f n r)(hl:l∈ax r):bH W f (n+1) l:=by
 cases r with
 | say _=>cases hl
 | call _ _=>cases hl
 | within _ b=>rw[bh] at h;rw[VQ.mp hl];exact h.2.2.2
 | all _ b=>rw[bh] at h;rw[VQ.mp hl];exact h.2.2.2
 | ask _ a b=>
  rw[bh] at h;obtain⟨_,_,_,_,e,d⟩:=h;rcases VS.mp hl with rfl | hl
  ·exact e
  ·rw[VQ.mp hl];exact d
 | Ah _ _ a b c=>
  rw[bh] at h;obtain⟨_,_,_,_,_,_,e,d,g⟩:=h;rcases VS.mp hl with rfl | hl
  ·exact e
  ·rcases VS.mp hl with rfl | hl
   ·exact d
   ·rw[VQ.mp hl];exact g
 | either a b=>
  rw[bh] at h;obtain⟨_,_,_,e,d⟩:=h;rcases VS.mp hl with rfl | hl
  ·exact e
  ·rw[VQ.mp hl];exact d
 | again a=>rw[bh] at h;rw[VQ.mp hl];exact h.2.2
theorem vL{W:Wd}{c:List Str}:∀(st:List (Nat×Nat)) (n:Nat) (a b:List Row),bH W c n a->bB a st=some b->∃m,bH W c m b
 | [],n,a,b,h,e=>by cases e;exact⟨n,h⟩
 | s::st,n,a,b,h,e=>by
  obtain⟨d,i,g⟩:=a9 e;obtain⟨r,er,f⟩:=a9 i;exact vL st (n+1) d b (By (ox h r (VC er)) (VC f)) g
def Fg{W:Wd}{m:Nat}{P:Prog}(o:Sr W m P):P.ag.map (·.1)=W.ag:=by
 refine YE λj=>?_;rw[VN];cases e:P.ag[j]? with
 | some d=>rw[(o.dd j d e).1];rfl
 | none=>
  have:=Xn.mp e;rw[Wu (by rw[<-o.dl];exact this)];rfl
def C1{P:Prog}{i:Nat}{d:dD}(h:P.ag[i]?=some d):zh P i=d.2.1:=by unfold zh;rw[h];rfl
noncomputable def fB(P:Prog)(w:Str):Nat:=(P.ag.map (·.1)).idxOf w
structure Dr(P:Prog):Prop where
 ex:∃W fl odd,Cf W fl odd/\Sr W 60 P
section
variable {P:Prog} (D:Dr P)
include D
theorem Dr.fit:SO P:=let⟨_,_,_,ok,o⟩:=D.ex;o.fit (by decide) ok.d2
theorem Dr.nd:(P.ag.map (·.1)).Nodup:=let⟨_,_,_,ok,o⟩:=D.ex;by rw[Fg o];exact ok.nd
theorem Dr.six:P.ag.length<=6:=let⟨_,_,_,ok,o⟩:=D.ex;by rw[o.dl];exact ok.d2
theorem Dr.pos:0 < P.ag.length:=let⟨_,_,_,ok,o⟩:=D.ex;by rw[o.dl];exact ok.d1
theorem Dr.par{i:Nat}{d:dD}(e:P.ag[i]?=some d):d.2.1.length<=3:=let⟨_,_,_,ok,o⟩:=D.ex;ok.p3 _ (VC (o.dd i d e).2.1)
theorem Dr.num{i:Nat}{d:dD}(e:P.ag[i]?=some d):fB P d.1=i:=by
 have c:(P.ag.map (·.1))[i]?=some d.1:=by rw[VN,e];rfl
 obtain⟨b,a⟩:=Vz.mp c;unfold fB;rw[<-a];exact D.nd.idxOf_getElem i b
theorem Dr.row{n:Nat}{f:cD}{d:dD}{r:Row}(e:P.ag[f.bA]?=some d)(H:Mv P n f)(er:i0 P f=some r):Sl P f r/\Vt (lu P f) r/\∀w m,r=.call w m->(∃u,P.ag[fB P w]?=some u/\u.1=w/\u.2.1.length=m.length)/\m.length<=3/\∀t∈m,gM (lu P f) t:=by
 have I:=D.par e;have p:=@Dr.num P D;obtain⟨W,fl,odd,ok,o⟩:=D.ex;have hp:=C1 e;obtain⟨k,g⟩:∃k,bh W d.2.1 k r:=by
  unfold i0 at er;rw[eN e] at er;obtain⟨A,L,J⟩:=a9 er;obtain⟨k,G⟩:=vL _ 1 _ _ (o.dd _ d e).2.2.1 L;exact⟨k,ox G r (VC J)⟩
 have h:∀t:Term,en d.2.1 t->gM (lu P f) t:=λt ht=>by
  rcases ht.1 with z | z
  ·exact .inl z
  ·exact .inr (Hz (by rw[hp];exact z) H.nm)
 have i:∀l:Lock,fg W d.2.1 l->gM (lu P f) l.2:=λl hl=>h _ hl.2;refine⟨⟨⟨d,e,by exact VJ I (by decide)⟩,?_,?_⟩,?_,?_⟩
 ·intro l hl;cases r with
  | within C b=>rw[bh] at g;rw[VQ.mp hl];exact i _ g.1
  | all ls b=>rw[bh] at g;exact i l (g.1.2.2.2 l hl)
  | ask C a b=>rw[bh] at g;rw[VQ.mp hl];exact i _ g.1
  | _=>cases hl
 ·cases r with
  | all ls b=>rw[bh] at g;exact g.1.2.1
  | _=>simp[gU]
 ·cases r with
  | Ah s t a b c=>rw[bh] at g;exact⟨h _ g.1,h _ g.2.1⟩
  | _=>trivial
 ·rintro w m rfl;rw[bh] at g;obtain⟨⟨j,v,y,x,F⟩,E⟩:=g;have hj:j < P.ag.length:=by rw[o.dl];exact(Vz.mp y).1
  have q:P.ag[j]?=some P.ag[j]:=VI hj;obtain⟨g1,g2,_⟩:=o.dd j _ q;rw[y] at g1;rw[x] at g2;have g1:w=P.ag[j].1:=Option.some.inj g1;have g2:v=P.ag[j].2.1:=Option.some.inj g2;have M:v.length<=3:=ok.p3 _ (VC x);refine⟨⟨P.ag[j],by rw[g1,p q];exact q,g1.symm,by rw[<-g2,F]⟩,by lia,λt ht=>h t (E t ht)⟩
end
structure UN(P:Prog)(n:Nat)(S:List Hand):Prop where
 h:∀x∈S,jO P n x
 l:S.length<=10
section
variable {P:Prog} (D:Dr P) {n:Nat} {S:List Hand} (s:UN P n S) (hn:n<=900)
include D s hn
end
def Dp(n:Nat)(d:D):Prop:=∃p,jm d=some p/\p.depth<=n/\PyData.eqv p p=true
def uP(n:Nat)(b:List D):Prop:=∃a,gc b=some a/\PyData.depthAll a<=n/\PyData.eqvAll a a=true
def uP.nil{n:Nat}:uP n []:=⟨[],rfl,by simp[PyData.depthAll],rfl⟩
def uP.cons{n:Nat}{x:D}{c:List D}(a:Dp n x)(b:uP n c):uP n (x::c):=by
 obtain⟨p,j,i,h⟩:=a;obtain⟨d,g,f,e⟩:=b;refine⟨p::d,?_,?_,?_⟩
 ·show(jm x).bind (λa=>(gc c).map λb=>a::b)=_;rw[j,g];rfl
 ·rw[PyData.depthAll];exact Nat.max_le.mpr ⟨i,f⟩
 ·rw[PyData.eqvAll,h,e];rfl
theorem uP.map{b:Type}{n:Nat}{f:b->D}:∀{a:List b},(∀x∈a,Dp n (f x))->uP n (a.map f)
 | [],_=>uP.nil
 | x::a,h=>uP.cons (h x VF) (uP.map λy c=>h y (VD _ c))
theorem Dp.tup{n:Nat}{b:List D}(a:uP n b):Dp (n+1) (.tup b):=by
 obtain⟨c,f,e,d⟩:=a;refine⟨.tuple c,?_,?_,?_⟩
 ·show(gc b).map _=_;rw[f];rfl
 ·rw[PyData.depth];exact Xu e
 ·rw[PyData.eqv];exact d
theorem Dp.int{n:Nat}(i:Int):Dp n (.int i):=⟨.int i,rfl,by simp[PyData.depth],by simp[PyData.eqv]⟩
theorem lC{a:List Nat}{x:List Nat×Row}:∀{lot:List Row} {k:Nat},x∈aE a k lot↔∃i r,lot[i]?=some r/\(x=(a++[k+i],r)\/x∈dM (a++[k+i]) r)
 | [],k=>by rw[aE];exact⟨λz=>(nomatch z),λu9=>by obtain⟨i,r,z,_⟩:=u9;simp at z⟩
 | y::l,k=>by
  rw[aE,VS,Wk,lC (lot:=l) (k:=k+1)];constructor
  ·rintro(z | z |⟨i,r,z,w⟩)
   ·exact⟨0,y,rfl,.inl z⟩
   ·exact⟨0,y,rfl,.inr z⟩
   ·exact⟨i+1,r,z,by rw[show k+(i+1)=k+1+i by lia];exact w⟩
  ·rintro⟨i,r,z,w⟩;cases i with
   | zero=>
    cases z;rcases w with w | w
    ·exact .inl w
    ·exact .inr (.inl w)
   | succ i=>exact .inr (.inr ⟨i,r,z,by rw[show k+1+i=k+(i+1) by lia];exact w⟩)
theorem vH{a:List Nat}{x:List Nat×Row}:∀{ls:List (List Row)} {k:Nat},x∈cf a k ls↔∃j l,ls[j]?=some l/\x∈aE (a++[k+j]) 0 l
 | [],k=>by rw[cf];exact⟨λz=>(nomatch z),λu9=>by obtain⟨i,r,z,_⟩:=u9;simp at z⟩
 | y::l,k=>by
  rw[cf,Wk,vH (ls:=l) (k:=k+1)];constructor
  ·rintro(z |⟨i,r,z,w⟩)
   ·exact⟨0,y,rfl,z⟩
   ·exact⟨i+1,r,z,by rw[show k+(i+1)=k+1+i by lia];exact w⟩
  ·rintro⟨i,r,z,w⟩;cases i with
   | zero=>cases z;exact .inl w
   | succ i=>exact .inr ⟨i,r,z,by rw[show k+1+i=k+(i+1) by lia];exact w⟩
def Ej(a:List Row)(st:List (Nat×Nat))(k:Nat):Option Row:=(bB a st).bind λl=>l[k]?
theorem pf:∀(st:List (Nat×Nat)) {lot:List Row} {a:List Nat} {k:Nat} {r:Row},Ej lot st k=some r->(a++(flat st++[k]),r)∈aE a 0 lot
 | [],lot,a,k,r,e=>lC.mpr ⟨k,r,e,.inl (by rw[WG];rfl)⟩
 | s::st,lot,a,k,r,e=>by
  unfold Ej at e;obtain⟨l,i,h⟩:=a9 e;obtain⟨b,g,f⟩:=a9 i;obtain⟨y,d,c⟩:=a9 g;refine lC.mpr ⟨s.1,y,d,.inr ?_⟩;rw[oo];refine vH.mpr ⟨s.2,b,c,?_⟩;rw[WG,WG];have:=pf st (lot:=b) (a:=a++[s.1]++[s.2]) (k:=k) (r:=r) (by unfold Ej;rw[f];exact h);rw[show a++(flat (s::st)++[k])=a++[s.1]++[s.2]++(flat st++[k]) by show a++([s.1,s.2]++flat st++[k])=_;simp];exact this
theorem sJ{x:Nat×List Nat×Row}:∀{ds:List dD} {k:Nat},x∈placesFrom k ds↔∃i d,ds[i]?=some d/\x.1=k+i/\x.2∈aE [] 0 d.2.2
 | [],k=>by rw[placesFrom];exact⟨λz=>(nomatch z),λu9=>by obtain⟨i,r,z,_⟩:=u9;simp at z⟩
 | y::l,k=>by
  rw[placesFrom,Wk,sJ (ds:=l) (k:=k+1),V7];constructor
  ·rintro(⟨z,a,rfl⟩ |⟨i,r,z,w⟩)
   ·exact⟨0,y,rfl,rfl,a⟩
   ·exact⟨i+1,r,z,by rw[show k+(i+1)=k+1+i by lia];exact w⟩
  ·rintro⟨i,r,z,w,q⟩;cases i with
   | zero=>cases z;exact .inl ⟨x.2,q,by rw[show k=x.1 by lia]⟩
   | succ i=>exact .inr ⟨i,r,z,by lia,q⟩
def pairD(x:Nat×List Nat×Row):D:=.tup [aD x.1,aG x.2.1]
noncomputable def sI(n:Nat):PyData:=.int (n:Int)
def jo(a:Nat)(p:List Nat):PyData:=.tuple [sI a,.tuple (p.map sI)]
theorem yV:∀p:List Nat,gc (p.map aD)=some (p.map sI)
 | []=>rfl
 | k::r=>by
  show(jm (aD k)).bind (λa=>(gc (r.map aD)).map λbs=>a::bs)=_;rw[yV r];rfl
def yY(a:Nat)(p:List Nat):jm (.tup [aD a,aG p])=some (jo a p):=by
 show((gc [aD a,aG p]).map PyData.tuple)=_;show(((some (sI a)).bind λa=>(((gc (p.map aD)).map PyData.tuple).bind λb=>some [b]).map λb=>a::b).map PyData.tuple)=_;rw[yV];rfl
theorem vh:∀L:List (Nat×List Nat×Row),gc (L.map pairD)=some (L.map λx=>jo x.1 x.2.1)
 | []=>rfl
 | x::r=>by
  show(jm (.tup [aD x.1,aG x.2.1])).bind (λa=>(gc (r.map pairD)).map λbs=>a::bs)=_;rw[yY,vh r];rfl
theorem tD:∀p:List Nat,PyData.depthAll (p.map sI)=0
 | []=>by simp[PyData.depthAll]
 | k::r=>by rw[VL,PyData.depthAll,tD r];simp[sI,PyData.depth]
def tx(a:Nat)(p:List Nat):(jo a p).depth=2:=by
 unfold jo;simp only[PyData.depth,PyData.depthAll,tD,sI];rfl
theorem pL:∀L:List (Nat×List Nat×Row),PyData.depthAll (L.map λx=>jo x.1 x.2.1)<=2
 | []=>by simp[PyData.depthAll]
 | x::r=>by rw[VL,PyData.depthAll,tx];have:=pL r;lia
theorem zY:∀p q:List Nat,PyData.eqvAll (p.map sI) (q.map sI)=decide (p=q)
 | [],[]=>rfl
 | [],_::_=>by simp[PyData.eqvAll]
 | _::_,[]=>by simp[PyData.eqvAll]
 | a::p,b::q=>by
  rw[VL,VL,PyData.eqvAll,zY p q];show(((a:Int)==(b:Int))&&_)=_;rw[Xa,V1,Xs,Xb,Xb,List.cons.injEq];constructor
  ·rintro⟨d,c⟩;exact⟨by lia,c⟩
  ·rintro⟨d,c⟩;exact⟨by lia,c⟩
def Ik(a b:Nat)(p q:List Nat):PyData.eqv (jo a p) (jo b q)=decide (a=b/\p=q):=by
 show(((a:Int)==(b:Int))&&(PyData.eqvAll (p.map sI) (q.map sI)&&true))=_;rw[zY,Xa,Bool.and_true,V1,Xs,Xb,Xb];constructor
 ·rintro⟨d,c⟩;exact⟨by lia,c⟩
 ·rintro⟨d,c⟩;exact⟨by lia,c⟩
noncomputable def pk(p:List Nat):PyData:=.tuple (p.map λ(n:Nat)=>PyData.int (n:Int))
theorem yW:∀p:List Nat,gc (p.map aD)=some (p.map λ(n:Nat)=>PyData.int (n:Int))
 | []=>rfl
 | n::p=>by rw[VL,gc,yW p];rfl
def yX(p:List Nat):jm (aG p)=some (pk p):=by unfold aG;rw[jm,yW];rfl
def CY(p:List Nat):bQ 8 (pk p)=true:=by
 show(p.map λ(n:Nat)=>PyData.int (n:Int)).all (bQ 7)=true;rw[Xd];intro x a;obtain⟨n,_,rfl⟩:=V7.mp a;rfl
def j7(p:List Nat):zI (aG p)=some (pk p):=by
 show(jm (aG p)).bind _=_;rw[yX];show(if bQ 8 (pk p)=true then some (pk p) else none)=_;rw[VE (CY p)]
def NP{p q:List Nat}(h:pk p=pk q):p=q:=by
 have h:p.map (λ(n:Nat)=>PyData.int (n:Int))=q.map (λ(n:Nat)=>PyData.int (n:Int)):=by unfold pk at h;injection h
 exact List.map_inj_right (f:=λn:Nat=>PyData.int (n:Int)) (λx y z=>by injection z with z;exact Int.ofNat.inj z) |>.mp h
def jH(p q:List Nat):xM (pk p) (aG q)=decide (q=p):=by
 unfold xM;rw[yX];show PyData.eqv (pk q) (pk p)=_
 by_cases z:q=p
 ·subst z;rw[eqv_refl 8 (CY q),Wa rfl]
 ·rw[V5 z];cases e:PyData.eqv (pk q) (pk p) with
  | false=>rfl
  | true=>exact absurd (NP (qE 8 (CY q) (CY p) e)) z
def KP(a:List (D×D)):Prop:=∀x∈a,(∃q,x.1=aG q)/\fD 0 x.2=true
def cu{a:List (D×D)}{q p:List Nat}{v:D}:f9 ((aG q,v)::a) (pk p)=if q=p then some v else f9 a (pk p):=by
 unfold f9;rw[WQ,jH]
 by_cases z:q=p
 ·rw[Wa z,VE z];rfl
 ·rw[V5 z,VH z]
def CU{p:List Nat}{v:D}:∀{d:List (D×D)},KP d->∀b,f9 (jn d (pk p) (aG p) v) (pk b)=if p=b then some v else f9 d (pk b):=by
 intro d r b;unfold jn
 by_cases z:(d.any λe=>xM (pk p) e.1)=true
 ·rw[VE z];have h:∀l:List (D×D),KP l->(l.any λe=>xM (pk p) e.1)=true->f9 (l.map λe=>if xM (pk p) e.1=true then(e.1,v) else e) (pk b)=if p=b then some v else f9 l (pk b):=by
   intro l
   induction l with
   | nil=>intro _ z;cases z
   | cons x l n=>
    intro hl z;obtain⟨⟨q,k⟩,_⟩:=hl x VF;obtain⟨t,s⟩:=x;dsimp only at k;subst k;rw[XB,jH] at z;rw[VL,jH]
    by_cases c:q=p
    ·subst c;rw[Wa rfl,VE rfl,cu,cu]
     by_cases a:q=b
     ·rw[VE a,VE a]
     ·rw[VH a,VH a,VH a];have g:∀l:List (D×D),KP l->f9 (l.map λe=>if xM (pk q) e.1=true then(e.1,v) else e) (pk b)=f9 l (pk b):=by
       intro l
       induction l with
       | nil=>intro _;rfl
       | cons y l i=>
        intro o;obtain⟨⟨u,j⟩,_⟩:=o y VF;obtain⟨C,A⟩:=y;dsimp only at j;subst j;rw[VL,jH,cu]
        by_cases m:u=q
        ·rw[Wa m,VE rfl,cu,VH (by rw[m];exact a),VH (by rw[m];exact a),i λx f=>o x (VD _ f)]
        ·rw[V5 m,VH V8,cu,i λx f=>o x (VD _ f)]
      exact g l λx f=>hl x (VD _ f)
    ·rw[V5 c,VH V8,cu,cu];rw[V5 c,Aas] at z;rw[n (λx f=>hl x (VD _ f)) z]
     by_cases a:q=b
     ·rw[VE a,VE a,VH (λw=>c (a.trans w.symm))]
     ·rw[VH a,VH a]
  exact h d r z
 ·rw[VH z];have h:∀l:List (D×D),KP l->¬(l.any λe=>xM (pk p) e.1)=true->f9 (l++[(aG p,v)]) (pk b)=if p=b then some v else f9 l (pk b):=by
   intro l
   induction l with
   | nil=>intro _ _;rw[Z4,cu]
   | cons x l n=>
    intro hl z;obtain⟨⟨q,k⟩,_⟩:=hl x VF;obtain⟨t,s⟩:=x;dsimp only at k;subst k;rw[XB,jH,Xl,not_or] at z;have c:¬q=p:=λw=>z.1 (Wa w);rw[Yn,cu,cu,n (λx f=>hl x (VD _ f)) z.2]
    by_cases a:q=b
    ·rw[VE a,VE a,VH (λw=>c (a.trans w.symm))]
    ·rw[VH a,VH a]
  exact h d r z
def CV{b:List (D×D)}{p:List Nat}{v:D}(e:KP b)(c:fD 0 v=true):KP (jn b (pk p) (aG p) v):=by
 unfold jn;intro x a
 split at a
 ·obtain⟨y,f,rfl⟩:=V7.mp a;obtain⟨⟨q,d⟩,g⟩:=e y f
  split
  ·exact⟨⟨q,d⟩,c⟩
  ·exact⟨⟨q,d⟩,g⟩
 ·rcases Wk.mp a with a | a
  ·exact e x a
  ·rw[VQ] at a;subst a;exact⟨⟨p,rfl⟩,c⟩
theorem DO(n:Nat):∀a:List Nat,cC n (a.map aD)=true
 | []=>rfl
 | _::a=>DO n a
theorem KP.cl{n:Nat}:∀{kvs:List (D×D)},KP kvs->yf n (.dcH kvs)=true
 | [],_=>rfl
 | x::kvs,h=>by
  obtain⟨⟨q,c⟩,d⟩:=h x VF;have a:=V3.mp (KP.cl (n:=n) (kvs:=kvs) λy b=>h y (VD _ b));show(cC n ((x::kvs).map (·.1))&&cC n ((x::kvs).map (·.2)))=true;rw[VL,VL];refine V3.mpr ⟨V3.mpr ⟨by rw[c];exact DO n q,a.1⟩,V3.mpr ⟨B2 (Wm _) _ d,a.2⟩⟩
def y7{a:List (D×D)}{k:PyData}{e v:D}:(jn a k e v).length<=a.length+1:=by
 unfold jn
 split
 ·rw[Vy];exact Yx _
 ·rw[VM];exact VG _
noncomputable def strip:List Nat->List Nat->Option (List Nat)
 | [],p=>some p
 | _::_,[]=>none
 | x::a,y::p=>if x=y then strip a p else none
theorem uV:∀(a b p:List Nat),strip (a++b) p=(strip a p).bind (strip b)
 | [],b,p=>by rfl
 | x::a,b,[]=>by rfl
 | x::a,b,y::p=>by
  show(if x=y then strip (a++b) p else none)=(if x=y then strip a p else none).bind _
  by_cases z:x=y
  ·rw[VE z,VE z];exact uV a b p
  ·rw[VH z,VH z];rfl
theorem kY:∀{a p q:List Nat},strip a p=some q->p=a++q
 | [],p,q,h=>by cases h;rfl
 | x::a,[],q,h=>by cases h
 | x::a,y::p,q,h=>by
  unfold strip at h
  by_cases z:x=y
  ·rw[VE z] at h;rw[kY h,z];rfl
  ·rw[VH z] at h;cases h
theorem eg:∀(a q:List Nat),strip a (a++q)=some q
 | [],q=>rfl
 | x::a,q=>by show(if x=x then strip a (a++q) else none)=_;rw[VE rfl];exact eg a q
def ov(a:List Nat)(g:List Nat->Option D)(f:List Nat->Option D)(p:List Nat):Option D:=match (strip a p).bind g with
 | some d=>some d
 | none=>f p
def Dd(a:List Nat)(f:List Nat->Option D):ov a (λ_=>none) f=f:=by
 funext p
 unfold ov;cases strip a p <;> rfl
def Hk{a b:List Nat}{g c f d:List Nat->Option D}{v:D}(h:∀p,d p=if a++b=p then some v else ov a g f p)(j:c b=some v)(i:∀q,q≠b->c q=g q):d=ov a c f:=by
 funext p
 rw[h p]
 by_cases z:a++b=p
 ·rw[VE z,<-z];unfold ov;rw[eg,VO,j]
 ·rw[VH z];unfold ov;cases e:strip a p with
  | none=>rfl
  | some q=>
   rw[VO,VO,i q];rintro rfl;exact z (kY e).symm
def L8{a b:List Nat}{g c d f:List Nat->Option D}(k:∀q,g (b++q)=none)(j:∀q,c (b++q)=d q)(i:∀q,strip b q=none->c q=g q):ov (a++b) d (ov a g f)=ov a c f:=by
 funext p
 unfold ov;rw[uV];cases e:strip a p with
 | none=>rfl
 | some q=>
  rw[VO,VO,VO];cases h:strip b q with
  | none=>rw[i q h];rfl
  | some l=>
   have:=kY h;subst this;rw[VO,k,j]
def fc:List Row->List Nat->Option Row
 | _,[]=>none
 | lot,[k]=>lot[k]?
 | lot,k::l::q=>(lot[k]?).bind λr=>((ax r)[l]?).bind λa=>fc a q
def i9:List Row->List Nat->Option Nat
 | lot,[]=>some lot.length
 | _,[_]=>none
 | lot,k::l::q=>(lot[k]?).bind λr=>((ax r)[l]?).bind λa=>i9 a q
theorem jW:∀(st:List (Nat×Nat)) (a:List Row) (k:Nat),fc a (flat st++[k])=(bB a st).bind λl=>l[k]?
 | [],a,k=>rfl
 | s::st,a,k=>by
  show fc a (s.1::s.2::(flat st++[k]))=_;rw[fc,bB];unfold P2;cases a[s.1]? with
  | none=>rfl
  | some r=>
   rw[VO,VO];cases(ax r)[s.2]? with
   | none=>rfl
   | some l=>exact jW st l k
theorem uY:∀(st:List (Nat×Nat)) (a:List Row),i9 a (flat st)=(bB a st).map List.length
 | [],a=>rfl
 | s::st,a=>by
  show i9 a (s.1::s.2::flat st)=_;rw[i9,bB];unfold P2;cases a[s.1]? with
  | none=>rfl
  | some r=>
   rw[VO,VO];cases(ax r)[s.2]? with
   | none=>rfl
   | some l=>exact uY st l
def CP{o i:EM}{v:D}{a:DS}{h:MH}{Q:DS×MH->Prop}(r:Rn (o a h) λp=>Rn (i a p.2) λq=>Rn (vS p.1 q.1 v q.2) λb=>Q (a,b)):Rn (Dx o i v a h) Q:=aS (r.imp λ_ r=>aS (r.imp λ_ r=>A9 r))
def zT{h:MH}{n:Nat}{a:List (D×D)}{p:List Nat}{v:D}(e:h[n]?=some (.dcH a))(hl:a.length<=1000000):vS (.ob n) (aG p) v h=some (h.set n (.dcH (jn a (pk p) (aG p) v))):=by
 unfold vS;dsimp only;rw[e];dsimp only;rw[j7];show(if a.length < sizeLine then _ else _)=_;rw[VE (by rw[show sizeLine=16777216 from rfl];lia)]
def q0{h:MH}{n:Nat}{o:MO}(e:h[n]?=some o):h.set n o=h:=by
 apply YE;intro i
 by_cases z:n=i
 ·subst z;rw[Wy (Vz.mp e).1,e]
 ·rw[Wn z]
noncomputable def hh(h:MH)(b c:Nat)(sz a:List (D×D)):MH:=(h.set b (.dcH sz)).set c (.dcH a)
section
variable {h:MH} {si ri:Nat} {sz sz' rw1 rw2:List (D×D)}
theorem K1(b:h[si]?=some (.dcH sz))(a:h[ri]?=some (.dcH rw1)):hh h si ri sz rw1=h:=by unfold hh;rw[q0 b,q0 a]
theorem Ut(hn:si≠ri)(hl:si < h.length):(hh h si ri sz rw1)[si]?=some (.dcH sz):=by unfold hh;rw[Wn (WO hn),Wy hl]
theorem Rm(hl:ri < h.length):(hh h si ri sz rw1)[ri]?=some (.dcH rw1):=by unfold hh;rw[Wy (by rw[Xz];exact hl)]
theorem Uu{n:Nat}(b:n≠si)(a:n≠ri):(hh h si ri sz rw1)[n]?=h[n]?:=by unfold hh;rw[Wn (WO a),Wn (WO b)]
theorem Ma(hn:si≠ri):(hh h si ri sz rw1).set si (.dcH sz')=hh h si ri sz' rw1:=by unfold hh;rw[List.set_comm _ _ (WO hn),YD]
theorem Mb:(hh h si ri sz rw1).set ri (.dcH rw2)=hh h si ri sz rw2:=by unfold hh;rw[YD]
theorem Ro(hn:si≠ri):hh (hh h si ri sz rw1) si ri sz' rw2=hh h si ri sz' rw2:=by
 show((hh h si ri sz rw1).set si _).set ri _=_;rw[Ma hn,Mb]
end
def uG(r:Row)(h:MH):jS [aM r] h=some (.tup ((ax r).map eO),h):=by
 cases r <;> rfl
def mZ{h:MH}{a b c:Nat}(e:h[a]?=some (.dct [(.inr "size",.ob b),(.inr "row",.ob c)])):aB (.ob a) (.str "size") h=some (.ob b,h)/\aB (.ob a) (.str "row") h=some (.ob c,h):=by
 have hd:cc (.ob a) h=some [(.inr "size",.ob b),(.inr "row",.ob c)]:=by unfold cc;dsimp only;rw[e]
 unfold aB;rw[hd];exact⟨rfl,rfl⟩
def BO(a:List Nat)(i j:Nat)(hl:a.length<=1000)(h:MH):aT (aG a) (.tup [.int (i:Int),.int (j:Int)]) h=some (aG (a++[i,j]),h):=by
 show aT (.tup (a.map aD)) (.tup [aD i,aD j]) _=_;rw[ke (by rw[Vy];simp;lia)];simp[aG]
def Dk(a:List (D×D))(p:List Nat):Option D:=f9 a (pk p)
def Ay(a:List Row)(j m:Nat)(b:Bool):List Nat->Option D
 | []=>none
 | k::q=>if k < j then(fc a (k::q)).map aM else if k=j/\b=true then(match q with
   | []=>(fc a [k]).map aM
   | l::c=>if l < m then(fc a (k::l::c)).map aM else none) else none
def F5(a:List Row)(j m:Nat):List Nat->Option D
 | []=>some (aD a.length)
 | k::q=>if k < j then(i9 a (k::q)).map aD else if k=j then(match q with
   | []=>none
   | l::b=>if l < m then(i9 a (k::l::b)).map aD else none) else none
def Gz{a:List Row}{k:Nat}{q:List Nat}(h:a.length<=k):fc a (k::q)=none:=by
 have e:a[k]?=none:=Xn.mpr h;cases q with
 | nil=>exact e
 | cons l q=>rw[fc,e];rfl
def Gd{a:List Row}{k:Nat}{q:List Nat}(h:a.length<=k):i9 a (k::q)=none:=by
 have e:a[k]?=none:=Xn.mpr h;cases q with
 | nil=>rfl
 | cons l q=>rw[i9,e];rfl
def GA{a:List Row}{k l:Nat}{q:List Nat}{r:Row}(e:a[k]?=some r)(h:(ax r).length<=l):fc a (k::l::q)=none:=by
 rw[fc,e,VO,Xn.mpr h];rfl
def Ge{a:List Row}{k l:Nat}{q:List Nat}{r:Row}(e:a[k]?=some r)(h:(ax r).length<=l):i9 a (k::l::q)=none:=by
 rw[i9,e,VO,Xn.mpr h];rfl
def Nc{a:List Row}{j:Nat}{r:Row}(e:a[j]?=some r):Ay a j (ax r).length true=Ay a (j+1) 0 false:=by
 funext q
 cases q with
 | nil=>rfl
 | cons k q=>
  show(if k < j then _ else if k=j/\true=true then _ else none)=(if k < j+1 then _ else if k=j+1/\false=true then _ else none)
  by_cases c:k < j
  ·rw[VE c,VE (by lia)]
  ·rw[VH c]
   by_cases d:k=j
   ·subst d;rw[VE ⟨rfl,rfl⟩,VE (by lia)];cases q with
    | nil=>rfl
    | cons l q=>
     dsimp only
     by_cases b:l < (ax r).length
     ·rw[VE b]
     ·rw[VH b,GA e (by lia)];rfl
   ·rw[VH (λz=>d z.1),VH (by lia),VH (λz=>by cases z.2)]
def MS{a:List Row}{j:Nat}{r:Row}(e:a[j]?=some r):F5 a j (ax r).length=F5 a (j+1) 0:=by
 funext q
 cases q with
 | nil=>rfl
 | cons k q=>
  show(if k < j then _ else if k=j then _ else none)=(if k < j+1 then _ else if k=j+1 then _ else none)
  by_cases c:k < j
  ·rw[VE c,VE (by lia)]
  ·rw[VH c]
   by_cases f:k=j
   ·subst f;rw[VE rfl,VE (by lia)];cases q with
    | nil=>rfl
    | cons l q=>
     dsimp only
     by_cases d:l < (ax r).length
     ·rw[VE d]
     ·rw[VH d,Ge e (by lia)];rfl
   ·rw[VH f,VH (by lia)]
    by_cases b:k=j+1
    ·rw[VE b];cases q with
     | nil=>rfl
     | cons l q=>dsimp only;rw[VH (WJ _)]
    ·rw[VH b]
def JH(a:List Row):Ay a a.length 0 false=λq=>(fc a q).map aM:=by
 funext q
 cases q with
 | nil=>rfl
 | cons k q=>
  show(if k < a.length then _ else if k=a.length/\false=true then _ else none)=_
  by_cases c:k < a.length
  ·rw[VE c]
  ·rw[VH c,VH (λz=>by cases z.2),Gz (by lia)];rfl
def Jw(a:List Row):F5 a a.length 0=λq=>(i9 a q).map aD:=by
 funext q
 cases q with
 | nil=>rfl
 | cons k q=>
  show(if k < a.length then _ else if k=a.length then _ else none)=_
  by_cases c:k < a.length
  ·rw[VE c]
  ·rw[VH c,Gd (by lia)]
   by_cases b:k=a.length
   ·rw[VE b];cases q with
    | nil=>rfl
    | cons l q=>dsimp only;rw[VH (WJ _)];rfl
   ·rw[VH b];rfl
def Fp(b:List Row)(i:Nat){r:Row}(e:b[i]?=some r):aX (b.take i)+cnt r<=aX b:=by
 have h:b=b.take i++r::b.drop (i+1):=by
  have c:=(Vz.mp e);obtain⟨c,rfl⟩:=c;rw[List.getElem_cons_drop,Xr]
 have g:∀x y:List Row,aX (x++y)=aX x+aX y:=by
  intro x
  induction x with
  | nil=>intro y;simp[aX]
  | cons a x d=>intro y;rw[Yn,aX,d,aX];lia
 have f:=g (b.take i) (r::b.drop (i+1));rw[<-h,aX] at f
 lia
def sM(r:Row):(ax r).length<=3:=by cases r <;> simp[ax]
def QD(a:List Row):Ay a 0 0 false=λ_=>none:=by
 funext q
 cases q with
 | nil=>rfl
 | cons k q=>unfold Ay;dsimp only;rw[VH (WJ _),VH (λz=>by cases z.2)]
def Qu{a:List Row}{q:List Nat}(h:q≠[]):F5 a 0 0 q=none:=by
 cases q with
 | nil=>exact absurd rfl h
 | cons k q=>
  unfold F5;dsimp only;rw[VH (WJ _)]
  by_cases c:k=0
  ·rw[VE c];cases q with
   | nil=>rfl
   | cons l q=>dsimp only;rw[VH (WJ _)]
  ·rw[VH c]
def CJ{a:List Row}{j:Nat}{r:Row}(e:a[j]?=some r):Ay a j 0 true [j]=some (aM r)/\∀q,q≠[j]->Ay a j 0 true q=Ay a j 0 false q:=by
 constructor
 ·show(if j < j then _ else if j=j/\true=true then(fc a [j]).map aM else none)=_;rw[VH (WI _),VE ⟨rfl,rfl⟩];show(a[j]?).map aM=_;rw[e];rfl
 ·intro q d;cases q with
  | nil=>rfl
  | cons k q=>
   show(if k < j then _ else if k=j/\true=true then _ else none)=(if k < j then _ else if k=j/\false=true then _ else none)
   by_cases c:k < j
   ·rw[VE c,VE c]
   ·rw[VH c,VH c,VH (c:=k=j/\false=true) (λz=>by cases z.2)]
    by_cases b:k=j
    ·rw[VE ⟨b,rfl⟩];cases q with
     | nil=>exact absurd (by rw[b]) d
     | cons l q=>dsimp only;rw[VH (WJ _)]
    ·rw[VH (λz=>b z.1)]
def RX{a b:List Row}{j m:Nat}{r:Row}(e:a[j]?=some r)(i:(ax r)[m]?=some b):
  ((∀q,Ay a j m true ([j,m]++q)=none)/\(∀q,Ay a j (m+1) true ([j,m]++q)=(fc b q).map aM)/\∀q,strip [j,m] q=none->Ay a j (m+1) true q=Ay a j m true q)/\
  (∀q,F5 a j m ([j,m]++q)=none)/\(∀q,F5 a j (m+1) ([j,m]++q)=(i9 b q).map aD)/\∀q,strip [j,m] q=none->F5 a j (m+1) q=F5 a j m q:=by
 refine⟨⟨λq=>?_,λq=>?_,λq h=>?_⟩,λq=>?_,λq=>?_,λq h=>?_⟩
 ·show(if j < j then _ else if j=j/\true=true then(if m < m then _ else none) else none)=none;rw[VH (WI _),VE ⟨rfl,rfl⟩,VH (WI _)]
 ·show(if j < j then _ else if j=j/\true=true then(if m < m+1 then(fc a (j::m::q)).map aM else none) else none)=_;rw[VH (WI _),VE ⟨rfl,rfl⟩,VE (W3 _),fc,e,VO,i,VO]
 ·cases q with
  | nil=>rfl
  | cons k q=>
   show(if k < j then _ else if k=j/\true=true then _ else none)=(if k < j then _ else if k=j/\true=true then _ else none)
   by_cases c:k < j
   ·rw[VE c,VE c]
   ·rw[VH c,VH c]
    by_cases d:k=j
    ·subst d;rw[VE ⟨rfl,rfl⟩,VE ⟨rfl,rfl⟩];cases q with
     | nil=>rfl
     | cons l q=>
      dsimp only;have hl:l≠m:=λz=>by
       subst z;have f:=eg [k,l] q;rw[show[k,l]++q=k::l::q from rfl,h] at f;cases f
      by_cases g:l < m
      ·rw[VE g,VE (by lia)]
      ·rw[VH g,VH (by lia)]
    ·rw[VH (λz=>d z.1),VH (λz=>d z.1)]
 ·show(if j < j then _ else if j=j then(if m < m then _ else none) else none)=none;rw[VH (WI _),VE rfl,VH (WI _)]
 ·show(if j < j then _ else if j=j then(if m < m+1 then(i9 a (j::m::q)).map aD else none) else none)=_;rw[VH (WI _),VE rfl,VE (W3 _),i9,e,VO,i,VO]
 ·cases q with
  | nil=>rfl
  | cons k q=>
   show(if k < j then _ else if k=j then _ else none)=(if k < j then _ else if k=j then _ else none)
   by_cases c:k < j
   ·rw[VE c,VE c]
   ·rw[VH c,VH c]
    by_cases d:k=j
    ·subst d;rw[VE rfl,VE rfl];cases q with
     | nil=>rfl
     | cons l q=>
      dsimp only;have hl:l≠m:=λz=>by
       subst z;have f:=eg [k,l] q;rw[show[k,l]++q=k::l::q from rfl,h] at f;cases f
      by_cases g:l < m
      ·rw[VE g,VE (by lia)]
      ·rw[VH g,VH (by lia)]
    ·rw[VH d,VH d]
def uM(r:Row)(m:Nat):Nat:=(((ax r).take m).map aX).sum
def Fj{r:Row}{m:Nat}{l:List Row}(e:(ax r)[m]?=some l):uM r (m+1)=uM r m+aX l:=by
 unfold uM;rw[W0,e];simp
def Lf(r:Row)(m:Nat):uM r m+1<=cnt r:=by
 have a:((ax r).map aX).sum=uM r m+(((ax r).drop m).map aX).sum:=by
  unfold uM;rw[<-Z2,<-VT,Xr]
 have:=Aa r
 lia
def Iw(r:Row):uM r (ax r).length+1=cnt r:=by
 have:=Aa r;unfold uM;rw[Wq]
 lia
def GY{p:List Nat}{v:D}:∀{a:List (D×D)},KP a->Dk a p=none->jn a (pk p) (aG p) v=a++[(aG p,v)]:=by
 intro a d e;unfold jn;rw[VH];intro z;obtain⟨x,c,ex⟩:=YJ.mp z;have:=List.find?_eq_none.mp (show a.find? (λb=>xM (pk p) b.1)=none from by unfold Dk f9 at e;exact Option.map_eq_none_iff.mp e) x c;exact this ex
def sf(a:List Nat)(l:List Row):List D:=(aE a 0 l).map λx=>aG x.1
def Eu{a:List Nat}{b:List Row}{j:Nat}{r:Row}(e:b[j]?=some r):sf a (b.take (j+1))=sf a (b.take j)++(aG (a++[j])::(dM (a++[j]) r).map λx=>aG x.1):=by
 have hj:=(Vz.mp e).1;unfold sf;rw[W0,e,XZ,ir,VT,V4,WG,X7 (WD hj),aE,aE,Wl,VL]
def BE{p:List Nat}{ls:List (List Row)}{m:Nat}{l:List Row}(e:ls[m]?=some l):(cf p 0 (ls.take (m+1))).map (λx=>aG x.1)=(cf p 0 (ls.take m)).map (λx=>aG x.1)++sf (p++[m]) l:=by
 have hm:=(Vz.mp e).1;rw[W0,e,XZ,j5,VT,V4,WG,X7 (WD hm),cf,cf,Wl];rfl
structure SK(sz0 rw0:List (D×D))(a:List Nat)(g1 g2:List Nat->Option D)(n1 n2:Nat)(K:List D)(sz rw1:List (D×D)):Prop where
 kk:rw1.map (·.1)=rw0.map (·.1)++K
 ks:KP sz
 kr:KP rw1
 ls:sz.length<=sz0.length+n1
 lr:rw1.length<=rw0.length+n2
 es:Dk sz=ov a g1 (Dk sz0)
 er:Dk rw1=ov a g2 (Dk rw0)
theorem qU:∀(n:Nat)(c:List Row)(a:List Nat)(h:MH)(o i k:Nat)(sz rw1:List (D×D)),cp c<=n->a.length+2*n<=100->h[o]?=some (.dct [(.inr "size",.ob i),(.inr "row",.ob k)])->h[i]?=some (.dcH sz)->h[k]?=some (.dcH rw1)->i≠k->(∀q,Dk rw1 (a++q)=none)->KP sz->KP rw1->sz.length+1+3*aX c<=10000->rw1.length+aX c<=10000->
  ∃e d,b5 n [eO c,aG a,.ob o] h=some (.ob o,hh h i k e d)/\SK sz rw1 a (λq=>(i9 c q).map aD) (λq=>(fc c q).map aM) (1+3*aX c) (aX c) (sf a c) e d
 | 0,c,a,h,o,i,k,sz,rw1,hn,_,_,_,_,_,_,_,_,_,_=>by
  exfalso;cases c with
  | nil=>simp[cp] at hn
  | cons r rs=>rw[cp] at hn;lia
 | n+1,c,a,h,o,i,k,sz,rw1,hn,ha,I,es,er,u,hz,ks,kr,ls,lr=>by
  have O:o≠i:=λz=>by rw[z,es] at I;cases I
  have P:o≠k:=λz=>by rw[z,er] at I;cases I
  have Q:=(Vz.mp es).1;have J:=(Vz.mp er).1;have w:∀x y,(hh h i k x y)[o]?=some (.dct [(.inr "size",.ob i),(.inr "row",.ob k)]):=λx y=>by rw[Uu O P];exact I
  have e0:Rn (b5 (n+1) [eO c,aG a,.ob o] h) λp=>∃e d,p=(.ob o,hh h i k e d)/\SK sz rw1 a (λq=>(i9 c q).map aD) (λq=>(fc c q).map aM) (1+3*aX c) (aX c) (sf a c) e d:=by
   unfold b5;refine br ?_;exists Dl c h;nofun;refine CP ?_;nofun;refine rv (mZ I).1 ?_;exists zT es (by lia);have S:h.set i (.dcH (jn sz (pk a) (aG a) (aD c.length)))=hh h i k (jn sz (pk a) (aG a) (aD c.length)) rw1:=by
    rw[<-Ma u (h:=h) (sz:=sz) (rw1:=rw1),K1 es er]
   show qS _ _ (Fl.nx,entry 7 [eO c,aG a,D.ob o],List.set h i (MO.dcH (jn sz (pk a) (aG a) (aD c.length))));rw[S];nofun;refine fA ?_;nofun;refine⟨_,_,_,rfl,rfl,?_⟩;rw[eP];refine cB (λj C E=>∃(d3 d4 G F:Option D)(e d:List (D×D)),C=[some (eO c),some (aG a),some (.ob o),d3,d4,G,F]/\E=hh h i k e d/\SK sz rw1 a (F5 c j 0) (Ay c j 0 false) (1+3*aX (c.take j)) (aX (c.take j)) (sf a (c.take j)) e d)
    ⟨_,_,_,_,_,_,rfl,rfl,(Wl _).symm,CV ks rfl,kr,VJ y7 (by exact W3 _),V9 _ _,?_,?_⟩ (λ_ _ _ _ _=>rfl) ?_ ?_
   ·refine Hk (b:=[]) (g:=λ_=>none) (v:=aD c.length) (λp=>?_) rfl λq hq=>Qu hq;rw[Dd,Wl];exact CU ks p
   ·rw[QD,Dd]
   ·rintro j x C E R ⟨d3,d4,G,F,e,d,rfl,rfl,T⟩;obtain⟨r,hr,rfl⟩:=iB R;have U:=VC hr;have hct:=Fp c j hr;have Z:=T.ls;have L:=T.lr;have hc1:=Iw r;have X:Dk d (a++[j])=none:=by
     rw[T.er];unfold ov;rw[eg,VO,show Ay c j 0 false [j]=none by show(if j < j then _ else if j=j/\false=true then _ else none)=none;rw[VH (WI _),VH (λz=>by cases z.2)]];exact hz _
    nofun;refine CP ?_;nofun;refine rv (mZ (w _ _)).2 ?_;exists oG a j (by lia) _;exists zT (Rm J) (by clear hc1;lia);rw[Mb];nofun;refine fA ?_;exists uG r _;nofun;refine⟨_,_,_,rfl,rfl,?_⟩;refine cB (λm C E=>∃(G F:Option D)(e d:List (D×D)),C=[some (eO c),some (aG a),some (.ob o),some (.int j),some (aM r),G,F]/\E=hh h i k e d/\SK sz rw1 a (F5 c j m) (Ay c j m true) (1+3*aX (c.take j)+(m+3*uM r m)) (aX (c.take j)+1+uM r m) (sf a (c.take j)++aG (a++[j])::(cf (a++[j]) 0 ((ax r).take m)).map λx=>aG x.1) e d)
     ⟨_,_,_,_,rfl,rfl,by rw[GY T.kr X,VT,T.kk,Wg];rfl,T.ks,CV T.kr (oK 0 r),by have:=T.ls;exact Z,VJ y7 (by exact Xu L),T.es,?_⟩ (λ_ _ _ _ _=>rfl) ?_ ?_
    ·refine Hk (b:=[j]) (g:=Ay c j 0 false) (v:=aM r) (λp=>?_) (CJ hr).1 (CJ hr).2;rw[<-T.er];exact CU T.kr p
    ·rintro m x C E R ⟨G,F,s,t,rfl,rfl,f⟩;obtain⟨l,hl,rfl⟩:=iB R;have Y:=VC hl;have hml:m < (ax r).length:=(Vz.mp hl).1;have h3:=sM r;have hcs:=Fj hl;have hcl:=Lf r (m+1);have hl3:=f.ls;have hl4:=f.lr;exists BO a j m (by lia) _;nofun;obtain⟨M,N,e4,A⟩:=qU n l (a++[j,m]) (hh h i k s t) o i k s t (by have:=vE U;have:=vD Y;lia) (by simp;lia) (w _ _) (Ut u Q) (Rm J) u (λq=>by
      rw[f.er,Wg];unfold ov;rw[eg,VO,(RX hr hl).1.1];exact hz _) f.ks f.kr (by clear f T;lia) (by lia)
     refine rv e4 ?_;rw[Ro u];have H:=RX hr hl;refine⟨_,_,M,N,rfl,rfl,by rw[A.kk,f.kk,BE hl,Wg,Wg,Wg];rfl,A.ks,A.kr,by have:=A.ls;clear A f T;lia,by have:=A.lr;lia,?_,?_⟩
     ·rw[A.es,f.es];exact L8 H.2.1 H.2.2.1 H.2.2.2
     ·rw[A.er,f.er];exact L8 H.1.1 H.1.2.1 H.1.2.2
    ·rintro C E ⟨G,F,s,t,rfl,rfl,f⟩;rw[bF,Vy] at f;have htk:aX (c.take (j+1))=aX (c.take j)+cnt r:=by
      have h2:∀x y:List Row,aX (x++y)=aX x+aX y:=by
       intro x
       induction x with
       | nil=>intro y;simp[aX]
       | cons a x ih=>intro y;rw[Yn,aX,ih,aX];lia
      rw[W0,hr,XZ,h2];simp[aX]
     have h3:=sM r;refine⟨_,_,_,_,s,t,rfl,rfl,by rw[f.kk,Eu hr,oo,Wq],f.ks,f.kr,by have:=f.ls;clear f T;lia,by have:=f.lr;lia,?_,?_⟩
     ·rw[f.es,MS hr]
     ·rw[f.er,Nc hr]
   ·rintro C E ⟨d3,d4,G,F,e,d,rfl,rfl,T⟩;rw[bF,Vy] at T;nofun;refine⟨e,d,rfl,by rw[T.kk,Wq],T.ks,T.kr,?_,?_,?_,?_⟩
    ·have:=T.ls;rw[Wq] at this;exact this
    ·have:=T.lr;rw[Wq] at this;exact this
    ·rw[T.es,Jw]
    ·rw[T.er,JH]
  obtain⟨p,e1,e,d,rfl,T⟩:=e0;exact⟨e,d,e1,T⟩
def CQ{ws:W}{g:GM}{e:EM}:∀{xs:List D} {δ:DS} {h:MH} (J:Nat->List D->DS->MH->Prop),J 0 [] δ h->(∀i a δ h,J i a δ h->gR ws h=true)->
  (∀i x a δ h,xs[i]?=some x->J i a δ h->Rn (g x δ h) λq=>Rn (e q.1 q.2) λy=>J (i+1) (a++[y.1]) q.1 y.2)->Rn (a8 ws g cj e xs δ h) λp=>∃b,J xs.length p.1 b p.2:=by
 intro xs
 induction xs with
 | nil=>
  intro δ h J c d _;unfold a8;rw[VE (d 0 [] δ h c)];exact⟨_,rfl,δ,c⟩
 | cons x xs f=>
  intro δ h J c d ht;obtain⟨q,o,y,n,j⟩:=ht 0 x [] δ h rfl c;obtain⟨p,m,b,hp⟩:=f (λi a δ h=>J (i+1) (y.1::a) δ h) j (λi a δ h=>d (i+1) (y.1::a) δ h) λi x a δ h k c=>ht (i+1) x (y.1::a) δ h k c;unfold a8;rw[VE (d 0 [] δ h c),o];dsimp only[Option.bind_some];have l:cj q.1 q.2=some (true,q.2):=rfl;rw[l];dsimp only[Option.bind_some];rw[VE rfl,n];dsimp only[Option.bind_some];rw[m];exact⟨_,rfl,b,hp⟩
structure RY(h:MH)(lo hi:Nat)(rows:List Row)(t:D):Prop where
 ex:∃ti si ri sz rw1,t=.ob ti/\h[ti]?=some (.dct [(.inr "size",.ob si),(.inr "row",.ob ri)])/\h[si]?=some (.dcH sz)/\h[ri]?=some (.dcH rw1)/\(lo<=ti/\ti < hi)/\(lo<=si/\si < hi)/\(lo<=ri/\ri < hi)/\
  (Dk sz=λp=>(i9 rows p).map aD)/\(Dk rw1=λp=>(fc rows p).map aM)/\rw1.map (·.1)=sf [] rows
def RY.mono{h o:MH}{j l b c:Nat}{a:List Row}{t:D}(T:RY h j l a t)(k:∀i,j<=i->i < l->o[i]?=h[i]?)(n:b<=j)(m:l<=c):RY o b c a t:=by
 obtain⟨p,q,r,sz,g,x,w,v,u,f,e,d,s⟩:=T.ex;exact⟨p,q,r,sz,g,x,(k _ f.1 f.2).trans w,(k _ e.1 e.2).trans v,(k _ d.1 d.2).trans u,⟨by exact VJ n f.1,by exact VJ f.2 m⟩,⟨by exact VJ n e.1,by exact VJ e.2 m⟩,⟨by exact VJ n d.1,by exact VJ d.2 m⟩,s⟩
def lP(P:Prog)(h:MH)(b c:Nat)(a:List D):Prop:=∀(i:Nat)(d:dD),P.ag[i]?=some d->∃t,a[i]?=some t/\RY h b c d.2.2 t
theorem lP.mono{P:Prog}{h f:MH}{a b:Nat}{c:List D}(T:lP P h a b c)(k:∀i,a<=i->i < b->f[i]?=h[i]?):lP P f a b c:=λi d e=>let⟨t,j,g⟩:=T i d e;⟨t,j,g.mono k (VG _) (VG _)⟩
def Hl(g:List Nat->Option D):ov [] g (λ_=>none)=g:=by
 funext p
 unfold ov;show(match g p with | some d=>some d | none=>none)=g p;cases g p <;> rfl
def GW{m:LA}{a:DS}{h:MH}{Q:D×MH->Prop}(hh:Rn (m a h) λp=>p.1.length<=15/\Q (.ob p.2.length,p.2++[.dct (iy [] p.1)])):Rn (tu m a h) Q:=aS (hh.imp λp u9=>by obtain⟨l,q⟩:=u9;rw[VE l];exact⟨_,rfl,q⟩)
def GV{a:DS}{h:MH}{Q:D×MH->Prop}(q:Q (.ob h.length,h++[.dcH []])):Rn (Ld a h) Q:=⟨_,rfl,q⟩
def yo{P:Prog}{h:MH}(hn:∀d∈P.ag,cp d.2.2<=8/\aX d.2.2<=1000)(hl:P.ag.length<=1000)(U:Cl h):Rn (gQ [bt P] h) λp=>∃u g,p=(.lv u,h++g)/\lP P (h++g) h.length (h.length+g.length) u/\u.length=P.ag.length/\Cl (h++g):=by
 refine br ?_;nofun;refine rv (a:=(P.ag.map dA,[],h)) rfl ?_;refine(CQ (λi s F H=>∃(E:Option D)(g:MH),F=[E]/\H=h++g/\s.length=i/\(∀(k:Nat)(d:dD),k < i->P.ag[k]?=some d->∃t,s[k]?=some t/\RY (h++g) h.length (h.length+g.length) d.2.2 t)/\Cl (h++g)) ⟨_,[],rfl,by rw[Wl],rfl,λk d w=>absurd w (WJ _),by rw[Wl];exact U⟩ (λ_ _ _ _ _=>rfl) ?_).imp ?_
 ·rintro i x s F H G ⟨E,g,rfl,rfl,l,r,C⟩;rw[VN] at G;obtain⟨d,hd,rfl⟩:=WB.mp G;obtain⟨n1,n2⟩:=hn d (VC hd);nofun;refine rv (a:=(eO d.2.2,h++g)) rfl ?_;nofun;refine GW ?_;refine CN ?_;nofun;refine GV ⟨_,rfl,?_⟩;refine CN ?_;nofun;refine GV ⟨_,rfl,?_⟩;refine rv (a:=([],_)) rfl ⟨by show 2<=15;decide,?_⟩;nofun;generalize o:(h++g).length=N;have n:(h++g++[MO.dcH []]).length=N+1:=by rw[VM,o];rfl
  have A:(h++g++[MO.dcH []]++[MO.dcH []]).length=N+2:=by rw[VM,n];rfl
  have X:h.length+g.length=N:=by rw[<-o,VM]
  show Rn (b5 8 [eO d.2.2,aG [],.ob (h++g++[MO.dcH []]++[MO.dcH []]).length] (h++g++[MO.dcH []]++[MO.dcH []]++[MO.dct [(.inr "size",.ob N),(.inr "row",.ob (h++g++[MO.dcH []]).length)]])) _;rw[n,A];have j:∀a b c:MO,h++g++[a]++[b]++[c]=(h++g)++[a,b,c]:=λa b c=>by simp
  rw[j];have J:∀(a b c:MO),((h++g)++[a,b,c])[N]?=some a/\((h++g)++[a,b,c])[N+1]?=some b/\((h++g)++[a,b,c])[N+2]?=some c:=λa b c=>by
   subst o;refine⟨?_,?_,?_⟩
   ·rw[VY (VG _),X0];rfl
   ·rw[VY (V9 _ _),Yy];rfl
   ·rw[VY (V9 _ _),Yy];rfl
  obtain⟨Q,O,M⟩:=J (.dcH []) (.dcH []) (.dct [(.inr "size",.ob N),(.inr "row",.ob (N+1))]);obtain⟨sz,f,Z,T⟩:=qU 8 d.2.2 [] _ (N+2) N (N+1) [] [] n1 (by decide) M Q O (V6 (W3 _)) (λ_=>rfl) (λ_ z=>(nomatch z)) (λ_ z=>(nomatch z)) (by simp;lia) (by simp;exact VJ n2 (by decide));refine rv Z ?_;have Y:hh ((h++g)++[MO.dcH [],.dcH [],.dct [(.inr "size",.ob N),(.inr "row",.ob (N+1))]]) N (N+1) sz f=h++(g++[MO.dcH sz,.dcH f,.dct [(.inr "size",.ob N),(.inr "row",.ob (N+1))]]):=by
   unfold hh;subst o;rw[XG _ _ (VG _),X0,XG _ _ (V9 _ _),Yy,<-Wg];rfl
  rw[Y];have q:=J (.dcH sz) (.dcH f) (.dct [(.inr "size",.ob N),(.inr "row",.ob (N+1))]);rw[Wg] at q;refine⟨_,_,rfl,rfl,by rw[VM,l];rfl,λk d' w e=>?_,?_⟩
  ·by_cases c:k < i
   ·obtain⟨t,S,R⟩:=r k d' c e;refine⟨t,by rw[VW (by clear w;lia)];exact S,R.mono (λm _ hm=>?_) (VG _) (by rw[VM];simp)⟩;rw[<-Wg,VW (by rw[VM];exact hm)]
   ·have v:k=i:=by lia
    subst v;rw[hd] at e;cases e;refine⟨.ob (N+2),by rw[VY (by exact ZS l),l,X0];rfl,N+2,N,N+1,sz,f,rfl,q.2.2,q.1,q.2.1,?_,?_,?_,?_,?_,T.kk⟩
    ·rw[VM];simp;lia
    ·rw[VM];simp;lia
    ·rw[VM];simp;lia
    ·rw[T.es];exact Hl _
    ·rw[T.er];exact Hl _
  ·have c1:Cl (h++g++[.dcH sz]):=C.snoc T.ks.cl;have c2:Cl (h++g++[.dcH sz]++[.dcH f]):=c1.snoc T.kr.cl;have I:Cl (h++g++[.dcH sz]++[.dcH f]++[.dct [(.inr "size",.ob N),(.inr "row",.ob (N+1))]]):=c2.snoc (by
    rw[VM,VM,o];show(decide (N < _)&&(decide (N+1 < _)&&true))=true;rw[Wa (by simp <;> lia),Wa (by simp <;> lia)];rfl)
   rw[j] at I;rw[<-Wg];exact I
 ·rintro p ⟨L,E,g,hd,y,l,r,C⟩;rw[Vy] at l r;refine⟨by rw[l,show sizeLine=16777216 from rfl];exact VJ hl (by decide),?_⟩;nofun;exact⟨p.1,g,by rw[y],λi d e=>r i d (Vz.mp e).1 e,l,C⟩
def DE{a:List D}{i:Nat}{d:D}{h:MH}(e:a[i]?=some d):aB (.lv a) (aD i) h=some (d,h):=by
 have b:=(Vz.mp e).1;unfold aB;show((b9 (.lv a) h).bind λp=>(fq p.1 (i:Int)).map λz=>(z,h))=_;show((fq a (i:Int)).map λz=>(z,h))=_;rw[kj e];rfl
def DH{h:MH}{n:Nat}{a:List (D×D)}{p:List Nat}(e:h[n]?=some (.dcH a)):zU (.ob n) (aG p) h=(Dk a p).map λd=>(d,h):=by
 unfold zU lL;dsimp only;rw[e];dsimp only[Option.bind_some];rw[j7];rfl
def zB{h:MH}{n:Nat}{a:List (D×D)}{p:List Nat}{x:D}(e:h[n]?=some (.dcH a)):HC (.ob n) [aG p,x] h=some ((Dk a p).getD x,h)/\HL (.ob n) h=true:=by
 have hd:lL (.ob n) h=some a:=by unfold lL;dsimp only;rw[e]
 constructor
 ·unfold HC;rw[hd];dsimp only[Option.bind_some];rw[j7];rfl
 ·unfold HL;rw[hd];rfl
structure Vu(h:MH)(ts:List D)(i:Nat)(rows:List Row)(t:D)(si ri:Nat):Prop where
 t0:aB (.lv ts) (aD i) h=some (t,h)
 s:aB t (.str "size") h=some (.ob si,h)
 r:aB t (.str "row") h=some (.ob ri,h)
 sz:∀{st:List (Nat×Nat)} {lot:List Row},bB rows st=some lot->zU (.ob si) (aG (flat st)) h=some (aD lot.length,h)
 rw:∀{st:List (Nat×Nat)} {lot:List Row} {k:Nat} {r:Row},bB rows st=some lot->lot[k]?=some r->zU (.ob ri) (bM st k) h=some (aM r,h)
 gt:∀{st:List (Nat×Nat)} {lot:List Row} {k:Nat},bB rows st=some lot->HC (.ob ri) [bM st k,.bx] h=some (yN lot[k]?,h)/\HL (.ob ri) h=true
def lP.at_{P:Prog}{h:MH}{o q:Nat}{g:List D}(T:lP P h o q g){i:Nat}{d:dD}(e:P.ag[i]?=some d):∃t b c,Vu h g i d.2.2 t b c:=by
 obtain⟨t,s,⟨m,b,c,sz,n,rfl,l,v,f,_,_,_,u,j,_⟩⟩:=T i d e;refine⟨.ob m,b,c,DE s,(mZ l).1,(mZ l).2,λ{st a} hl=>?_,λ{st a k r} hl hr=>?_,λ{st a k} hl=>?_⟩
 ·rw[DH v,u];dsimp only;rw[uY,hl];rfl
 ·unfold bM;rw[DH f,j];dsimp only;rw[jW,hl,VO,hr];rfl
 ·unfold bM;refine⟨?_,(zB (p:=[]) (x:=.bx) f).2⟩;rw[(zB f).1,j];dsimp only;rw[jW,hl,VO];cases a[k]? <;> rfl
def pG(st:List (Nat×Nat))(k:Nat)(h:MH)(hl:st.length<=1000):c8 [bM st k] h=some (bM st (k+1),h):=by
 have c:Rn (c8 [bM st k] h) λp=>p=(bM st (k+1),h):=by
  refine br ?_;nofun;refine⟨_,rfl,rv (ou st k _) ?_⟩;exists gY _ _ _;nofun;refine rv (a:=(aD (k+1),h)) rfl ?_;exists ke (ys:=[aD (k+1)]) (by rw[Vy,jD];simp;lia);show(D.tup ((flat st).map aD++[aD (k+1)]),h)=(D.tup ((flat st++[k+1]).map aD),h);rw[VT];rfl
 obtain⟨p,b,rfl⟩:=c;exact b
def Dp.fr(f:cD):Dp 2 (eY f):=Dp.tup (uP.cons (Dp.int _) (uP.cons (Dp.tup (uP.map λi _=>Dp.int i)) (uP.cons (Dp.tup (uP.map λi _=>Dp.int _)) uP.nil)))
def ne_nil{h:MH}{n m:Nat}{c:List D}(e:h[n]?=some (.lst c))(hd:uP m c)(hm:m<=60):jE (.ob n) (.lv []) h=some (.bl (!c.isEmpty),h):=by
 obtain⟨d,g,k,_⟩:=hd;have f:cc (.ob n) h=none:=by unfold cc;dsimp only;rw[e]
 unfold jE Jk;rw[f];show(Jj (.ob n) (.lv []) h).map _=_;unfold Jj;have hr:ye h (.ob n)=some (.list d):=by unfold ye;dsimp only;rw[e];dsimp only;rw[g];rfl
 rw[hr];show((if(PyData.list d).depth<=64/\(PyData.list []).depth<=64 then some (PyData.eqv (.list d) (.list [])) else none).map _)=_;rw[VE ⟨by rw[PyData.depth];lia,by simp[PyData.depth,PyData.depthAll]⟩];cases c with
 | nil=>cases g;rfl
 | cons x c=>
  obtain⟨p,_,i⟩:=a9 (show(jm x).bind (λa=>(gc c).map λb=>a::b)=some d from g);obtain⟨j,_,rfl⟩:=cY i;rfl
def HS{h:MH}{n:Nat}{fs:List cD}(e:h[n]?=some (.lst (fs.reverse.map eY))):jE (.ob n) (.lv []) h=some (.bl (!fs.isEmpty),h):=by
 rw[ne_nil e (uP.map λf _=>Dp.fr f) (by decide)];cases fs with
 | nil=>rfl
 | cons f fs=>simp
def Dg{h:MH}{n:Nat}{b:List D}{y:D}(e:h[n]?=some (.lst (b++[y]))):aB (.ob n) (.int (-1)) h=some (y,h):=by
 have a:cc (.ob n) h=none:=by unfold cc;dsimp only;rw[e]
 unfold aB;rw[a];show((b9 (.ob n) h).bind λp=>(fq p.1 (-1)).map λz=>(z,h))=_;rw[wG e];show((fq (b++[y]) (-1)).map λz=>(z,h))=_;rw[nr];rfl
def KD(P:Prog)(f:cD):Nat:=((bB (bU P f.bA) f.rs.reverse).map List.length).getD 0
def FL(P:Prog):List cD->Prop
 | []=>True
 | f::fs=>f.k<=KD P f/\∀g∈fs,g.k < KD P g
def FL.pop{P:Prog}{f g:cD}{a:List cD}(h:FL P (f::g::a)):FL P ({g with k:=g.k+1}::a):=⟨h.2 g VF,λx b=>h.2 x (VD _ b)⟩
def Dm{P:Prog}{f:cD}{d:dD}{a:List Row}(e:P.ag[f.bA]?=some d)(hl:bB d.2.2 f.rs.reverse=some a):KD P f=a.length:=by
 unfold KD;rw[eN e,hl];rfl
noncomputable def Kw(fs:List cD):Nat:=(fs.map λf=>f.rs.length+1).sum
def mQ(f:cD)(fs:List cD):Kw (f::fs)=f.rs.length+1+Kw fs:=rfl
def Ri(r:Row)(h:MH):Fd (.str (gB r)) (.tup [.str "within",.str "all"]) h=some (.bl (EV r),h):=by cases r <;> rfl
def OZ(r:Row)(h:MH):∃b,b6 (.str (gB r)) (.str "ask") h=some (.bl b,h)/\∀l,cO r l=(EV r||(b&&l==0)):=by
 cases r with
 | ask _ _ _=>exact⟨true,rfl,λl=>by show(l==0)=(false||(true&&l==0));simp⟩
 | within _ _=>exact⟨false,rfl,λ_=>rfl⟩
 | all _ _=>exact⟨false,rfl,λ_=>rfl⟩
 | _=>exact⟨false,rfl,λ_=>rfl⟩
def Oe{a b c:EM}{d:DS}{h:MH}{x y z:Bool}(k:a d h=some (.bl x,h))(j:b d h=some (.bl y,h))(i:c d h=some (.bl z,h)):Sm.D7 (ay a) (Sm.km (ay b) (ay c)) d h=some (x||(y&&z),h):=by
 have g:ay a d h=some (x,h):=by unfold ay;rw[k];rfl
 have f:ay b d h=some (y,h):=by unfold ay;rw[j];rfl
 have e:ay c d h=some (z,h):=by unfold ay;rw[i];rfl
 unfold Sm.D7 Sm.km;rw[g];cases x with
 | true=>rfl
 | false=>
  show((ay b d h).bind _)=_;rw[f];cases y with
  | true=>exact e
  | false=>rfl
def Im(r:Row)(h:MH):b6 (.str (gB r)) (.str "again") h=some (.bl (j9 r),h):=by cases r <;> rfl
def gj{h:MH}{n:Nat}{o:MO}(hn:n < h.length):(h.set n o)[n]?=some o:=Wy hn
def wF{P:Prog}{fs:List cD}{h:MH}{lo hi n:Nat}{J:List D}(T:lP P h lo hi J)(hn:h[n]?=some (.lst (fs.reverse.map eY)))(hlo:¬(lo<=n/\n < hi))(ok:∀f∈fs,gP P f)(fl:FL P fs)(hl:fs.length<=1000)(hm:Kw fs < 1000000):
  dY [.lv J,.ob n] h=some (.ob n,h.set n (.lst ((gJ P fs).reverse.map eY))):=by
 have H:=(Vz.mp hn).1;have Tm:∀o,lP P (h.set n o) lo hi J:=λo=>T.mono λi h1 h2=>Wn (λz=>hlo (by rw[z];exact⟨h1,h2⟩));have e0:Rn (dY [.lv J,.ob n] h) λp=>p=(.ob n,h.set n (.lst ((gJ P fs).reverse.map eY))):=by
  refine br ?_;refine jj ?_;refine mE (λm δ h'=>∃(a:List cD)(d2 d3 d4 d5 d6 d7 d8:Option D),m=Kw a/\a.length<=1000/\(∀f∈a,gP P f)/\FL P a/\δ=[some (.lv J),some (.ob n),d2,d3,d4,d5,d6,d7,d8]/\h'=h.set n (.lst (a.reverse.map eY))/\gJ P a=gJ P fs) ?_ _ (Kw fs) _ _ hm ⟨fs,_,_,_,_,_,_,_,rfl,hl,ok,fl,rfl,(q0 hn).symm,rfl⟩;rintro m δ h' ⟨a,d2,d3,d4,d5,d6,d7,d8,rfl,A,C,Q,rfl,rfl,S⟩;nofun;refine rv (HS (gj H)) ⟨_,rfl,?_⟩;refine⟨λc=>?_,λc=>?_⟩
  ·cases a with
   | nil=>cases c
   | cons f a=>
    obtain⟨d,j,R,I,f3⟩:=C f VF;have er:bU P f.bA=d.2.2:=eN R;have hk:f.k<=j.length:=by have:=Q.1;rw[Dm R I] at this;exact this
    have X:(f::a).reverse.map eY=a.reverse.map eY++[eY f]:=by rw[Wi,VT];rfl
    obtain⟨t,si,ri,F⟩:=(Tm (.lst ((f::a).reverse.map eY))).at_ R;have N:∀x,aB (.ob n) (.int (-1)) (h.set n (.lst (a.reverse.map eY++[x])))=some (x,h.set n (.lst (a.reverse.map eY++[x]))):=λx=>Dg (gj H);rw[X] at F ⊢;exists N _;rw[fV f];exists gY _ _ _;nofun;rw[<-fV f];refine rv (N _) ?_;rw[fV f];nofun;rw[<-fV f];refine rv F.t0 ?_;exists F.s;exists N _;rw[fV f];nofun;refine⟨_,rfl,rv (ou _ _ _) ?_⟩;rw[<-fV f];exists F.sz I;nofun;refine rv (zX _ _ _) ⟨_,rfl,λc1=>?_,λc1=>?_⟩
    ·have O:f.k=j.length:=by have:=Xs.mp c1;exact Int.ofNat.inj this
     have w:j[f.k]?=none:=Xn.mpr (ZS O.symm);have ap:∀(x:D),bS (.ob n) [x] (h.set n (.lst (a.reverse.map eY)))=some (.bx,h.set n (.lst (a.reverse.map eY++[x]))):=λx=>by
      rw[bL (gj H) (by rw[Vy,WA,show sizeLine=16777216 from rfl];rw[VU] at A;exact VX A (by decide)),YD]
     have ls:∀xs:List D,bu (.ob n) (h.set n (.lst xs))=true:=λxs=>bI (gj H);nofun;refine fT ?_;nofun;refine⟨ls _,?_⟩;exists jZ (gj H);rw[YD,fV f];exists sO _ _ _;cases q:f.rs with
     | nil=>
      have hp:k7 (bU P f.bA) f.rs f.k=none:=by rw[q] at I ⊢;rw[er];exact qD I w
      nofun;refine⟨_,rfl,λc2=>?_,λc2=>?_⟩
      ·exact absurd c2 (by simp)
      ·nofun;refine rv (HS (gj H)) ⟨_,rfl,λG=>?_,λG=>?_⟩
       ·cases a with
        | nil=>cases G
        | cons g a=>
         obtain⟨dg,lg,k1,k2,k3⟩:=C g (VD _ VF);have hys:(g::a).reverse.map eY=a.reverse.map eY++[eY g]:=by rw[Wi,VT];rfl
         rw[hys];nofun;refine fT ?_;nofun;refine⟨ls _,?_⟩;exists jZ (gj H);rw[YD,fV g];nofun;refine fT ?_;nofun;refine⟨ls _,?_⟩;exists pG g.rs.reverse g.k _ (by rw[WA];exact k3);exists bL (gj H) (by rw[Vy,WA,show sizeLine=16777216 from rfl];rw[VU,VU] at A;lia);rw[YD];refine⟨Kw (g::a),by rw[mQ f];simp,{g with k:=g.k+1}::a,_,_,_,_,_,_,_,rfl,XN A,λx E=>?_,Q.pop,rfl,?_,?_⟩
         ·rcases VS.mp E with rfl | E
          ·exact⟨dg,lg,k1,k2,k3⟩
          ·exact C x (VD _ (VD _ E))
         ·rw[Wi,VT];rfl
         ·rw[<-S];show eQ P a {g with k:=g.k+1}=eQ P (g::a) f;rw[kc hp]
       ·cases a with
        | cons g a=>cases G
        | nil=>
         nofun;exact⟨0,by rw[mQ f];exact Yk _,[],_,_,_,_,_,_,_,rfl,Wm _,λx E=>(nomatch E),True.intro,rfl,rfl,by rw[<-S];exact(g9 hp).symm⟩
     | cons s e=>
      rw[q] at I f3;obtain⟨l,r,g1,g2,g3⟩:=mS I;have L:k7 (bU P f.bA) f.rs f.k=if cO r s.2 then some (s::e,f.k) else k7 (bU P f.bA) e (if j9 r then s.1 else s.1+1):=by rw[q,er];exact xa I w g1 g2
      obtain⟨t2,si2,ri2,F2⟩:=(Tm (.lst (a.reverse.map eY))).at_ R;obtain⟨ba,eba,Y⟩:=OZ r (h.set n (.lst (a.reverse.map eY)));rw[Wi] at*;nofun;refine⟨true,by congr 1;simp;lia,tt ?_⟩;exists F2.t0;exists F2.r;nofun;refine⟨_,rfl,rv (gZ e.reverse s.1 s.2 f.k _) ?_⟩;exists F2.rw g1 g2;exists pb r _;have ret:cO r s.2=true->gJ P fs=f::a:=λG=>by
       rw[<-S];show eQ P a f=_;rw[G,VE rfl] at L;rw[eB L];congr 1;rw[<-q]
      have efr:eY f=.tup [aD f.bA,.tup (f.nums.map D.int),bM (e.reverse++[s]) f.k]:=by rw[fV,q,Wi]
      refine jj (GP (rv (Oe (x:=EV r) (y:=ba) (z:=s.2==0) (Ri r _) eba ?_) ⟨λG=>?_,λG=>?_⟩))
      ·show(aB (bM (e.reverse++[s]) f.k) (.int (-2)) _).bind _=_;rw[zg e.reverse s.1 s.2];show some (D.bl ((s.2:Int)==0),_)=_;congr 3;cases s.2 <;> rfl
      ·have c4:cO r s.2=true:=(Y s.2).trans G;nofun;refine fT ?_;nofun;refine⟨ls _,?_⟩;exists ap _;nofun;rw[<-efr,ret c4,Wi,VT];rfl
      ·have c4:cO r s.2=false:=(Y s.2).trans G;rw[c4,VH V8] at L;have Z:s.1 < l.length:=(Vz.mp g2).1;have fok:∀v,gP P {f with rs:=e,k:=v}:=λv=>⟨d,l,R,g1,XN f3⟩;have U:∀v,v<=l.length->k7 (bU P f.bA) f.rs f.k=k7 (bU P f.bA) e v->∃m',m' < Kw (f::a)/\∃(u:List cD)(d2 d3 d4 d5 e6 e7 e8:Option D),m'=Kw u/\u.length<=1000/\(∀f∈u,gP P f)/\FL P u/\([some (.lv J),some (.ob n),some (aD f.bA),some (.tup (f.nums.map D.int)),some (bM (e.reverse++[s]) f.k),some (.str (gB r)),d6,d7,d8]:DS)=[some (.lv J),some (.ob n),d2,d3,d4,d5,e6,e7,e8]/\h.set n (.lst (a.reverse.map eY++[.tup [aD f.bA,.tup (f.nums.map D.int),bM e.reverse v]]))=h.set n (.lst (u.reverse.map eY))/\gJ P u=gJ P fs:=λv hk' hp=>by
        refine⟨Kw ({f with rs:=e,k:=v}::a),by rw[mQ,mQ,q,VU];simp,{f with rs:=e,k:=v}::a,_,_,_,_,_,_,_,rfl,A,λx E=>?_,⟨?_,Q.2⟩,rfl,?_,?_⟩
        ·rcases VS.mp E with rfl | E
         ·exact fok v
         ·exact C x (VD _ E)
        ·rw[Dm (f:={f with rs:=e,k:=v}) R g1];exact hk'
        ·rw[Wi,VT];rfl
        ·rw[<-S];show eQ P a {f with rs:=e,k:=v}=eQ P a f;cases a with
         | nil=>unfold eQ;rw[hp]
         | cons g a=>unfold eQ;rw[hp]
       nofun;refine fT ?_;nofun;refine⟨ls _,?_⟩;nofun;have ea:(gB r==Str.ofString "again")=j9 r:=by
        have z:=Im r h;exact congrArg (λo:Option (D×MH)=>match o with | some (.bl b,_)=>b | _=>false) z
       rw[ea];refine⟨_,rfl,λc5=>?_,λc5=>?_⟩
       ·rw[c5,VE rfl] at L;nofun;refine⟨_,rfl,rv (gZ e.reverse s.1 s.2 f.k _) ?_⟩;exists ap _;exact U s.1 (WD Z) L
       ·rw[c5,VH V8] at L;nofun;refine⟨_,rfl,rv (gZ e.reverse s.1 s.2 f.k _) ?_⟩;exists pG e.reverse s.1 _ (by rw[WA];exact XN f3);exists ap _;exact U (s.1+1) Z L
    ·have O:f.k < j.length:=by
      refine YT hk λz=>?_;rw[z] at c1;simp at c1
     have M:j[f.k]?=some j[f.k]:=VI O;have hp:k7 (bU P f.bA) f.rs f.k=some (f.rs,f.k):=gX (er ▸ I) M;nofun;rw[<-X];have hfin:gJ P fs=f::a:=by rw[<-S];show eQ P a f=_;rw[eB hp]
     rw[hfin]
  ·cases a with
   | cons f a=>cases c
   | nil=>
    refine⟨λz=>(nomatch z),λ_=>?_⟩;nofun;rw[<-S];rfl
 obtain⟨p,e1,rfl⟩:=e0;exact e1
def eq_nil{h:MH}{n m:Nat}{c:List D}(e:h[n]?=some (.lst c))(hd:uP m c)(hm:m<=60):b6 (.ob n) (.lv []) h=some (.bl c.isEmpty,h):=by
 obtain⟨d,g,k,_⟩:=hd;have f:cc (.ob n) h=none:=by unfold cc;dsimp only;rw[e]
 unfold b6 Jk;rw[f];show(Jj (.ob n) (.lv []) h).map _=_;unfold Jj;have hr:ye h (.ob n)=some (.list d):=by unfold ye;dsimp only;rw[e];dsimp only;rw[g];rfl
 rw[hr];show((if(PyData.list d).depth<=64/\(PyData.list []).depth<=64 then some (PyData.eqv (.list d) (.list [])) else none).map _)=_;rw[VE ⟨by rw[PyData.depth];lia,by simp[PyData.depth,PyData.depthAll]⟩];cases c with
 | nil=>cases g;rfl
 | cons x c=>
  obtain⟨p,_,i⟩:=a9 (show(jm x).bind (λa=>(gc c).map λb=>a::b)=some d from g);obtain⟨j,_,rfl⟩:=cY i;rfl
def HU{h:MH}{n:Nat}{fs:List cD}(e:h[n]?=some (.lst (fs.reverse.map eY))):b6 (.ob n) (.lv []) h=some (.bl fs.isEmpty,h):=by
 rw[eq_nil e (uP.map λf _=>Dp.fr f) (by decide)];cases fs with
 | nil=>rfl
 | cons f fs=>simp
def E6{h:MH}{n:Nat}{f:cD}{fs:List cD}(e:h[n]?=some (.lst ((f::fs).reverse.map eY))):aB (.ob n) (.int (-1)) h=some (eY f,h):=by
 rw[Wi,VT] at e;exact Dg e
theorem depth_strs':∀a:List Str,PyData.depthAll (a.map PyData.str)=0
 | []=>rfl
 | w::a=>by rw[VL,PyData.depthAll,depth_strs' a];rfl
theorem pyL_strs':∀c:List Str,gc (c.map D.str)=some (c.map PyData.str)
 | []=>rfl
 | w::c=>by show(jm (.str w)).bind (λa=>(gc (c.map D.str)).map λb=>a::b)=_;rw[pyL_strs' c];rfl
theorem findIdx_strs'(w:Str):∀a:List Str,w∈a->(a.map PyData.str).findIdx? (λb=>PyData.eqv b (.str w))=some (a.idxOf w)
 | x::r,h=>by
  rw[VL,ZL,List.idxOf_cons]
  by_cases z:x=w
  ·subst z;simp[PyData.eqv]
  ·have hm:w∈r:=(VS.mp h).resolve_left λq=>z q.symm;have c:(x==w)=false:=ZA.mpr z;rw[findIdx_strs' w r hm,c];simp[PyData.eqv,z]
def zL{a:List Str}{w:Str}{h:MH}(m:w∈a):dO (.lv (a.map D.str)) [.str w] h=some (aD (a.idxOf w),h):=by
 unfold dO;simp only[cL,ye,jm,pyL_strs',VO];rw[VE ⟨by simp[PyData.depth],by rw[depth_strs'];exact Wm _⟩,findIdx_strs' w a m];rfl
structure FD(h:MH)(b:Nat)(S:List Hand):Prop where
 w:h[b]?=some (.lst ((List.range S.length).map λi=>.ob (b+3*i+3)))
 x:∀(i:Nat)(x:Hand),S[i]?=some x->h[b+3*i+1]?=some (.lst (x.1.reverse.map eY))/\h[b+3*i+2]?=some (.lst (x.2.map eD))/\h[b+3*i+3]?=some (.lst [.ob (b+3*i+1),.ob (b+3*i+2)])
def QO{n:Nat}{u:FP}{d:D}{b:DS}{h:MH}{a:List D}{Q:DS×MH->Prop}(e:cL d h=some a)(hn:a.length=n)(r:Rn (u a b h) Q):Rn (Rt n u d b h) Q:=by
 unfold Rt;rw[e,VO,VE hn];exact r
def Ky{h:MH}{n:Nat}{a:List D}(e:h[n]?=some (.lst a)):cL (.ob n) h=some a:=by unfold cL;dsimp only;rw[e]
def DD{h:MH}{n i:Nat}{a:List D}{d:D}(e:h[n]?=some (.lst a))(q:a[i]?=some d):aB (.ob n) (aD i) h=some (d,h):=by
 have b:cc (.ob n) h=none:=by unfold cc;dsimp only;rw[e]
 unfold aB;rw[b];show((b9 (.ob n) h).bind λp=>(fq p.1 (i:Int)).map λz=>(z,h))=_;rw[wG e];show((fq a (i:Int)).map λz=>(z,h))=_;rw[kj q];rfl
def FD.at_{h:MH}{b i:Nat}{S:List Hand}{x:Hand}(W:FD h b S)(e:S[i]?=some x):aB (.ob b) (aD i) h=some (.ob (b+3*i+3),h)/\aB (.ob (b+3*i+3)) (.int 0) h=some (.ob (b+3*i+1),h):=
 ⟨DD W.w (by rw[VN,XS (Vz.mp e).1];rfl),DD (i:=0) (W.x i x e).2.2 rfl⟩
def tN{h g:MH}{n:Nat}{o:MO}(e:h[n]?=some o):(h++g)[n]?=some o:=by rw[VW (Vz.mp e).1,e]
def lP.app{P:Prog}{h g:MH}{c f:Nat}{b:List D}(T:lP P h c f b):lP P (h++g) c f b:=λi d e=>by
 obtain⟨t,m,⟨j,k,l,sz,a,q,p,o,n,r⟩⟩:=T i d e;exact⟨t,m,⟨j,k,l,sz,a,q,tN p,tN o,tN n,r⟩⟩
noncomputable def PZ(p:Str×List Int):D:=.tup [.str p.1,.tup (p.2.map D.int)]
def Lz(P:Prog)(t:Ao):Prop:=∀p∈t,∃d∈P.ag,d.1=p.1/\d.2.1.length=p.2.length
theorem Mj(n:Nat):∀t:Ao,cC n (t.map PZ)=true
 | []=>rfl
 | p::t=>by
  show((true&&(cC n (p.2.map D.int)&&true))&&cC n (t.map PZ))=true;rw[xR,Mj n t];rfl
def Pk{h h0:MH}{s c R:Nat}{cs:List Int}{P:Prog}{f:Int}{Q:D×MH->Prop}(dr:Dr P)(A:Sb s c cs h0 (R+30) h)(C:Cl h)(m0:0 < f)(m1:f<=4)(k:∀(t:Ao)(L:MH),Lz P t->t.length<=4->Sb s c cs h0 R L->Cl L->Q (LP t,L)):Rn (jR [.ob s,bt P,.int f] h) Q:=by
 obtain⟨U,G⟩:=A.S.lt;have h6:=dr.six;have w:=dr.pos;refine jk ?_;nofun;refine gE ?_;nofun;refine du (R:=R+29) (A.S.more [.lst []]).sb m0 (by exact W4 m1 (by decide)) λr L r0 r1 A1=>?_;obtain⟨hb1,rfl,b1⟩:=A1.b.app U;have S1:=A1.S.cut (by rw[b1.1];exact U) (by rw[b1.1];exact G);nofun;refine⟨1+r,rfl,by lia,by lia,?_⟩;refine cB (λi δ u=>∃(t:Ao)(v4 v5 v6 v7 v8:Option D)(l:MH),δ=[some (.ob s),some (bt P),some (.int f),some (.ob h.length),v4,v5,v6,v7,v8]/\u=l++[.lst (t.map PZ)]/\t.length=i/\Lz P t/\Sb s c cs h (R+29-5*i) l)
  ⟨[],_,_,_,_,_,hb1,rfl,rfl,rfl,λ_ z=>(nomatch z),⟨S1,b1⟩⟩ (λ_ _ _ _ _=>rfl) ?_ ?_
 ·rintro i x δ u J ⟨t,v4,v5,v6,v7,v8,l,rfl,rfl,hl,N,B⟩;have hi:i < 4:=by
   have:=(Vz.mp J).1;rw[Vy,V2] at this;clear J;lia
  have o:s < l.length:=by rw[B.b.1];exact U
  have Z:c < l.length:=by rw[B.b.1];exact G
  nofun;refine rv (a:=(.tup (P.ag.map dA),_)) rfl ?_;nofun;refine Fx (R:=R+28-5*i) ((B.S.more [.lst (t.map PZ)]).le (by lia)).sb (.inr rfl) (by rw[Vy];exact w) (by rw[Vy];exact VJ h6 (by decide)) λx h2 T A2=>?_;obtain⟨d,hd,rfl⟩:=V7.mp T;obtain⟨jd,X⟩:=WN.mp hd;have Y:=dr.par X;unfold dA;nofun;refine du (R:=R+27-5*i) (A2.le (by lia)) (by decide) (by decide) λq h3 f0 f1 A3=>?_;nofun;obtain⟨I,rfl,b3⟩:=A3.b.app o;have m:I.length=h.length:=b3.1.trans B.b.1;refine fT ?_;nofun;refine⟨bI (lH m),?_⟩;nofun;refine dm ?_;nofun;refine⟨_,_,rfl,?_⟩;obtain⟨⟨ys,h4⟩,e4,a4,δ4,_,v⟩:=qC (ws:=[]) (g:=gN 0) (e:=aq aF (af (aP 2) (af (gd (af (i3 cG (eK (.int 2))) (af (i3 cG (eK (.int 1))) (af (eK (.int 0)) (af (eK (.int 0)) (af (eK (.int 1)) (af (eK (.int 1)) (af (eK (.int 2)) (af (eK (.int 3)) (af (aP 1) aY)))))))))) aY))) (λ_ y=>∃i,y=.int i/\True)
   (xs:=d.2.1.map D.str) (δ:=[none,some (.int (q-99)),some (.ob s)]) (h:=I++[.lst (t.map PZ)]) (λj δ u=>(∃d0,δ=[d0,some (.int (q-99)),some (.ob s)])/\Sb s c cs (l++[.lst (t.map PZ)]) (R+27-5*i-j) u) ⟨⟨_,rfl⟩,A3⟩ (λ_ _ _ _ _=>rfl) (by
    rintro j x δ u J ⟨⟨d0,rfl⟩,v⟩;have hj:j < 3:=by
     have:=(Vz.mp J).1;rw[Vy] at this;exact VJ this Y
    nofun;exact jI (R:=R+27-5*i-(j+1)) (is:=[-2,-1,0,0,1,1,2,3,q-99]) (λ_=>True) (λ_ _=>trivial) (v.le (by clear v;lia)) λi h7 _ _ A7=>⟨⟨i,rfl,trivial⟩,⟨_,rfl⟩,A7⟩)
  have O:=a4.length;obtain⟨js,rfl,_⟩:=qJ (P:=λ_=>True) λy hy=>(let⟨_,_,r⟩:=a4.right y hy;r);dsimp only at O;rw[Vy,Vy] at O;rw[Vy] at v;refine rv e4 ⟨by dsimp only;rw[Vy,show sizeLine=16777216 from rfl];lia,?_⟩;obtain⟨H,rfl,M⟩:=v.b.app o;have F:H.length=h.length:=M.1.trans B.b.1;have S4:=v.S.cut (by rw[M.1];exact o) (by rw[M.1];exact Z);nofun;refine rv (a:=(.tup (js.map D.int),_)) rfl ?_;exists bL (lH F) (by rw[Vy,show sizeLine=16777216 from rfl];lia);rw[Gf F];nofun;refine⟨t++[(d.1,js)],_,_,_,_,_,H,rfl,by rw[VT];rfl,by rw[VM,hl];rfl,λp hp=>?_,⟨S4.le (by lia),B.b.trans M⟩⟩;rcases Wk.mp hp with z | z
  ·exact N p z
  ·rw[VQ.mp z];exact⟨d,hd,rfl,O.symm⟩
 ·rintro δ u ⟨t,v4,v5,v6,v7,v8,l,rfl,rfl,hl,N,B⟩;rw[Vy,V2] at hl B;have m:t.length<=4:=by lia
  have E:=B.b.1;have Cb:=C.but B.S B.b;exists fM (lH E);exact rv (jz E Cb (λn z=>(nomatch z)) (Mj _ t)) (k t l N m ⟨B.S.le (by lia),A.b.trans B.b⟩ Cb)
def sP{h:MH}{b:Nat}{S:List Hand}(W:FD h b S)(r:S.length<=1000):iJ [.ob b] h=some (fb S,h):=by
 refine rL ?_;refine br ?_;nofun;refine dm ?_;nofun;refine⟨_,_,wG W.w,?_⟩;obtain⟨⟨d,s⟩,l,n,rfl,c,-⟩:=CQ (ws:=[(b,.lst ((List.range S.length).map λi=>.ob (b+3*i+3)))]) (g:=Rt 2 (ai (gN 0) (ai (gN 1) bp))) (e:=aq aN (a2 (aq bJ (a1 v0)) (aq bJ (a1 v1)))) (xs:=(List.range S.length).map λi=>.ob (b+3*i+3)) (δ:=[none,none]) (h:=h)
  (λi d δ f=>f=h/\d=(S.take i).map jC/\∃m d1,δ=[m,d1]) ⟨rfl,rfl,_,_,rfl⟩ (λi d δ f z=>by rw[z.1];exact Pf W.w) (by
   rintro i x d δ f k ⟨rfl,rfl,m,d1,rfl⟩;rw[VN] at k;obtain⟨j,hj,rfl⟩:=cY k;have a:=(Vz.mp hj).1;rw[V2] at a;rw[XS a] at hj;cases hj;have c:S[i]?=some S[i]:=VI a;obtain⟨q,p,o⟩:=W.x i _ c;refine QO (Ky o) rfl ?_;exists fM q;exists fM p;nofun;refine⟨rfl,?_,_,_,rfl⟩;rw[ZV,c,XZ,VT];rfl)
 rw[Vy,V2,Wq] at c;dsimp only at c l;subst c;refine rv l ⟨by dsimp only;rw[Vy,show sizeLine=16777216 from rfl];exact VJ r (by decide),?_⟩;exists rfl;rfl
def Mc(b i:Nat)(x:Hand):MH:=[.lst (x.1.reverse.map eY),.lst (x.2.map eD),.lst [.ob (b+3*i+1),.ob (b+3*i+2)]]
def hG(b:Nat):Nat->List Hand->MH
 | _,[]=>[]
 | i,x::S=>Mc b i x++hG b (i+1) S
noncomputable def Bz(b n:Nat):List D:=(List.range n).map λi=>.ob (b+3*i+3)
def Ax(b:Nat)(S:List Hand):MH:=.lst (Bz b S.length)::hG b 0 S
theorem xD(b:Nat):∀(i:Nat)(S:List Hand),(hG b i S).length=3*S.length
 | _,[]=>rfl
 | i,x::S=>by
  show(Mc b i x++hG b (i+1) S).length=_;rw[VM,xD b (i+1) S,VU];show 3+_=_
  lia
theorem Dv(b:Nat)(y:Hand):∀(i:Nat)(S:List Hand),hG b i (S++[y])=hG b i S++Mc b (i+S.length) y
 | i,[]=>by show Mc b i y++[]=_;rw[Wl];rfl
 | i,x::S=>by
  show Mc b i x++hG b (i+1) (S++[y])=(Mc b i x++hG b (i+1) S)++_;rw[Dv b y (i+1) S,Wg,VU,show i+1+S.length=i+(S.length+1) by lia]
theorem Md(b:Nat):∀(i:Nat)(S:List Hand)(j:Nat)(x:Hand),S[j]?=some x->(hG b i S)[3*j]?=some (.lst (x.1.reverse.map eY))/\(hG b i S)[3*j+1]?=some (.lst (x.2.map eD))/\(hG b i S)[3*j+2]?=some (.lst [.ob (b+3*(i+j)+1),.ob (b+3*(i+j)+2)])
 | i,y::S,0,x,e=>by cases e;exact⟨rfl,rfl,rfl⟩
 | i,y::S,j+1,x,e=>by
  obtain⟨a,c,d⟩:=Md b (i+1) S j x e;have f:∀k,(hG b i (y::S))[3*(j+1)+k]?=(hG b (i+1) S)[3*j+k]?:=λk=>by
   show(Mc b i y++hG b (i+1) S)[3*(j+1)+k]?=_;rw[VY (by show 3<=_;lia)];congr 1;show 3*(j+1)+k-3=_
   lia
  refine⟨(f 0).trans a,(f 1).trans c,(f 2).trans ?_⟩;rw[d,show i+1+j=i+(j+1) by lia]
def FD.new(h:MH)(S:List Hand):FD (h++Ax h.length S) h.length S:=by
 have d:∀k,(h++Ax h.length S)[h.length+k+1]?=(hG h.length 0 S)[k]?:=λk=>by
  rw[VY (by lia),show h.length+k+1-h.length=k+1 by lia];rfl
 refine⟨?_,λi x e=>?_⟩
 ·rw[VY (VG _),X0];rfl
 ·obtain⟨a,b,c⟩:=Md h.length 0 S i x e;refine⟨(d _).trans a,(d _).trans b,(d (3*i+2)).trans ?_⟩;rw[c,WG]
theorem vY{h:MH}:∀(a:List dD)(o:Option D),a8 [] (gN 0) cj (ak aB v0 (ki 0)) (a.map dA) [o] h=some ((a.map (·.1)).map D.str,h)
 | [],o=>rfl
 | d::a,o=>by
  rw[VL];show((a8 [] (gN 0) cj (ak aB v0 (ki 0)) (a.map dA) [some (dA d)] h).map _)=_;rw[vY a _];rfl
def sR{P:Prog}{h:MH}{w q:Nat}{j:List D}{t:Ao}(u:Dr P)(T:lP P h w q j)(A:q<=h.length)(v:Lz P t)(ht:t.length<=1000):iK [bt P,.lv j,LP t] h=some (.ob h.length,h++Ax h.length (t.map (i4 P (fB P)))):=by
 have E:=u.six;refine rL ?_;refine br ?_;unfold bt;nofun;refine dm ?_;nofun;refine⟨_,_,rfl,?_⟩;refine rv (vY P.ag none) ⟨by dsimp only;rw[Vy,Vy,show sizeLine=16777216 from rfl];exact VJ E (by decide),?_⟩;unfold LP;nofun;refine dm ?_;nofun;refine⟨_,_,rfl,?_⟩;refine cB (λi e l=>l=h++Ax h.length ((t.take i).map (i4 P (fB P)))/\∃(n m:Option D),e=[some (.tup [.tup (P.names.map D.str),.tup (P.ag.map dA)]),some (.lv j),some (.tup (t.map λp=>.tup [.str p.1,.tup (p.2.map D.int)])),some (.lv ((P.ag.map (·.1)).map D.str)),some (.ob h.length),n,m]) ⟨rfl,_,_,rfl⟩ (λ_ _ _ _ _=>rfl) ?_ ?_
 ·rintro i x e l o ⟨rfl,n,m,rfl⟩;rw[VN] at o;obtain⟨p,hp,rfl⟩:=cY o;have y:=(Vz.mp hp).1;obtain⟨d,hd,d1,d2⟩:=v p (VC hp);obtain⟨H,c⟩:=WN.mp hd;have b:P.ag[fB P p.1]?=some d:=by rw[<-d1,u.num c];exact c
  have a:((t.take i).map (i4 P (fB P))).length=i:=by rw[Vy,V4];lia
  have r:Ax h.length ((t.take i).map (i4 P (fB P)))=.lst (Bz h.length i)::hG h.length 0 ((t.take i).map (i4 P (fB P))):=by unfold Ax;rw[a]
  have G:(h++Ax h.length ((t.take i).map (i4 P (fB P)))).length=h.length+3*i+1:=by rw[VM,r,VU,xD,a];rfl
  have s:∀g,((h++Ax h.length ((t.take i).map (i4 P (fB P))))++g)[h.length]?=some (.lst (Bz h.length i)):=λg=>by
   rw[Wg,VY (VG _),X0,r];rfl
  nofun;refine fT ?_;nofun;refine⟨bI (by have:=s [];rw[Wl] at this;exact this),?_⟩;nofun;refine fT ?_;nofun;refine⟨rfl,?_⟩;exists zL (V7.mpr ⟨d,hd,d1⟩);exists wF (fs:=[{bA:=fB P p.1,nums:=p.2,rs:=[],k:=0}]) (T.app.app) (lH rfl) (by rw[G];lia) (λf C=>by rw[VQ.mp C];exact⟨d,d.2.2,b,rfl,Wm _⟩) ⟨Wm _,λ_ z=>(nomatch z)⟩ (show 1<=1000 by decide) (show 1 < 1000000 by decide);rw[Gf rfl];exists bL (by rw[Wg,Wg];exact s _) (by unfold Bz;rw[Vy,V2,show sizeLine=16777216 from rfl];lia);nofun;refine⟨?_,_,_,rfl⟩;rw[ZV,hp,XZ,VT];show _=h++Ax h.length ((t.take i).map (i4 P (fB P))++[i4 P (fB P) p]);unfold Ax;rw[Dv,VM,a,Wg,Wg,Wg,XG _ _ (VG _),X0,WG];simp only[VM,VU,WZ,xD,a];have F:Bz h.length (i+(0+1))=Bz h.length i++[D.ob (h.length+(3*i+1)+(0+1)+(0+1))]:=by
   unfold Bz;rw[show i+(0+1)=i+1 from rfl,List.range_succ,VT];rfl
  rw[F];rfl
 ·rintro e l ⟨rfl,n,m,rfl⟩;rw[Vy,Wq];nofun
end Mi
namespace Pg
open PySem Sm L2
def plain:Nat->D->Prop
 | 0,_=>False
 | n+1,.tup xs=>xs.length<=100000/\∀x∈xs,plain n x
 | _+1,.str _=>True
 | _+1,.int _=>True
 | _+1,.bx=>True
 | _+1,_=>False
theorem za:∀{n m:Nat} {d:D},plain n d->n<=m->plain m d
 | 0,_,_,h,_=>h.elim
 | n+1,0,_,_,hm=>absurd hm (by lia)
 | n+1,m+1,.tup xs,h,hm=>⟨h.1,λx a=>za (h.2 x a) (by lia)⟩
 | n+1,m+1,.str _,h,hm=>trivial
 | n+1,m+1,.int _,h,hm=>trivial
 | n+1,m+1,.bx,h,hm=>trivial
 | n+1,m+1,.bl _,h,hm=>h.elim
 | n+1,m+1,.lv _,h,hm=>h.elim
 | n+1,m+1,.ro _,h,hm=>h.elim
 | n+1,m+1,.dv _,h,hm=>h.elim
 | n+1,m+1,.ob _,h,hm=>h.elim
 | n+1,m+1,.ty _,h,hm=>h.elim
def fL{b:Type}{n:Nat}{f:b->D}{a:List b}(hl:a.length<=100000)(h:∀x∈a,plain n (f x)):plain (n+1) (.tup (a.map f)):=
 ⟨by rw[Vy];exact hl,λy c=>by obtain⟨x,d,rfl⟩:=V7.mp c;exact h x d⟩
end Pg
namespace Mi
open PySem Sm L2 Pg
theorem uQ:∀a:List D,nN a a=a.map λx=>.tup [x,x]
 | []=>rfl
 | x::r=>by rw[VL,<-uQ r];rfl
theorem Aj{b:Type}:∀a:List b,uO (a.map λ_=>D.bl true)=some (a.map λ_=>true)
 | []=>rfl
 | x::r=>by rw[VL];show(uO (r.map _)).map _=_;rw[Aj r];rfl
def Ih{b:Type}(a:List b)(h:MH):OX [.lv (a.map λ_=>D.bl true)] h=some (.bl true,h):=by
 show(uO (a.map λ_=>D.bl true)).map _=_;rw[Aj];simp
theorem same_refl:∀(n:Nat)(d:D)(h:MH),plain n d->bP n [d,d] h=some (.bl true,h)
 | 0,_,_,hp=>hp.elim
 | n+1,d,h,hp=>by
  have e:Rn (bP (n+1) [d,d] h) λp=>p=(.bl true,h):=by
   unfold bP;refine br ?_;cases d with
   | tup xs=>
    nofun;refine rv rfl ⟨true,rfl,λ_=>?_,λz=>(nomatch z)⟩;nofun;refine rv rfl ⟨true,rfl,λz=>(nomatch z),λ_=>?_⟩;nofun;refine⟨false,by simp,λz=>(nomatch z),λ_=>?_⟩;nofun;refine Nx ?_;nofun;refine⟨_,_,_,_,_,_,rfl,rfl,rfl,?_⟩;rw[uQ];refine rv (qM rfl (λx=>.tup [x,x]) (λ_=>.bl true) (λc=>∃a b,c=[a,b]) xs ⟨_,_,rfl⟩ ?_) ⟨?_,?_⟩
    ·rintro x f c ⟨a,b,rfl⟩;nofun;refine⟨rfl,⟨_,_,rfl⟩,?_⟩;nofun;exact rv (same_refl n x h (hp.2 x f)) rfl
    ·dsimp only;rw[Vy,show sizeLine=16777216 from rfl];have:=hp.1
     lia
    ·exists Ih xs h;nofun
   | str x=>
    nofun;refine rv rfl ⟨false,rfl,λz=>(nomatch z),λ_=>?_⟩;nofun;refine rv rfl ⟨false,rfl,λz=>(nomatch z),λ_=>?_⟩;nofun;refine rv rfl ⟨true,rfl,λ_=>?_,λz=>(nomatch z)⟩;nofun;refine rv rfl ⟨true,rfl,λ_=>?_,λz=>(nomatch z)⟩;nofun;simp
   | int x=>
    nofun;refine rv rfl ⟨false,rfl,λz=>(nomatch z),λ_=>?_⟩;nofun;refine rv rfl ⟨false,rfl,λz=>(nomatch z),λ_=>?_⟩;nofun;refine rv rfl ⟨false,rfl,λz=>(nomatch z),λ_=>?_⟩;nofun;refine rv rfl ⟨true,rfl,λ_=>?_,λz=>(nomatch z)⟩;nofun;refine rv rfl ⟨false,rfl,⟨_,rfl,λ_=>?_,λz=>(nomatch z)⟩⟩;nofun;simp
   | bx=>
    nofun;refine rv rfl ⟨false,rfl,λz=>(nomatch z),λ_=>?_⟩;nofun;refine rv rfl ⟨true,rfl,λ_=>?_,λz=>(nomatch z)⟩;nofun;exact rv rfl rfl
   | bl _=>exact hp.elim
   | lv _=>exact hp.elim
   | ro _=>exact hp.elim
   | dv _=>exact hp.elim
   | ob _=>exact hp.elim
   | ty _=>exact hp.elim
  obtain⟨p,g,rfl⟩:=e;exact g
def Nw{b:List (Option Nat)}{e:EM}{g:GM}{c:TM}{f:EM}{d:DS}{h:MH}{Q:D×MH->Prop}(r:Rn (e d h) λp=>∃a,lL p.1 p.2=some a/\Rn (a8 [] g c f (a.map (·.1)) (gw b (d.map HW)) []) λq=>(q.1.length<=sizeLine/\iS (a.map (·.1))=true/\iS q.1=true/\q.2.length=0)/\Q (.lv q.1,p.2)):Rn (Ir b e g c f d h) Q:=
 aS (r.imp λp u9=>by
  obtain⟨a,j,r⟩:=u9;exact aS ⟨a,j,aS (r.imp λq ⟨c,i⟩=>⟨_,by rw[VE c],i⟩)⟩)
theorem vm:∀p:List Nat,iS (p.map aD)=true
 | []=>rfl
 | _::p=>vm p
theorem se{b:Type}{f:b->D}(c:∀x,vn (f x)=true):∀a:List b,iS (a.map f)=true
 | []=>rfl
 | x::a=>by rw[VL];show(vn (f x)&&iS (a.map f))=true;rw[c x,se c a];rfl
def vj(p:List Nat):vn (aG p)=true:=vm p
def lP.ky{P:Prog}{h:MH}{g j:Nat}{c:List D}(T:lP P h g j c){i:Nat}{d:dD}(e:P.ag[i]?=some d):∃t b a,c[i]?=some t/\aB t (.str "row") h=some (.ob b,h)/\h[b]?=some (.dcH a)/\a.map (·.1)=sf [] d.2.2/\Dk a=λp=>(fc d.2.2 p).map aM:=by
 obtain⟨t,k,⟨f,q,b,sz,a,rfl,o,s,n,_,_,_,r,m,l⟩⟩:=T i d e;exact⟨.ob f,b,a,k,(mZ o).2,n,l,m⟩
def K8{h:MH}{n:Nat}{a:List (D×D)}{p:List Nat}(e:h[n]?=some (.dcH a)):K9 (aG p) (.ob n) h=some (.bl (Dk a p).isSome,h):=by
 unfold K9 lL;dsimp only;rw[e];dsimp only[Option.bind_some];rw[j7];rfl
def yw{P:Prog}{f:cD}(st:yc P f):∃(d:dD)(c:List (Nat×Nat)) (k:Nat) (r:Row),P.ag[f.bA]?=some d/\Ej d.2.2 c k=some r/\((fc d.2.2 (flat f.rs.reverse++[f.k])=some r/\i0 P f=some r/\bM c k=bM f.rs.reverse f.k)\/(fc d.2.2 (flat f.rs.reverse++[f.k])=none/\i0 P f=none/\∀h,td (bM f.rs.reverse f.k) none (some (-2)) h=some (bM c k,h))):=by
 obtain⟨d,d1,⟨b,e,n⟩,p⟩:=st;have hr:=eN d1;have a:i0 P f=b[f.k]?:=by unfold i0;rw[hr,e];rfl
 have g:fc d.2.2 (flat f.rs.reverse++[f.k])=b[f.k]?:=by rw[jW,e];rfl
 rcases n with⟨r,z⟩ |⟨z,s,rs,l,r,m,j,i,o⟩
 ·exact⟨d,f.rs.reverse,f.k,r,d1,by unfold Ej;rw[e];exact z,.inl ⟨g.trans z,a.trans z,rfl⟩⟩
 ·refine⟨d,rs.reverse,s.1,r,d1,by unfold Ej;rw[j];exact i,.inr ⟨g.trans z,a.trans z,λh=>?_⟩⟩;rw[m,Wi];exact gZ rs.reverse s.1 s.2 f.k _
def HM{L:List (Nat×List Nat×Row)}{x:Nat×List Nat×Row}(c:x∈L):∃j:Nat,∀(d:D)(h:MH),cL d h=some (L.map pairD)->dO d [.tup [aD x.1,aG x.2.1]] h=some (aD j,h):=by
 have e:∀(d:D)(h:MH),cL d h=some (L.map pairD)->dO d [.tup [aD x.1,aG x.2.1]] h=((L.findIdx? λy=>decide (y.1=x.1/\y.2.1=x.2.1)).map λj:Nat=>(aD j,h)):=λd h hd=>by
  show((cL d h).bind λa=>(jm (.tup [aD x.1,aG x.2.1])).bind λp=>(gc a).bind λbs=>if p.depth<=60/\PyData.depthAll bs<=60 then(bs.findIdx? λb=>PyData.eqv b p).map λj:Nat=>(D.int (Int.ofNat j),h) else none)=_;rw[hd,VO,yY,vh];show(if(jo x.1 x.2.1).depth<=60/\PyData.depthAll (L.map λx=>jo x.1 x.2.1)<=60 then _ else _)=_;rw[VE ⟨by rw[tx];decide,VJ (pL L) (by decide)⟩,List.findIdx?_map];have:((λb=>PyData.eqv b (jo x.1 x.2.1))∘λy:Nat×List Nat×Row=>jo y.1 y.2.1)=λy=>decide (y.1=x.1/\y.2.1=x.2.1):=funext λy=>Ik _ _ _ _;rw[this];rfl
 cases q:L.findIdx? λy=>decide (y.1=x.1/\y.2.1=x.2.1) with
 | none=>
  rw[YX] at q;have:=q x c;simp at this
 | some j=>exact⟨j,λd h hd=>by rw[e d h hd,q];rfl⟩
section
variable {P:Prog} {f:cD} {fs:List cD} {d:dD} {su:List (Nat×Nat)} {k j:Nat} {r:Row} (fit:SO P) (ok:gP P f)
 (p2:(fc d.2.2 (flat f.rs.reverse++[f.k])=some r/\i0 P f=some r/\bM su k=bM f.rs.reverse f.k)\/(fc d.2.2 (flat f.rs.reverse++[f.k])=none/\i0 P f=none/\∀h,td (bM f.rs.reverse f.k) none (some (-2)) h=some (bM su k,h)))
 (i1:∀(d:D)(h:MH),cL d h=some ((placesFrom 0 P.ag).map pairD)->dO d [.tup [aD f.bA,bM su k]] h=some (aD j,h))
include fit ok p2 i1
theorem Gy{S:List Hand}{i:Nat}{hd:List (List az)}(e:S[i]?=some (f::fs,hd))(h:MH):jP [bt P,fb S,aD i] h=some (aD j,h):=by
 refine rL (br ?_);exists wH e;rw[qK];nofun;refine⟨true,Cs _ _,ff ?_⟩;exists mX f fs _;rw[fV f];exists mX f fs _;exists gD ok;exists xA _ _;have g:∀(l:DS)(v5:Option D),l=[some (bt P),some (fb S),some (aD i),some (qo (f::fs)),some (aD f.bA),v5,some (bM su k),none]->Rn (aj (aQ 7 (gd (cF [none,none,none] (gI (aq eV (af (aP 0) aY))) (gT 3 (ai (gN 0) (ai (gN 1) (ai (gN 2) bp)))) cj (aq aN (af (aP 0) (af (aP 1) aY))))))
  (aR (eM bu dO (aP 7) (af (aq aN (af (aP 4) (af (aP 6) aY))) aY))) l h) (El λp=>p=(aD j,h)):=by
  rintro l v5 rfl;nofun;refine dm ?_;exists zc fit h;refine⟨_,_,rfl,?_⟩;refine rv (qM rfl k8 pairD (λl=>∃a b c,l=[a,b,c]) (placesFrom 0 P.ag) ⟨_,_,_,rfl⟩ ?_) ⟨?_,?_⟩
  ·rintro x n l ⟨a,b,c,rfl⟩;unfold k8;nofun;refine⟨rfl,⟨_,_,_,rfl⟩,?_⟩;nofun;rfl
  ·dsimp only;rw[Vy,dJ,show sizeLine=16777216 from rfl];have:=fit.ct
   lia
  ·nofun;refine fT ?_;nofun;refine⟨rfl,?_⟩;nofun;exact rv (i1 _ _ rfl) rfl
 rcases p2 with⟨_,er,m⟩ |⟨_,er,m⟩
 ·rw[er];refine⟨false,rfl,ff (GO (FZ ?_))⟩;exact g _ _ (by rw[m];rfl)
 ·rw[er];refine⟨true,rfl,tt ?_⟩;nofun;refine⟨_,rfl,rv (m _) ?_⟩;exact g _ _ rfl
theorem xw{h:MH}{M s n:Nat}{u:List D}(d1:P.ag[f.bA]?=some d)(T:lP P h M s u)(I:u.length=P.ag.length)(C:Cl h)(e:h[n]?=some (.lst ((f::fs).reverse.map eY))):c7 [.lv u,.ob n] h=some (aD j,h):=by
 have w:(placesFrom 0 P.ag).length<=1000:=by rw[dJ];exact fit.ct
 refine rL (jk ?_);nofun;refine rv (HU e) ⟨false,rfl,ff ?_⟩;exists E6 e;rw[fV f];nofun;refine fA ?_;nofun;refine⟨_,_,_,rfl,rfl,?_⟩;refine cB (λi l y=>∃(G F:Option D),l=[some (.lv u),some (.ob n),some (aD f.bA),some (.tup (f.nums.map D.int)),some (bM f.rs.reverse f.k),some (.ob h.length),G,F]/\y=h++[.lst ((placesFrom 0 (P.ag.take i)).map pairD)])
  ⟨_,_,rfl,by simp[placesFrom]⟩ (λ_ _ _ _ _=>rfl) ?_ ?_
 ·rintro i x l y o ⟨G,F,rfl,rfl⟩;have o:=o;rw[kh] at o;obtain⟨t,ht,rfl⟩:=cY o;have s:i < P.ag.length:=by rw[<-I];exact(Vz.mp ht).1
  obtain⟨J,L,m,v,E,er,ky,lk⟩:=(T.app (g:=[.lst ((placesFrom 0 (P.ag.take i)).map pairD)])).ky (VI s);rw[ht] at v;cases v;have q:placesFrom 0 (P.ag.take (i+1))=placesFrom 0 (P.ag.take i)++(aE [] 0 P.ag[i].2.2).map λx=>(i,x.1,x.2):=by
   rw[W0,VI s,XZ,cK];simp only[placesFrom,V4,Wl,WG];rw[X7 (WD s)]
  have c:(placesFrom 0 (P.ag.take (i+1))).length<=1000:=by
   have:placesFrom 0 P.ag=placesFrom 0 (P.ag.take (i+1))++placesFrom (0+(P.ag.take (i+1)).length) (P.ag.drop (i+1)):=by rw[<-cK,Xr]
   rw[this,VM] at w
   lia
  rw[q,VM,Vy] at c;rw[WG];nofun;refine fT ?_;nofun;refine⟨bI aW,?_⟩;nofun;refine Nw ?_;nofun;refine rv E ⟨m,by unfold lL;dsimp only;rw[er],?_⟩;rw[ky];unfold sf;refine rv (qM (ws:=[]) (h:=[]) rfl (λx=>aG x.1) (λx=>.tup [aD i,aG x.1]) (λl=>∃a,l=[a,some (aD i)]) (aE [] 0 P.ag[i].2.2) ⟨none,rfl⟩ ?_) ⟨⟨?_,?_,?_,rfl⟩,?_⟩
  ·rintro x o l ⟨a,rfl⟩;nofun;refine⟨rfl,⟨_,rfl⟩,?_⟩;nofun
  ·dsimp only;rw[Vy,show sizeLine=16777216 from rfl]
   lia
  ·exact se (λx=>vj _) _
  ·exact se (λx=>by show(true&&(vn (aG x.1)&&true))=true;rw[vj];rfl) _
  ·nofun;refine rv (a:=(.bx,h++[.lst ((placesFrom 0 (P.ag.take (i+1))).map pairD)])) ?_ ?_
   ·show(match (h++[MO.lst ((placesFrom 0 (P.ag.take i)).map pairD)])[h.length]? with | some (.lst xs)=>_ | _=>_)=_;rw[aW];show(if _ then _ else _)=_;rw[VE (by rw[Vy,Vy,show sizeLine=16777216 from rfl];exact VJ c (by decide)),dH,q,VT,XO];rfl
   ·exact⟨_,_,rfl,rfl⟩
 ·rintro l y ⟨G,F,rfl,rfl⟩;rw[bF,I,Wq];obtain⟨J,L,m,v,E,er,ky,lk⟩:=(T.app (g:=[.lst ((placesFrom 0 P.ag).map pairD)])).ky d1;nofun;refine fT ?_;nofun;refine⟨bI aW,?_⟩;exists DE v;exists E;exists K8 er;rw[lk];have b:∀H,H=h++[MO.lst ((placesFrom 0 P.ag).map pairD)]->Rn (dO (.ob h.length) [.tup [aD f.bA,bM su k]] H) λp=>Rn (leave h p.1 p.2) λp=>p=(aD j,h):=by
   rintro H rfl;refine rv (i1 _ _ (by unfold cL;dsimp only;rw[aW])) ?_;exact rv (j6 (λn z=>(nomatch z)) rfl) rfl
  rcases p2 with⟨er,_,A⟩ |⟨er,_,A⟩
  ·refine⟨true,by dsimp only;rw[er];rfl,tt ?_⟩;nofun;rw[<-A];exact b _ rfl
  ·refine⟨false,by dsimp only;rw[er];rfl,ff ?_⟩;nofun;refine⟨_,rfl,rv (A _) ?_⟩;nofun;exact b _ rfl
end
def Su(x:Hand):Prop:=(∀f∈x.1,f.nums.length<=3)/\∀b∈x.2,b.length<=4
theorem zP{P:Prog}:∀{fs:List cD} {f:cD},(∀g∈f::fs,g.nums.length<=3)->∀g∈eQ P fs f,g.nums.length<=3
 | fs,f,h,x,a=>by
  have e:=h f VF;have c:=λg d=>h g (VD _ d);cases q:k7 (bU P f.bA) f.rs f.k with
  | some p=>
   rw[eB q] at a;rcases VS.mp a with rfl | a
   ·exact e
   ·exact c x a
  | none=>cases fs with
   | nil=>rw[g9 q] at a;cases a
   | cons g i=>
    rw[kc q] at a;refine zP (fs:=i) (f:={g with k:=g.k+1}) (λy b=>?_) x a;rcases VS.mp b with rfl | b
    ·exact c g VF
    ·exact c y (VD _ b)
theorem HQ{P:Prog}:∀{fs:List cD},(∀g∈fs,g.nums.length<=3)->∀g∈gJ P fs,g.nums.length<=3
 | [],_=>λ_ z=>(nomatch z)
 | _::_,h=>zP h
def G7{f:cD}(b:f.nums.length<=3)(c:f.rs.length<=1000):plain 3 (eY f):=by
 refine⟨by show 3<=100000;decide,λx a=>?_⟩;rcases VS.mp a with rfl | a
 ·trivial
 ·rcases VS.mp a with rfl | a
  ·exact fL (VJ b (by decide)) λ_ _=>trivial
  ·rw[VQ.mp a];refine fL ?_ λ_ _=>trivial;rw[VM,jD,WA];show _+1<=_
   lia
def Ey{P:Prog}{n:Nat}{S:List Hand}(s:UN P n S)(hn:n<=100)(hm:∀x∈S,Su x):plain 6 (fb S):=by
 refine fL (by have:=s.l;exact VJ this (by decide)) λx g=>⟨by show 2<=100000;decide,λy d=>?_⟩;have e:=s.h x g;obtain⟨j,i⟩:=hm x g;rcases VS.mp d with rfl | d
 ·refine fL (by rw[WA];have:=e.fl;lia) λf a=>?_;have a:=List.mem_reverse.mp a;exact G7 (j f a) (by have:=(e.nm f a).rs;lia)
 ·rw[VQ.mp d];refine fL (by have:=e.hl;lia) λb k=>fL (by have:=i b k;exact VJ this (by decide)) λp _=>⟨by show 2<=100000;decide,λz c=>?_⟩;rcases VS.mp c with rfl | c
  ·trivial
  ·rw[VQ.mp c];trivial
def Ll(n:Nat)(bs:List (List az)):cC n (bs.map eD)=true:=by
 have:=DP n ([],bs);have a:(true&&(cC n (bs.map eD)&&true))=true:=this
 simpa using a
def IT{P:Prog}(f:Dr P){t:Ao}(i:Lz P t)(hl:t.length<=10):(∀h,kl [bt P,LP t] h=some (fb (t.map (i4 P (fB P))),h))/\UN P 0 (t.map (i4 P (fB P))):=by
 have hd:∀p∈t,∃d,P.ag[fB P p.1]?=some d/\d.1=p.1/\d.2.1.length=p.2.length:=λp hp=>by
  obtain⟨d,hd,a,b⟩:=i p hp;obtain⟨j,hj⟩:=WN.mp hd;exact⟨d,by rw[<-a,f.num hj];exact hj,a,b⟩
 refine⟨λh=>B7 f.nd (by have:=f.six;exact VJ this (by decide)) (VJ hl (by decide)) λp hp=>?_,λx n=>?_,by rw[Vy];exact hl⟩
 ·obtain⟨d,a,b,_⟩:=hd p hp;rw[VN,a,<-b];rfl
 ·obtain⟨p,hp,rfl⟩:=V7.mp n;obtain⟨d,a,b,o⟩:=hd p hp;have e:∀g∈[({bA:=fB P p.1,nums:=p.2,rs:=[],k:=0}:cD)],gP P g:=λg c=>by
   rw[VQ.mp c];exact⟨d,d.2.2,a,rfl,Wm _⟩
  have fn:∀g∈[({bA:=fB P p.1,nums:=p.2,rs:=[],k:=0}:cD)],Mv P 0 g:=λg c=>by
   rw[VQ.mp c];exact⟨by rw[C1 a,o];exact VG _,VG _⟩
  obtain⟨m,l⟩:=K2 e;exact⟨m,K3 e fn,l,VG _,(HR e).trans rfl⟩
def Vv(cs:List Int):Cl [.lst (cs.map D.int),.lst [.int 0,.ob 0,.int 0]]:=by
 intro o a;rcases VS.mp a with rfl | a
 ·exact eC _ D.int (λ_=>rfl) _
 ·rw[VQ.mp a];rfl
theorem Mk{n b:Nat}:∀(i:Nat)(S:List Hand),b+3*(i+S.length) < n->∀o∈hG b i S,yf n o=true
 | _,[],_,o,a=>(nomatch a)
 | i,x::S,hn,o,a=>by
  rw[VU] at hn;have a:o∈Mc b i x++hG b (i+1) S:=a;rcases Wk.mp a with z | z
  ·rcases VS.mp z with rfl | z
   ·exact tG _ _
   ·rcases VS.mp z with rfl | z
    ·exact Ll _ _
    ·rw[VQ.mp z];show(decide (b+3*i+1 < n)&&(decide (b+3*i+2 < n)&&true))=true;rw[Wa (by lia),Wa (by lia)];rfl
  ·exact Mk (i+1) S (by lia) o z
def Cl.wd{h:MH}(C:Cl h)(S:List Hand):Cl (h++Ax h.length S):=by
 have hl:(h++Ax h.length S).length=h.length+(3*S.length+1):=by rw[VM];unfold Ax;rw[VU,xD]
 intro o c;rw[hl];rcases Wk.mp c with z | z
 ·exact IC (by simp) o (C o z)
 ·rcases VS.mp z with rfl | z
  ·have:∀l:List Nat,(∀i∈l,i < S.length)->cC (h.length+(3*S.length+1)) (l.map λi=>.ob (h.length+3*i+3))=true:=λl=>by
    induction l with
    | nil=>exactλ_=>rfl
    | cons i l b=>
     intro a;have d:=a i VF;rw[VL];show(decide (h.length+3*i+3 < _)&&cC _ _)=true;rw[Wa (by lia),b λj hj=>a j (VD _ hj)];rfl
   exact this _ λi a=>WY.mp a
  ·exact Mk 0 S (by simp) o z
def AW{P:Prog}{S:List Hand}{i:Nat}{hd:List (List az)}(e:S[i]?=some ([],hd))(h:MH):jP [bt P,fb S,aD i] h=some (.bx,h):=by
 refine rL (br ?_);exists wH e;rw[qK];nofun;refine⟨false,rfl,tt ?_⟩;nofun
def sQ{h:MH}{n:Nat}{a:List D}(C:Cl h)(e:h[n]?=some (.lst (([]:List cD).reverse.map eY))):c7 [.lv a,.ob n] h=some (.bx,h):=by
 refine rL (jk ?_);nofun;refine rv (HU (fs:=[]) e) ⟨true,rfl,tt ?_⟩;nofun;exact rv (BH rfl C (λn z=>(nomatch z)) rfl) rfl
def Di{S:List Hand}(b:∀x∈S,x.2=[])(l:az):S.findIdx? (xC l)=none:=by
 rw[YX];intro x a;unfold xC;rw[b x a];rfl
def Ov{P:Prog}{S:List Hand}(b:∀x∈S,x.2=[])(x:Hand):Jf P S x=[]:=by
 have a:kR S=λ_=>false:=by funext l;unfold kR;rw[Di b];rfl
 unfold Jf
 split
 ·rfl
 ·split
  ·rfl
  ·split
   ·rw[a];simp
   ·rfl
def law_true(ns:List Int)(hn:ns.length<=63):∃o,Aw [.ro (ns.map D.int)] []=some (.bl true,o):=by
 have e:Rn (Aw [.ro (ns.map D.int)] []) λp=>p.1=.bl true:=by
  obtain⟨cs,ed,S0⟩:=BV ns hn 90000 (by decide);refine br ?_;exists ed;nofun;refine gE ?_;nofun;refine rv (a:=(.int (ns.length:Int),_)) (by show some (D.int ((ns.map D.int).length:Int),_)=_;rw[Vy]) ?_;exists DB _ _ _;exists kd _ _ _;nofun;refine⟨_,rfl,W4 (by decide) (Int.le_max_left 3 _),XE (Int.max_le.mpr ⟨(by decide:(3:Int)<=8),Int.min_le_left _ _⟩) (by decide),?_⟩;refine cB (λi A h=>∃(v2 v3 v4 v5 v6 v7 v8:Option D),A=[some (.ro (ns.map D.int)),some (.ob 1),v2,v3,v4,v5,v6,v7,v8]/\St 1 0 cs (90000-10000*i) h/\Cl h)
   ⟨_,_,_,_,_,_,_,rfl,S0,Vv cs⟩ (λ_ _ _ _ _=>rfl) ?_ ?_
  ·rintro i x A h n ⟨v2,v3,v4,v5,v6,v7,v8,rfl,S,C⟩;have hi:i < 8:=by
    have:=(Vz.mp n).1;rw[Vy,V2] at this
    lia
   nofun;refine jI (R:=90000-10000*(i+1)+9000) (is:=[3,10,20,60]) (λi=>0<=i/\i<=60) (by decide) ((S.le ((by decide:∀i < 8,90000-10000*(i+1)+9000+1<=90000-10000*i) i hi)).sb) λu M hm _ A1=>?_;nofun;refine jI (R:=90000-10000*(i+1)+8000) (is:=[0,4,12]) (λi=>0<=i/\i<=12) (by decide) (A1.le (by lia)) λodd J ho _ A2=>?_;nofun;obtain⟨u,rfl⟩:=Xy hm.1;have Y:u<=60:=by exact Int.ofNat_le.mp hm.2
   refine Fw (R:=90000-10000*(i+1)+1000) (A2.le (by lia)) (C.but A2.S A2.b) ho.1 (by exact W4 ho.2 (by decide)) λW fl P h3 ok m A3 C3=>?_;have E:Dr P:=⟨W,fl,odd,ok,m.nm,m.dl,m.dd,VJ m.ct Y⟩;have nl:P.names.length=W.names.length:=by rw[m.nm,(ie _).length_eq]
   have n1:=ok.n1;have n2:=ok.n2;clear ok m;nofun;refine Pk (R:=90000-10000*(i+1)+900) E (A3.le (by lia)) C3 (by decide) (by decide) λt s Q tl A4 C4=>?_;nofun;have G:=E.fit;obtain⟨_,et,ts,g,rfl,T,O,C5⟩:=yo (P:=P) (h:=s) (λd hd=>⟨VJ (G.nd d hd) (by decide),VJ (wz hd) G.ct⟩) G.dl C4;refine rv et ?_;nofun;have Z:(s++g).length=s.length+g.length:=VM;refine rv (sR E T (by rw[Z];exact VG _) Q (VJ tl (by decide))) ?_;obtain⟨eb,I⟩:=IT E Q (VJ tl (by decide));have fw:∀x∈t.map (i4 P (fB P)),Su x:=λx n=>by
    obtain⟨p,hp,rfl⟩:=V7.mp n;refine⟨HQ (P:=P) (fs:=[{bA:=fB P p.1,nums:=p.2,rs:=[],k:=0}]) λg Z=>?_,λ_ z=>(nomatch z)⟩;rw[VQ.mp Z];obtain⟨d,hd,_,e2⟩:=Q p hp;obtain⟨j,hj⟩:=WN.mp hd;have:=E.par hj;dsimp only
    lia
   have F:∀x∈t.map (i4 P (fB P)),x.2=[]:=λx n=>by
    obtain⟨p,hp,rfl⟩:=V7.mp n;rfl
   have sl:(t.map (i4 P (fB P))).length=t.length:=Vy _;generalize t.map (i4 P (fB P))=c at I eb fw F sl;have S5:=(A4.S.more g).more (Ax (s++g).length c);have T5:=T.app (g:=Ax (s++g).length c);have H:=FD.new (s++g) c;have N:=C5.wd c;generalize (s++g)++Ax (s++g).length c=h5 at S5 T5 H N;generalize (s++g).length=b at T5 H;have pl:=za (Ey I (by decide) fw) (show 6<=8 by decide);exists sP H (by have:=I.l;exact VJ this (by decide));exists eb _;nofun;refine rv (same_refl 8 _ _ pl) ⟨true,rfl,ff ?_⟩;exists eb _;nofun;refine rv (same_refl 8 _ _ pl) ⟨true,rfl,ff ?_⟩;nofun;refine gE ?_;nofun;refine rv (a:=(aD t.length,h5)) (by show some (D.int ((t.map _).length:Int),_)=_;rw[Vy];rfl) ?_;nofun;refine⟨(t.length:Int),rfl,by simp,by lia,?_⟩;refine cB (λj A o=>∃(v8:Option D),A=[some (.ro (ns.map D.int)),some (.ob 1),some x,some (bt P),some (LP t),some (.lv ts),some (.ob b),some (fb c),v8]/\o=h5) ⟨_,rfl,rfl⟩ (λ_ _ _ _ _=>rfl) ?_ ?_
   ·rintro j z A o U ⟨w8,rfl,rfl⟩;have hj:j < c.length:=by
     have:=(Vz.mp U).1;rw[Vy,V2] at this
     lia
    obtain rfl:z=aD j:=by
     rw[VN,XS (by lia)] at U;exact(Option.some.inj U).symm
    obtain⟨⟨fs,hd⟩,ex⟩:∃x,c[j]?=some x:=⟨_,VI hj⟩;have hm:=VC ex;have n:=I.h _ hm;obtain⟨i1,i2⟩:=H.at_ ex;obtain⟨x1,x2,x3⟩:=H.x j _ ex;obtain⟨v,hv,ea,el⟩:∃v,plain 8 v/\(∀h,jP [bt P,fb c,aD j] h=some (v,h))/\c7 [.lv ts,.ob (b+3*j+1)] o=some (v,o):=by
     cases fs with
     | nil=>exact⟨.bx,trivial,AW ex,sQ N x1⟩
     | cons f fs=>
      have st:=n.fr.1;obtain⟨d,su,k,r,d1,p1,p2⟩:=yw st;obtain⟨q,hq⟩:=HM (L:=placesFrom 0 P.ag) (x:=(f.bA,flat su++[k],r)) (sJ.mpr ⟨f.bA,d,d1,(WG _).symm,pf su (a:=[]) p1⟩);exact⟨aD q,trivial,Gy G st.ok p2 hq ex,xw G st.ok p2 hq d1 T5 O N x1⟩
    exists ea _;exists i1;exists i2;exists el;nofun;refine rv (same_refl 8 _ _ hv) ⟨true,rfl,ff ?_⟩;exists AB ex n.fr (λy X=>by rw[F y X];exact Wm _) λf fs' r ef er=>?_
    ·have M:=n.fr;have J:=n.nm;dsimp only at ef M J;rw[ef] at M J;obtain⟨d,hd',_⟩:=M.1;exact(E.row hd' (J f VF) er).1
    rw[Ov F];nofun;refine rv (same_refl 8 (.tup []) _ ⟨by decide,λ_ z=>(nomatch z)⟩) ⟨true,rfl,ff ?_⟩;nofun;exact⟨_,rfl,rfl⟩
   ·rintro A o ⟨w8,rfl,rfl⟩;nofun;refine rv (a:=(.tup (P.names.map D.str),o)) rfl ?_;nofun;refine Fx (R:=90000-10000*(i+1)+800) ((S5.le (by lia)).sb) (.inr rfl) (by rw[Vy];lia) (by rw[Vy];lia) λd6 h6 hd6 A6=>?_;obtain⟨w,hw,rfl⟩:=V7.mp hd6;nofun;refine du (R:=90000-10000*(i+1)+700) (A6.le (by lia)) (by decide) (by decide) λr h7 r0 r1 A7=>?_;exists mV (l:=(w,r-4)) (λy X=>by rw[F y X];exact Wm _);rw[Di F];nofun;refine rv (a:=(.bl false,h7)) rfl ⟨false,rfl,ff ?_⟩;nofun;exact⟨_,_,_,_,_,_,_,rfl,A7.S.le (by lia),N.but A7.S A7.b⟩
  ·rintro A h ⟨v2,v3,v4,v5,v6,v7,v8,rfl,S,C⟩;nofun
 obtain⟨⟨_,o⟩,e1,rfl⟩:=e;exact⟨o,e1⟩
end Mi
open PySem PySem.W PyProof.Rows
def Mi.Uv:defOf Mi.view "law"=some (Hd.rY "law" Mi.lZ,[]):=by ac_nf
def Mi.hp:PySem.Program.theDef Mi.pw "law"=some (L2.ng Mi.lZ,L2.gu Mi.lZ,L2.ah Mi.lZ):=by ac_nf
theorem PySem.Challenge.cw_neverstuck_k16_begun_scenes_holds : PySem.Challenge.rw_neverstuck_k16_begun_scenes.Holds := by
 refine holds_law Mi.M9 λM9=>?_;refine PySem.W.holds_open (q:=Mi.view) (loose:=["SHAPES"]) (Xt:=Mi.Xt) (XP:=XL Mi.view []) (Yf:=Mi.Yf) (Ya:=Mi.ya) (YP:=λw h=>Hd.tabAt h "SHAPES"=Mi.ya w) (N:=20000) (d:=Hd.rY "law" Mi.lZ) (kwd:=[]) Mi.left (λ_ _ e=>e) (λ_ _ _ y k=>Hd.AH k y) (λs e=>xl_of s (V3.mp e).1) XL.keeps Mi.Uv Mi.hp (by ac_nf) (λs e=>recFacts_of (V3.mp e).2) (by ac_nf) M9 (by decide+kernel) ⟨rfl,rfl,rfl,rfl,rfl,by decide+kernel⟩ (by w_witness2) ?_;exact Hd.OS (k:=28) (by ac_nf) (by ac_nf) ⟨rfl,by decide,by decide⟩ λw s₀ mg a h G Y=>Mi.all_mk G.T Y Mi.law_true
