import PyProof.Rows.All
import Wide.All
import OpenK.AllK
import Wide.FinOn
import Lean
import PyProof.EqAt
import PyProof.EqKinds
import PyProof.TupleCall
import PyProof.AttrMissHeap
import KE.KDictOf
import PyProof.ConsumeWalk
import PyProof.ZipIter
import PyProof.EnumMake
import KE.KEqDict
import KE.KDictSum
import KE.KItemsList
import KE.KSortTup
import PyProof.CallStr
import PyProof.CollectIter
import PyProof.DictFindH
import PyProof.DictRoadsH
import PyProof.FString
import PyProof.FString5
import PyProof.FactsAll.tuple_2
import PyProof.FactsAll.zip_1
import PyProof.ListMulRoad
import PyProof.ListRange
import PyProof.MeetsStr
import PyProof.NeKinds
import PyProof.P3Eq
import PyProof.Rows.Range3
import PyProof.Rows.ReprOcc
import PyProof.Rows.RuleDivmod
import PyProof.Rows.SortShell
import PyProof.Rows.StrWeight2
import PyProof.StrCalls2
import PyProof.StrCalls5
import PyProof.StrWalks
import PyProof.WalksMore
import PySem.Challenge.RW_neverstuck_k18_moves_that_can_be
set_option Elab.async false
set_option linter.all false
set_option maxRecDepth 100000
set_option maxHeartbeats 4000000
set_option compiler.small 0
set_option compiler.extract_closed false
set_option compiler.reuse false
noncomputable section
local macro_rules (kind := «term{}») | `({}) => `(by decide)
local macro_rules | `(()) => `(by lia)
local macro_rules | `(tactic| apply $x:term) => `(tactic| refine $x)
local macro_rules | `(tactic| have ⟨$x,*⟩ := $e) => do {let y <- x.getElems.mapM λp=>match p with | `($i:ident) => `(Lean.Parser.Tactic.rcasesPatLo| $i:ident) | _ => `(Lean.Parser.Tactic.rcasesPatLo| _); `(tactic| obtain ⟨$[$y],*⟩ := $e)}
local macro_rules | `(∅) => `(by ac_rfl)
local macro_rules | `(tactic| ac_nf) => `(tactic| kernel_rfl)
local macro_rules | `(tactic| nofun) => `(tactic| walk_at "r")
abbrev Wz:=@PySem.wpAny_bind
abbrev WA:=@List.length_map
abbrev WB:=@List.getElem?_eq_some_iff
abbrev WC:=@PySem.Heap.get?_push_of_some
abbrev WD:=@PySem.wpAny_pure
abbrev WE:=@List.mem_of_getElem?
abbrev WG:=@List.mem_cons_of_mem
abbrev WH:=@if_pos
abbrev WI:=@List.mem_cons_self
abbrev WJ:=@Nat.le_refl
abbrev WK:=@List.getElem?_eq_getElem
abbrev WL:=@Nat.le_trans
abbrev WM:=@if_neg
abbrev WN:=@List.map_cons
abbrev WO:=@Nat.lt_of_lt_of_le
abbrev WQ:=@List.getElem?_set_ne
abbrev WR:=@List.length_append
abbrev WT:=@Option.bind_some
abbrev WU:=@List.mem_singleton
abbrev WV:=@List.mem_cons
abbrev WW:=@List.length_cons
abbrev WX:=@PySem.Heap.lt_size
abbrev WY:=@List.getElem?_map
abbrev WZ:=@PySem.Heap.get?_push_size
abbrev W0:=@List.getElem?_append_left
abbrev W3:=@List.length_range
abbrev W4:=@List.getElem?_append_right
abbrev W6:=@List.map_append
abbrev W7:=@List.size_toArray
abbrev W8:=@Bool.false_eq_true
abbrev W9:=@Bool.and_eq_true
abbrev Xa:=@Nat.ne_of_lt
abbrev Xb:=@Bool.and_eq_true_iff
abbrev Xc:=@decide_eq_false
abbrev Xd:=@Int.toNat_natCast
abbrev Xe:=@List.mem_map
abbrev Xf:=@decide_eq_true
abbrev Xg:=@Nat.zero_le
abbrev Xh:=@Nat.le_add_right
abbrev Xi:=@Bool.false_ne_true
abbrev Xj:=@Nat.lt_of_le_of_lt
abbrev Xk:=@List.getElem?_set_self
abbrev Xl:=@Array.getElem?_eq_getElem
abbrev Xm:=@List.length_take
abbrev Xn:=@PySem.wpAny_holding
abbrev Xo:=@List.append_assoc
abbrev Xp:=@Nat.le_succ_of_le
abbrev Xq:=@Option.map_some
abbrev Xr:=@List.getElem?_eq_none
abbrev Xs:=@PySem.wpAny_field
abbrev Xu:=@List.getElem?_take_of_lt
abbrev Xv:=@List.reverse_cons
abbrev Xw:=@List.mem_append
abbrev Xx:=@List.mem_append_right
abbrev Xy:=@decide_eq_true_eq
abbrev Xz:=@PySem.wpAny_callSpecial?_slot
abbrev XA:=@Nat.le_of_not_lt
abbrev XB:=@Nat.not_lt_zero
abbrev XC:=@List.append_nil
abbrev XD:=@Option.map_eq_some_iff
abbrev XE:=@PySem.wpAny_call_entry
abbrev XF:=@PySem.Around.under_plainId
abbrev XG:=@PySem.PassesOwn.never
abbrev XH:=@PyProof.Rows.callWith_type1
abbrev XI:=@PySem.Heap.size_push
abbrev XJ:=@List.lookup_cons
abbrev XM:=@List.mem_range
abbrev XN:=@Nat.le_of_lt
abbrev XO:=@PySem.wpAny_newObj_type
abbrev XQ:=@Nat.lt_succ_self
abbrev XR:=@of_decide_eq_true
abbrev XS:=@Nat.le_of_lt_succ
abbrev XT:=@PySem.wpAny_seqItems
abbrev XU:=@List.mem_iff_getElem?
abbrev XW:=@Ne.symm
abbrev XX:=@Int.le_trans
abbrev XY:=@List.length_set
abbrev XZ:=@List.length_nil
abbrev X0:=@List.find?_cons
abbrev X1:=@List.take_length
abbrev X2:=@List.getElem?_cons_succ
abbrev X3:=@Nat.lt_irrefl
abbrev X4:=@PySem.codeAny_builtin
abbrev X5:=@PyProof.Rows.slot_tuple_getitem
abbrev X6:=@if_false
abbrev X7:=@List.length_reverse
abbrev X8:=@PySem.W.kia_one
abbrev X9:=@List.getElem?_eq_none_iff
abbrev Yb:=@Nat.add_le_add_left
abbrev Yc:=@Bool.not_true
abbrev Yd:=@PySem.wpAny_mono
abbrev Ye:=@List.map_nil
abbrev Yg:=@Int.emod_nonneg
abbrev Yh:=@Nat.succ_le_succ
abbrev Yi:=@bne_self_eq_false
abbrev Yj:=@List.set_set
abbrev Yk:=@List.getD_eq_getElem?_getD
abbrev Yl:=@PySem.mem_of_lookup
abbrev Ym:=@List.filterMap_cons
abbrev Yn:=@Bool.or_eq_true
abbrev Yo:=@Classical.byContradiction
abbrev Yp:=@PySem.wpAny_setState_of
abbrev Yq:=@PySem.wpAny_rule
abbrev Yr:=@PySem.F.slot_dict_get
abbrev Ys:=@Array.getElem?_toList
abbrev Yt:=@List.all_eq_true
abbrev Yu:=@Int.emod_lt_of_pos
abbrev Yv:=@PySem.sizeLine_eq
abbrev Yw:=@List.any_cons
abbrev Yx:=@PySem.Heap.get?_update_self
abbrev Yy:=@Nat.le_succ
abbrev Yz:=@Array.mem_toList_iff
abbrev YA:=@PySem.wpAny_isInstance
abbrev YB:=@PySem.F.plainAttrs_list
abbrev YC:=@Int.eq_ofNat_of_zero_le
abbrev YD:=@PySem.plainId_quiet
abbrev YE:=@Bool.eq_iff_iff
abbrev YF:=@List.replicate_succ
abbrev YG:=@List.getElem?_range
abbrev YH:=@Nat.succ_pos
abbrev YI:=@Nat.ne_of_gt
abbrev YJ:=@List.take_of_length_le
abbrev YK:=@Int.ofNat_lt
abbrev YL:=@beq_self_eq_true
abbrev YM:=@beq_iff_eq
abbrev YN:=@Int.lt_of_le_of_lt
abbrev YO:=@PySem.Heap.get?_update_other
abbrev YQ:=@PySem.wpAny_standAt
abbrev YR:=@List.findIdx?_eq_some_iff_getElem
abbrev YS:=@PySem.wpAny_askSetting
abbrev YT:=@PySem.wpAny_Call_Name_kw
abbrev YU:=@List.map_map
abbrev YV:=@PySem.F.slot_zip_next
abbrev YW:=@Array.length_toList
abbrev YX:=@PySem.F.slot_list_append
abbrev YY:=@PySem.F.entry_dict_get
abbrev YZ:=@Nat.zero_add
abbrev Y0:=@List.pairwise_cons
abbrev Y1:=@List.length_eq_one_iff
abbrev Y2:=@Array.forIn_toList
abbrev Y3:=@List.nodup_cons
abbrev Y4:=@List.foldl_cons
abbrev Y5:=@List.all_cons
abbrev Y6:=@List.set_append_right
abbrev Y7:=@List.length_singleton
abbrev Y8:=@List.flatten_cons
abbrev Y9:=@PySem.tupleKind_room_in1
abbrev Za:=@PySem.wpAny_specialOf
abbrev Zb:=@PySem.wpAny_passesOwn
abbrev Zc:=@Array.getElem?_eq_some_iff
abbrev Zd:=@PySem.wpAny_attempt
abbrev Ze:=@if_true
abbrev Zf:=@PySem.F.slot_enumerate_next
abbrev Zg:=@Nat.sub_self
abbrev Zh:=@List.any_eq_true
abbrev Zi:=@PySem.wpAny_truthy_bool
abbrev Zj:=@PySem.wpAny_pyIter_list
abbrev Zk:=@PySem.isSubtype_stop
abbrev Zl:=@PySem.F.type_list_append
abbrev Zm:=@PySem.F.slot_tuple_iterator_next
abbrev Zn:=@Option.isSome_iff_exists
abbrev Zo:=@Nat.lt_add_left
abbrev Zq:=@decide_eq_true_iff
abbrev Zr:=@PySem.wpAny_typeOf
abbrev Zs:=@PySem.wpAny_forIn_list
abbrev Zt:=@PySem.F.called_set
abbrev Zu:=@Option.toList_some
abbrev Zv:=@Int.natCast_nonneg
abbrev Zw:=@PySem.Str.length_append
abbrev Zx:=@Nat.add_sub_cancel_left
abbrev Zy:=@PySem.SeqAt.eqAt_reads
abbrev Zz:=@Nat.lt_or_ge
abbrev ZA:=@List.take_succ
abbrev ZC:=@List.ext_getElem?
abbrev ZD:=@PySem.wpAny_pyIter_tuple
abbrev ZE:=@PySem.wpAny_getItem_str_slice
abbrev ZF:=@Nat.succ_ne_self
abbrev ZG:=@List.getElem_mem
abbrev ZH:=@List.filter_cons
abbrev ZI:=@List.cons_append
abbrev ZJ:=@Array.toList_inj
abbrev ZK:=@Nat.add_assoc
abbrev ZL:=@PySem.codeAny_mono
abbrev ZM:=@PySem.F.slot_tuple_hash
abbrev ZN:=@Nat.min_le_left
abbrev ZO:=@List.forIn_cons
abbrev ZP:=@beq_eq_false_iff_ne
abbrev ZQ:=@PySem.hashByValue_scannable
abbrev ZR:=@Int.toNat_of_nonneg
abbrev ZS:=@PySem.Around.in1_units
abbrev ZT:=@Nat.lt_trans
abbrev ZU:=@Int.le_of_lt
abbrev ZV:=@Nat.lt_of_le_of_ne
abbrev ZW:=@List.mem_filterMap
abbrev ZX:=@List.filterMap_map
abbrev ZY:=@PySem.F.slot_dict_getitem
abbrev ZZ:=@List.mem_or_eq_of_mem_set
abbrev Z0:=@PySem.F.plain_extend_loop
abbrev Z1:=@Nat.le_of_succ_le
abbrev Z2:=@List.take_add_one
abbrev Z3:=@List.pairwise_map
abbrev Z4:=@List.nodup_append
abbrev Z5:=@PySem.F.args_tuple_add_2
abbrev Z6:=@Nat.lt_succ_iff_lt_or_eq
abbrev Z7:=@List.length_filterMap_le
abbrev Z8:=@List.Perm.eq_of_pairwise
abbrev Z9:=@PySem.wpAny_newTuple
abbrev Aaa:=@PySem.call_meets
abbrev Aab:=@PySem.Obj.data_mapFields
abbrev Aac:=@PySem.F.slot_list_index
abbrev Aad:=@PySem.F.entry_tuple_add
abbrev Aae:=@PySem.F.args_dict_get_3
abbrev Aaf:=@Option.bind_eq_some_iff
abbrev Aag:=@List.length_drop
abbrev Aah:=@List.isEmpty_nil
abbrev Aai:=@PySem.F.slot_tuple_add
abbrev Aaj:=@Nat.not_lt
abbrev Aak:=@Nat.le_of_eq
abbrev Aal:=@PySem.wpAny_letGo
abbrev Aam:=@PySem.Heap.get?_push_ne
abbrev Aan:=@PySem.F.args_zip_next_1
abbrev Aao:=@Nat.le_antisymm
abbrev Aap:=@List.nil_append
abbrev Aaq:=@List.take_append_drop
abbrev Aar:=@Array.mem_of_getElem?
abbrev Aas:=@PySem.Heap.size_update
abbrev Aat:=@PySem.F.slot_zip_getattribute
abbrev Aau:=@PySem.F.entry_zip_next
abbrev Aav:=@Nat.le_sub_one_of_lt
abbrev Aaw:=@Nat.add_le_add_right
abbrev Aax:=@List.mem_of_mem_take
abbrev Aay:=@List.mem_append_left
abbrev Aaz:=@List.length_dropLast
abbrev AaA:=@List.forIn_nil
abbrev AaB:=@PySem.wpAny_pyNext_list_item
abbrev AaC:=@PySem.call_meetsIn
abbrev AaD:=@PySem.SetTable.insertAt_perm
abbrev AaE:=@PySem.Calls.callWith_builtin
abbrev AaF:=@Nat.mul_le_mul_left
abbrev AaG:=@PySem.wpAny_execs_nil
abbrev AaH:=@PySem.post_val_or_str
abbrev AaI:=@List.set_comm
abbrev AaJ:=@Bool.true_and
abbrev AaK:=@Bool.or_false
abbrev AaL:=@of_decide_eq_false
abbrev AaM:=@PySem.wpAny_pyNext_list_end
abbrev AaN:=@PySem.builtinLookup_eq_fast
abbrev AaO:=@Nat.add_sub_cancel
abbrev AaP:=@List.getElem_range
abbrev AaQ:=@List.findIdx?_cons
abbrev AaR:=@PySem.wpAny_updateSeq_pair
abbrev AaS:=@Option.isSome_map
abbrev AaT:=@Nat.lt_trichotomy
abbrev AaU:=@Nat.lt_succ_of_lt
abbrev AaV:=@List.take_sublist
abbrev AaW:=@List.getElem?_inj
abbrev AaX:=@PyProof.Rows.F.plain_set_update_loop
abbrev AaY:=@PySem.wpAny_setEntries_of
abbrev AaZ:=@PySem.Heap.SameBut.update
abbrev Aa0:=@List.nodup_range
abbrev Aa1:=@PySem.wpAny_onRaise
abbrev Aa2:=@List.take_append_of_le_length
abbrev Aa3:=@List.eq_nil_of_length_eq_zero
abbrev Aa4:=@PySem.Calls.spliced_cons
abbrev Aa5:=@Nat.zero_lt_one
abbrev Aa6:=@List.sum_append
abbrev Aa7:=@List.of_mem_zip
abbrev Aa8:=@List.idxOf_cons
abbrev Aa9:=@List.dropLast_concat_getLast
abbrev Aba:=@Array.getD_eq_getD_getElem?
abbrev Abb:=@PySem.fits_of_scanBound
abbrev Abd:=@PySem.eqIsQuiet_byValue
abbrev Abe:=@PySem.Calls.spliced_nil
abbrev Abf:=@Nat.mul_le_mul
abbrev Abg:=@Nat.mod_lt
abbrev Abh:=@List.nodup_nil
abbrev Abi:=@List.nodup_iff_pairwise_ne
abbrev Abj:=@List.length_eraseIdx_of_lt
abbrev Abk:=@List.drop_zero
abbrev Abl:=@Bool.and_false
abbrev Abm:=@List.findIdx?_eq_none_iff
abbrev Abn:=@List.drop_eq_getElem_cons
abbrev Abo:=@PySem.noFill_tuple_add
abbrev Abp:=@PySem.entryFor_of_tree
abbrev Abq:=@PySem.F.slot_tuple_index
abbrev Abr:=@List.sum_cons
abbrev Abs:=@List.map_take
abbrev Abt:=@List.Pairwise.imp_of_mem
abbrev Abu:=@Bool.false_or
abbrev Abv:=@decide_eq_false_iff_not
abbrev Abw:=@PySem.wpAny_of_eq
abbrev Abx:=@PySem.F.type_list_index
abbrev Aby:=@PySem.F.plainAttrs_dict
abbrev Abz:=@PySem.F.args_dict_get_2
abbrev AbA:=@Option.join_eq_some_iff
abbrev AbB:=@List.pairwise_mergeSort
abbrev AbC:=@List.length_eq_zero_iff
abbrev AbD:=@List.getElem?_replicate
abbrev AbE:=@List.getElem?_cons_zero
abbrev AbF:=@PySem.wpAny_updateSeq
abbrev AbG:=@PySem.typeLookup_type
abbrev AbH:=@PySem.codeAny_of_tree
abbrev AbI:=@PySem.W.cellsFrom_some
abbrev AbJ:=@PySem.F.args_tuple_iterator_next_1
abbrev AbK:=@Nat.sub_zero
abbrev AbL:=@Nat.le_of_succ_le_succ
abbrev AbM:=@Nat.add_comm
abbrev AbN:=@List.length_pos_of_mem
abbrev AbO:=@List.any_map
abbrev AbP:=@Int.ediv_one
abbrev AbQ:=@Array.getElem?_eq_none
abbrev AbR:=@PySem.F.type_dict_get
abbrev AbS:=@PySem.F.entry_tuple_iterator_next
abbrev AbT:=@PyProof.Rows.assignInOrder_cons
abbrev AbU:=@Nat.le_of_sub_eq_zero
abbrev AbV:=@List.length_filter_le
abbrev AbW:=@List.getElem?_toArray
abbrev AbX:=@List.filterMap_eq_map
abbrev AbZ:=@PySem.Calls.Name_function_global
abbrev Ab0:=@Nat.pow_le_pow_right
abbrev Ab1:=@Nat.le_sub_of_add_le
abbrev Ab2:=@Array.getElem_of_mem
set_option hygiene false
set_option hygiene true
abbrev FR:=PySem.W.Frag
namespace Hd
open PySem PySem.W PySem.Spec PyProof.Rows
noncomputable def D5:List Value->Option (List Int)
 |[]=>some []
 |.int i _::r=>(D5 r).map λa=>i::a
 |_=>none
noncomputable def Ew(v:Value)(t:String):Bool:=match v with
 |.type s=>decide (s=t)
 |_=>false
def rowAt(h:Heap)(e:DictEntry):Option (Str×Int×List Int):=match e.key with
 |.str x _=>match e.val with
  |.ref t=>match h.get? t with
   |some u=>if Ew u.cls "tuple"&&u.dict.isNone then(match u.data with
     |.seq a _=>if a.size<=100 then(D5 a.toList).map λb=>(x,e.hash,b)else none
     |_=>none)else none
   |none=>none
  |_=>none
 |_=>none
def lj(h:Heap):List DictEntry->Option (List (Str×Int×List Int))
 |[]=>some []
 |e::r=>(rowAt h e).bind λx=>(lj h r).map λa=>x::a
def tabAt(h:Heap)(nm:Str):Option (List (Str×Int×List Int)):=match h.nsMap mainGlobals nm with
 |some (.ref a)=>if a==sysModules then none else(match h.get? a with
  |some o=>if Ew o.cls "dict"&&o.dict.isNone&&decide (o.slots=#[])then(match o.data with
    |.dict es _=>lj h es.toList
    |_=>none)else none
  |none=>none)
 |_=>none
theorem LK(row:String)(i:∀w:World,(fencedOpening treeTable p w N).map (λs₀=>(topFrom treeTable p (w.withFollow row false) N s₀).map (λs=>(openSeen q loose (importedModules p.main.body) Xt true s,Yf s)))=some (some (openGood q loose,f (w.withFollow row false))))(h:∀w:World,(fencedOpening treeTable p w N).map (λs₀=>(topFrom treeTable p (w.withFollow row true) N s₀).map (λs=>(openSeen q loose (importedModules p.main.body) Xt true s,Yf s)))=some (some (openGood q loose,f (w.withFollow row true)))):LeftO p q loose Xt Yf f N true:=λw=>by
 have⟨s₀,a,d⟩:=XD.mp (i w);have⟨b,a1,c⟩:=XD.mp (h w);have e:=World.withFollow_self w row;unfold openEnds;cases g:w.params.followText row <;> rw[g]at e
 ·rw[a];rw[e]at d;exact d
 ·rw[a1];rw[e]at c;exact c
end Hd
namespace Mi
open PySem
abbrev pw:Program:=PySem.Challenge.pw_neverstuck_k18_moves_that_can_be
noncomputable def top(i:Nat):Stmt:=pw.main.body.getD i (.Pass ⟨0,0,0,0⟩)
noncomputable def jI:List (Str×List Int):=[("say",[2,0]),("call",[3,0]),("within",[2,1]),("all",[2,1]),("ask",[2,2]),("by",[3,3]),("either",[1,2]),("again",[1,1])]
def view:Program:={pw with main:={pw.main with body:=[top 1,top 3,top 4,top 5,top 7,top 8,top 9,top 10,top 11,top 12,top 13,top 14,top 15,top 17,top 18,top 20,top 21,top 22,top 23,top 24,top 25,top 26,top 27,top 28,top 29,top 30,top 31,top 32,top 33,top 34,top 35,top 36,top 37,top 38,top 39,top 40,top 41,top 42,top 43,top 44,top 45,top 46,top 47,top 48,top 49,top 50,top 51,top 52,top 53]}}
end Mi
local macro_rules | `(tactic| walk_at "s") => `(tactic| exact⟨rfl, rfl, rfl, by decide +kernel, rfl, by decide +kernel, by decide +kernel⟩)
namespace Mi
open PySem PySem.W PyProof.Rows
abbrev ya(w:World):=some (jI.map λx:Str×List Int=>(x.1,hashStr w x.1,x.2))
abbrev Xt:Shared->Bool:=λs=>xlAt view [] s&&recOk (RowW.records (OpenRow.toRowW PySem.Challenge.rw_neverstuck_k18_moves_that_can_be.row)) s
abbrev Yf:Shared->Option (List (Str×Int×List Int)):=λs=>Hd.tabAt s.heap "SHAPES"
theorem SV(w:World):(fencedOpening treeTable pw w 20000).map (λs₀=>(topFrom treeTable pw (w.withFollow "special-get-raises" false) 20000 s₀).map (λs=>(openSeen view (["SHAPES"]:List Str) (importedModules pw.main.body) Xt true s,Yf s)))=some (some (openGood view (["SHAPES"]:List Str),(ya) (w.withFollow "special-get-raises" false))):=by ac_nf
theorem SU(w:World):(fencedOpening treeTable pw w 20000).map (λs₀=>(topFrom treeTable pw (w.withFollow "special-get-raises" true) 20000 s₀).map (λs=>(openSeen view (["SHAPES"]:List Str) (importedModules pw.main.body) Xt true s,Yf s)))=some (some (openGood view (["SHAPES"]:List Str),(ya) (w.withFollow "special-get-raises" true))):=by ac_nf
theorem left:LeftO pw view (["SHAPES"]:List Str) Xt Yf (ya) 20000:=Hd.LK "special-get-raises" SV SU
theorem Od:PySem.Challenge.rw_neverstuck_k18_moves_that_can_be.wellSaid=true:=by
 unfold OpenLaw.wellSaid
 repeat(with_reducible apply look_both ?_ (by decide+kernel))
 unfold OpenRow.wellSaid
 repeat(with_reducible apply look_both ?_ (by decide+kernel))
 unfold OpenRow.partSaid
 repeat(with_reducible apply look_both ?_ (by decide+kernel))
 unfold looksOpen
 repeat(with_reducible apply look_both ?_ (by decide+kernel))
 decide+kernel
end Mi
def cw{a:Type}{p:a}{C:Prop}(h:none=some p):C:=nomatch h
section
open PySem PySem.Spec
namespace L2
open PyProof.Rows
abbrev Key:=Sum Int Str
noncomputable def wK:Key->Value->Bool
 |.inl k,v=>Value.isInt k v
 |.inr x,v=>Value.isStrOf x v
noncomputable def PN(w:World):Key->Int
 |.inl k=>hashInt k
 |.inr x=>hashStr w x
theorem cc:∀{k:Key} {v:Value},wK k v=true->(∃i t,k=Sum.inl i/\v=Value.int i t)\/(∃x t,k=Sum.inr x/\v=Value.str x t)
 |.inl i,v,h=>by
  have⟨t,e⟩:=Value.isInt_shape (k:=i) (v:=v) h;exact .inl ⟨i,t,rfl,e⟩
 |.inr x,v,h=>by
  have⟨t,e⟩:=Value.isStrOf_shape (x:=x) (v:=v) h;exact .inr ⟨x,t,rfl,e⟩
def FN(i:Int)(t:Tok):wK (.inl i) (.int i t)=true:=by simp[wK,Value.isInt]
def FK(x:Str)(t:Tok):wK (.inr x) (.str x t)=true:=by simp[wK,Value.isStrOf]
def PL(a b:Int):decide ((Sum.inl a:Key)=Sum.inl b)=(a==b):=by
 by_cases e:a=b
 ·subst e;simp
 ·have h:¬(Sum.inl a:Key)=Sum.inl b:=λq=>e (Sum.inl.inj q);rw[Xc h];exact(ZP.mpr e).symm
def PH(a b:Str):decide ((Sum.inr a:Key)=Sum.inr b)=decide (a=b):=by
 by_cases e:a=b
 ·subst e;simp
 ·have h:¬(Sum.inr a:Key)=Sum.inr b:=λq=>e (Sum.inr.inj q);rw[Xc h,Xc e]
def PK(a:Int)(b:Str):decide ((Sum.inl a:Key)=Sum.inr b)=false:=Xc (λq=>nomatch q)
def PJ(a:Str)(b:Int):decide ((Sum.inr a:Key)=Sum.inl b)=false:=Xc (λq=>nomatch q)
def bo(prog:Program)(w:World):PySem.KeyKind prog w Key where
 is:=wK
 hash:=PN w
 inj:=λv a b l f=>by
  rcases cc l with⟨i,t,rfl,rfl⟩ |⟨x,t,rfl,rfl⟩
  ·rcases cc f with⟨j,u,rfl,e⟩ |⟨y,u,rfl,e⟩
   ·injection e with c _;rw[c]
   ·exact nomatch e
  ·rcases cc f with⟨j,u,rfl,e⟩ |⟨y,u,rfl,e⟩
   ·exact nomatch e
   ·injection e with c _;rw[c]
 byValue:=λk v h=>by
  rcases cc h with⟨i,t,rfl,rfl⟩ |⟨x,t,rfl,rfl⟩ <;> rfl
 pyHash:=λd h=>by
  rcases cc d with⟨i,t,rfl,rfl⟩ |⟨x,t,rfl,rfl⟩
  ·exact wpAny_pyHash_int h
  ·exact wpAny_pyHash_str h
 eqBool:=λg d h=>by
  rcases cc g with⟨i,t,rfl,rfl⟩ |⟨x,t,rfl,rfl⟩
  ·rcases cc d with⟨j,u,rfl,rfl⟩ |⟨y,u,rfl,rfl⟩
   ·rw[PL]at h;exact wpAny_eqBool_int h
   ·rw[PK]at h;exact SeqAt.EqAt.int_str i t y u _ _ _ _ h
  ·rcases cc d with⟨j,u,rfl,rfl⟩ |⟨y,u,rfl,rfl⟩
   ·rw[PJ]at h;exact SeqAt.EqAt.str_int x t j u _ _ _ _ h
   ·rw[PH]at h;exact wpAny_eqBool_str h
 «strs»:=λk x t v h=>by
  rcases cc h with⟨i,u,rfl,e⟩ |⟨y,u,rfl,e⟩
  ·exact nomatch e
  ·injection e with c _
   subst c;cases v <;> rfl
def p7(prog:Program)(w:World)(i:Int)(t:Tok):(bo prog w).is (.inl i) (.int i t)=true:=FN i t
def p6(prog:Program)(w:World)(x:Str)(t:Tok):(bo prog w).is (.inr x) (.str x t)=true:=FK x t
inductive V where
 |bg |bl (b:Bool) |int (i:Int) |str (x:Str) |byt (b:Array UInt8) |Q4 (b:UInt64) |ref (a:Addr) |ty (n:String)
 deriving DecidableEq
def RelV:V->Value->Prop
 |.bg,u=>u=Value.none
 |.bl b,u=>u=Value.bool b
 |.int i,u=>∃t,u=Value.int i t
 |.str x,u=>∃t,u=Value.str x t
 |.byt b,u=>∃t,u=Value.bytes b t
 |.Q4 b,u=>∃t,u=Value.float b t
 |.ref a,u=>u=Value.ref a
 |.ty n,u=>u=Value.type n
abbrev Vals:List V->List Value->Prop:=Paired RelV
theorem Vals.length(r:Vals xs us):xs.length=us.length:=Paired.length r
theorem Vals.get:∀{a:List V} {us:List Value} {i:Nat} {x:V},Vals a us->a[i]?=some x->∃u,us[i]?=some u/\RelV x u
 |_,_,_,_,.nil,e=>by simp at e
 |_,_,0,_,.cons r _,e=>by simp at e;subst e;exact⟨_,rfl,r⟩
 |_,_,i+1,x,.cons _ t,e=>by
  have⟨u,c,b⟩:=Vals.get (i:=i) (x:=x) t (by simpa using e);exact⟨u,by simpa using c,b⟩
theorem Vals.set(r:RelV x u):∀{a:List V} {us:List Value} (i:Nat),Vals a us->Vals (a.set i x) (us.set i u)
 |_,_,_,.nil=>.nil
 |_,_,0,.cons _ t=>.cons r t
 |_,_,i+1,.cons q t=>.cons q (Vals.set r i t)
def Vals.append{c b:List V}{us d:List Value}(a:Vals c us)(s:Vals b d):Vals (c++b) (us++d):=by
 induction a with
 |nil=>exact s
 |cons r t e=>exact .cons r e
theorem Vals.take:∀{a:List V} {us:List Value} (n:Nat),Vals a us->Vals (a.take n) (us.take n)
 |_,_,0,_=>.nil
 |_,_,_+1,.nil=>.nil
 |_,_,n+1,.cons r t=>.cons r (Vals.take n t)
theorem Vals.drop:∀{a:List V} {us:List Value} (n:Nat),Vals a us->Vals (a.drop n) (us.drop n)
 |_,_,0,r=>r
 |_,_,_+1,.nil=>.nil
 |_,_,n+1,.cons _ t=>Vals.drop n t
def pv:Option V->Option Value->Prop
 |some v,some u=>RelV v u
 |none,none=>True
 |_,_=>False
def KV{a:Type}:List (a×V)->List (a×Value)->Prop:=Paired λ(p:a×V)(q:a×Value)=>p.1=q.1/\RelV p.2 q.2
noncomputable def kV:Key->V
 |.inl i=>.int i
 |.inr x=>.str x
inductive HO where
 |lst (xs:List V)
 |tup (xs:List V)
 |dK (kvs:List (Key×V)) |dT (kvs:List (List Key×V))
 |set (S:Int->Bool) (n:Nat)
 |ins (C dx:Addr) (fs:List (Str×V))
 |own (x:Addr)
 |xd (fs:List (Str×V))
 |met (f x:Addr)
 |UZ (lo hi:Int)
 |Eh (o:Obj) (u:HO)
 |NP (ps:Array Value)
 |ext (φ:Heap->Prop)
 |Kr (φ:World->Heap->Prop)
abbrev Hp:=Addr->Option HO
noncomputable def upd(H:Hp)(a:Addr)(o:HO):Hp:=λb=>if b=a then some o else H b
def aQ:upd H a o a=some o:=by unfold upd;rw[WH rfl]
def aE(h:b≠a):upd H a o b=H b:=by unfold upd;rw[WM h]
def Kx:upd (upd H a o) a u=upd H a u:=by
 funext b;unfold upd;split <;> rfl
def Ss{H:Hp}{a b:Addr}{o u:HO}(h:H a=some o)(c:H b=some u)(d:o≠u):a≠b:=by
 intro e;subst e;rw[h]at c;exact d (Option.some.inj c)
def aO{H:Hp}{a b:Addr}{o:HO}(h:H a=some o)(c:H b=none):a≠b:=by
 intro e;subst e;rw[h]at c;cases c
def zp(h:Heap)(a:Addr)(b:Array Value):Prop:=∃o,h.get? a=some o/\o.cls=.type "tuple"/\(∃n,o.data=.seq b n)/\o.dict=none
def zp.tup(x:zp h a items):IsTup h a items:=let⟨o,e,c,d,_⟩:=x;⟨o,e,c,d⟩
def zp.new(h:Heap)(a:Array Value):zp (h.push {cls:=.type "tuple",data:=.seq a}) h.objs.size a:=⟨_,WZ _ rfl,rfl,⟨_,rfl⟩,rfl⟩
section
variable (P:Program) (w:World)
def cp(H:Hp)(h:Heap)(a:Addr):HO->Prop
 |.lst d=>d.length<=sizeLine/\∃(c:List Value)(n:Nat),Vals d c/\h.get? a=some {cls:=.type "list",data:=.seq c.toArray n}
 |.tup d=>d.length<=sizeLine/\∃c:List Value,Vals d c/\zp h a c.toArray
 |.dK b=>b.length<=sizeLine/\(a==sysModules)=false/\∃l,KV b l/\h.DictOf (bo P w) a l
 |.dT b=>b.length<=sizeLine/\(a==sysModules)=false/\∃d:List (List Key×Addr×Value),
   Paired (λ(p:List Key×V)(q:List Key×Addr×Value)=>p.1=q.1/\H q.2.1=some (.tup (p.1.map kV))/\RelV p.2 q.2.2) b d/\
   ∃o es s,h.get? a=some o/\o.ExactDict/\o.data=.dict es s/\es.toList=d.map (entryOfKey (tupleKind (bo P w)))/\(d.map (·.1)).Nodup
 |.set S n=>h.SetOf (intKind P w) a S n
 |.ins C k fs=>H k=some (.own a)/\fs.length<=1000/\k≠a/\h.get? a=some (PySem.W.instObj C k)/\
   ∃g,h.Ns1 k g/\(∀f,pv (fs.lookup f) (g f))/\PySem.Within g (fs.map (·.1))
 |.own _=>∃o,h.get? a=some o
 |.xd fs=>∃g,h.Ns1 a g/\∀f,pv (fs.lookup f) (g f)
 |.UZ lo r=>∃t u v,h.get? a=some {cls:=.type "range",data:=.fields #[.int lo t,.int r u,.int 1 v]}
 |.Eh o u=>h.get? a=some o/\cp H h a u
 |.NP m=>h.get? a=some {cls:=.none,data:=.fields m}
 |.met f x=>h.get? a=some (PySem.W.methodObj (.ref f) (.ref x))
 |.ext e=>e h/\(∃o,h.get? a=some o)/\∀j i:Heap,e j->(∀o,j.get? a=some o->i.get? a=some o)->e i
 |.Kr e=>e w h/\(∃o,h.get? a=some o)/\∀j i:Heap,e w j->(∀o,j.get? a=some o->i.get? a=some o)->e w i
def gQ(H:Hp)(h:Heap):Prop:=∀a o,H a=some o->cp P w H h a o
end
theorem cp.lt(x:cp P w H h a o):a<h.objs.size:=by
 cases o with
 |lst xs=>have⟨_,_,_,_,e⟩:=x;exact WX e
 |tup xs=>have⟨_,_,_,p⟩:=x;exact p.tup.lt
 |dK b=>have⟨_,_,_,_,o,_,_,e,_⟩:=x;exact WX e
 |dT b=>have⟨_,_,_,_,o,_,_,e,_⟩:=x;exact WX e
 |set S n=>have⟨o,_,_,_,e,_⟩:=x;exact WX e
 |ins C i fs=>have⟨_,_,_,e,_⟩:=x;exact WX e
 |own y=>have⟨_,e⟩:=x;exact WX e
 |xd fs=>obtain⟨_,⟨_,_,_,e,_⟩,_⟩:=x;exact WX e
 |UZ lo g=>have⟨_,_,_,e⟩:=x;exact WX e
 |Eh ob u=>have⟨e,_⟩:=x;exact WX e
 |NP d=>exact WX (show h.get? a=some _ from x)
 |met f y=>exact WX (show h.get? a=some _ from x)
 |ext c=>obtain⟨_,⟨_,e⟩,_⟩:=x;exact WX e
 |Kr c=>obtain⟨_,⟨_,e⟩,_⟩:=x;exact WX e
def Paired.Pu{g e:Type}{F G:g->e->Prop}{d:List g}{c:List e}(a:Paired F d c)(f:∀a b,F a b->G a b):Paired G d c:=by
 induction a with
 |nil=>exact .nil
 |cons r t h=>exact .cons (f _ _ r) h
def Paired.imp'(f:∀a b,F a b->G a b)(r:Paired F d c):Paired G d c:=Paired.Pu r f
def cp.xB(x:cp P w H h a o)(k:∀b u,(b=a\/H b=some (.own a))->h.get? b=some u->A.get? b=some u)
  (L:∀b,H b=some (.own a)->F b=some (.own a)) (ht:∀b j,H b=some (.tup j)->F b=some (.tup j)):cp P w F A a o:=by
 induction o with
 |lst j=>have⟨z,i,n,r,e⟩:=x;exact⟨z,i,n,r,k _ _ (.inl rfl) e⟩
 |tup j=>have⟨z,i,r,ob,e,c⟩:=x;exact⟨z,i,r,ob,k _ _ (.inl rfl) e,c⟩
 |dK s=>have⟨z,y,I,r,ob,es,g,e,c⟩:=x;exact⟨z,y,I,r,ob,es,g,k _ _ (.inl rfl) e,c⟩
 |dT s=>
  have⟨z,y,j,r,ob,es,g,e,c⟩:=x;exact⟨z,y,j,Paired.Pu r λp q z=>⟨z.1,ht _ _ z.2.1,z.2.2⟩,ob,es,g,k _ _ (.inl rfl) e,c⟩
 |set S n=>have⟨ob,es,g,t,e,c⟩:=x;exact⟨ob,es,g,t,k _ _ (.inl rfl) e,c⟩
 |ins C O fs=>
  obtain⟨d,z,ne,e,m,⟨l,es,g,M,c⟩,r⟩:=x;exact⟨L _ d,z,ne,k _ _ (.inl rfl) e,m,⟨l,es,g,k _ _ (.inr d) M,c⟩,r⟩
 |own y=>have⟨ob,e⟩:=x;exact⟨ob,k _ _ (.inl rfl) e⟩
 |xd fs=>obtain⟨m,⟨l,es,g,e,c⟩,r⟩:=x;exact⟨m,⟨l,es,g,k _ _ (.inl rfl) e,c⟩,r⟩
 |UZ lo N=>have⟨t,u,v,e⟩:=x;exact⟨t,u,v,k _ _ (.inl rfl) e⟩
 |Eh ob u J=>have⟨e,q⟩:=x;exact⟨k _ _ (.inl rfl) e,J q⟩
 |NP E=>
  have e:h.get? a=some {cls:=.none,data:=.fields E}:=x;show A.get? a=some {cls:=.none,data:=.fields E};exact k a _ (.inl rfl) e
 |met f y=>
  have e:h.get? a=some (PySem.W.methodObj (.ref f) (.ref y)):=x;show A.get? a=some (PySem.W.methodObj (.ref f) (.ref y));exact k a _ (.inl rfl) e
 |ext G=>obtain⟨p,⟨o,e⟩,st⟩:=x;exact⟨st _ _ p λo q=>k _ _ (.inl rfl) q,⟨o,k _ _ (.inl rfl) e⟩,st⟩
 |Kr G=>obtain⟨p,⟨o,e⟩,st⟩:=x;exact⟨st _ _ p λo q=>k _ _ (.inl rfl) q,⟨o,k _ _ (.inl rfl) e⟩,st⟩
theorem gQ.lt(x:gQ P w H h)(e:H a=some o):a<h.objs.size:=(x a o e).lt
def gQ.fresh(x:gQ P w H h)(e:h.objs.size<=a):H a=none:=by
 cases q:H a with
 |none=>rfl
 |some u=>exact absurd (WO (x.lt q) e) (X3 _)
def gQ.kept(x:gQ P w H h)(k:∀b u,h.get? b=some u->h'.get? b=some u):gQ P w H h':=λa o e=>
 (x a o e).xB (λb u _ q=>k b u q) (λ_ q=>q) λ_ _ q=>q
def gQ.laid(x:gQ P w H h)(k:∀b u,h.get? b=some u->h'.get? b=some u)(hp:h.objs.size<=a)(new:cp P w (upd H a o) h' a o):gQ P w (upd H a o) h':=λb u e=>by
 have hn:=x.fresh hp
 by_cases d:b=a
 ·subst d;rw[aQ]at e;cases e;exact new
 ·rw[aE d]at e;exact(x b u e).xB (λc v _ q=>k c v q) (λc q=>by rw[aE (aO q hn)];exact q) λc f q=>by rw[aE (aO q hn)];exact q
def Rd(H:Hp)(a:Addr)(u:HO):Prop:=H a=some u\/∃o,H a=some (.Eh o u)
def Rd.ok(r:Rd H a u)(x:gQ P w H h):cp P w H h a u:=by
 rcases r with r |⟨o,r⟩
 ·exact x a u r
 ·have⟨_,q⟩:=x a _ r;exact q
def Ug:Option HO->Prop
 |some (.lst _)=>True
 |some (.dK _)=>True
 |some (.dT _)=>True
 |some (.set _ _)=>True
 |some (.ins _ _ _)=>True
 |some (.ext _)=>True
 |some (.Kr _)=>True
 |_=>False
def gQ.write(ok:gQ P w H h)(i:Ug (H x))(s:e=x\/H e=some (.own x))(k:∀b u,b≠e->h.get? b=some u->n.get? b=some u)(m:∃u,n.get? e=some u)
  (new:cp P w (upd H x p) n x p):gQ P w (upd H x p) n:=λb u q=>by
 have d:∀c y,H c=some (.own y)->c≠x:=λc y r z=>by subst z;rw[r]at i;exact i
 have f:∀c g,H c=some (.tup g)->c≠x:=λc g r z=>by subst z;rw[r]at i;exact i
 by_cases l:b=x
 ·subst l;rw[aQ]at q;cases q;exact new
 ·rw[aE l]at q
  by_cases a:b=e
  ·have o:H b=some (.own x):=by
    rcases s with z |z
    ·exact absurd (a.trans z) l
    ·rw[a];exact z
   rw[q]at o;cases o;have⟨v,t⟩:=m;exact⟨v,by rw[a];exact t⟩
  ·apply(ok b u q).xB (λc v j r=>k c v ?_ r) (λc r=>by rw[aE (d c b r)];exact r) λc g r=>by rw[aE (f c g r)];exact r
   rcases j with rfl |j
   ·exact a
   ·rintro rfl;rcases s with z |z
    ·exact d c b j z
    ·rw[j]at z;cases z;exact l rfl
structure Un(fs ex:List Addr)(H H':Hp)(h h':Heap):Prop where
 keep:∀b o,h.get? b=some o->H b=none->b∉fs->b∉ex->h'.get? b=some o
 slot:∀b o,h.get? b=some o->H b=none->b∈fs->b∉ex->∃sl,h'.get? b=some {o with slots:=sl}
 free:∀b o,h.get? b=some o->H b=none->b∉ex->H' b=none
 there:∀b o,h.get? b=some o->b∉ex->∃o',h'.get? b=some o'
 rD:∀b xs,H b=some (.tup xs)->H' b=some (.tup xs)
 vv:∀b o u,H b=some (.Eh o u)->H' b=some (.Eh o u)
 xw:∀b ps,H b=some (.NP ps)->∃more,H' b=some (.NP (ps++more))
def Un.any(u:Un fs ex H H1 h e)(q:h.get? b=some ob)(n:H b=none)(a:b∉ex):∃d,e.get? b=some {ob with slots:=d}:=by
 by_cases c:b∈fs
 ·exact u.slot b ob q n c a
 ·exact⟨ob.slots,u.keep b ob q n c a⟩
def Un.kept(k:∀b u,h.get? b=some u->h'.get? b=some u):Un fs ex H H h h':=
 ⟨λb ob q _ _ _=>k b ob q,λb ob q _ _ _=>⟨ob.slots,k b ob q⟩,λ_ _ _ n _=>n,λb ob q _=>⟨ob,k b ob q⟩,λ_ _ q=>q,λ_ _ _ q=>q,λ_ a q=>⟨#[],by rw[q];simp⟩⟩
def Un.refl:Un fs ex H H h h:=Un.kept λ_ _ q=>q
def Un.laid(k:∀b u,h.get? b=some u->h'.get? b=some u)(hp:h.objs.size<=a)(hn:H a=none):Un fs ex H (upd H a o) h h' where
 keep:=λb u q _ _ _=>k b u q
 slot:=λb u q _ _ _=>⟨u.slots,k b u q⟩
 free:=λb u q n _=>by rw[aE (Xa (WO (WX q) hp))];exact n
 there:=λb u q _=>⟨u,k b u q⟩
 rD:=λb c q=>by rw[aE (aO q hn)];exact q
 vv:=λb u c q=>by rw[aE (aO q hn)];exact q
 xw:=λb d q=>⟨#[],by rw[aE (aO q hn),q];simp⟩
def Un.write(c:Ug (H x))(l:e=x\/H e=some (.own x))(k:∀b u,b≠e->h.get? b=some u->i.get? b=some u)(d:∃u,i.get? e=some u):Un fs ex H (upd H x o) h i:=by
 have f:∀b,H b=none->b≠x:=λb n z=>by subst z;rw[n]at c;exact c
 have g:∀b,H b=none->b≠e:=λb n z=>by
  subst z;rcases l with r |r
  ·exact f b n r
  ·rw[n]at r;cases r
 have hm:∀b u,H b=some u->¬Ug (some u)->b≠x:=λb u q nm z=>by subst z;rw[q]at c;exact nm c
 apply⟨λb u q n _ _=>k b u (g b n) q,λb u q n _ _=>⟨u.slots,k b u (g b n) q⟩,λb u q n _=>by rw[aE (f b n)];exact n,λb u q _=>?_,
  λb j q=>by rw[aE (hm b _ q λz=>z)];exact q,λb u j q=>by rw[aE (hm b _ q λz=>z)];exact q,λb m q=>⟨#[],by rw[aE (hm b _ q λz=>z),q];simp⟩⟩
 by_cases a:b=e
 ·subst a;exact d
 ·exact⟨u,k b u a q⟩
noncomputable def Um(h:Heap)(H:Hp):List Addr:=(List.range h.objs.size).filter λa=>(H a).isSome
def yH(h:Heap)(H:Hp):Heap:=PySem.W.hideAll h (Um h H)
def FV(h:Heap)(H:Hp):(yH h H).objs.size=h.objs.size:=PySem.W.hideAll_size _ _
def I8(e:h.get? b=some o)(n:H b=none):(yH h H).get? b=some o:=
 PySem.W.hideAll_get _ e λhm=>by
  have q:(H b).isSome=true:=(List.mem_filter.mp hm).2;rw[n]at q;simp at q
def Lz(e:(yH h H).get? b=some o):h.get? b=some o/\H b=none:=by
 have a:h.get? b=some o:=PySem.W.of_hideAll (Um h H) e;apply⟨a,?_⟩;cases q:H b with
 |none=>rfl
 |some x=>
  have hm:b∈Um h H:=List.mem_filter.mpr ⟨XM.mpr (WX a),by simp[q]⟩;have z:(yH h H).get? b=none:=PySem.W.hideAll_none (Um h H) hm;rw[z]at e;cases e
structure Mod(K:FR)(mg:Str->Option Value)(base:Heap):Prop where
 Vp:K.In base
 glob:base.Ns mainGlobals mg
 blt:∃mb,base.Ns builtinsNs mb/\∀x:Str,x≠"__name__"->mb x=bootBuiltins x
 nolimit:base.NoLimit
structure Cx where
 prog:Program
 w:World
 K:FR
 mg:Str->Option Value
 base:Heap
 A:Around
 N:List Str
 s₀:Shared
 H₀:Hp
 env:Env
 outer:List Env
 stack:List Env
 ex:List Addr
 fn:Str->Bool
 calm:Bool
 pn:List (Addr×Obj)
 xe:Value->Shared->Prop
noncomputable def GF(l:List Env):List Addr:=l.filterMap (·.frame)
abbrev Cx.fs(X:Cx):List Addr:=GF X.outer
def TH(a:Scope)(x:Str):Prop:=a.names.lookup x=some .local\/a.names.lookup x=some .cell\/a.names.lookup x=some .free
def Loc(a:Scope)(x:Str):Prop:=a.names.lookup x=some .local\/a.names.lookup x=some .cell
def Look(env:Env)(h:Heap)(m:Str->Option Value)(x:Str)(u:Value):Prop:=
 (env.kindOf x=some .local/\m x=some u)\/((env.kindOf x=some .cell\/env.kindOf x=some .free)/\∃c,env.cells.lookup x=some c/\h.IsCell c (some u))
structure Cx.Ok(X:Cx):Prop where
 mod:Mod X.K X.mg X.base
 kind:X.env.scope.kind=.function
 glob:X.env.globals=mainGlobals
 blt:X.env.builtins=builtinsNs
 above:X.s₀.heap.objs.size<=X.env.locals
 inj:∀x y c,X.env.cells.lookup x=some c->X.env.cells.lookup y=some c->x=y
 has:∀x,(X.env.kindOf x=some .cell\/X.env.kindOf x=some .free)->∃c,X.env.cells.lookup x=some c
 Td:∀x c,X.fn x=true->X.env.cells.lookup x=some c->X.s₀.heap.objs.size<=c
 hd:X.calm=true->X.A.handled=none
 frames:X.A.frames=some X.stack
 Ur:X.stack=X.outer\/(X.stack=X.env::X.outer/\X.env.frame=some X.env.locals)
 VW:∀b∈X.ex,b≠X.env.locals/\∀x c,X.env.cells.lookup x=some c->c≠b
 bs:∀b o,X.base.get? b=some o->X.s₀.heap.get? b=some o/\X.H₀ b=none
 Nn:X.base.objs.size<=X.s₀.heap.objs.size
 ID:∀b o,X.base.get? b=some o->b∉X.ex
 Mc:∀b∈X.ex,b∉X.fs
 tQ:X.s₀.heap.FunFrames X.base X.outer
 Q3:∀b∈X.fs,X.H₀ b=none
structure Inv(X:Cx)(pins:List (Addr×Obj))(σ:List (Option V))(H:Hp)(s:Shared):Prop where
 ok:X.Ok
 os:s.os=X.s₀.os
 bare:AllBare s.gens
 base:Un X.fs X.ex X.H₀ H X.s₀.heap s.heap
 loc:∃m,s.heap.Ns X.env.locals m/\∀(i:Nat)(x:Str)(v:V),X.N[i]?=some x->σ[i]?=some (some v)->TH X.env.scope x->∃u,RelV v u/\Look X.env s.heap m x u
 cell:∀x c,X.env.cells.lookup x=some c->∃v,s.heap.IsCell c v
 free:H X.env.locals=none
 jq:∀x c,X.env.cells.lookup x=some c->H c=none
 pin:∀p∈X.pn++pins,s.heap.get? p.1=some p.2/\H p.1=none/\p.1≠X.env.locals/\p.1∉X.fs/\∀v,p.2.data≠.cell v
 a9:gQ X.prog X.w H s.heap
 len:σ.length=X.N.length
section
variable {X:Cx} {pins:List (Addr×Obj)} {σ:List (Option V)} {H H':Hp} {s:Shared} {h':Heap}
def Cx.Ok.Vk(ok:X.Ok)(e:X.base.get? b=some o):b∉X.fs:=λa=>by
 have:=(ok.tQ.mem a).1;rw[e]at this;cases this
theorem Inv.bs(I:Inv X pins σ H s):∀b o,X.base.get? b=some o->s.heap.get? b=some o/\H b=none:=λb o e=>
 ⟨I.base.keep b o (I.ok.bs b o e).1 (I.ok.bs b o e).2 (I.ok.Vk e) (I.ok.ID b o e),I.base.free b o (I.ok.bs b o e).1 (I.ok.bs b o e).2 (I.ok.ID b o e)⟩
def Inv.bk(I:Inv X pins σ H s):∀b o,X.base.get? b=some o->s.heap.get? b=some o:=λb o e=>(I.bs b o e).1
theorem Inv.mod(I:Inv X pins σ H s):Mod X.K X.mg X.base:=I.ok.mod
def Inv.wL(I:Inv X pins σ H s):X.K.In s.heap:=I.ok.mod.Vp.keeps I.bk
theorem Inv.lt(I:Inv X pins σ H s):X.env.locals<s.heap.objs.size:=let⟨_,hn,_⟩:=I.loc;hn.lt
def Inv.sz(I:Inv X pins σ H s):X.s₀.heap.objs.size<=s.heap.objs.size:=WL I.ok.above (XN I.lt)
def Inv.Vj(I:Inv X pins σ H s)(h:s.heap.objs.size<=a):a∉X.fs:=λc=>by
 have⟨_,o,b,_⟩:=I.ok.tQ.mem c;exact absurd (WO (WX b) (WL I.sz h)) (X3 _)
def Inv.Qp(I:Inv X pins σ H s):∀x c,X.env.cells.lookup x=some c->c≠X.env.locals:=λx c e z=>by
 have⟨v,o,d,hd⟩:=I.cell x c e;obtain⟨m,⟨f,es,g,a,b,_⟩,_⟩:=I.loc;rw[z,a]at d;cases d;rw[b]at hd;cases hd
theorem Inv.tQ(I:Inv X pins σ H s):s.heap.FunFrames X.base X.outer:=by
 have all:∀(l:List Env),(∀b∈GF l,b∈X.fs)->X.s₀.heap.FunFrames X.base l->s.heap.FunFrames X.base l:=by
  intro l
  induction l with
  |nil=>intro _ _;trivial
  |cons env r g=>
   intro f hl;obtain⟨i,⟨L,o,a,hn,h,hd⟩,hr⟩:=hl;have d:L∈X.fs:=f L (by unfold GF;rw[Ym,a];exact WI);have⟨j,e⟩:=I.base.slot L o h (I.ok.Q3 L d) d λz=>I.ok.Mc L z d;exact⟨i,⟨L,_,a,hn,e,hd⟩,g (λb c=>f b (by unfold GF;rw[Ym,a];exact WG _ c)) hr⟩
 exact all X.outer (λ_ c=>c) I.ok.tQ
theorem Inv.stack(I:Inv X pins σ H s):s.heap.FunFrames X.base X.stack:=by
 rcases I.ok.Ur with e |⟨e,a⟩
 ·rw[e];exact I.tQ
 ·rw[e];have⟨m,hn,_⟩:=I.loc;apply .cons (by rw[I.ok.kind];decide) a hn ?_ I.tQ;exact Heap.get?_none_of_le (WL I.ok.Nn I.ok.above)
def Inv.rJ(I:Inv X pins σ H s):∀b∈GF X.stack,b∈X.env.locals::X.fs:=λb a=>by
 rcases I.ok.Ur with e |⟨e,c⟩
 ·rw[e]at a;exact WG _ a
 ·rw[e]at a;unfold GF at a;rw[Ym,c]at a;exact a
def Inv.Dk(I:Inv X pins σ H s):∀b∈GF X.stack,H b=none:=λb a=>by
 rcases WV.mp (I.rJ b a)with e |a
 ·rw[e];exact I.free
 ·have⟨_,o,c,_⟩:=I.ok.tQ.mem a;exact I.base.free b o c (I.ok.Q3 b a) λz=>I.ok.Mc b z a
def Inv.step{g':Array GenState}{P:Nat}{d':Drawn}{ch:List Addr}(I:Inv X pins σ H s)
  (g:∀b∈ch,(b∈X.ex\/X.s₀.heap.objs.size<=b)/\b≠X.env.locals/\(∀x c,X.env.cells.lookup x=some c->c≠b)/\∀p∈X.pn++pins,p.1≠b)
  (keep:∀b o,b≠X.env.locals->b∉X.fs->b∉ch->s.heap.get? b=some o->H b=none->h'.get? b=some o)
  (slot:∀b o,b≠X.env.locals->b∈X.fs->b∉ch->s.heap.get? b=some o->H b=none->∃M,h'.get? b=some {o with slots:=M}) (free:∀b o,b∉ch->s.heap.get? b=some o->H b=none->H' b=none)
  (there:∀b o,b∉ch->s.heap.get? b=some o->∃E,h'.get? b=some E)
  (rD:∀b y,H b=some (.tup y)->H' b=some (.tup y)) (vv:∀b o u,H b=some (.Eh o u)->H' b=some (.Eh o u)) (xw:∀b J,H b=some (.NP J)->∃more,H' b=some (.NP (J++more)))
  (ns:∀m,s.heap.Ns X.env.locals m->h'.Ns X.env.locals m) (a9:gQ X.prog X.w H' h') (S:AllBare g'):
  Inv X pins σ H' {s with heap:=h',gens:=g',drawn:=d',toks:=P}:=by
 have F:∀b o,X.s₀.heap.get? b=some o->b≠X.env.locals:=λb o e=>Xa (WO (WX e) I.ok.above);have j:∀b o,X.s₀.heap.get? b=some o->b∉X.ex->b∉ch:=λb o e a A=>by
  rcases(g b A).1 with z |z
  ·exact a z
  ·exact absurd (WO (WX e) z) (X3 _)
 have h:∀x c,X.env.cells.lookup x=some c->∀v,s.heap.IsCell c v->h'.IsCell c v:=λx c e v u9=>by
  have⟨o,C,hd⟩:=u9;have f:c∉ch:=λz=>(g c z).2.2.1 x c e rfl
  by_cases O:c∈X.fs
  ·have⟨M,q⟩:=slot c o (I.Qp x c e) O f C (I.jq x c e);exact⟨_,q,hd⟩
  ·exact⟨o,keep c o (I.Qp x c e) O f C (I.jq x c e),hd⟩
 apply⟨I.ok,I.os,S,⟨λb o e n A a=>?_,λb o e n A a=>?_,λb o e n a=>?_,λb o e a=>?_,λb y e=>rD b y (I.base.rD b y e),λb o y e=>vv b o y (I.base.vv b o y e),λb J e=>?_⟩,?_,λx c e=>?_,?_,λx c e=>?_,λp hp=>?_,a9,I.len⟩
 ·exact keep b o (F b o e) A (j b o e a) (I.base.keep b o e n A a) (I.base.free b o e n a)
 ·have⟨M,t⟩:=I.base.slot b o e n A a;have⟨L,G⟩:=slot b _ (F b o e) A (j b o e a) t (I.base.free b o e n a);exact⟨L,G⟩
 ·have⟨E,t⟩:=I.base.there b o e a;exact free b E (j b o e a) t (I.base.free b o e n a)
 ·have⟨E,t⟩:=I.base.there b o e a;exact there b E (j b o e a) t
 ·have⟨R,t⟩:=I.base.xw b J e;have⟨Q,G⟩:=xw b _ t;exact⟨R++Q,by rw[G,Array.append_assoc]⟩
 ·have⟨m,hn,hl⟩:=I.loc;apply⟨m,ns m hn,λi x v t G T=>?_⟩;have⟨u,r,l⟩:=hl i x v t G T;apply⟨u,r,?_⟩;rcases l with l |⟨k,c,e,z⟩
  ·exact .inl l
  ·exact .inr ⟨k,c,e,h x c e _ z⟩
 ·have⟨v,z⟩:=I.cell x c e;exact⟨v,h x c e v z⟩
 ·obtain⟨m,⟨o,_,_,C,_⟩,_⟩:=I.loc;exact free _ o (λz=>(g _ z).2.1 rfl) C I.free
 ·have⟨v,o,C,hd⟩:=I.cell x c e;exact free c o (λz=>(g c z).2.2.1 x c e rfl) C (I.jq x c e)
 ·have⟨e,n,ne,N,d⟩:=I.pin p hp;have f:p.1∉ch:=λz=>(g p.1 z).2.2.2 p hp rfl;exact⟨keep p.1 p.2 ne N f e n,free p.1 p.2 f e n,ne,N,d⟩
def Inv.un{t':Nat}(I:Inv X pins σ H s)(u:Un X.fs [] H H' s.heap h')(a9:gQ X.prog X.w H' h'):Inv X pins σ H' {s with heap:=h',toks:=t'}:=by
 obtain⟨m,⟨o,es,p,g,r⟩,_⟩:=id I.loc;have⟨j,i⟩:=u.any g I.free (by simp);exact I.step (g':=s.gens) (d':=s.drawn) (ch:=[]) (λ_ z=>nomatch z) (λb o _ c _ e n=>u.keep b o e n c (by simp)) (λb o _ c _ e n=>u.slot b o e n c (by simp)) (λb o _ e n=>u.free b o e n (by simp)) (λb o _ e=>u.there b o e (by simp)) u.rD u.vv u.xw (λl hm=>by
  have⟨k,d,f,a,h⟩:=hm;rw[g]at a;cases a;exact⟨_,d,f,i,h⟩) a9 I.bare
def Inv.call{g':Array GenState}{t':Nat}{d':Drawn}{ch:List Addr}(I:Inv X pins σ H s)(u:Un (GF X.stack) ch H H' s.heap h')(a9:gQ X.prog X.w H' h')(l:AllBare g')
  (f:∀b∈ch,(b∈X.ex\/X.s₀.heap.objs.size<=b)/\b≠X.env.locals/\(∀x c,X.env.cells.lookup x=some c->c≠b)/\∀p∈X.pn++pins,p.1≠b):
  Inv X pins σ H' {s with heap:=h',gens:=g',drawn:=d',toks:=t'}:=by
 obtain⟨m,⟨o,es,A,j,r⟩,_⟩:=id I.loc;have⟨t,g⟩:=u.any j I.free λz=>(f _ z).2.1 rfl;exact I.step (ch:=ch) f (λb o g q a e n=>u.keep b o e n (λz=>(WV.mp (I.rJ b z)).elim g q) a) (λb o _ _ a e n=>u.any e n a) (λb o a e n=>u.free b o e n a) (λb o a e=>u.there b o e a) u.rD u.vv u.xw (λy hm=>by
  have⟨v,h,i,d,k⟩:=hm;rw[j]at d;cases d;exact⟨_,h,i,g,k⟩) a9 l
def Inv.turned{t':Nat}{it:Addr}(I:Inv X pins σ H s)(k:∀b o,b≠it->s.heap.get? b=some o->h'.get? b=some o)(hn:H it=none)(f:it≠X.env.locals)
  (l:it∈X.ex\/X.s₀.heap.objs.size<=it) (j:∀x c,X.env.cells.lookup x=some c->c≠it) (i:∀p∈X.pn++pins,p.1≠it):Inv X pins σ H {s with heap:=h',toks:=t'}:=by
 have d:∀b u,H b=some u->b≠it:=λb u e z=>by rw[z,hn]at e;cases e
 apply I.step (g':=s.gens) (d':=s.drawn) (ch:=[it]) (λb h=>?_) (λb o _ _ a e _=>k b o (λz=>a (by simp[z])) e) (λb o _ _ a e _=>⟨o.slots,k b o (λz=>a (by simp[z])) e⟩) (λ_ _ _ _ n=>n)
  (λb o a e=>⟨o,k b o (λz=>a (by simp[z])) e⟩) (λ_ _ e=>e) (λ_ _ _ e=>e) (λb w e=>⟨#[],by rw[e];simp⟩) (λm hm=>?_) (λb u e=>?_) I.bare
 ·have e:b=it:=by simpa using h
  subst e;exact⟨l,f,j,i⟩
 ·have⟨o,es,t,g,r⟩:=hm;exact⟨o,es,t,k _ o (XW f) g,r⟩
 ·apply(I.a9 b u e).xB (λc v a q=>k c v ?_ q) (λ_ q=>q) λ_ _ q=>q;rcases a with z |z
  ·rw[z];exact d b u e
  ·exact d c _ z
def Inv.tok(I:Inv X pins σ H s)(t:Nat):Inv X pins σ H {s with toks:=t}:=I.un (h':=s.heap) (t':=t) Un.refl I.a9
theorem Inv.kept(I:Inv X pins σ H s)(k:∀b u,s.heap.get? b=some u->h'.get? b=some u):Inv X pins σ H {s with heap:=h',toks:=t'}:=I.un (Un.kept k) (I.a9.kept k)
theorem Inv.laid(I:Inv X pins σ H s)(k:∀b u,s.heap.get? b=some u->h'.get? b=some u)(hp:s.heap.objs.size<=a)(new:cp X.prog X.w (upd H a o) h' a o):
  Inv X pins σ (upd H a o) {s with heap:=h',toks:=t'}:=I.un (Un.laid k hp (I.a9.fresh hp)) (I.a9.laid k hp new)
theorem Inv.write(I:Inv X pins σ H s)(c:Ug (H x))(d:e=x\/H e=some (.own x))(k:∀b u,b≠e->s.heap.get? b=some u->h'.get? b=some u)(a:∃u,h'.get? e=some u)(new:cp X.prog X.w (upd H x o) h' x o):Inv X pins σ (upd H x o) {s with heap:=h',toks:=f}:=I.un (Un.write c d k a) (I.a9.write c d k a new)
def Inv.DN(I:Inv X pins σ H s)(h:∀p∈a,s.heap.get? p.1=some p.2/\H p.1=none/\p.1≠X.env.locals/\p.1∉X.fs/\∀v,p.2.data≠.cell v):Inv X a σ H s:=
 ⟨I.ok,I.os,I.bare,I.base,I.loc,I.cell,I.free,I.jq,λp hp=>(Xw.mp hp).elim (λz=>I.pin p (Aay _ z)) (h p),I.a9,I.len⟩
def An{N:List Str}(c:N.Nodup){i j:Nat}{x:Str}(a:N[i]?=some x)(b:N[j]?=some x):i=j:=by
 have⟨g,e⟩:=WB.mp a;have⟨f,d⟩:=WB.mp b;exact(List.getElem_inj c).mp (e.trans d.symm)
def vQ{M:Model}{A:Around}{E:Value->Shared->Prop}{i:Nat}{x:Str}{v:V}{u:Value}{Q:Unit->Shared->Prop}(I:Inv X pins σ H s)(hN:X.N.Nodup)(T:X.N[i]?=some x)(C:Loc X.env.scope x)(r:RelV v u)
  (h:∀s',Inv X pins (σ.set i (some v)) H s'->(∃a,Heap.SameBut a s.heap s'.heap/\(a=X.env.locals\/X.env.cells.lookup x=some a))->Q ⟨⟩ s') (hf:X.fn x=true\/X.env.scope.names.lookup x=some .local:=by first |exact .inl rfl |exact .inr rfl |assumption):wpAny M A (storeName X.env x u) Q E s:=by
 have⟨m,hn,hl⟩:=id I.loc;have U:(X.env.scope.kind==.class||(X.env.scope.kind==.module&&X.env.locals !=X.env.globals))=false:=by rw[I.ok.kind];rfl
 have L:i < σ.length:=by rw[I.len];exact(WB.mp T).1
 have Qp:=I.Qp;have g:∀{a:Addr} {h':Heap},(∃o,s.heap.get? a=some o/\H a=none)->Heap.SameBut a s.heap h'->gQ X.prog X.w H h':=λ{a h'} ha f b ob e=>by
  have⟨_,_,F⟩:=ha;apply(I.a9 b ob e).xB (λc w' t q=>(f.2 c ?_).trans q) (λ_ q=>q) λ_ _ q=>q;rintro rfl;rcases t with rfl |t
  ·rw[F]at e;cases e
  ·rw[F]at t;cases t
 rcases C with J |J
 ·apply wpAny_storeName_local J hn (λh' hn' f=>?_) U;have⟨oL,_,_,hoL,_⟩:=id hn;apply h _ ⟨I.ok,I.os,I.bare,⟨λb o e n P C=>?_,λb o e n P C=>?_,I.base.free,λb o e C=>?_,I.base.rD,I.base.vv,I.base.xw⟩,⟨_,hn',λj y v' l G e3=>?_⟩,λy c e=>?_,I.free,I.jq,λp hp=>?_,g ⟨oL,hoL,I.free⟩ f,by simpa using I.len⟩ ⟨_,f,.inl rfl⟩
  ·exact(f.2 b (Xa (WO (WX e) I.ok.above))).trans (I.base.keep b o e n P C)
  ·have⟨sl,l⟩:=I.base.slot b o e n P C;exact⟨sl,(f.2 b (Xa (WO (WX e) I.ok.above))).trans l⟩
  ·have⟨o',l⟩:=I.base.there b o e C;exact⟨o',(f.2 b (Xa (WO (WX e) I.ok.above))).trans l⟩
  ·by_cases hj:j=i
   ·subst hj;rw[T]at l;cases l;rw[Xk L]at G;cases G;exact⟨u,r,.inl ⟨J,by simp⟩⟩
   ·rw[WQ (XW hj)]at G;have⟨u',r',q⟩:=hl j y v' l G e3;apply⟨u',r',?_⟩;rcases q with⟨k,e⟩ |⟨k,c,e,z⟩
    ·apply .inl ⟨k,?_⟩;have:y≠x:=λe=>hj (An hN l (e ▸ T));simp[this,e]
    ·exact .inr ⟨k,c,e,z.sameBut f (Qp y c e)⟩
  ·have⟨w',z⟩:=I.cell y c e;exact⟨w',z.sameBut f (Qp y c e)⟩
  ·have⟨e,n,ne,nf,d⟩:=I.pin p hp;exact⟨(f.2 p.1 ne).trans e,n,ne,nf,d⟩
 ·have O:X.fn x=true:=by
   rcases hf with z |z
   ·exact z
   ·rw[z]at J;cases J
  have⟨c,t⟩:=I.ok.has x (.inl J);have⟨w',z⟩:=I.cell x c t;apply wpAny_storeName_cell I.ok.kind J t z (λh' Z f=>?_);have⟨oc,S,R⟩:=id z;apply h {s with heap:=h'} ⟨I.ok,I.os,I.bare,⟨λb o e n P C=>?_,λb o e n P C=>?_,I.base.free,λb o e C=>?_,I.base.rD,I.base.vv,I.base.xw⟩,⟨m,hn.sameBut f (XW (Qp x c t)),λj y v' l G e3=>?_⟩,λy c' e=>?_,I.free,I.jq,λp hp=>?_,g ⟨oc,S,I.jq x c t⟩ f,by simpa using I.len⟩ ⟨c,f,.inr t⟩
  ·exact(f.2 b (Xa (WO (WX e) (I.ok.Td x c O t)))).trans (I.base.keep b o e n P C)
  ·have⟨sl,l⟩:=I.base.slot b o e n P C;exact⟨sl,(f.2 b (Xa (WO (WX e) (I.ok.Td x c O t)))).trans l⟩
  ·have⟨o',l⟩:=I.base.there b o e C;exact⟨o',(f.2 b (Xa (WO (WX e) (I.ok.Td x c O t)))).trans l⟩
  ·by_cases hj:j=i
   ·subst hj;rw[T]at l;cases l;rw[Xk L]at G;cases G;exact⟨u,r,.inr ⟨.inl J,c,t,Z⟩⟩
   ·rw[WQ (XW hj)]at G;have⟨u',r',q⟩:=hl j y v' l G e3;apply⟨u',r',?_⟩;rcases q with q |⟨k,c',e,z'⟩
    ·exact .inl q
    ·apply .inr ⟨k,c',e,z'.sameBut f ?_⟩;rintro rfl;exact hj (An hN l (I.ok.inj _ _ _ e t ▸ T))
  ·by_cases Y:c'=c
   ·subst Y;exact⟨_,Z⟩
   ·have⟨w2,z2⟩:=I.cell y c' e;exact⟨w2,z2.sameBut f Y⟩
  ·have⟨e,n,ne,nf,d⟩:=I.pin p hp;apply⟨(f.2 p.1 ?_).trans e,n,ne,nf,d⟩;intro q;rw[q,S]at e;have q':oc=p.2:=Option.some.inj e;exact d w' (by rw[<-q'];exact R)
def l9(I:Inv X pins σ H s)(e:X.N.Nodup)(c:X.N[i]?=some x)(b:Loc X.env.scope x)(r:RelV v u)(h:∀a,Inv X pins (σ.set i (some v)) H a->Q ⟨⟩ a)(d:X.fn x=true\/X.env.scope.names.lookup x=some .local:=by first |exact .inl rfl |exact .inr rfl |assumption):wpAny M A (storeName X.env x u) Q E s:=
 vQ I e c b r (λa f _=>h a f) d
def Inv.call'(I:Inv X pins σ H s)(f:s'.os=s.os)(u:Un (GF X.stack) ch H H' s.heap s'.heap)(a9:gQ X.prog X.w H' s'.heap)(g:AllBare s'.gens)(a:∀b∈ch,(b∈X.ex\/X.s₀.heap.objs.size<=b)/\b≠X.env.locals/\(∀x c,X.env.cells.lookup x=some c->c≠b)/\∀p∈X.pn++pins,p.1≠b):Inv X pins σ H' s':=by
 have⟨h',g',d',t',d⟩:=s';have e:d=s.os:=f;subst e;exact I.call (g':=g') (t':=t') (d':=d') u a9 g a
end
abbrev XK:=Value->Option Addr->Hp->Prop
abbrev St:=List (Option V)
abbrev VK:=V->Hp->Prop
abbrev TE:=St->Hp->VK->Prop
abbrev TT:=St->Hp->(Bool->Hp->Prop)->Prop
abbrev TA:=St->Hp->(List V->Hp->Prop)->Prop
structure Ends where
 nx:St->Hp->Prop
 rt:VK
 bk:St->Hp->Prop:=λ_ _=>False
 ct:St->Hp->Prop:=λ_ _=>False
abbrev TS:=Ends->St->Hp->Prop
inductive V9(X:Cx)(pins:List (Addr×Obj))(σ:St)(Q:VK)(u:Value)(s':Shared):Prop where
 |mk (v H'):Inv X pins σ H' s'->RelV v u->Q v H'->V9 X pins σ Q u s'
def EP(X:Cx)(a:List (Addr×Obj))(b:St)(Q:VK)(u:Value)(c:Shared):Prop:=V9 X a b Q u c
def TP(X:Cx)(a:List (Addr×Obj))(d:St)(Q:Bool->Hp->Prop)(b:Bool)(e:Shared):Prop:=∃c,Inv X a d c e/\Q b c
inductive Wa(X:Cx)(pins:List (Addr×Obj))(σ:St)(Q:List V->Hp->Prop)(us:List Value)(s':Shared):Prop where
 |mk (vs H'):Inv X pins σ H' s'->Vals vs us->Q vs H'->Wa X pins σ Q us s'
def AP(X:Cx)(a:List (Addr×Obj))(b:St)(Q:List V->Hp->Prop)(us:List Value)(c:Shared):Prop:=Wa X a b Q us c
def SP(X:Cx)(b:List (Addr×Obj))(D:Ends)(f:Flow)(d:Shared):Prop:=
 match f with
 |.next=>∃a c,Inv X b a c d/\D.nx a c
 |.brk=>∃a c,Inv X b a c d/\D.bk a c
 |.cont=>∃a c,Inv X b a c d/\D.ct a c
 |.ret u=>∃v a c,Inv X b a c d/\RelV v u/\D.rt v c
def PE(X:Cx)(e:Expr)(t:TE):Prop:=
 ∀(a:List (Addr×Obj)) (s:Shared) (b:St) (H:Hp) (Q:VK),Inv X a b H s->t b H Q->wpAny (model X.prog X.w) X.A (eval e X.env) (EP X a b Q) X.xe s
def PT(X:Cx)(e:Expr)(t:TT):Prop:=
 ∀(a:List (Addr×Obj)) (s:Shared) (b:St) (H:Hp) (Q:Bool->Hp->Prop),Inv X a b H s->t b H Q->wpAny (model X.prog X.w) X.A (isTrue e X.env (eval e X.env)) (TP X a b Q) X.xe s
def PW(X:Cx)(e:Expr)(t:TT):Prop:=
 ∀(b:Sem Value)(a:List (Addr×Obj)) (s:Shared) (c:St) (H:Hp) (Q:Bool->Hp->Prop),Inv X a c H s->t c H Q->wpAny (model X.prog X.w) X.A (isTrue e X.env b) (TP X a c Q) X.xe s
def PW.pt(h:PW X e t):PT X e t:=h _
def PA(X:Cx)(es:List Expr)(t:TA):Prop:=
 ∀(pos:Pos)(a:List (Addr×Obj)) (s:Shared) (b:St) (H:Hp) (Q:List V->Hp->Prop),Inv X a b H s->t b H Q->wpAny (model X.prog X.w) X.A (spliced (backTo pos (starEach es X.env))) (AP X a b Q) X.xe s
def PS(X:Cx)(st:Stmt)(t:TS):Prop:=
 ∀(a:List (Addr×Obj)) (s:Shared) (b:St) (H:Hp) (D:Ends),Inv X a b H s->t D b H->wpAny (model X.prog X.w) X.A (exec st X.env) (SP X a D) X.xe s
def Bm(X:Cx)(st:List Stmt)(t:TS):Prop:=
 ∀(a:List (Addr×Obj)) (s:Shared) (b:St) (H:Hp) (D:Ends),Inv X a b H s->t D b H->wpAny (model X.prog X.w) X.A (execs st X.env) (SP X a D) X.xe s
def cQ(h:wpAny M A t Q E s)(b:∀a s,Q a s->c a s):wpAny M A t c E s:=Yd h b λ_ _ x=>x
section
variable {X:Cx}
def UD(i:Nat):TE:=λa H Q=>∃v,a[i]?=some (some v)/\Q v H
def tC(v:V):TE:=λ_ H Q=>Q v H
def OW(o:X.N[i]?=some x)(n:TH X.env.scope x)(hd:(x==("__debug__":Str))=false:=by decide)(g:(x==("__classdict__":Str))=false:=by decide):PE X (.Name x pos) (UD i):=by
 intro f s k H Q I h;have⟨v,e,h⟩:=h;have⟨m,hn,hl⟩:=I.loc;have⟨u,r,l⟩:=hl i x v o e n;have d:EP X f k Q u s:=⟨v,H,I,r,h⟩;rcases l with⟨b,hm⟩ |⟨b,c,j,a⟩
 ·exact wpAny_Name (wpAny_loadName_local I.ok.kind b hn hm d) hd
 ·rcases b with b |b
  ·exact wpAny_Name (wpAny_loadName_cell I.ok.kind b j a d) hd
  ·exact wpAny_Name (wpAny_loadName_free I.ok.kind b j a d g) hd
def O4{i j pos}:PE X (.Constant (.int i) j pos) (tC (.int i)):=λ_ _ _ H _ I h=>wpAny_Constant_int ⟨.int i,H,I.tok _,⟨_,rfl⟩,h⟩
def Si{b j pos}:PE X (.Constant (.bool b) j pos) (tC (.bl b)):=λ_ _ _ H _ I h=>Constant_bool ⟨.bl b,H,I,rfl,h⟩
def O2{j pos}:PE X (.Constant .none j pos) (tC .bg):=λ_ _ _ H _ I h=>Constant_none ⟨.bg,H,I,rfl,h⟩
def OZ{x j pos}:PE X (.Constant (.str x) j pos) (tC (.str x)):=λ_ _ _ H _ I h=>Calls.Constant_str ⟨.str x,H,I.tok _,⟨_,rfl⟩,h⟩
def Gl(X:Cx)(x:Str):Prop:=X.env.kindOf x=some .globalImplicit
def D1(I:Inv X pins σ H s)(a:Gl X x)(hm:X.mg x=some u)(h:Q u s)(hd:(x==("__debug__":Str))=false:=by decide):wpAny (model X.prog X.w) X.A (eval (.Name x pos) X.env) Q E s:=
 AbZ I.ok.kind a (Calls.loadGlobal_global (by rw[I.ok.glob];exact I.mod.glob.keeps I.bk) hm h) hd
def fZ(I:Inv X pins σ H s)(b:Gl X x)(hm:X.mg x=none)(a:bootBuiltins x=some u)(h:Q u s)(hn:x≠"__name__":=by decide)(hd:(x==("__debug__":Str))=false:=by decide):wpAny (model X.prog X.w) X.A (eval (.Name x pos) X.env) Q E s:=by
 have⟨e,d,c⟩:=I.mod.blt;exact AbZ I.ok.kind b (Calls.loadGlobal_builtin (by rw[I.ok.glob];exact I.mod.glob.keeps I.bk) hm (by rw[I.ok.blt];exact d.keeps I.bk) ((c x hn).trans a) h) hd
def Lu(b:Gl X x)(hm:X.mg x=none)(a:bootBuiltins x=some u)(r:RelV v u)(hn:x≠"__name__":=by decide)(hd:(x==("__debug__":Str))=false:=by decide):PE X (.Name x pos) (tC v):=
 λ_ _ _ H _ I h=>fZ I b hm a ⟨v,H,I,r,h⟩ hn hd
variable {a b:Expr} {ta tb:TE} {pos:Pos}
variable {tA tB':TT} {rest:List Expr}
def ib(t u:TT):TT:=λd H Q=>t d H λc e=>if c=true then u d e Q else Q false e
def Dg(t u:TT):TT:=λd H Q=>t d H λc e=>if c=true then Q true e else u d e Q
def zC(t:TT):TT:=λd H Q=>t d H λc e=>Q (!c) e
def K6(g:PT X a tA):PW X (.BoolOp .And [a] pos) tA:=by
 intro i d s f H Q I h;apply isTrue_and (cQ (g d s f H Q I h) λc j e=>?_);cases c with
 |true=>exact isTrue_and_nil e
 |false=>exact e
def OK(g:PT X a tA):PW X (.BoolOp .Or [a] pos) tA:=by
 intro i d s f H Q I h;apply isTrue_or (cQ (g d s f H Q I h) λc j e=>?_);cases c with
 |false=>exact isTrue_or_nil e
 |true=>exact e
def OL(k:PT X a tA)(j:PW X (.BoolOp .And (b::rest) pos) tB'):PW X (.BoolOp .And (a::b::rest) pos) (ib tA tB'):=by
 intro i d s e H Q I h;apply isTrue_and (cQ (k d s e H _ I h) λc s1 u9=>?_);have⟨H1,g,f⟩:=u9;cases c with
 |true=>exact j i d s1 e H1 Q g f
 |false=>exact⟨H1,g,f⟩
def Sd(k:PT X a tA)(j:PW X (.BoolOp .Or (b::rest) pos) tB'):PW X (.BoolOp .Or (a::b::rest) pos) (Dg tA tB'):=by
 intro i d s e H Q I h;apply isTrue_or (cQ (k d s e H _ I h) λc s1 u9=>?_);have⟨H1,g,f⟩:=u9;cases c with
 |true=>exact⟨H1,g,f⟩
 |false=>exact j i d s1 e H1 Q g f
def OM(f:PT X a tA):PT X (.UnaryOp .Not a pos) (zC tA):=by
 intro d s e H Q I h;exact isTrue_not (f d s e H (λc g=>Q (!c) g) I h)
def RC(ta tb:TE):TE:=λd H Q=>ta d H λx e=>∃c,x=.bl c/\if c=true then tb d e Q else Q (.bl false) e
def Rv(ta:TE):TE:=λd H Q=>ta d H λx e=>∃c,x=.bl c/\Q (.bl (!c)) e
def O0{op}(h:PE X a t):PE X (.BoolOp op [a] pos) t:=λc s d H Q I e=>BoolOp_one (h c s d H Q I e)
def O6(k:PE X a ta)(j:PE X (.BoolOp .And (b::rest) pos) tb):PE X (.BoolOp .And (a::b::rest) pos) (RC ta tb):=by
 intro d s f H Q I h;apply BoolOp_and (cQ (k d s f H _ I h) λv s1 u9=>?_);have⟨x,H1,g,i,e⟩:=u9;have⟨c,rfl,e⟩:=e;cases i;apply Zi ?_;cases c with
 |true=>exact j d s1 f H1 Q g e
 |false=>exact⟨.bl false,H1,g,rfl,e⟩
def O1(i:PE X a ta):PE X (.UnaryOp .Not a pos) (Rv ta):=by
 intro d s f H Q I h;apply UnaryOp_ (cQ (i d s f H _ I h) λv s1 u9=>?_);have⟨x,H1,j,g,e⟩:=u9;have⟨c,rfl,e⟩:=e;cases g;exact not_of (Zi ⟨.bl (!c),H1,j,rfl,e⟩)
def Wk(t:TT)(ta tb:TE):TE:=λd H Q=>t d H λc e=>if c=true then ta d e Q else tb d e Q
def Ic(j:PT X c tA)(l:PE X a ta)(k:PE X b tb):PE X (.IfExp c a b pos) (Wk tA ta tb):=by
 intro e s f H Q I h;apply wpAny_IfExp (cQ (j e s f H _ I h) λd s1 u9=>?_);have⟨H1,i,g⟩:=u9;cases d with
 |true=>exact l e s1 f H1 Q i g
 |false=>exact k e s1 f H1 Q i g
end
def eV(K:FR)(H:Hp)(a:Addr)(c:List V):Prop:=
 Rd H a (.lst c)\/
  ∃(o:Obj)(b:Array Value)(n:Nat),K.lookup a=some o/\o.cls=.type "list"/\o.dict=none/\o.data=.seq b n/\b.size<=sizeLine/\Vals c b.toList
def iJ(K:FR)(H:Hp)(a:Addr)(c:List V):Prop:=
 Rd H a (.tup c)\/
  ∃(o:Obj)(b:Array Value)(n:Nat),K.lookup a=some o/\o.cls=.type "tuple"/\o.data=.seq b n/\b.size<=sizeLine/\Vals c b.toList/\o.dict=none
noncomputable def VJ:Value->Option V
 |.none=>some .bg
 |.bool b=>some (.bl b)
 |.int i _=>some (.int i)
 |.str x _=>some (.str x)
 |.bytes b _=>some (.byt b)
 |.float b _=>some (.Q4 b)
 |.ref a=>some (.ref a)
 |.type n=>some (.ty n)
 |_=>none
def RelV.abs(r:RelV x u):VJ u=some x:=by
 cases x with
 |bg=>cases r;rfl
 |bl _=>cases r;rfl
 |int _=>have⟨t,rfl⟩:=r;rfl
 |str _=>have⟨t,rfl⟩:=r;rfl
 |byt _=>have⟨t,rfl⟩:=r;rfl
 |Q4 _=>have⟨t,rfl⟩:=r;rfl
 |ref _=>cases r;rfl
 |ty _=>cases r;rfl
theorem RelV.inj(r:RelV x u)(q:RelV y u):x=y:=Option.some.inj (r.abs.symm.trans q.abs)
theorem Vals.inj{d c:List V}{us:List Value}(a:Vals d us)(b:Vals c us):d=c:=by
 induction a generalizing c with
 |nil=>cases b;rfl
 |cons r t g=>cases b with |cons f e=>rw[r.inj f,g e]
def eV.of{K:FR}(h:H a=some (.lst xs)):eV K H a xs:=.inl (.inl h)
def Inv.list(I:Inv X pins σ H s)(h:eV X.K H a xs):∃b:List Value,Vals xs b/\PlainL s.heap a b.toArray/\xs.length<=sizeLine:=by
 rcases h with h |⟨o,b,n,d,f,hd,c,g,r⟩
 ·have⟨z,b,n,r,e⟩:=h.ok I.a9;exact⟨b,r,⟨_,n,e,rfl,rfl,rfl⟩,z⟩
 ·apply⟨b.toList,r,⟨o,n,I.wL a o d,f,hd,by simpa using c⟩,?_⟩;have e:=r.length;simp only[YW]at e
  lia
def Inv.tuple(I:Inv X pins σ H s)(h:iJ X.K H a xs):∃b:List Value,Vals xs b/\IsTup s.heap a b.toArray/\xs.length<=sizeLine:=by
 rcases h with h |⟨o,b,n,d,f,c,g,r,_⟩
 ·have⟨z,b,r,p⟩:=h.ok I.a9;exact⟨b,r,p.tup,z⟩
 ·apply⟨b.toList,r,⟨o,I.wL a o d,f,n,by simpa using c⟩,?_⟩;have e:=r.length;simp only[YW]at e
  lia
def Inv.GR(I:Inv X pins σ H s)(h:iJ X.K H a xs):∃b:List Value,Vals xs b/\zp s.heap a b.toArray/\xs.length<=sizeLine:=by
 rcases h with h |⟨o,b,n,d,f,c,g,r,hd⟩
 ·have⟨z,b,r,p⟩:=h.ok I.a9;exact⟨b,r,p,z⟩
 ·apply⟨b.toList,r,⟨o,I.wL a o d,f,⟨n,by simpa using c⟩,hd⟩,?_⟩;have e:=r.length;simp only[YW]at e
  lia
def Inv.AD(I:Inv X pins σ H s)(h:eV X.K H a xs)(k:eV X.K H a i):xs=i:=by
 obtain⟨c,r,⟨o,n,e,_,_,d⟩,_⟩:=I.list h;obtain⟨b,j,⟨l,m,f,_,_,g⟩,_⟩:=I.list k;rw[e]at f;cases f;rw[d]at g;injection g with d1 _
 have:c=b:=by simpa using congrArg Array.toList d1
 subst this;exact r.inj j
def Inv.vL(I:Inv X pins σ H s)(h:iJ X.K H a xs)(k:iJ X.K H a i):xs=i:=by
 obtain⟨c,r,⟨o,e,_,n,d⟩,_⟩:=I.tuple h;obtain⟨b,j,⟨l,f,_,m,g⟩,_⟩:=I.tuple k;rw[e]at f;cases f;rw[d]at g;injection g with d1 _
 have:c=b:=by simpa using congrArg Array.toList d1
 subst this;exact r.inj j
abbrev Cx.uz(X:Cx)(E:Value->Shared->Prop):Cx:={X with xe:=E}
abbrev Cx.Q2(X:Cx):Cx:=X.uz λ_ _=>False
theorem Cx.Ok.uz{X:Cx}(ok:X.Ok)(E:Value->Shared->Prop):(X.uz E).Ok:=
 ⟨ok.mod,ok.kind,ok.glob,ok.blt,ok.above,ok.inj,ok.has,ok.Td,ok.hd,ok.frames,ok.Ur,ok.VW,ok.bs,ok.Nn,ok.ID,ok.Mc,ok.tQ,ok.Q3⟩
def Cx.Ok.iY{X:Cx}{E:Value->Shared->Prop}(ok:(X.uz E).Ok):X.Ok:=
 ⟨ok.mod,ok.kind,ok.glob,ok.blt,ok.above,ok.inj,ok.has,ok.Td,ok.hd,ok.frames,ok.Ur,ok.VW,ok.bs,ok.Nn,ok.ID,ok.Mc,ok.tQ,ok.Q3⟩
theorem Inv.uz(I:Inv X pins σ H s)(E:Value->Shared->Prop):Inv (X.uz E) pins σ H s:=⟨I.ok.uz E,I.os,I.bare,I.base,I.loc,I.cell,I.free,I.jq,I.pin,I.a9,I.len⟩
theorem Inv.iY(I:Inv (X.uz E) pins σ H s):Inv X pins σ H s:=⟨I.ok.iY,I.os,I.bare,I.base,I.loc,I.cell,I.free,I.jq,I.pin,I.a9,I.len⟩
theorem SP.iY(h:SP (X.uz E) pins D f c):SP X pins D f c:=by
 cases f with
 |next=>have⟨a,b,I,q⟩:=h;exact⟨a,b,I.iY,q⟩
 |brk=>have⟨a,b,I,q⟩:=h;exact⟨a,b,I.iY,q⟩
 |cont=>have⟨a,b,I,q⟩:=h;exact⟨a,b,I.iY,q⟩
 |ret u=>have⟨v,a,b,I,r,q⟩:=h;exact⟨v,a,b,I.iY,r,q⟩
theorem Bm.Q2{st:List Stmt}{t:TS}(h:Bm X.Q2 st t):Bm X st t:=λa s b H D I c=>
 Yd (h a s b H D (I.uz _) c) (λ_ _ q=>q.iY) λ_ _ z=>False.elim z
section
variable {X:Cx} {st:Stmt} {rest:List Stmt} {t u:TS} {e:Expr} {te:TE} {pos:Pos}
def Rw:TS:=λD a H=>D.nx a H
def Rq(t u:TS):TS:=λD a H=>t {D with nx:=u D} a H
def K9:Bm X [] Rw:=λ_ _ a H _ I h=>AaG ⟨a,H,I,h⟩
def HQ(i:PS X st t)(g:Bm X rest u):Bm X (st::rest) (Rq t u):=by
 intro a s c H D I h;apply wpAny_execs_cons (cQ (i a s c H {D with nx:=u D} I h) λf d q=>?_);cases f with
 |next=>
  have⟨b,k,j,q⟩:=q;exact g a d b k D j q
 |ret v=>exact q
 |brk=>exact q
 |cont=>exact q
def K8(c:PS X st t):Bm X [st] t:=by
 intro a s b H D I h;apply wpAny_execs_cons (cQ (c a s b H D I h) λf d q=>?_);cases f with
 |next=>exact AaG q
 |ret v=>exact q
 |brk=>exact q
 |cont=>exact q
def NU:TS:=λD a H=>D.bk a H
def HU:PS X (.Break pos) NU:=λ_ _ a H _ I h=>wpAny_Break ⟨a,H,I,h⟩
def Inv.quiet(I:Inv X pins σ H s):interactive X.env=false:=by simp[interactive,I.ok.kind]
def Rz(te:TE):TS:=λD a H=>te a H λ_ b=>D.nx a b
def Lc(f:PE X e te)(d:swapsWith e none pos.line X.env=pure false:=by rfl):PS X (.Expr e pos) (Rz te):=by
 intro a s b H D I h;exact wpAny_Expr_any (cQ (f a s b H _ I h) λv s1 ⟨x,H1,g,i,c⟩=>⟨b,H1,g,c⟩) I.quiet d
def UG(te:TE):TS:=λD a H=>te a H D.rt
def OO(f:PE X e te):PS X (.Return (some e) pos) (UG te):=by
 intro a s b H D I h;exact wpAny_Return_some (cQ (f a s b H _ I h) λv s1 ⟨x,H1,g,c,d⟩=>⟨x,b,H1,g,c,d⟩)
def UK(c:TT)(t u:TS):TS:=λD a H=>c a H λb d=>if b=true then t D a d else u D a d
def Se(l:PT X c k)(n:Bm X a t)(m:Bm X b u):PS X (.If c a b pos) (UK k t u):=by
 intro f s g H D I h;apply wpAny_If (cQ (l f s g H _ I h) λd s1 u9=>?_);have⟨H1,j,i⟩:=u9;cases d with
 |true=>exact n f s1 g H1 D j i
 |false=>exact m f s1 g H1 D j i
end
abbrev TG:=V->St->Hp->(St->Hp->Prop)->Prop
abbrev Nt:=List V->St->Hp->(St->Hp->Prop)->Prop
def PG(X:Cx)(a:Expr)(t:TG):Prop:=
 ∀(b:List (Addr×Obj)) (s:Shared) (d:St) (H:Hp) (v:V) (u:Value) (Q:St->Hp->Prop),Inv X b d H s->RelV v u->t v d H Q->
  wpAny (model X.prog X.w) X.A (assign a X.env u) (λ_ f=>∃c e,Inv X b c e f/\Q c e) X.xe s
def MG(X:Cx)(f:List Expr)(t:Nt):Prop:=
 ∀(a:List (Addr×Obj)) (s:Shared) (c:St) (H:Hp) (d:List V) (us:List Value) (Q:St->Hp->Prop),Inv X a c H s->Vals d us->t d c H Q->
  wpAny (model X.prog X.w) X.A (assignInOrder ((assignEach f X.env).map (·.2)) us) (λ_ g=>∃b e,Inv X a b e g/\Q b e) X.xe s
abbrev TN:=V->V->V->Hp->(Hp->Prop)->Prop
def MF(X:Cx)(t:TN):Prop:=
 ∀(a:List (Addr×Obj)) (s:Shared) (b:St) (H:Hp) (o i v:V) (ov c u:Value) (Q:Hp->Prop),Inv X a b H s->RelV o ov->RelV i c->RelV v u->t o i v H Q->
  wpAny (model X.prog X.w) X.A (setItem ov c u) (λ_ e=>∃d,Inv X a b d e/\Q d) X.xe s
def wU(i:Nat):TG:=λv a H Q=>Q (a.set i (some v)) H
def Lq(e:X.N.Nodup)(c:X.N[i]?=some x)(b:Loc X.env.scope x)(d:X.fn x=true\/X.env.scope.names.lookup x=some .local:=by first |exact .inl rfl |exact .inr rfl |assumption):PG X (.Name x pos) (wU i):=by
 intro a s g H v u Q I r h;exact wpAny_assign_Name (l9 I e c b r (λj f=>⟨_,H,f,h⟩) d)
noncomputable def Vx:Nt:=λb a H Q=>b=[]/\Q a H
def SY(t:TG)(u:Nt):Nt:=λc b H Q=>∃v r,c=v::r/\t v b H λa d=>u r a d Q
def Lp:MG X [] Vx:=by
 intro a s b H c us Q I r h;have⟨e,h⟩:=h;subst e;cases r;exact assignInOrder_nil ⟨b,H,I,h⟩
def HY(j:PG X e t)(i:MG X es u)(g:(assignEach (e::es) X.env).map (·.2)=assign e X.env::(assignEach es X.env).map (·.2):=by rfl):MG X (e::es) (SY t u):=by
 intro a s c H m us Q I r h;have⟨v,n,k,h⟩:=h;subst k;cases r with
 |cons r d=>
  rw[g];apply AbT (cQ (j a s c H _ _ _ I r h) λ_ s1 u9=>?_);have⟨b,H1,l,f⟩:=u9;exact i a s1 b H1 _ _ Q l d f
def Vw(K:FR)(n:Nat)(t:Nt):TG:=λv c H Q=>∃a b,v=.ref a/\iJ K H a b/\b.length=n/\t b c H Q
def OU(p:X.calm=true)(h:MG X es t)(hn:(assignEach es X.env).length=n:=by rfl)(f:(assignEach es X.env).findIdx? (·.1)=none:=by rfl):PG X (.Tuple es k pos) (Vw X.K n t):=by
 intro c s g H v u Q I r d;have⟨a,i,w,m,hl,d⟩:=d;subst w;cases r;have⟨j,rv,ht,y⟩:=I.tuple m;apply assign_Tuple_tuple (I.ok.hd p) ht (by simp[hn,<-hl,rv.length]) f λq l=>?_;have x:Inv X c g H {s with heap:=q}:=I.kept (t':=s.toks) λb o e=>l b o (Xa (WX e)) e;exact h c _ g H i _ Q x (by simpa using rv) d
def vt(b c:TE)(t:TN):TG:=λv a H Q=>b a H λo f=>c a f λi e=>t o i v e λd=>Q a d
def HZ (m:PE X o to) (n:PE X i d) (l:MF X t) (p:∀v,assign (.Subscript o i pos) X.env v=(do
   let ov<-holding [v] (eval o X.env);let b<-holding [v,ov] (eval i X.env)
   standAt pos
   holding [v,ov,b] (setItem ov b v)
   release [v,ov,b] []):=by intro _;rfl):PG X (.Subscript o i pos) (vt to d t):=by
 intro a s c H v u Q I r h;rw[p];apply Wz (Xn (cQ (m a s c H _ I h) λov s1 u9=>?_));have⟨x,H1,z,f,k⟩:=u9;apply Wz (Xn (cQ (n a s1 c H1 _ z k) λb s2 u9=>?_));have⟨y,C,w,e,j⟩:=u9;apply Wz (YQ (Wz (Xn (cQ (l a s2 c C x y v ov b u _ w f e r j) λ_ s3 u9=>?_))));have⟨A,q,g⟩:=u9;exact wpAny_release ⟨c,A,q,g⟩
def GY(b:TE)(g:TG):TS:=λD a H=>b a H λx c=>g x a c D.nx
def OQ(m:PE X e d)(l:PG X b g)(k:swapsWithSole [b] e pos.line X.env=pure false:=by rfl)(j:swappedStores [b] e X.env=pure none:=by rfl)(n:(assignEach [b] X.env).map (·.2)=[assign b X.env]:=by rfl):PS X (.Assign [b] e pos) (GY d g):=by
 intro a s c H D I h;apply wpAny_Assign_stores (cQ (m a s c H _ I h) λv s1 u9=>?_) k j;have⟨x,H1,o,f,i⟩:=u9;rw[n];exact cQ (l a s1 c H1 x v _ o f i) λ_ p q=>q
def ON(n:X.N.Nodup)(k:X.N[i]?=some x)(g:Loc X.env.scope x)(m:PE X e c)(j:swapsWith e (some (.Name x pos')) pos.line X.env=pure false:=by rfl)(l:X.fn x=true\/X.env.scope.names.lookup x=some .local:=by first |exact .inl rfl |exact .inr rfl |assumption):
  PS X (.Assign [.Name x pos'] e pos) (GY c (wU i)):=by
 intro a s b H D I h;apply wpAny_Assign_Name (cQ (m a s b H _ I h) λv s1 u9=>?_) j;have⟨y,H1,p,d,f⟩:=u9;exact l9 p n k g d (λq o=>⟨_,H1,o,f⟩) l
def Rt(i j:Nat)(c:TA):TS:=λD a H=>c a H λb d=>∃v w,b=[v,w]/\D.nx ((a.set i (some v)).set j (some w)) d
def sR{kt k d}(P:X.calm=true)(z:X.N.Nodup)(O:X.N[i]?=some x)(hj:X.N[j]?=some y)(m:i≠j)(u:X.env.scope.names.lookup x=some .local)(t:X.env.scope.names.lookup y=some .local)(Q:PA X [a,b] E)(L:swappedStores [.Tuple [.Name x r,.Name y py] kt pt] (.Tuple [a,b] k d) X.env=pure (some [x,y]))(M:swapsWithSole [.Tuple [.Name x r,.Name y py] kt pt] (.Tuple [a,b] k d) pos.line X.env=pure false:=by rfl):
  PS X (.Assign [.Tuple [.Name x r,.Name y py] kt pt] (.Tuple [a,b] k d) pos) (Rt i j E):=by
 intro c s n H D I h;rw[exec_Assign_arm];apply Wz (YQ ?_);rw[M];apply Wz (WD ?_);rw[WM {}];apply Wz (Tuple_ (cQ (Q _ c s n H _ I h) λus s1 u9=>?_));have⟨Z,H1,Y,F,g⟩:=u9;have⟨v,w,R,g⟩:=g;subst R;obtain⟨u1,u2,rfl,rv,f⟩:∃u1 u2,us=[u1,u2]/\RelV v u1/\RelV w u2:=by
  cases F with
  |cons p q=>
   cases q with
   |cons J G=>
    cases G;exact⟨_,_,rfl,p,J⟩
 apply XO ?_ (by show 2<=sizeLine;decide);have U:Inv X c n H1 {s1 with heap:=s1.heap.push {cls:=.type "tuple",data:=.seq [u1,u2].toArray}}:=Y.kept (t':=s1.toks) λb o e=>WC _ e;rw[L];apply Wz (WD ?_);show wpAny (model X.prog X.w) X.A (do rule "assign.swapped-stores";let items<-unpackItems (.ref s1.heap.objs.size) 2 none;assignInOrder [λv=>bindName X.env y v,λv=>bindName X.env x v] items.reverse;pure Flow.next) _ _ _;apply Wz (Yq (Wz (unpackItems_tuple (items:=#[u1,u2]) (I.ok.hd P) (IsTup.new s1.heap _) λh' l=>?_)));have T:=U.kept (h':=h') (t':=s1.toks) λb o e=>l b o (Xa (WX e)) e;show wpAny _ _ (assignInOrder [λv=>bindName X.env y v,λv=>bindName X.env x v] [u2,u1] >>=λ_=>pure Flow.next) _ _ _;apply Wz (AbT (wpAny_bindName (l9 T z hj (.inl t) f (λs2 S=>?_) (.inr t))));apply AbT (wpAny_bindName (l9 S z O (.inl u) rv (λs3 C=>assignInOrder_nil (WD ?_)) (.inr u)));rw[AaI _ _ (XW m)]at C;exact⟨_,H1,C,g⟩
def GU(c:TT)(h:TS):TS:=λD a H=>∃W:Nat->St->Hp->Prop,(∃m,W m a H)/\∀m a H,W m a H->
 c a H λb f=>if b=true then ∃N:St->Hp->Prop,(∀d g,N d g->∃e,e<m/\W e d g)/\h {D with nx:=N,ct:=N,bk:=D.nx} a f else D.nx a f
def HR(hp:PassesOwn (model X.prog X.w) X.A X.env X.xe)(O:PT X c F)(P:Bm X body G):PS X (.While c body [] pos) (GU F G):=by
 intro d s z H D I h;obtain⟨W,⟨M,E⟩,i⟩:=h;apply wpAny_While (codeAny_whileLoop (λn L=>∃g y,Inv X d g y L/\W n g y) ?_ M ⟨z,H,I,E⟩);rintro n J ⟨e,x,Q,C⟩;apply Zb hp (cQ (O d J e x _ Q (i n e x C)) λb s2 u9=>?_);have⟨u,t,l⟩:=u9;cases b with
 |true=>
  have⟨N,r,l⟩:=l;rw[WH rfl];apply Zb hp (cQ (P d s2 e u _ t l) λf R k=>?_);cases f with
  |next=>
   have⟨a,j,q,o⟩:=k;have⟨p,hm,m⟩:=r a j o;exact⟨p,hm,a,j,q,m⟩
  |cont=>
   have⟨a,j,q,o⟩:=k;have⟨p,hm,m⟩:=r a j o;exact⟨p,hm,a,j,q,m⟩
  |brk=>exact k
  |ret v=>exact k
 |false=>
  rw[WM Xi];exact AaG ⟨e,u,t,l⟩
structure It where
 go:Nat->Hp->Prop
 Ra:Nat->Hp->V->Hp->Prop
 stop:Nat->Hp->Prop
def gd(X:Cx)(a:List (Addr×Obj))(H:Hp)(b:Addr):Prop:=
 H b=none/\b≠X.env.locals/\b∉X.fs/\(b∈X.ex\/X.s₀.heap.objs.size<=b)/\(∀x c,X.env.cells.lookup x=some c->c≠b)/\∀p∈X.pn++a,p.1≠b
def Inv.vw(I:Inv X pins σ H s)(a:s.heap.objs.size<=b)(hn:H' b=none):gd X pins H' b:=by
 apply⟨hn,YI (WO I.lt a),I.Vj a,.inr (WL I.sz a),λx c e z=>?_,λp hp z=>?_⟩
 ·have⟨v,q⟩:=I.cell x c e;exact absurd (WO q.lt (by rw[z];exact a)) (X3 _)
 ·exact absurd (WO (WX (I.pin p hp).1) (by rw[z];exact a)) (X3 _)
structure Turn(P:Program)(w:World)(K:FR)(tg:Expr)(J:It)(fp:List Addr)(it:Addr)(tn:Nat->Heap->Prop):Prop where
 mem:it∈fp
 obj:∀i h,tn i h->∀b∈fp,∃o,h.get? b=some o/\∀v,o.data≠.cell v
 keep:∀i h h',tn i h->(∀b∈fp,∀o,h.get? b=some o->h'.get? b=some o)->tn i h'
 item:∀(X:Cx),X.prog=P->X.w=w->X.K=K->X.calm=true->∀(i:Nat)(pins:List (Addr×Obj)) (s:Shared) (σ:St) (H:Hp) (E:Value->Shared->Prop),Inv X pins σ H s->(∀b∈fp,gd X pins H b)->tn i s.heap->J.go i H->
  wpAny (model P w) X.A (pyNext (.ref it)) (λr s1=>∃u,r=some u/\
   wpAny (model P w) X.A (letOwnedTupleGo tg (.ref it) u) (λ_ s2=>∃x H',Inv X pins σ H' s2/\RelV x u/\J.Ra i H x H'/\tn (i+1) s2.heap/\∀b∈fp,H' b=none) E s1) E s
 done:∀(X:Cx),X.prog=P->X.w=w->X.K=K->X.calm=true->∀(i:Nat)(pins:List (Addr×Obj)) (s:Shared) (σ:St) (H:Hp) (E:Value->Shared->Prop),Inv X pins σ H s->(∀b∈fp,gd X pins H b)->tn i s.heap->J.stop i H->
  wpAny (model P w) X.A (pyNext (.ref it)) (λr s1=>r=none/\Inv X pins σ H s1) E s
 self:∀(A:Around)(i:Nat)(s:Shared)(Q:Value->Shared->Prop)(E:Value->Shared->Prop),tn i s.heap->Q (.ref it) s->wpAny (model P w) A (pyIter (.ref it)) Q E s
abbrev TI:=St->Hp->(It->Hp->Prop)->Prop
def VN(X:Cx)(a:List (Addr×Obj))(i:St)(j:Expr)(R:It->Hp->Prop)(c:Value)(f:Shared):Prop:=
 ∃(g:Addr)(h:List Addr)(e:Nat->Heap->Prop)(J:It)(d:Hp),c=.ref g/\Inv X a i d f/\Turn X.prog X.w X.K j J h g e/\e 0 f.heap/\(∀b∈h,gd X a d b)/\R J d
def PI(X:Cx)(e b:Expr)(d:TI):Prop:=
 ∀(a:List (Addr×Obj)) (s:Shared) (c:St) (H:Hp) (R:It->Hp->Prop),Inv X a c H s->d c H R->
  wpAny (model X.prog X.w) X.A (eval b X.env) (λv f=>wpAny (model X.prog X.w) X.A (pyIter v) (VN X a c e R) X.xe f) X.xe s
def D8(d:s.heap.get? it=some o)(e:o.cls=.type n)(hd:o.data=.fields b)(hn:["enumerate","zip","dict_itemiterator","dict_reverseitemiterator","odict_iterator","itertools.zip_longest","itertools.pairwise"].contains n=false)(a:Q ⟨⟩ s):wpAny M A (letOwnedTupleGo c (.ref it) u) Q E s:=by
 unfold letOwnedTupleGo;cases c <;> first
  |exact WD a
  |(cases u <;> first
    |exact WD a
    |(apply Wz (wpAny_load d ?_);rw[e,hd];show wpAny M A (if(["enumerate","zip","dict_itemiterator","dict_reverseitemiterator","odict_iterator","itertools.zip_longest","itertools.pairwise"].contains n&&b[0]?==some (rawInt _))=true then _ else _) Q E s;rw[WM (by intro h;rw[hn,Bool.false_and]at h;cases h)];exact WD a))
noncomputable def VQ(K:FR)(a:Addr):It:=
 ⟨λi H=>∃b x,eV K H a b/\b[i]?=some x,λi H x c=>c=H/\∀b,eV K H a b->b[i]?=some x,λi H=>∃b,eV K H a b/\b.length<=i⟩
noncomputable def VP(K:FR)(a:Addr):It:=
 ⟨λi H=>∃b x,iJ K H a b/\b[i]?=some x,λi H x c=>c=H/\∀b,iJ K H a b->b[i]?=some x,λi H=>∃b,iJ K H a b/\b.length<=i⟩
noncomputable def Uw(a:Int)(n:Nat):It:=⟨λi _=>i<n,λi H x b=>b=H/\x=.int (a+i),λi _=>n<=i⟩
def ES{P:Program}{w:World}{K:FR}{R:Expr}(a g:Addr):Turn P w K R (VQ K a) [g] g (λi h=>h.IsListIter g a i) where
 mem:=by simp
 obj:=λi h st b j=>by
  have e:b=g:=by simpa using j
  subst e;have⟨o,e,c,d⟩:=st;exact⟨o,e,λv z=>by rw[d]at z;cases z⟩
 keep:=λi h q st k=>st.at λo e=>k g (by simp) o e
 item:=by
  intro X C y F O i f s N H E I n st A;subst C y F;have⟨Q,x,m,t⟩:=A;have⟨r,rv,p,T⟩:=I.list m;have⟨u,Y,S⟩:=rv.get t;have⟨f0,M,Z,L,J,G⟩:=n g (by simp);apply AaB st p.isList (x:=u) (by simpa using Y) λq l sb=>?_;have I1:Inv X f N H {s with heap:=q}:=I.turned (t':=s.toks) (λb o j e=>(sb.2 b j).trans e) f0 M L J G;have⟨o,e,c,d⟩:=id l;exact⟨u,rfl,D8 (s:={s with heap:=q}) e c d {} ⟨x,H,I1,S,⟨rfl,λys U=>by rw[I.AD U m];exact t⟩,l,λb j=>(n b j).1⟩⟩
 done:=by
  intro X C y F O i f s N H E I n st A;subst C y F;have⟨Q,m,t⟩:=A;have⟨r,rv,p,T⟩:=I.list m;have⟨f0,M,Z,L,J,G⟩:=n g (by simp);have hl:=rv.length;exact AaM (I.ok.hd O) st p.isList (by simp;lia) λq eb=>⟨rfl,I.turned (t':=s.toks) (λb o j e=>eb b o j e) f0 M L J G⟩
 self:=λ_ _ _ _ _ st h=>wpAny_pyIter_listiter st h
def Bu{P:Program}{w:World}{K:FR}{R:Expr}(a j:Addr):Turn P w K R (VP K a) [j] j (λi h=>h.IsTupleIter j a i) where
 mem:=by simp
 obj:=λi h st b l=>by
  have e:b=j:=by simpa using l
  subst e;have⟨o,e,c,d⟩:=st;exact⟨o,e,λv z=>by rw[d]at z;cases z⟩
 keep:=λi h r st k=>st.at λo e=>k j (by simp) o e
 item:=by
  intro X C y F O i f s N H E I q st A;subst C y F;have⟨Q,x,n,t⟩:=A;have⟨g,rv,p,T⟩:=I.tuple n;have⟨u,Y,S⟩:=rv.get t;have⟨f0,M,Z,L,J,G⟩:=q j (by simp);apply wpAny_pyNext_tuple_item st (show s.heap.IsTuple a g.toArray from p) (x:=u) (by simpa using Y) λr m sb=>?_;have I1:Inv X f N H {s with heap:=r}:=I.turned (t':=s.toks) (λb o l e=>(sb.2 b l).trans e) f0 M L J G;have⟨o,e,c,d⟩:=id m;exact⟨u,rfl,D8 (s:={s with heap:=r}) e c d {} ⟨x,H,I1,S,⟨rfl,λys U=>by rw[I.vL U n];exact t⟩,m,λb l=>(q b l).1⟩⟩
 done:=by
  intro X C y F O i f s N H E I q st A;subst C y F;have⟨Q,n,t⟩:=A;have⟨g,rv,p,T⟩:=I.tuple n;have⟨f0,M,Z,L,J,G⟩:=q j (by simp);have hl:=rv.length;exact wpAny_pyNext_tuple_end (I.ok.hd O) st (show s.heap.IsTuple a g.toArray from p) (by simp;lia) λr eb=>⟨rfl,I.turned (t':=s.toks) (λb o l e=>eb b o l e) f0 M L J G⟩
 self:=λ_ _ _ _ _ st h=>wpAny_pyIter_tupleiter st h
def Bv{P:Program}{w:World}{K:FR}{L:Expr}(c:Addr)(g:Int)(n:Nat):Turn P w K L (Uw g n) [c] c (λi h=>IsRangeIter h c (g+(i:Nat)*1) ((n:Int)-(i:Nat)) 1) where
 mem:=by simp
 obj:=λi h st b d=>by
  have e:b=c:=by simpa using d
  subst e;exact⟨_,st,λv z=>by
   have J:Data.fields _=Data.cell v:=z;cases J⟩
 keep:=λi h l st k=>k c (by simp) _ st
 item:=by
  intro X r m u q i a s F H E I j st p;subst r m u;have⟨f0,C,O,A,y,x⟩:=j c (by simp);have W:=Walks.range (prog:=X.prog) (w:=X.w) (I.ok.hd q) c g 1 n;apply W.item i s _ _ p st λv l G N f M=>?_;have⟨t,rfl⟩:=N;have R:Inv X a F H {s with heap:=l,toks:=G}:=I.turned (λb o d e=>M b o (by simpa using d) e) f0 C A y x;apply⟨_,rfl,D8 (s:={s with heap:=l,toks:=G}) (n:="range_iterator") f rfl rfl {} ⟨.int (g+i),H,R,⟨t,?_⟩,⟨rfl,rfl⟩,f,λb d=>(j b d).1⟩⟩;rw[Int.mul_one]
 done:=by
  intro X r m u q i a s F H E I j st p;subst r m u;have⟨f0,C,O,A,y,x⟩:=j c (by simp);exact wpAny_pyNext_range_end (I.ok.hd q) st (by have:n<=i:=p;lia) λl Q=>⟨rfl,I.turned (t':=s.toks) (λb o d e=>Q b o d e) f0 C A y x⟩
 self:=λ_ _ _ _ _ st h=>wpAny_pyIter_rangeiter st h
def HC{d:List (Addr×Obj)}{f:St}{H:Hp}{s:Shared}{R:It->Hp->Prop}{E:Value->Shared->Prop}{a c:Int}{t u v:Tok}{g:Nat}(I:Inv X d f H s)(m:-(2^62)<=a)(l:a<2^62)(k:-(2^62)<=c)(j:c<2^62)
  (q:R (Uw a (c-a).toNat) H):wpAny (model X.prog X.w) X.A (pyIter (.ref s.heap.objs.size)) (VN X d f r R) E {s with heap:=s.heap.push {cls:=.type "range",data:=.fields #[.int a t,.int c u,.int 1 v]},toks:=g}:=by
 apply wpAny_pyIter_range (IsRange.new ..) (small_one m l k j) ?_;have h:Inv X d f H {s with heap:=s.heap.push {cls:=.type "range",data:=.fields #[.int a t,.int c u,.int 1 v]},toks:=g}:=I.kept λb o e=>WC _ e;apply⟨(s.heap.push {cls:=.type "range",data:=.fields #[.int a t,.int c u,.int 1 v]}).objs.size,[(s.heap.push {cls:=.type "range",data:=.fields #[.int a t,.int c u,.int 1 v]}).objs.size],_,_,H,rfl,
  h.kept (t':=g) λb o e=>WC _ e,Bv _ a (c-a).toNat,?_,λb i=>?_,q⟩
 ·have p:a+((0:Nat):Int)*1=a:=by simp
  have n:(((c-a).toNat:Nat):Int)-((0:Nat):Int)=Builtin.Range.rangeSize a c 1:=by rw[rangeSize_one];split <;> lia
  show IsRangeIter _ _ (a+((0:Nat):Int)*1) ((((c-a).toNat:Nat):Int)-((0:Nat):Int)) 1;rw[p,n];exact WZ _ rfl
 ·have e:b=(s.heap.push {cls:=.type "range",data:=.fields #[.int a t,.int c u,.int 1 v]}).objs.size:=by simpa using i
  subst e;exact h.vw (WJ _) (h.a9.fresh (WJ _))
def SK(c:TA):TI:=λa H R=>c a H λb d=>∃j:Int,b=[.int j]/\-(2^62)<=j/\j<2^62/\R (Uw 0 j.toNat) d
def Ft{a:Expr}{d:TA}{p pos:Pos}(m:Gl X "range")(hm:X.mg "range"=none)(n:PA X [a] d)(l:starEach [a] X.env=[(false,eval a X.env)]:=by rfl):PI X v (.Call (.Name "range" p) [a] [] pos) (SK d):=by
 intro b s f H R I h;apply Call_ (fZ I m hm boot_range (XH (cQ (n pos b s f H _ I h) λus s1 u9=>?_) l rfl));have⟨u,H1,o,i,c⟩:=u9;have⟨j,e,c,k,q⟩:=c;subst e;cases i with
 |cons r g=>
  cases g;have⟨t,rfl⟩:=r;exact call_range_1 (HC o (by simp) (Zv _) c k (by simpa using q))
def Ry(f:TI)(g:TG)(h:TS):TS:=λD a H=>f a H λJ k=>∃W:Nat->Nat->St->Hp->Prop,(∃m,W 0 m a k)/\∀i m a H,W i m a H->
 (J.stop i H/\D.nx a H)\/(J.go i H/\∃N:St->Hp->Prop,(∀b c,N b c->∃e,e<m/\W (i+1) e b c)/\∀x c,J.Ra i H x c->g x a c λd j=>h {D with nx:=N,ct:=N,bk:=D.nx} d j)
noncomputable def sS(a:List Addr)(h:Heap):List (Addr×Obj):=a.filterMap λb=>(h.get? b).map λo=>(b,o)
def iz(a:b∈c)(e:h.get? b=some o):(b,o)∈sS c h:=ZW.mpr ⟨b,a,by rw[e];rfl⟩
def Fz(hp:p∈sS c h):p.1∈c/\h.get? p.1=some p.2:=by
 have⟨b,a,e⟩:=ZW.mp hp;cases q:h.get? b with
 |none=>rw[q]at e;cases e
 |some o=>
  rw[q]at e;have d:(b,o)=p:=Option.some.inj e;subst d;exact⟨a,q⟩
def Inv.pinned(I:Inv X pins σ H s)(h:∀b∈c,gd X pins H b)(g:∀b∈c,∃o,s.heap.get? b=some o/\∀v,o.data≠.cell v):Inv X (pins++sS c s.heap) σ H s:=
 I.DN λp hp=>(Xw.mp hp).elim (λz=>I.pin p (Xx _ z)) λz=>by
  have⟨a,e⟩:=Fz z;have⟨f0,j,i,_⟩:=h p.1 a;have⟨o,f,d⟩:=g p.1 a;rw[e]at f;cases f;exact⟨e,f0,j,i,d⟩
def Inv.lX(I:Inv X (pins++pl) σ H s):Inv X pins σ H s:=I.DN λp hp=>I.pin p (Xx _ (Aay _ hp))
def OP(hp:PassesOwn (model X.prog X.w) X.A X.env X.xe)(hc:X.calm=true)(hi:PI X tg iter wi)(hg:PG X tg g)(p:Bm X body tb)(hs:∀x,foldedSetIterable iter X.env x=pure x:=by intro _;rfl):PS X (.For tg iter body [] pos) (Ry wi g tb):=by
 intro c s Y H D I h;apply wpAny_For (cQ (hi c s Y H _ I h) λv s1 h1=>cQ h1 λitv s2 h2=>?_) hs;obtain⟨it,M,Z,J,H2,e,I2,T,Q,f2,W,⟨m0,w0⟩,E⟩:=h2;subst e;have l:∀{y:Hp},(∀b∈M,y b=none)->∀b∈M,gd X c y b:=λhn b p=>⟨hn b p,(f2 b p).2⟩;apply codeAny_forLoop_any (λn s'=>∃i k y,Inv X c k y s'/\Z i s'.heap/\(∀b∈M,y b=none)/\W i n k y) ?_ m0 ⟨0,Y,H2,I2,Q,λb p=>(f2 b p).1,w0⟩;rintro n s3 ⟨i,j,O,I3,F,L,w3⟩;rcases E i n j O w3 with⟨stop,qn⟩ |⟨go,N,hN,step⟩
 ·apply Zb hp (cQ (T.done X rfl rfl rfl hc i c s3 j O X.xe I3 (l L) F stop) λr s4 u9=>?_);have⟨hr,I4⟩:=u9;subst hr;exact AaG ⟨j,O,I4,qn⟩
 ·apply Zb hp (cQ (T.item X rfl rfl rfl hc i c s3 j O X.xe I3 (l L) F go) λr s4 u9=>?_);have⟨u,hr,h4⟩:=u9;subst hr;apply Zb hp (cQ h4 λ_ s5 u9=>?_);have⟨x,H5,I5,r5,y5,C,S⟩:=u9;have U:=I5.pinned (l S) (T.obj _ _ C);apply Zb hp (cQ (hg _ s5 j H5 x u _ U r5 (step x H5 y5)) λ_ s6 u9=>?_);have⟨P,H6,I6,q6⟩:=u9;apply Zb hp (cQ (p _ s6 P H6 _ I6 q6) λf R z=>?_);have again:∀{a:St} {t:Hp},Inv X (c++sS M s5.heap) a t R->N a t->∃m,m<n/\∃i k y,Inv X c k y R/\Z i R.heap/\(∀b∈M,y b=none)/\W i m k y:=λ{a t} q G=>by
   have⟨m',hm,w7⟩:=hN a t G;apply⟨m',hm,i+1,a,t,q.lX,T.keep _ _ _ C λb p o e=>(q.pin (b,o) (Xx _ (Xx _ (iz p e)))).1,λb p=>?_,w7⟩;have⟨o,e,d⟩:=T.obj _ _ C b p;exact(q.pin (b,o) (Xx _ (Xx _ (iz p e)))).2.1
  cases f with
  |next=>have⟨a,t,q,G⟩:=z;exact again q G
  |cont=>have⟨a,t,q,G⟩:=z;exact again q G
  |brk=>have⟨a,t,q,z⟩:=z;exact⟨a,t,q.lX,z⟩
  |ret v=>have⟨x7,a,t,q,r7,z⟩:=z;exact⟨x7,a,t,q.lX,r7,z⟩
abbrev R2:=V->V->Hp->VK->Prop
def qN(X:Cx)(f:Value->Value->Sem Value)(r:R2):Prop:=
 ∀(a:List (Addr×Obj)) (s:Shared) (b:St) (H:Hp) (x y:V) (v u:Value) (Q:VK),Inv X a b H s->RelV x v->RelV y u->r x y H Q->
  wpAny (model X.prog X.w) X.A (f v u) (EP X a b Q) X.xe s
def TJ(X:Cx)(f:Value->Sem Value)(r:V->Hp->VK->Prop):Prop:=
 ∀(a:List (Addr×Obj)) (s:Shared) (b:St) (H:Hp) (x:V) (v:Value) (Q:VK),Inv X a b H s->RelV x v->r x H Q->
  wpAny (model X.prog X.w) X.A (f v) (EP X a b Q) X.xe s
def eW(X:Cx)(f:Value)(r:List V->Hp->VK->Prop):Prop:=
 ∀(a:List (Addr×Obj)) (s:Shared) (b:St) (H:Hp) (c:List V) (us:List Value) (Q:VK),Inv X a b H s->Vals c us->r c H Q->
  wpAny (model X.prog X.w) X.A (call f us) (EP X a b Q) X.xe s
def VM(X:Cx)(r:V->Hp->(Bool->Hp->Prop)->Prop):Prop:=
 ∀(a:List (Addr×Obj)) (s:Shared) (b:St) (H:Hp) (x:V) (v:Value) (Q:Bool->Hp->Prop),Inv X a b H s->RelV x v->r x H Q->
  wpAny (model X.prog X.w) X.A (truthy v) (TP X a b Q) X.xe s
def Ru(r:R2)(c b:TE):TE:=λa H Q=>c a H λx e=>b a e λy d=>r x y d Q
def Wf(r:V->Hp->VK->Prop)(b:TE):TE:=λa H Q=>b a H λx c=>r x c Q
def rI(C:Int->Int->Prop)(g:Int->Int->V):R2:=λx y H Q=>∃i j,x=.int i/\y=.int j/\C i j/\Q (g i j) H
def M0(g:Int->Int->V):R2:=λx y H Q=>∃i j,x=.int i/\y=.int j/\Q (g i j) H
def rU(g:Int->V):V->Hp->VK->Prop:=λx H Q=>∃i,x=.int i/\Q (g i) H
def QH(t:PE X a m)(r:PE X b l){c:List (Addr×Obj)}{s:Shared}{d:St}{H:Hp}{R:V->V->Hp->Prop}(I:Inv X c d H s)
  (h:m d H λx k=>l d k λy e=>R x y e) {Q:Value->Shared->Prop} {f:Value->Value->Sem Value}
  (hf:∀v u j x y e,Inv X c d e j->RelV x v->RelV y u->R x y e->wpAny (model X.prog X.w) X.A (f v u) Q X.xe j):
  wpAny (model X.prog X.w) X.A (eval a X.env) (λv i=>wpAny (model X.prog X.w) X.A (eval b X.env) (λu g=>wpAny (model X.prog X.w) X.A (f v u) Q X.xe g) X.xe i) X.xe s:=by
 apply cQ (t c s d H _ I h) λv s1 u9=>?_;have⟨x,k,C,o,q⟩:=u9;apply cQ (r c s1 d k _ C q) λu j u9=>?_;have⟨y,e,z,n,p⟩:=u9;exact hf v u j x y e z o n p
def M1{d:Operator}{r:R2}(l:qN X (binaryOp d) r)(n:PE X a g)(m:PE X b f):PE X (.BinOp a d b pos) (Ru r g f):=by
 intro c s e H Q I h;exact wpAny_BinOp (QH n m I h λv u i x y p o k j q=>l c i e p x y v u Q o k j q)
def Sf(g:TJ X (unaryOp op) r)(i:PE X a d):PE X (.UnaryOp op a pos) (Wf r d):=by
 intro b s c H Q I h;exact UnaryOp_ (cQ (i b s c H _ I h) λv s1 ⟨x,H1,j,e,f⟩=>g b s1 c H1 x v Q j e f)
def Us{f:Value->Value->Sem Value}{C:Int->Int->Prop}{g:Int->Int->Int}
  (rule:∀(i j:Int)(t u:Tok)(s:Shared)(Q:Value->Shared->Prop)(E:Value->Shared->Prop),C i j->Q (.int (g i j) s.toks) {s with toks:=s.toks+1}->wpAny (model X.prog X.w) X.A (f (.int i t) (.int j u)) Q E s):
  qN X f (rI C λi j=>.int (g i j)):=by
 intro a s k H x y v u Q I d c h;have⟨i,j,rfl,rfl,e,q⟩:=h;have⟨t,rfl⟩:=d;have⟨b,rfl⟩:=c;exact rule i j t b s _ _ e ⟨.int (g i j),H,I.tok _,⟨_,rfl⟩,q⟩
def Sr{f:Value->Value->Sem Value}{g:Int->Int->Int}
  (rule:∀(i j:Int)(t u:Tok)(s:Shared)(Q:Value->Shared->Prop)(E:Value->Shared->Prop),Q (.int (g i j) s.toks) {s with toks:=s.toks+1}->wpAny (model X.prog X.w) X.A (f (.int i t) (.int j u)) Q E s):
  qN X f (M0 λi j=>.int (g i j)):=by
 intro a s e H x y v u Q I d c h;have⟨i,j,rfl,rfl,q⟩:=h;have⟨t,rfl⟩:=d;have⟨b,rfl⟩:=c;exact rule i j t b s _ _ ⟨.int (g i j),H,I.tok _,⟨_,rfl⟩,q⟩
def Pn{f:Value->Value->Sem Value}{g:Int->Int->Bool}
  (rule:∀(i j:Int)(t u:Tok)(s:Shared)(Q:Value->Shared->Prop)(E:Value->Shared->Prop),Q (.bool (g i j)) s->wpAny (model X.prog X.w) X.A (f (.int i t) (.int j u)) Q E s):
  qN X f (M0 λi j=>.bl (g i j)):=by
 intro a s e H x y v u Q I d c h;have⟨i,j,rfl,rfl,q⟩:=h;have⟨t,rfl⟩:=d;have⟨b,rfl⟩:=c;exact rule i j t b s _ _ ⟨.bl (g i j),H,I,rfl,q⟩
def VS(i j:Int):Prop:=0<=j/\j<=1000000/\i.natAbs<2^64
def QY(i j:Int):Prop:=(-(2^64)<i/\i<2^64)\/(-(2^64)<j/\j<2^64)
def QY.ok(h:QY i j):IntMulOk i j:=by
 rcases h with⟨b,a⟩ |⟨b,a⟩
 ·exact .of_left (intBits_le_64 b a)
 ·exact .of_right (intBits_le_64 b a)
def Pm:qN X (binaryOp .Add) (M0 λi j=>.int (i+j)):=Sr λ_ _ _ _ _ _ _ q=>add_int q
def Pe:qN X (binaryOp .Sub) (M0 λi j=>.int (i-j)):=Sr λ_ _ _ _ _ _ _ q=>sub_int q
def Pj:qN X (binaryOp .Mult) (rI QY λi j=>.int (i*j)):=Us λ_ _ _ _ _ _ _ a q=>mul_int q a.ok
def Pk:qN X (binaryOp .Mod) (rI (λ_ j=>0<j) λi j=>.int (i % j)):=Us λi j _ _ _ _ _ a q=>by
 have b:(0:Int)<j:=a;exact mod_int' () (by rw[Int.fmod_eq_emod_of_nonneg i (ZU b)];exact q)
def Ph:qN X (binaryOp .Pow) (rI VS λi j=>.int (i^j.toNat)):=Us λ_ _ _ _ _ _ _ a q=>pow_int_small a.1 a.2.1 a.2.2 q
def We{f:Value->Sem Value}{g:Int->Int}
  (rule:∀(i:Int)(t:Tok)(s:Shared)(Q:Value->Shared->Prop)(E:Value->Shared->Prop),Q (.int (g i) s.toks) {s with toks:=s.toks+1}->wpAny (model X.prog X.w) X.A (f (.int i t)) Q E s):
  TJ X f (rU λi=>.int (g i)):=by
 intro a s c H x v Q I b h;have⟨i,rfl,q⟩:=h;have⟨t,rfl⟩:=b;exact rule i t s _ _ ⟨.int (g i),H,I.tok _,⟨_,rfl⟩,q⟩
def NI:TJ X (unaryOp .USub) (rU λi=>.int (-i)):=We λ_ _ _ _ _ q=>neg_int q
def Ji(I:Inv X pins σ H s)(q:Q (.bl k) H)(e:k=a):EP X pins σ Q (.bool a) s:=by
 subst e;exact⟨.bl k,H,I,rfl,q⟩
def Sn:qN X (compareOp .Lt) (M0 λi j=>.bl (decide (i<j))):=Pn λ_ _ _ _ _ _ _ q=>lt_int q
def So:qN X (compareOp .Gt) (M0 λi j=>.bl (decide (j<i))):=Pn λ_ _ _ _ _ _ _ q=>gt_int q
def Sq:qN X (compareOp .GtE) (M0 λi j=>.bl (decide (j<=i))):=Pn λ_ _ _ _ _ _ _ q=>ge_int q
def Pl:qN X (compareOp .Is) (λx y H Q=>y=.bg/\Q (.bl (decide (x=.bg))) H):=by
 intro b s d H x y v u Q I a c h;have⟨rfl,q⟩:=h;cases c;apply is_none_gen (Ji I q ?_);cases x <;> first
  |(cases a;rfl)
  |(have⟨t,rfl⟩:=a;rfl)
def Lx:qN X (compareOp .IsNot) (λx y H Q=>y=.bg/\Q (.bl (!decide (x=.bg))) H):=by
 intro b s d H x y v u Q I a c h;have⟨rfl,q⟩:=h;cases c;apply isnot_none_gen (Ji I q ?_);cases x <;> first
  |(cases a;rfl)
  |(have⟨t,rfl⟩:=a;rfl)
def oN(b:Expr)(h:op≠.In:=by decide)(a:op≠.NotIn:=by decide):behindInMarks op b=false:=by
 have d:(op==CmpOp.In)=false:=by cases op <;> first |rfl |exact absurd rfl h
 have c:(op==CmpOp.NotIn)=false:=by cases op <;> first |rfl |exact absurd rfl a
 cases b <;> simp[behindInMarks,d,c]
def Lr{d:CmpOp}{r:R2}(l:qN X (compareOp d) r)(n:PE X a g)(m:PE X b f)(hm:behindInMarks d b=false):PE X (.Compare a [d] [b] pos) (Ru r g f):=by
 intro c s e H Q I h;exact wpAny_Compare1 (QH n m I h λv u i x y p o k j q=>l c i e p x y v u Q o k j q) hm
def Rp(t:TE):TT:=λa H Q=>t a H λx b=>∃k,x=.bl k/\Q k b
def K7(q:qN X (compareOp op) r)(w:PE X a i)(t:PE X b g)(hm:behindInMarks op b=false):PT X (.Compare a [op] [b] pos) (Rp (Ru r i g)):=by
 intro d s f H Q I h;apply wpAny_isTrue_Compare1 (cQ (w d s f H _ I h) λv s1 ⟨x,H1,E,m,p⟩=>cQ (t d s1 f H1 _ E p) λu s2 ⟨y,G,C,l,o⟩=>
  cQ (q d s2 f G x y v u _ C m l o) λc s3 ⟨z,F,A,j,k,e,n⟩=>?_) hm
 subst e;cases j;exact Zi ⟨F,A,n⟩
def QO(K:FR)(x:V)(H:Hp)(k:Bool):Prop:=
 match x with
 |.bg=>k=false
 |.bl b=>k=b
 |.int i=>k=(i !=0)
 |.str y=>y.length<=sizeLine/\k=((y.length:Int) !=0)
 |.byt y=>y.size<=sizeLine/\k=((y.size:Int) !=0)
 |.ref p=>(∃a,eV K H p a/\k=!a.isEmpty)\/(∃a,iJ K H p a/\k=!a.isEmpty)\/∃c,H p=some (.dK c)/\k=!c.isEmpty
 |_=>False
def Cr(r:KV a b):(!b.isEmpty)=!a.isEmpty:=by
 cases r <;> rfl
def tI(r:Vals xs a):(!a.toArray.isEmpty)=!xs.isEmpty:=by
 cases r <;> simp
def lG:(sizeLine:Nat)<2^63:=by rw[Yv];decide
def NO:VM X (λx H Q=>∃k,QO X.K x H k/\Q k H):=by
 intro o s C H x v Q I g h;have⟨k,e,q⟩:=h;have hl:=lG;have E:sizeLine=16777216:=Yv;cases x with
 |bg=>
  cases g;have a:k=false:=e;subst a;exact truthy_none ⟨H,I,q⟩
 |bl b=>
  cases g;have a:k=b:=e;subst a;exact Zi ⟨H,I,q⟩
 |int i=>
  have⟨t,rfl⟩:=g;have a:k=(i !=0):=e;subst a;exact PySem.P.truthy_int ⟨H,I,q⟩
 |str y=>
  have⟨t,rfl⟩:=g;obtain⟨z,a⟩:y.length<=sizeLine/\k=((y.length:Int) !=0):=e;subst a;exact PySem.P.truthy_str () ⟨H,I.tok _,q⟩
 |byt y=>
  have⟨t,rfl⟩:=g;obtain⟨z,a⟩:y.size<=sizeLine/\k=((y.size:Int) !=0):=e;subst a;exact PySem.W.truthy_bytes (WL z {}) ⟨H,I.tok _,q⟩
 |ref p=>
  cases g;have a:(∃f,eV X.K H p f/\k=!f.isEmpty)\/(∃f,iJ X.K H p f/\k=!f.isEmpty)\/∃c,H p=some (.dK c)/\k=!c.isEmpty:=e;rcases a with⟨f,j,a⟩ |⟨f,j,a⟩ |⟨c,j,a⟩
  ·subst a;have⟨n,r,pl,u⟩:=I.list j;have d:=r.length;exact wpAny_truthy_list pl.isList (by simp only[W7];lia) ⟨H,I.tok _,by rw[tI r];exact q⟩
  ·subst a;have⟨n,r,pl,u⟩:=I.tuple j;have d:=r.length;exact truthy_tuple pl (by simp only[W7];lia) ⟨H,I.tok _,by rw[tI r];exact q⟩
  ·subst a;obtain⟨u,A,l,r,m⟩:c.length<=sizeLine/\(p==sysModules)=false/\∃l,KV c l/\s.heap.DictOf (bo X.prog X.w) p l:=I.a9 p _ j;have d:c.length=l.length:=Paired.length r;exact wpAny_truthy_dict A m () ⟨H,I.tok _,by rw[Cr r];exact q⟩
 |_=>exact(show False from e).elim
def HP(l:PE X a f)(j:∀b,isTrue a X.env b=(do let v<-b;standAt a.pos;holding [v] (truthy v))):
  PT X a (λd H Q=>f d H λx e=>∃k,QO X.K x e k/\Q k e):=by
 intro c s d H Q I h;exact isTrue_plain (cQ (l c s d H _ I h) λv s1 ⟨x,H1,m,g,i⟩=>NO c s1 d H1 x v Q m g i) (j _)
def B6:qN X (binaryOp .Add) (λx y H Q=>∃i j,x=.str i/\y=.str j/\i.length+j.length<=sizeLine/\Q (.str (i++j)) H):=by
 intro a s f H x y v u Q I d c h;have⟨i,j,rfl,rfl,e,q⟩:=h;have⟨t,rfl⟩:=d;have⟨b,rfl⟩:=c;exact add_str (λb g=>⟨.str (i++j),H,I.tok _,⟨_,rfl⟩,q⟩) e
def vals1(r:Vals [x] us):∃u,us=[u]/\RelV x u:=by
 cases r with
 |cons b a=>cases a;exact⟨_,rfl,b⟩
def vals2(r:Vals [x,y] us):∃u a,us=[u,a]/\RelV x u/\RelV y a:=by
 cases r with
 |cons e d=>
  cases d with
  |cons c b=>cases b;exact⟨_,_,rfl,e,c⟩
def JO:eW X (.builtin "abs") (λa H Q=>∃i,a=[.int i]/\Q (.int (if i<0 then -i else i)) H):=by
 intro b s c H a us Q I r h;have⟨i,rfl,q⟩:=h;have⟨u,rfl,t,rfl⟩:=vals1 r;exact call_abs_int λu d=>⟨.int (if i<0 then -i else i),H,I.tok _,⟨_,rfl⟩,q⟩
def Gn(c:X.calm=true):eW X (.builtin "max") (λa H Q=>∃i j,a=[.int i,.int j]/\Q (.int (if j > i then j else i)) H):=by
 intro b s d H a us Q I r h;have⟨i,j,rfl,q⟩:=h;obtain⟨u,e,rfl,⟨t,rfl⟩,⟨g,rfl⟩⟩:=vals2 r;apply max_two_ints (I.ok.hd c) λl f k=>⟨_,H,I.kept k,?_,q⟩
 by_cases hj:j > i
 ·rw[WH hj,WH hj];exact⟨_,rfl⟩
 ·rw[WM hj,WM hj];exact⟨_,rfl⟩
def Gm(c:X.calm=true):eW X (.builtin "min") (λa H Q=>∃i j,a=[.int i,.int j]/\Q (.int (if j<i then j else i)) H):=by
 intro b s d H a us Q I r h;have⟨i,j,rfl,q⟩:=h;obtain⟨u,e,rfl,⟨t,rfl⟩,⟨g,rfl⟩⟩:=vals2 r;apply min_two_ints (I.ok.hd c) λl f k=>⟨_,H,I.kept k,?_,q⟩
 by_cases hj:j<i
 ·rw[WH hj,WH hj];exact⟨_,rfl⟩
 ·rw[WM hj,WM hj];exact⟨_,rfl⟩
structure QV(h:Heap)(x dx C:Addr)(mA:Str->Option Value):Prop where
 obj:h.get? x=some (PySem.W.instObj C dx)
 ns:h.Ns1 dx mA
 ne:dx≠x
def FF{h:Heap}{f:Addr}{d:Str->Option Value}(n:h.Ns1 f d):∃c,h.get? f=some c/\∀name,PySem.W.lookIn name c=some (d name):=by
 have⟨o,es,l,i,hd,j,_,hm⟩:=n;apply⟨o,i,λname=>?_⟩;have e:=hm name;unfold nsFind findBy at e;rw[<-Array.find?_toList]at e;unfold PySem.W.lookIn;rw[hd];dsimp only
 split
 ·rename_i y q;rw[q]at e;exact congrArg some e
 ·rename_i q;rw[q]at e;have a:es.toList.any (·.refKey)=false:=by
   rw[List.any_eq_false];intro y g;have⟨z,t,b⟩:=j y (Yz.mp g);simp[DictEntry.refKey,b]
  have k:¬es.toList.any (·.refKey)=true:=by rw[a];exact Xi
  rw[WM k];exact congrArg some e
def QV.look(I:QV h x d C b):∃a,PySem.W.InstAt h x (PySem.W.instObj C d) C (some a)/\∀name,PySem.W.lookIn name a=some (b name):=
 let⟨a,c,hl⟩:=FF I.ns
 ⟨a,⟨I.obj,rfl,rfl,c⟩,hl⟩
section
variable {prog:Program} {w:World} {A:Around} {E:Value->Shared->Prop} {s:Shared} {K:FR} {x dx C f:Addr} {mA:Str->Option Value} {name:Str} {v:Value}
end
def pv.some_of(r:pv (some v) o):∃u,o=some u/\RelV v u:=by
 cases o with
 |none=>exact(show False from r).elim
 |some u=>exact⟨u,rfl,r⟩
def LW(a9:gQ P w H h)(e:H a=some (.ins C c fs)):∃b,QV h a c C b/\(∀f,pv (fs.lookup f) (b f))/\PySem.Within b (fs.map (·.1))/\fs.length<=1000/\H c=some (.own a):=by
 have⟨d,z,ne,ob,b,n,r,q⟩:=(show cp P w H h a (.ins C c fs) from a9 a _ e);exact⟨b,⟨ob,n,ne⟩,r,q,z,d⟩
structure VR(K:FR)(C:Addr):Prop where
 pg:PySem.W.plainGet K C Str.empty=true
 hd:PySem.W.hasDictIn K C=true
 po:PySem.W.plainOver K C=true
 sa:PySem.W.findIn K (.ref C) "__setattr__"=some (some (.builtin "object.__setattr__"))
def VR.get{K:FR}{C:Addr}(c:VR K C)(f:Str):PySem.W.plainGet K C f=true:=c.pg
inductive nR(K:FR)(H:Hp):V->Value->Prop where
 |bg:nR K H .bg (.type "NoneType")
 |bl (x:Bool):nR K H (.bl x) (.type "bool")
 |int (i:Int):nR K H (.int i) (.type "int")
 |str (x:Str):nR K H (.str x) (.type "str")
 |Q4 (x:UInt64):nR K H (.Q4 x) (.type "float")
 |lst {a:Addr} {xs:List V} (e:H a=some (.lst xs)):nR K H (.ref a) (.type "list")
 |Eh {a:Addr} {o:Obj} {xs:List V} (e:H a=some (.Eh o (.lst xs))):nR K H (.ref a) (.type "list")
 |tup {a:Addr} {xs:List V} (e:H a=some (.tup xs)):nR K H (.ref a) (.type "tuple")
 |dK {a:Addr} {kvs:List (Key×V)} (e:H a=some (.dK kvs)):nR K H (.ref a) (.type "dict")
 |dT {a:Addr} {kvs:List (List Key×V)} (e:H a=some (.dT kvs)):nR K H (.ref a) (.type "dict")
 |ins {a C dx:Addr} {fs:List (Str×V)} (e:H a=some (.ins C dx fs)) (cl:VR K C) (ha:PySem.W.findIn K (.ref C) "__class__"=some (some (.builtin "object.__class__")))
   (hn:PySem.W.specialIn K (.builtin "object.__class__") "__get__"=some (some (.builtin "getset_descriptor.__get__"))) (htk:PySem.W.takesIn K (.builtin "object.__class__")=some true)
   (hm:PySem.W.mroIn K C (.type "object")=some true):nR K H (.ref a) (.ref C)
def FO(I:Inv X pins σ H s)(d:RelV x u)(ty:nR X.K H x t)(e:PySem.W.kitOne X.K t c=some b)(h:∀r,Q (.bool b) {s with toks:=r}):
  wpAny (model X.prog X.w) A (call (.builtin "isinstance") [u,c]) Q E s:=by
 cases ty with
 |bg=>cases(show u=Value.none from d);exact X8 PySem.W.kitx_none I.wL True.intro e (λz=>nomatch z) h
 |bl y=>cases(show u=Value.bool y from d);exact X8 PySem.W.kitx_bool I.wL True.intro e (λz=>nomatch z) h
 |int i=>have⟨t,q⟩:=(show ∃t,u=Value.int i t from d);cases q;exact X8 PySem.W.kitx_int I.wL True.intro e (λz=>nomatch z) h
 |str y=>have⟨t,q⟩:=(show ∃t,u=Value.str y t from d);cases q;exact X8 PySem.W.kitx_str I.wL True.intro e (λz=>nomatch z) h
 |Q4 y=>have⟨t,q⟩:=(show ∃t,u=Value.float y t from d);cases q;exact X8 PySem.W.kitx_float I.wL True.intro e (λz=>nomatch z) h
 |@lst a k f=>
  cases(show u=Value.ref a from d);have⟨_,_,n,_,g⟩:=(show cp X.prog X.w H s.heap a (.lst k) from I.a9 a _ f);exact X8 PySem.W.kitx_list I.wL ⟨_,g,rfl⟩ e (λz=>nomatch z) h
 |@Eh a ob k f=>
  cases(show u=Value.ref a from d);have⟨_,_,_,n,_,g⟩:=(show cp X.prog X.w H s.heap a (.Eh ob (.lst k)) from I.a9 a _ f);exact X8 PySem.W.kitx_list I.wL ⟨_,g,rfl⟩ e (λz=>nomatch z) h
 |@tup a k f=>
  cases(show u=Value.ref a from d);have⟨_,_,_,p⟩:=(show cp X.prog X.w H s.heap a (.tup k) from I.a9 a _ f);have⟨o,g,l,_⟩:=p;exact X8 PySem.W.kitx_tuple I.wL ⟨o,g,l⟩ e (λz=>nomatch z) h
 |@dK a j f=>
  cases(show u=Value.ref a from d);have⟨_,_,G,_,p⟩:=(show cp X.prog X.w H s.heap a (.dK j) from I.a9 a _ f);have⟨o,es,F,g,l,_⟩:=p;exact X8 PySem.W.kitx_dict I.wL ⟨o,g,l.1⟩ e (λz=>nomatch z) h
 |@dT a j f=>
  cases(show u=Value.ref a from d);have⟨_,_,k,_,o,es,F,g,l,_⟩:=(show cp X.prog X.w H s.heap a (.dT j) from I.a9 a _ f);exact X8 PySem.W.kitx_dict I.wL ⟨o,g,l.1⟩ e (λz=>nomatch z) h
 |@ins a C N fs f cl v hn m hm=>
  cases(show u=Value.ref a from d);have⟨M,O,_⟩:=LW I.a9 f;have⟨L,J,_⟩:=O.look;exact X8 (PySem.W.kitx_own (cl.get _) cl.hd v hn m hm) I.wL J e (λz=>nomatch z) h
structure fh(k:Nat)(A:Around):Prop where
 hd:A.handled=none
 dp:A.depth+3*k+5<recursionLimit
 un:A.units+16*k+200<cLine
def MX{a k c d x L:Nat}(b:x<=c)(h:a+c*(k+1)+d<L):a+x+c*k+d<L:=by rw[Nat.mul_succ]at h;lia
def fh.mono(r:fh k A)(h:j<=k):fh j A:=⟨r.hd,Xj (Aaw (Yb (AaF 3 h) _) 5) r.dp,Xj (Aaw (Yb (AaF 16 h) _) 200) r.un⟩
theorem fh.deeper(r:fh (k+1) A)(env:Env):fh k (A.deeper env):=
 ⟨r.hd,MX (x:=1) {} r.dp,MX (x:=3) {} r.un⟩
theorem fh.depth(r:fh k A):A.depth<recursionLimit:=by have:=r.dp;lia
theorem fh.units(r:fh k A):A.units+64<cLine:=Xj (WL (Yb (by decide:64<=200) _) (Aaw (Xh _ _) 200)) r.un
def UH:TA:=λ_ H Q=>Q [] H
def RA(c:TE)(tr:TA):TA:=λa H Q=>c a H λx e=>tr a e λb d=>Q (x::b) d
def ye:PA X [] UH:=λ_ _ _ _ H Q I h=>Abe ⟨[],H,I,.nil,h⟩
def qZ(k:PE X e c)(hr:PA X es t)(j:starEach (e::es) X.env=(false,eval e X.env)::starEach es X.env:=by rfl):PA X (e::es) (RA c t):=by
 intro pos a s b H Q I h;rw[j];show wpAny _ _ (spliced ((false,eval e X.env)::backTo pos (starEach es X.env))) _ _ s;apply Aa4 (cQ (k a s b H _ I h) λu s1 u9=>?_);have⟨x,H1,m,f,i⟩:=u9;exact cQ (hr pos a s1 b H1 _ m i) λus s2 ⟨xs,n,l,d,g⟩=>⟨x::xs,n,l,.cons f d,g⟩
def UE(t:TA):TE:=λc H Q=>t c H λa b=>a.length<=sizeLine/\∀p,b p=none->Q (.ref p) (upd b p (.tup a))
def UJ(t:TA):TE:=λc H Q=>t c H λa b=>a.length<=sizeLine/\∀p,b p=none->Q (.ref p) (upd b p (.lst a))
def OX{f}(h:PA X es t):PE X (.Tuple es f pos) (UE t):=by
 intro a s d H Q I g;apply wpAny_Tuple_spliced (cQ (h pos a s d H _ I g) λus s1 ⟨xs,H1,c,r,z,q⟩=>⟨by rw[<-r.length];exact z,?_⟩);have i:H1 s1.heap.objs.size=none:=c.a9.fresh (WJ _);apply⟨.ref s1.heap.objs.size,upd H1 s1.heap.objs.size (.tup xs),c.laid (t':=s1.toks) (λb u e=>WC _ e) (WJ _) ?_,rfl,q _ i⟩;exact⟨z,us,r,⟨_,WZ _ rfl,rfl,⟨_,rfl⟩,rfl⟩⟩
def O3(h:PA X es t):PE X (.List es pos) (UJ t):=by
 intro a s d H Q I f;apply wpAny_List_spliced (cQ (h pos a s d H _ I f) λus s1 ⟨xs,H1,c,r,z,q⟩=>⟨by rw[<-r.length];exact z,?_⟩);have g:H1 s1.heap.objs.size=none:=c.a9.fresh (WJ _);apply⟨.ref s1.heap.objs.size,upd H1 s1.heap.objs.size (.lst xs),c.laid (t':=s1.toks) (λb u e=>WC _ e) (WJ _) ?_,rfl,q _ g⟩;exact⟨z,us,0,r,WZ _ rfl⟩
abbrev Sp:=List V->Hp->VK->XK->Prop
abbrev MN:=List Env->Hp->Shared->XK->Value->Shared->Prop
structure ML(P:Program)(w:World)(K:FR)(mg:Str->Option Value)(base:Heap)(A:Around)(outer:List Env)(s:Shared)(H:Hp):Prop where
 frames:A.frames=some outer
 mod:Mod K mg base
 bs:∀b o,base.get? b=some o->s.heap.get? b=some o/\H b=none
 Nn:base.objs.size<=s.heap.objs.size
 tQ:s.heap.FunFrames base outer
 Q3:∀b∈GF outer,H b=none
 a9:gQ P w H s.heap
 bare:AllBare s.gens
def CE(outer:List Env)(P:Program)(w:World)(H:Hp)(s:Shared)(Q:VK)(u:Value)(a:Shared):Prop:=
 ∃v b,a.os=s.os/\AllBare a.gens/\Un (GF outer) [] H b s.heap a.heap/\gQ P w b a.heap/\RelV v u/\Q v b
def CR(b:MN)(outer:List Env)(P:Program)(w:World)(H:Hp)(s:Shared)(Q:VK)(E:XK)(r:Result)(a:Shared):Prop:=
 match r with
 |.ok (.ret u)=>CE outer P w H s Q u a
 |.ok _=>False
 |.error e=>b outer H s E e a
structure gf(P:Program)(w:World)(K:FR)(mg:Str->Option Value)(base:Heap)(CX:MN)(k:Nat)(f:Addr)(fd:FuncData)(ps:List Str)(sp:Sp):Prop where
 len:∀vs H Q E,sp vs H Q E->vs.length=ps.length
 run:∀(A:Around)(outer:List Env)(s:Shared)(H:Hp)(args:Args)(us:List Value)(vs:List V)(Q:VK)(E:XK),fh k A->ML P w K mg base A outer s H->BindsTo s fd args (ps.zip us)->Vals vs us->sp vs H Q E->
  codeAny (model P w) A (.call (.ref f) args) (CR CX outer P w H s Q E) s
def gf.imp{P:Program}{w:World}{K:FR}{mg:Str->Option Value}{base:Heap}{e:MN}{k:Nat}{f:Addr}{d:FuncData}{c:List Str}{sp b:Sp}(F:gf P w K mg base e k f d c sp)
  (h:∀a H Q E,b a H Q E->sp a H Q E):gf P w K mg base e k f d c b:=
 ⟨λa H Q E q=>F.len a H Q E (h _ _ _ _ q),λA outer s H args us a Q E hr j l g i=>F.run A outer s H args us a Q E hr j l g (h _ _ _ _ i)⟩
def Inv.VA(I:Inv X pins σ H s):ML X.prog X.w X.K X.mg X.base X.A X.stack s H:=
 ⟨I.ok.frames,I.ok.mod,I.bs,WL I.ok.Nn I.sz,I.stack,I.Dk,I.a9,I.bare⟩
def Inv.after(I:Inv X pins σ H s)(h:CE X.stack X.prog X.w H s Q u c):EP X pins σ Q u c:=by
 have⟨v,e,os,bare,un,a9,r,q⟩:=h;have⟨hh,g,d,t,a⟩:=c;obtain rfl:a=s.os:=os;exact⟨v,e,I.call (h':=hh) (g':=g) (d':=d) (t':=t) (ch:=[]) un a9 bare (λb z=>absurd z (by simp)),r,q⟩
def RB(sp:Sp)(a:List V)(E:XK)(t:TA):TE:=λb H Q=>t b H λc d=>sp (c++a) d Q E
def Binds(K:FR)(c:FuncData)(a:List Str)(b:List Value):Prop:=
 ∀(s:Shared)(us:List Value),K.In s.heap->(us++b).length=a.length->BindsTo s c ⟨us,[]⟩ (a.zip (us++b))
def Binds.all{K:FR}{b:FuncData}{a:List Str}(h:∀us:List Value,us.length=a.length->bindArgs b ⟨us,[]⟩=pure (a.zip us)):Binds K b a []:=λs us _ hl=>by
 rw[XC]at hl ⊢;exact .of_eq (h us hl)
def Passes(d:MN)(X:Cx)(E:XK):Prop:=∀(a:List (Addr×Obj)) (c:St) (H:Hp) (s:Shared) (e:Value) (b:Shared),Inv X a c H s->d X.stack H s E e b->X.xe e b
def Oi(F:gf X.prog X.w X.K X.mg X.base m k f fd g sp)(hr:fh k X.A)(l:Binds X.K fd g ds)(hd:Vals a ds)(j:Passes m X E)(I:Inv X pins σ H s)(r:Vals c us)(h:sp (c++a) H Q E):wpAny (model X.prog X.w) X.A (call (.ref f) us) (EP X pins σ Q) X.xe s:=by
 have d:Vals (c++a) (us++ds):=r.append hd;have hl:(us++ds).length=g.length:=by rw[<-d.length];exact F.len _ _ _ _ h
 apply wpAny_call (ZL (F.run X.A X.stack s H ⟨us,[]⟩ (us++ds) (c++a) Q E hr I.VA (l s us I.wL hl) d h) λr i b=>?_);cases r with
 |error e=>exact j pins σ H s e i I b
 |ok fl=>
  cases fl with
  |ret u=>exact I.after b
  |next=>exact False.elim b
  |brk=>exact False.elim b
  |cont=>exact False.elim b
def Ls(F:gf X.prog X.w X.K X.mg X.base y k f fd j sp)(hr:fh k X.A)(n:Gl X x)(hm:X.mg x=some (.ref f))(m:PySem.W.keepIn X.K (.ref f)=true)(u:Binds X.K fd j ds)(hd:Vals d ds)(l:Passes y X E)
  (v:PA X (e::es) t) (c:(x==("__debug__":Str))=false:=by decide) (o:starEach (e::es) X.env=(false,eval e X.env)::starEach es X.env:=by rfl) (b:(backTo pos (starEach es X.env)).any (·.1)=false:=by rfl):
  PE X (.Call (.Name x p) (e::es) [] pos) (RB sp d E t):=by
 intro a s i H Q I h;apply YT (D1 I n hm ?_ c);apply PySem.W.callWith_K (h₀:=X.base) I.ok.mod.Vp m (cQ (v pos a s i H _ I h) λus s1 ⟨z,H1,g,r,q⟩=>⟨g.wL,?_⟩) o b;exact Oi F hr u hd l g r q
structure aw(N P:List Str)(sc:Scope):Prop where
 kind:sc.kind=.function
 co:sc.isCoroutine=false
 gen:sc.isGenerator=false
 nd:N.Nodup
 pre:N.take P.length=P
 par:∀x∈P,sc.names.lookup x=some .local\/sc.names.lookup x=some .cell
 Pp:∀y∈sc.names,y.2≠.free
theorem xa{a:Str->Option NameKind}{x:Str}:∀{binds:List (Str×Value)} {m:Str->Option Value},(∀v,(x,v)∉binds)->bindL a binds m x=m x
 |[],_,_=>rfl
 |(n,v)::r,m,h=>by
  unfold bindL;rw[xa λw b=>h w (WG _ b)]
  split
  ·have:x≠n:=by rintro rfl;exact h v WI
   simp[this]
  ·rfl
theorem xc{a:Str->Option NameKind}{x:Str}:∀{binds:List (Str×Value)} {m:Str->Option Value},(∀v,(x,v)∉binds)->bindC a binds m x=m x
 |[],_,_=>rfl
 |(n,v)::r,m,h=>by
  unfold bindC;rw[xc λw b=>h w (WG _ b)]
  split
  ·rfl
  ·have:x≠n:=by rintro rfl;exact h v WI
   simp[this]
theorem xb{a:Str->Option NameKind}{x:Str}{v:Value}:∀{P:List Str} {b:List Value} {i:Nat} {m:Str->Option Value},P.Nodup->P[i]?=some x->b[i]?=some v->a x=some .local->
  bindL a (P.zip b) m x=some v
 |[],_,_,_,_,h,_,_=>by simp at h
 |_::_,[],_,_,_,_,h,_=>by simp at h
 |p::P,w::b,0,m,nd,d,c,e=>by
  simp at d c;subst d;subst c;show bindL a ((p,w)::P.zip b) m p=_;unfold bindL;rw[xa λv f=>(Y3.mp nd).1 (Aa7 f).1,WH e];simp
 |p::P,w::b,i+1,m,nd,d,c,e=>by
  show bindL a ((p,w)::P.zip b) m x=_;unfold bindL;exact xb (i:=i) (Y3.mp nd).2 (by simpa using d) (by simpa using c) e
theorem xf{a:Str->Option NameKind}{x:Str}{v:Value}:∀{P:List Str} {b:List Value} {i:Nat} {m:Str->Option Value},P.Nodup->P[i]?=some x->b[i]?=some v->a x≠some .local->
  bindC a (P.zip b) m x=some v
 |[],_,_,_,_,h,_,_=>by simp at h
 |_::_,[],_,_,_,_,h,_=>by simp at h
 |p::P,w::b,0,m,nd,d,c,e=>by
  simp at d c;subst d;subst c;show bindC a ((p,w)::P.zip b) m p=_;unfold bindC;rw[xc λv f=>(Y3.mp nd).1 (Aa7 f).1,WM e];simp
 |p::P,w::b,i+1,m,nd,d,c,e=>by
  show bindC a ((p,w)::P.zip b) m x=_;unfold bindC;exact xf (i:=i) (Y3.mp nd).2 (by simpa using d) (by simpa using c) e
noncomputable def start(N:List Str)(a:List V):St:=a.map some++List.replicate (N.length-a.length) none
abbrev AW(CX:MN)(P:Program)(w:World)(K:FR)(mg:Str->Option Value)(base:Heap)(N:List Str)(qual:Str)(scope:Scope)(f:Addr)(cd:Value)(A:Around)(outer:List Env)(s:Shared)(H:Hp)(E:XK):Cx where
 prog:=P
 w:=w
 K:=K
 mg:=mg
 base:=base
 A:=A.deeper (envOfC qual scope s.heap.objs.size f cd)
 N:=N
 s₀:=s
 H₀:=H
 env:=envOfC qual scope s.heap.objs.size f cd
 outer:=outer
 stack:=envOfC qual scope s.heap.objs.size f cd::outer
 ex:=[]
 calm:=true
 fn:=λ_=>true
 pn:=[]
 xe:=λe s'=>wpAny (model P w) (A.deeper (envOfC qual scope s.heap.objs.size f cd)) (leaving (envOfC qual scope s.heap.objs.size f cd) e) (λ_ s''=>CX outer H s E e s'') (λe' s''=>CX outer H s E e' s'') s'
def Bc{a:Scope}{n:Nat}{x:Str}(h:a.names.lookup x=some .cell):∃c,(cellsFrom n a.names []).lookup x=some c:=by
 have q:=AbI a.names n [] (.inl h);exact Zn.mp q
def FP{Q:MN}{P:Program}{w:World}{K:FR}{mg:Str->Option Value}{base:Heap}{N o:List Str}{g:Str}{d:Scope}{f:Addr}{J:Value}{A:Around}{outer:List Env}{s L:Shared}{H:Hp}{E:XK}{us:List Value}{m:List V}
  (S:aw N o d) (hd:A.handled=none) (l:ML P w K mg base A outer s H) (hl:m.length=o.length) (r:Vals m us)
  (x:InCallC s s.heap.objs.size (bindL (envOfC g d s.heap.objs.size f J).kindOf (o.zip us) λ_=>none) (cellsFrom (s.heap.objs.size+1) d.names []) (bindC (envOfC g d s.heap.objs.size f J).kindOf (o.zip us) λ_=>none) L):
  Inv (AW Q P w K mg base N g d f J A outer s H E) [] (start N m) H L:=by
 have R:o.length<=N.length:=by have:=congrArg List.length S.pre;rw[Xm]at this;lia
 have⟨I,U,rfl,O⟩:=x.done;have t:∀b:Addr,b∉(AW Q P w K mg base N g d f J A outer s H E).ex:=λb z=>absurd (show b∈([]:List Addr) from z) (by simp);apply⟨⟨l.mod,S.kind,rfl,rfl,WJ _,λy z c I j=>?_,λy C=>?_,λy c _ h=>?_,λ_=>hd,Around.frames_deeper l.frames,.inr ⟨rfl,rfl⟩,λb z=>absurd z (t b),l.bs,l.Nn,λb _ _=>t b,λb z=>absurd z (t b),l.tQ,l.Q3⟩,
  rfl,l.bare,Un.kept O,⟨_,x.toInCall.ns,λi y v I j X=>?_⟩,λy c h=>⟨_,x.cell y c h⟩,l.a9.fresh (WJ _),λy c h=>?_,λp hp=>absurd (show p∈([]:List (Addr×Obj)) from hp) (by simp),l.a9.kept O,?_⟩
 ·exact name_of_addr x.apart (Yl I) (Yl j)
 ·have C:d.names.lookup y=some .cell\/d.names.lookup y=some .free:=C;rcases C with C |C
  ·exact Bc C
  ·exact absurd rfl (S.Pp _ (Yl C))
 ·exact XN (x.above y c (Yl h))
 ·have G:i<m.length:=by
   unfold start at j
   by_cases G:i<m.length
   ·exact G
   ·rw[W4 (by simpa using G)]at j;rw[AbD]at j
    split at j <;> cases j
  have T:m[i]?=some v:=by
   unfold start at j;rw[W0 (by simpa using G),WY]at j;cases e:m[i]? with
   |none=>rw[e]at j;cases j
   |some a=>rw[e]at j;cases j;rfl
  have⟨u,M,rv⟩:=r.get T;have hp:o[i]?=some y:=by
   rw[<-S.pre,Xu ()];exact I
  have F:o.Nodup:=by rw[<-S.pre];exact S.nd.sublist (AaV _ _)
  apply⟨u,rv,?_⟩;rcases S.par y (WE hp)with k |k
  ·exact .inl ⟨k,xb F hp M k⟩
  ·have⟨c,e⟩:=Bc (n:=s.heap.objs.size+1) k;apply .inr ⟨.inl k,c,e,?_⟩;have q:=x.cell y c e;rw[xf F hp M (by show d.names.lookup y≠_;rw[k];decide)]at q;exact q
 ·exact l.a9.fresh (XN (x.above y c (Yl h)))
 ·unfold start;show _=N.length;rw[WR,WA,List.length_replicate]
  lia
def S6{M:MN}{P:Program}{w:World}{K:FR}{mg:Str->Option Value}{base:Heap}{k:Nat}{f:Addr}{name c:Str}{params:Arguments}{g:List Stmt}{a:Scope}{Z kV G Y d ct oc:Value}{an od:Option Addr}
  {R:Array (Option Value)} {N L:List Str} {sp:Sp} (lk:K.lookup f=some ⟨oc,od,.func (PySem.W.fnOf name c params g a Z kV G Y an d ct),R⟩) (U:PySem.W.codeIn K d c=true) (S:aw N L a)
  (len:∀i H Q E,sp i H Q E->i.length=L.length)
  (m:∀(A:Around)(outer:List Env)(s:Shared)(H:Hp)(i:List V)(Q:VK)(E:XK),fh k (A.deeper (envOfC c a s.heap.objs.size f d))->sp i H Q E->
   ∃t,Bm (AW M P w K mg base N c a f d A outer s H E) g t/\t {nx:=λ_ j=>Q .bg j,rt:=Q} (start N i) H):
  gf P w K mg base M (k+1) f (PySem.W.fnOf name c params g a Z kV G Y an d ct) L sp:=by
 apply⟨len,λA outer s H args us i Q E hr F hb r z=>?_⟩;have hl:=len _ _ _ _ z;have KX:K.In s.heap:=F.mod.Vp.keeps λb o e=>(F.bs b o e).1;have T:s.heap.NoLimit:=F.mod.nolimit.keeps λb o e=>(F.bs b o e).1;have l:∀y∈L.zip us,a.names.lookup y.1=some .local\/(a.names.lookup y.1=some .cell/\((cellsFrom (s.heap.objs.size+1) a.names []).lookup y.1).isSome=true):=λ⟨n,v⟩ hy=>by
  rcases S.par n (Aa7 hy).1 with q |q
  ·exact .inl q
  ·exact .inr ⟨q,AbI _ _ _ (.inl q)⟩
 apply codeAny_call_function hr.depth (KX _ _ lk) rfl S.co S.gen rfl (PySem.W.codeRec_of KX U) (hb _ _ _ _ ?_);apply wpAny_newFunctionEnv_cells S.kind l λenv he X x=>?_;subst he;apply⟨T.keeps x.toInCall.keep,codeAny_func ?_⟩;have⟨t,ht,hq⟩:=m A outer s H i Q E (hr.deeper _) z;have I:Inv (AW M P w K mg base N c a f d A outer s H E) [] (start N i) H X:=FP S hr.hd F hl r x;apply Yd (ht [] X (start N i) H _ I hq) (λfl O p=>?_) λe O p=>p;have C:∀{h:St} {j:Hp} {v:V} {u:Value},Inv (AW M P w K mg base N c a f d A outer s H E) [] h j O->RelV v u->Q v j->CE outer P w H s Q u O:=
  λ{h j v u} J rv q=>⟨v,j,J.os,J.bare,J.base,J.a9,rv,q⟩
 cases fl with
 |ret u=>
  have⟨v,h,j,J,rv,q⟩:=p;exact C J rv q
 |next=>
  have⟨h,j,J,q⟩:=p;exact C (v:=V.bg) (u:=Value.none) J rfl q
 |brk=>
  have⟨_,_,_,q⟩:=p;exact False.elim q
 |cont=>
  have⟨_,_,_,q⟩:=p;exact False.elim q
section
variable {X:Cx} {x:Str} {p pos:Pos} {e:Expr} {es:List Expr} {t:TA} {id T:String} {r:List V->Hp->VK->Prop}
def UL(r:List V->Hp->VK->Prop)(t:TA):TE:=λa H Q=>t a H λb c=>r b c Q
def sU(l:eW X (.builtin id) r)(k:Gl X x)(hm:X.mg x=none)(j:bootBuiltins x=some (.builtin id))(m:PA X (e::es) t)(hn:x≠"__name__":=by decide)(c:(x==("__debug__":Str))=false:=by decide)
  (he:starEach (e::es) X.env=(false,eval e X.env)::starEach es X.env:=by rfl) (b:(backTo pos (starEach es X.env)).any (·.1)=false:=by rfl):PE X (.Call (.Name x p) (e::es) [] pos) (UL r t):=by
 intro a s d H Q I h;apply YT (fZ I k hm j ?_ hn c);exact PyProof.Rows.callWith_builtin1 (cQ (m pos a s d H _ I h) λus s1 ⟨f,H1,n,g,i⟩=>l a s1 d H1 f us Q n g i) he b
def oJ(l:eW X (.type T) r)(k:Gl X x)(hm:X.mg x=none)(j:bootBuiltins x=some (.type T))(m:PA X (e::es) t)(hn:x≠"__name__":=by decide)(c:(x==("__debug__":Str))=false:=by decide)
  (he:starEach (e::es) X.env=(false,eval e X.env)::starEach es X.env:=by rfl) (b:(backTo pos (starEach es X.env)).any (·.1)=false:=by rfl):PE X (.Call (.Name x p) (e::es) [] pos) (UL r t):=by
 intro a s d H Q I h;apply YT (fZ I k hm j ?_ hn c);exact XH (cQ (m pos a s d H _ I h) λus s1 ⟨f,H1,n,g,i⟩=>l a s1 d H1 f us Q n g i) he b
end
end L2
namespace HT
open PyProof.Rows
section
open PySem.SeqAt
open PySem.AutoSeq1 (wpAny_loadPart')
open PySem.MeetsSeq PySem.MeetsSeq2 PySem.MeetsSeq3
end
def Mr(ht:IsTup s.heap t c.toArray)(r:IsTup s.heap b ws.toArray)(o:c≠[])(v:ws=[]->Q (.ref t) s)(u:ws≠[]->Q (.ref s.heap.objs.size) {s with heap:=s.heap.push {cls:=.type "tuple",data:=.seq (c++ws).toArray}})(k:c.length+ws.length<=sizeLine):wpAny (model prog w) A (binaryOp .Add (.ref t) (.ref b)) Q E s:=by
 obtain⟨⟨cls,dd,data,m⟩,j,p,n,hd⟩:=id ht;obtain⟨⟨q,h,l,d⟩,a,g,n2,f⟩:=id r;simp only at p hd g f;subst p hd g f;have e:c.toArray++ws.toArray=(c++ws).toArray:=by simp
 by_cases i:ws=[]
 ·exact concat_meets ⟨_,j,rfl⟩ ⟨_,a,rfl⟩ Abo seq_tuple_add Aai Aad (Z5 _ _)
   (tuple_addW1 t b c.toArray ws.toArray n n2 dd h m d (by simpa using o) (by simp[i])) ⟨j,a,v i⟩
 ·apply concat_meets ⟨_,j,rfl⟩ ⟨_,a,rfl⟩ Abo seq_tuple_add Aai Aad (Z5 _ _)
   (tuple_addW2 t b c.toArray ws.toArray n n2 dd h m d (by simpa using o) (by simpa using i) (by rw[W7,W7];exact k)) ⟨j,a,?_⟩
  rw[e];exact u i
noncomputable def cC(n d:Nat):Option Int->Nat
 |none=>d
 |some v=>if v<0 then(v+(n:Int)).toNat else min v.toNat n
def zR(n d:Nat):cC n d none=d:=rfl
def KS(n d k:Nat):cC n d (some (k:Int))=min k n:=by
 show(if(k:Int)<0 then((k:Int)+(n:Int)).toNat else min (k:Int).toNat n)=min k n;rw[WM (by simp),Xd]
def Oe(n d:Nat)(hd:d<=n)(o:Option Int):cC n d o<=n:=by
 cases o with
 |none=>exact hd
 |some v=>
  show(if v<0 then(v+(n:Int)).toNat else min v.toNat n)<=n
  by_cases a:v<0
  ·rw[WH a];lia
  ·rw[WM a];exact Nat.min_le_right _ _
def Ex(v:Int)(n d:Nat):(if v<0 then max (v+(n:Int)) 0 else min v (n:Int))=((cC n d (some v):Nat):Int):=by
 show(if v<0 then max (v+(n:Int)) 0 else min v (n:Int))=(((if v<0 then(v+(n:Int)).toNat else min v.toNat n):Nat):Int)
 by_cases a:v<0
 ·simp only[WH a];simp
 ·simp only[WM a];lia
def CS(a b:Option Int)(n:Nat):Builtin.Slice.sliceAdjust a b 1 (n:Int)=(((cC n 0 a:Nat):Int),((cC n n b:Nat):Int)):=by
 have c:¬((1:Int)<0):=by lia
 unfold Builtin.Slice.sliceAdjust;simp only[c,X6];apply Prod.ext ?_ ?_
 ·cases a with
  |none=>rfl
  |some v=>exact Ex v n 0
 ·cases b with
  |none=>rfl
  |some v=>exact Ex v n n
def B2(i j:Nat):Builtin.Slice.slicePlaces (i:Int) (j:Int) 1=j-i:=by
 unfold Builtin.Slice.slicePlaces;have a:(1:Int) > 0:=by exact Int.le_refl _
 simp only[a,Ze,AbP]
 split <;> lia
def rL(p:IsPart v o)(h:Q o s):wpAny (model prog w) A (Builtin.Slice.slicePartIndex v) Q E s:=by
 cases p with
 |none=>exact slicePart_none h
 |int i t=>exact slicePart_int h
def gU{g:Addr}{f e:Value}{a c:Option Int}{n:Nat}{Q:Int×Int×Nat->Shared->Prop}(j:s.heap.IsSliceOf g f e .none)(pl:IsPart f a)(i:IsPart e c)
  (h:Q (((cC n 0 a:Nat):Int),1,cC n n c-cC n 0 a) s):wpAny (model prog w) A (Builtin.Slice.sliceApplied (.ref g) (pure (n:Int))) Q E s:=by
 have⟨os,b,k,d⟩:=id j;unfold Builtin.Slice.sliceApplied Builtin.Slice.sliceFields;apply Wz (Wz (Xs b d (x:=f) rfl (Wz (Xs b d (x:=e) rfl (Wz (Xs b d (x:=.none) rfl (WD ?_)))))));apply Wz (slicePart_none ?_);show wpAny _ _ (if((1:Int)==0)=true then _ else _) _ _ s;rw[WM {}];apply Wz (rL pl (Wz (rL i (Wz (WD ?_)))));show wpAny _ _ (match Builtin.Slice.sliceAdjust a c 1 (n:Int)with |(a,c)=>pure (a,(1:Int),Builtin.Slice.slicePlaces a c 1)) _ _ s;rw[CS a c n];show wpAny _ _ (pure (((cC n 0 a:Nat):Int),(1:Int),Builtin.Slice.slicePlaces ((cC n 0 a:Nat):Int) ((cC n n c:Nat):Int) 1)) _ _ s;rw[B2];exact WD h
def HX(a:Array Value)(i k:Nat):((List.range k).filterMap λ(m:Nat)=>a[((i:Int)+(m:Int)*1).toNat]?).toArray=((a.toList.drop i).take k).toArray:=by
 have e:(λ(m:Nat)=>a[((i:Int)+(m:Int)*1).toNat]?)=λm=>a[i+m]?:=by
  funext m
  have:((i:Int)+(m:Int)*1).toNat=i+m:=by lia
  rw[this]
 rw[e];have:=pick_run a i k;rw[ZX]at this;have b:((λx=>a[x]?)∘λx=>i+x)=λm=>a[i+m]?:=rfl;rw[b]at this;rw[this]
def nC{t e:Addr}{a:Array Value}{n l:Value}{c d:Option Int}{Q:Value->Shared->Prop}(ht:IsTup s.heap t a)(o:s.heap.IsSliceOf e n l .none)(pl:IsPart n c)(p:IsPart l d)
  (hw:¬(cC a.size 0 c=0/\cC a.size a.size d=a.size))
  (h:Q (.ref s.heap.objs.size) {s with heap:=s.heap.push {cls:=.type "tuple",data:=.seq ((a.toList.drop (cC a.size 0 c)).take (cC a.size a.size d-cC a.size 0 c)).toArray}})
  (f:a.size<=sizeLine):wpAny (model prog w) A (getItem (.ref t) (.ref e)) Q E s:=by
 have b:sizeOk (.seq ((a.toList.drop (cC a.size 0 c)).take (cC a.size a.size d-cC a.size 0 c)).toArray):=by
  show((a.toList.drop (cC a.size 0 c)).take (cC a.size a.size d-cC a.size 0 c)).toArray.size<=sizeLine;rw[W7,Xm,Aag,YW]
  lia
 have hj:cC a.size a.size d<=a.size:=Oe _ _ (WJ _) d;have⟨os,g,j,r⟩:=id o;have k:s.TypeIs (.ref e) "slice":=⟨os,g,j⟩;unfold getItem
 try with_reducible apply Xn ?_
 first |apply Wz (WD ?_) |skip
 apply Wz (wpAny_sequenceKey ht.typeIs {} ?_);apply Wz (Xz (name:=Str.ofString "__getitem__") ht.typeIs X5
  (XE X5 ht.typeIs entry_tuple_getitem ?_ (args_tuple_getitem _ _)))
 show wpAny _ _ (Builtin.Tuple.tupleItemsOf (.ref t) >>=_) _ _ s;apply Wz (tupleItemsOf_ ht ?_);apply Wz (Zr k ?_);rw[WH {}];apply Wz (gU o pl p ?_);have i:¬((((cC a.size 0 c:Nat):Int)==0&&(1:Int)==1&&(cC a.size a.size d-cC a.size 0 c)==a.size)=true):=by
  intro q;rw[W9,W9]at q;have v:((cC a.size 0 c:Nat):Int)=0:=eq_of_beq q.1.1;have u:cC a.size a.size d-cC a.size 0 c=a.size:=eq_of_beq q.2;exact hw ⟨by clear q;lia,by clear q hj f;lia⟩
 show wpAny _ _ (if(((cC a.size 0 c:Nat):Int)==0&&(1:Int)==1&&(cC a.size a.size d-cC a.size 0 c)==a.size)=true then _ else _) _ _ s;rw[WM i,HX]
 first
  |exact Wz (m:=Builtin.Tuple.tupleExact _) (XO (WD ⟨_,rfl,WD h⟩) b)
  |exact Wz (m:=Builtin.Tuple.tupleExact _) (XO (Wz (WD (WD ⟨_,rfl,WD h⟩))) b)
  |exact Wz (Wz (m:=Builtin.Tuple.tupleExact _) (XO (WD (WD ⟨_,rfl,WD h⟩)) b))
  |exact Wz (Wz (m:=Builtin.Tuple.tupleExact _) (XO (WD ⟨_,rfl,WD h⟩) b))
end HT
namespace L2
open PyProof.Rows
abbrev TO:=St->Hp->(Option Int->Hp->Prop)->Prop
def PO(X:Cx)(e:Option Expr)(t:TO):Prop:=
 ∀(a:List (Addr×Obj)) (s:Shared) (b:St) (H:Hp) (Q:Option Int->Hp->Prop),Inv X a b H s->t b H Q->
  wpAny (model X.prog X.w) X.A (evalPart e X.env) (λu d=>∃o c,Inv X a b c d/\IsPart u o/\Q o c) X.xe s
noncomputable def KA:TO:=λ_ H Q=>Q none H
def Rr(t:TE):TO:=λa H Q=>t a H λx b=>∃i,x=.int i/\Q (some i) b
def intsAre_of:∀{us:List Value},Vals (ns.map V.int) us->IntsAre us ns:=by
 induction ns with
 |nil=>intro us r;rw[Ye]at r;cases r;exact .nil
 |cons n ns c=>
  intro us r;rw[WN]at r;cases r with
  |cons b a=>
   have⟨t,e⟩:=b;subst e;exact .cons n t (c a)
section
variable {X:Cx} {e:Expr} {te:TE} {lo hi:Option Expr} {tl th:TO} {pos p2:Pos}
def Li:PO X none KA:=by
 intro a s b H Q I h;rw[evalPart_none];exact WD ⟨none,H,I,.none,h⟩
def Lh(h:PE X e te):PO X (some e) (Rr te):=by
 intro a s b H Q I f;rw[evalPart_some];apply cQ (h a s b H _ I f) λu s1 u9=>?_;have⟨x,H1,g,c,d⟩:=u9;have⟨i,rfl,q⟩:=d;have⟨t,rfl⟩:=c;exact⟨some i,H1,g,.int i t,q⟩
def QQ(X:Cx)(r:V->Option Int->Option Int->Hp->VK->Prop):Prop:=
 ∀(a:List (Addr×Obj)) (s:Shared) (b:St) (H:Hp) (x:V) (v d c:Value) (lo hi:Option Int) (f:Addr) (Q:VK),Inv X a b H s->RelV x v->s.heap.IsSliceOf f d c .none->IsPart d lo->IsPart c hi->r x lo hi H Q->
  ∃T g,typeLookup (.type T) "__getitem__"=pure (some (.builtin g))/\s.TypeIs v T/\wpAny (model X.prog X.w) X.A (getItem v (.ref f)) (EP X a b Q) X.xe s
def Wg(r:V->Option Int->Option Int->Hp->VK->Prop)(te:TE)(tl th:TO):TE:=λa H Q=>te a H λx d=>tl a d λl c=>th a c λu b=>r x l u b Q
def Ib(hr:QQ X r)(p:PE X e te)(hl:PO X lo tl)(n:PO X hi th):PE X (.Subscript e (.Slice lo hi none p2) pos) (Wg r te tl th):=by
 intro a s c H Q I h;apply Subscript_ (cQ (p a s c H _ I h) λv s1 u9=>?_);have⟨x,H1,E,i,m⟩:=u9;apply wpAny_Slice (cQ (hl a s1 c H1 _ E m) λf s2 ⟨l,F,C,pl,k⟩=>cQ (n a s2 c F _ C k) λd s3 u9=>?_);have⟨u,g,z,pu,j⟩:=u9;rw[evalPart_none];apply WD ?_;have y:Inv X a c g {s3 with heap:=s3.heap.push {cls:=.type "slice",data:=.fields #[f,d,.none]}}:=z.kept (t':=s3.toks) λb ob q=>WC _ q;have⟨T,G,t,ht,o⟩:=hr a {s3 with heap:=s3.heap.push {cls:=.type "slice",data:=.fields #[f,d,.none]}} c g x v f d l u s3.heap.objs.size Q y i (Heap.IsSliceOf.new ..) pl pu j;show wpAny (model X.prog X.w) X.A (subscriptTail e (.Slice lo hi none p2) v (.ref s3.heap.objs.size)) (EP X a c Q) X.xe {s3 with heap:=s3.heap.push {cls:=.type "slice",data:=.fields #[f,d,.none]}};exact tail_any (ops:=[.ref s3.heap.objs.size,v]) ht t o (by with_unfolding_all rfl)
noncomputable def t5(a:List V)(lo hi:Option Int):List V:=(a.drop (HT.cC a.length 0 lo)).take (HT.cC a.length a.length hi-HT.cC a.length 0 lo)
def qg(a:List V)(lo hi:Option Int):(t5 a lo hi).length<=a.length:=by
 unfold t5;rw[Xm,Aag]
 lia
def U6(K:FR):V->Option Int->Option Int->Hp->VK->Prop:=λx lo hi H Q=>∃a b,x=.ref a/\iJ K H a b/\
 ¬(HT.cC b.length 0 lo=0/\HT.cC b.length b.length hi=b.length)/\∀p,H p=none->Q (.ref p) (upd H p (.tup (t5 b lo hi)))
def N0:QQ X (U6 X.K):=by
 intro g s p H x v u t lo hi w Q I j n pl k h;have⟨a,d,rfl,l,m,q⟩:=h;cases j;have⟨f,r,ht,i⟩:=I.tuple l;have c:f.toArray.size=d.length:=by rw[W7];exact r.length.symm
 apply⟨"tuple",_,X5.lookup,ht.typeIs,?_⟩;apply HT.nC ht n pl k (by rw[c];exact m) ?_ (by rw[c];exact i);rw[c];apply⟨.ref s.heap.objs.size,_,I.laid (t':=s.toks) (o:=.tup (t5 d lo hi)) (λb ob q=>WC _ q) (WJ _) ?_,rfl,q _ (I.a9.fresh (WJ _))⟩;exact⟨WL (qg d lo hi) i,_,(r.drop (HT.cC d.length 0 lo)).take (HT.cC d.length d.length hi-HT.cC d.length 0 lo),zp.new _ _⟩
def Sa(K:FR):R2:=λx y H Q=>∃a b d c,x=.ref a/\y=.ref b/\iJ K H a d/\iJ K H b c/\d≠[]/\d.length+c.length<=sizeLine/\
 (c=[]->Q (.ref a) H)/\(c≠[]->∀p,H p=none->Q (.ref p) (upd H p (.tup (d++c))))
def Vals.q5(r:Vals xs us):us=[]↔xs=[]:=by
 cases r with
 |nil=>simp
 |cons _ _=>simp
def Ly:qN X (binaryOp .Add) (Sa X.K):=by
 intro f s F H x y v u Q I m l h;have⟨a,b,k,j,rfl,rfl,E,C,A,i,p,n⟩:=h;cases m;cases l;have⟨t,d,r,_⟩:=I.tuple E;have⟨g,c,p2,_⟩:=I.tuple C;apply HT.Mr r p2 (λz=>A (d.q5.mp z)) (λz=>⟨.ref a,H,I,rfl,p (c.q5.mp z)⟩) (λz=>?_) (by rw[<-d.length,<-c.length];exact i);apply⟨.ref s.heap.objs.size,_,I.laid (t':=s.toks) (o:=.tup (k++j)) (λb ob q=>WC _ q) (WJ _) ?_,rfl,n (λw=>z (c.q5.mpr w)) _ (I.a9.fresh (WJ _))⟩;exact⟨by rw[WR];exact i,_,d.append c,zp.new _ _⟩
end
noncomputable def vq(n:Nat)(i:Int):Option Nat:=if 0<=i then(if i<n then some i.toNat else none)else if -(n:Int)<=i then some (i+n).toNat else none
def fI{a:Type}(b:List a)(i:Int):Option a:=(vq b.length i).bind λj=>b[j]?
def D4(h:vq n i=some j):seqIndex? i n=some j/\j<n/\-(n:Int)<=i/\i<n:=by
 unfold vq at h
 by_cases b:0<=i
 ·rw[WH b]at h
  by_cases a:i<n
  ·rw[WH a]at h;have e:i.toNat=j:=Option.some.inj h;exact⟨by rw[seqIndex_of b a,e],by lia,by clear a;lia,a⟩
  ·rw[WM a]at h;cases h
 ·rw[WM b]at h
  by_cases a:-(n:Int)<=i
  ·rw[WH a]at h;have e:(i+n).toNat=j:=Option.some.inj h;exact⟨by rw[seqIndex_neg () a,e],by lia,a,by clear a;lia⟩
  ·rw[WM a]at h;cases h
def rn(h:fI xs i=some v):∃j,seqIndex? i xs.length=some j/\xs[j]?=some v/\j<xs.length/\-(xs.length:Int)<=i/\i<xs.length:=by
 unfold fI at h;cases e:vq xs.length i with
 |none=>rw[e]at h;cases h
 |some j=>
  rw[e]at h;have⟨d,c,b,a⟩:=D4 e;exact⟨j,d,h,c,b,a⟩
def ke{b:Type}{a:List b}{j:Nat}{v:b}(h:a[j]?=some v):fI a (j:Int)=some v:=by
 have hj:j<a.length:=(WB.mp h).1;have e:vq a.length (j:Int)=some j:=by
  unfold vq;rw[WH (by simp),WH (YK.mpr hj)];simp
 unfold fI;rw[e];exact h
def nO(a:List α)(v:α):fI (a++[v]) (-1)=some v:=by
 have hl:(a++[v]).length=a.length+1:=by simp
 have e:vq (a++[v]).length (-1)=some a.length:=by
  unfold vq;rw[hl,WM {},WH (by clear hl;lia)];congr 1
  lia
 unfold fI;rw[e];show(a++[v])[a.length]?=some v;simp
def iK(b:Expr):Prop:=∀o i,subscripted b false o i=operate [o,i] (getItem o i)
def Q9(X:Cx)(r:R2):Prop:=
 ∀(c a:Expr)(b:List (Addr×Obj)) (s:Shared) (d:St) (H:Hp) (x y:V) (v u:Value) (Q:VK),Inv X b d H s->RelV x v->RelV y u->r x y H Q->
  subscripted a false v u=operate [v,u] (getItem v u)->wpAny (model X.prog X.w) X.A (subscriptTail c a v u) (EP X b d Q) X.xe s
def GH(X:Cx)(d:String)(r:V->List V->Hp->VK->Prop):Prop:=
 ∀(a:List (Addr×Obj)) (s:Shared) (b:St) (H:Hp) (x:V) (c:List V) (v:Value) (us:List Value) (Q:VK),Inv X a b H s->RelV x v->Vals c us->r x c H Q->
  wpAny (model X.prog X.w) X.A (call (.builtin d) (v::us)) (EP X a b Q) X.xe s
section
variable {X:Cx} {a b:Expr} {ta tb:TE} {pos:Pos}
def M3(hr:Q9 X r)(k:PE X a ta)(j:PE X b tb)(i:iK b):PE X (.Subscript a b pos) (Ru r ta tb):=by
 intro c s d H Q I h;exact Subscript_ (QH k j I h λv u e x y m l g f q=>hr a b c e d m x y v u Q l g f q (i _ _))
def Vf(K:FR):R2:=λx y H Q=>∃p c i v,x=.ref p/\y=.int i/\eV K H p c/\fI c i=some v/\Q v H
def Vd(K:FR):R2:=λx y H Q=>∃p c i v,x=.ref p/\y=.int i/\iJ K H p c/\fI c i=some v/\Q v H
def Ve:R2:=λx y H Q=>∃z i c,x=.str z/\y=.int i/\z.length<=sizeLine/\fI z.cps.toList i=some c/\Q (.str ⟨#[c]⟩) H
def LQ:Q9 X (Vf X.K):=by
 intro f g c s m H x y v u Q I F E h n;have⟨p,O,i,z,rfl,rfl,G,J,q⟩:=h;cases F;have⟨t,rfl⟩:=E;have⟨l,r,pl,P⟩:=I.list G;have⟨j,e,N,R,M,L⟩:=rn J;have⟨w,A,k⟩:=r.get N;have hl:=r.length;have hn:=lG;have d:EP X c m Q w s:=⟨z,H,I,k,q⟩
 by_cases o:0<=i
 ·have hj:i.toNat=j:=by
   rw[seqIndex_of o L]at e;exact Option.some.inj e
  exact item_listR pl.isList o () (by rw[hj];simpa using A) d n
 ·have hj:(i+(l.toArray.size:Int)).toNat=j:=by
   rw[seqIndex_neg () M]at e;rw[W7,<-hl];exact Option.some.inj e
  exact subscriptTail_builtinR (x:=w) pl.isList.typeIs slot_list_getitem.lookup
   (wpAny_getItem_list_neg (Q:=λr C=>r=w/\EP X c m Q r C) pl.isList () (by rw[W7] <;> lia) () (by rw[hj];simpa using A) ⟨rfl,d⟩) n
def PQ:Q9 X (Vd X.K):=by
 intro d e c s k H x y v u Q I n m h A;have⟨p,L,i,z,rfl,rfl,C,E,q⟩:=h;cases n;have⟨t,rfl⟩:=m;have⟨o,r,pl,M⟩:=I.tuple C;have⟨j,G,F,P,O,N⟩:=rn E;have⟨w,J,f⟩:=r.get F;have hl:=r.length;have hn:=lG;have g:EP X c k Q w s:=⟨z,H,I,f,q⟩;exact subscriptTail_builtinR (x:=w) pl.typeIs X5.lookup
  (getItem_tuple (j:=j) (Q:=λr l=>r=w/\EP X c k Q r l) pl () () (by rw[W7,<-hl];exact G) (by simpa using J) ⟨rfl,g⟩) A
def PR:Q9 X Ve:=by
 intro d e f s C H x y v u Q I l k h m;have⟨z,i,c,rfl,rfl,F,n,q⟩:=h;have⟨t,rfl⟩:=l;have⟨E,rfl⟩:=k;have⟨j,g,r,G,p,o⟩:=rn n;have hl:z.cps.toList.length=z.length:=by simp[Str.length]
 rw[hl]at g p o;have hn:=lG;exact tail_any (typeIs_str s z t) slot_str_getitem.lookup (getItem_str (c:=c) (by
  have A:decide (i < -(2^63:Int))=false:=Xc ();have w:decide (i≥2^63)=false:=Xc ();rw[A,w,AaK]) (by rw[g];simpa using r) ⟨.str ⟨#[c]⟩,H,I.tok _,⟨_,rfl⟩,q⟩) m
def Ck(c:List Value)(n j:Nat)(u:Value):Obj.mapSeq (·.setIfInBounds j u) {cls:=.type "list",data:=.seq c.toArray n}={cls:=.type "list",data:=.seq (c.set j u).toArray n}:=by
 simp[Obj.mapSeq]
theorem Inv.lst(I:Inv X pins σ H s)(h:H p=some (.lst xs)):
  ∃(c:List Value)(n:Nat),Vals xs c/\s.heap.get? p=some {cls:=.type "list",data:=.seq c.toArray n}/\xs.length<=sizeLine:=by
 have⟨z,c,n,r,e⟩:=I.a9 p _ h;exact⟨c,n,r,e,z⟩
def Inv.Pz{d:List (Addr×Obj)}{k:St}{H:Hp}{s:Shared}{p:Addr}{m i:List V}{g c:List Value}{n j:Nat}{f:Obj->Obj}(I:Inv X d k H s)(h:H p=some (.lst m))
  (v:s.heap.get? p=some {cls:=.type "list",data:=.seq g.toArray n}) (l:f {cls:=.type "list",data:=.seq g.toArray n}={cls:=.type "list",data:=.seq c.toArray j}) (r:Vals i c) (o:i.length<=sizeLine) (t:Nat):
  Inv X d k (upd H p (.lst i)) {s with heap:=s.heap.update p f,toks:=t}:=by
 have e:(s.heap.update p f).get? p=some {cls:=.type "list",data:=.seq c.toArray j}:=by
  rw[Yx f v (by rw[l] <;> rfl),l]
 apply I.write (x:=p) (e:=p) (by rw[h];trivial) (.inl rfl) (λb u w q=>(YO _ _ (XW w)).trans q) ⟨_,e⟩ ?_;exact⟨o,c,j,r,e⟩
def R8:V->V->V->Hp->(Hp->Prop)->Prop:=λo i v H Q=>∃p c k j,o=.ref p/\i=.int k/\H p=some (.lst c)/\vq c.length k=some j/\Q (upd H p (.lst (c.set j v)))
def set_list:MF X R8:=by
 intro c s y H o i v ov E u Q I ro A rv h;have⟨p,z,k,j,rfl,rfl,hp,hj,q⟩:=h;cases ro;have⟨t,rfl⟩:=A;have⟨d,n,r,f,C⟩:=I.lst hp;have⟨e,F,m,l⟩:=D4 hj;have hl:=r.length;have hn:=lG;have x:Inv X c y (upd H p (.lst (z.set j v))) {s with heap:=s.heap.update p (Obj.mapSeq (·.setIfInBounds j u))}:=
  I.Pz hp f (Ck d n j u) (r.set rv j) (by rw[XY];exact C) s.toks
 by_cases w:0<=k
 ·have g:k.toNat=j:=by
   rw[seqIndex_of w l]at e;exact Option.some.inj e
  exact PySem.W.ki_setAt f w () (by rw[W7,<-hl];exact l) (by rw[g];exact⟨_,x,q⟩)
 ·have g:(k+(d.toArray.size:Int)).toNat=j:=by
   rw[seqIndex_neg () m]at e;rw[W7,<-hl];exact Option.some.inj e
  exact PySem.W.ki_setBack f () (by rw[W7,<-hl];exact m) () (by rw[g];exact⟨_,x,q⟩)
def xF(c d:Option Int)(n:Nat):(sliceBounds c d none n).1=((HT.cC n 0 c:Nat):Int)/\(sliceBounds c d none n).2.1=((HT.cC n n d:Nat):Int)/\(sliceBounds c d none n).2.2=1:=by
 apply⟨?_,?_,rfl⟩
 ·cases c with
  |none=>simp[sliceBounds,HT.cC]
  |some i=>
   simp only[sliceBounds,HT.cC,Option.getD_none,show(1:Int) > 0 by decide,Ze]
   by_cases h:i<0
   ·simp only[h,Ze] <;> lia
   ·simp only[h,X6] <;> lia
 ·cases d with
  |none=>simp[sliceBounds,HT.cC]
  |some i=>
   simp only[sliceBounds,HT.cC,Option.getD_none,show(1:Int) > 0 by decide,Ze]
   by_cases h:i<0
   ·simp only[h,Ze] <;> lia
   ·simp only[h,X6] <;> lia
def uD(c:List Value)(d e:Option Int):slicePick c.toArray d e none=((c.drop (HT.cC c.length 0 d)).take (HT.cC c.length c.length e-HT.cC c.length 0 d)).toArray:=by
 have⟨h,g,f⟩:=xF d e c.toArray.size;unfold slicePick;rw[h,g,f];simp only[sliceRange_one,pick_run,W7] <;> rfl
def U8(K:FR):V->Option Int->Option Int->Hp->VK->Prop:=λx d e H Q=>∃a c,x=.ref a/\eV K H a c/\∀p,H p=none->Q (.ref p) (upd H p (.lst (t5 c d e)))
def KJ:QQ X (U8 X.K):=by
 intro g s p H x v u t e f w Q I i n pl j h;have⟨a,c,rfl,m,q⟩:=h;cases i;have⟨k,r,ht,l⟩:=I.list m;have d:=r.length;apply⟨"list",_,slot_list_getitem.lookup,ht.isList.typeIs,?_⟩;apply wpAny_getItem_list_slice ht.isList n pl j .none (by simp) ?_ (by rw[W7] <;> lia);rw[uD,<-d];apply⟨.ref s.heap.objs.size,_,I.laid (t':=s.toks) (o:=.lst (t5 c e f)) (λb ob q=>WC _ q) (WJ _) ?_,rfl,q _ (I.a9.fresh (WJ _))⟩;exact⟨WL (qg c e f) l,_,0,(r.drop (HT.cC c.length 0 e)).take (HT.cC c.length c.length f-HT.cC c.length 0 e),WZ _ rfl⟩
def zg:eW X (.builtin "len") (λi H Q=>∃p d,i=[.ref p]/\(eV X.K H p d\/iJ X.K H p d)/\Q (.int d.length) H):=by
 intro j s m H i us Q I r h;have⟨p,d,rfl,e,q⟩:=h;have⟨u,rfl,k⟩:=vals1 r;cases k;have hn:=lG;rcases e with e |e
 ·have⟨g,f,pl,l⟩:=I.list e;have c:=f.length;exact Calls.call_len_list pl.isList (by simp only[W7] <;> lia) ⟨.int d.length,H,I.tok _,⟨s.toks+1,by rw[W7,c]⟩,q⟩
 ·have⟨g,f,pl,l⟩:=I.tuple e;have c:=f.length;exact len_tuple pl (by simp only[W7] <;> lia) ⟨.int d.length,H,I.tok _,⟨s.toks+1,by rw[W7,c]⟩,q⟩
def zf:eW X (.builtin "len") (λc H Q=>∃z,c=[.str z]/\z.length<=sizeLine/\Q (.int z.length) H):=by
 intro d s e H c us Q I r h;have⟨z,rfl,f,q⟩:=h;have⟨u,rfl,t,rfl⟩:=vals1 r;have hn:=lG;exact len_str () ⟨.int z.length,H,I.tok _,⟨_,rfl⟩,q⟩
def ze:eW X (.type "list") (λz H Q=>∃p f,z=[.ref p]/\(eV X.K H p f\/iJ X.K H p f)/\∀l,H l=none->Q (.ref l) (upd H l (.lst f))):=by
 intro j s C H z us Q I r h;have⟨p,f,rfl,m,q⟩:=h;have⟨u,rfl,E⟩:=vals1 r;cases E;have v:∀(c:List Value),Vals f c->f.length<=sizeLine->∀(d:Heap)(i:Nat),(∀b A,s.heap.get? b=some A->d.get? b=some A)->
   d.get? s.heap.objs.size=some {cls:=.type "list",dict:=none,data:=.seq c.toArray i,slots:=#[]}->EP X j C Q (.ref s.heap.objs.size) {s with heap:=d}:=λc g k d i kp e=>
  ⟨.ref s.heap.objs.size,_,I.laid (t':=s.toks) kp (WJ _) (show cp X.prog X.w _ d _ (.lst f) from⟨k,c,i,g,e⟩),rfl,q _ (I.a9.fresh (WJ _))⟩
 rcases m with m |m
 ·have⟨c,g,pl,k⟩:=I.list m;have t:=g.length;have⟨o,x,y,n,hd⟩:=pl.isList;exact call_list_seq p (.inl rfl) x y hd (λd i kp e=>v c g k d i kp e) (by simp only[W7] <;> lia)
 ·have⟨c,g,pl,k⟩:=I.tuple m;have t:=g.length;have⟨o,x,y,n,hd⟩:=pl;exact call_list_seq p (.inr rfl) x y hd (λd i kp e=>v c g k d i kp e) (by simp only[W7] <;> lia)
def vD:eW X (.type "tuple") (λm H Q=>∃p f,m=[.ref p]/\((eV X.K H p f/\∀l,H l=none->Q (.ref l) (upd H l (.tup f)))\/(iJ X.K H p f/\Q (.ref p) H))):=by
 intro c s k H m us Q I r h;have⟨p,f,rfl,h⟩:=h;have⟨u,rfl,x⟩:=vals1 r;cases x;rcases h with⟨j,q⟩ |⟨j,q⟩
 ·have⟨d,i,pl,n⟩:=I.list j;have t:=i.length;apply call_tuple_list pl.isList (λg kp=>?_) (by simp only[W7] <;> lia);have v:Inv X c k H {s with heap:=g}:=I.kept (t':=s.toks) kp;have y:Inv X c k (upd H g.objs.size (.tup f)) {s with heap:=g.push {cls:=.type "tuple",data:=.seq d.toArray}}:=
   v.laid (t':=s.toks) (λb o e=>WC _ e) (WJ _) (show cp X.prog X.w _ _ _ (.tup f) from⟨n,d,i,zp.new _ _⟩)
  exact⟨.ref g.objs.size,_,y,rfl,q _ (v.a9.fresh (WJ _))⟩
 ·have⟨d,i,pl,n⟩:=I.tuple j;exact call_tuple_same pl ⟨.ref p,H,I,rfl,q⟩
def MR(K:FR)(T:String)(x:V)(H:Hp):Prop:=match x with
 |.str _=>T="str"
 |.int _=>T="int"
 |.ref p=>(T="list"/\∃e,eV K H p e)\/(T="tuple"/\∃o,K.lookup p=some o/\o.cls=.type "tuple"/\o.dict=none)\/
   (T="dict"/\((∃c,H p=some (.dK c))\/(∃c,H p=some (.dT c))\/∃d,H p=some (.Kr d)/\∀w h,d w h->∃o,h.get? p=some o/\o.ExactDict))\/(T="set"/\∃S n,H p=some (.set S n))
 |_=>False
def GP(I:Inv X pins σ H s)(r:RelV x v)(ty:MR X.K T x H):
  s.TypeIs v T/\∀a,v=.ref a->∃ob,s.heap.get? a=some ob/\ob.dict=none:=by
 cases x with
 |str z=>
  have⟨t,rfl⟩:=r;cases(show T="str" from ty);exact⟨typeIs_str s z t,λ_ e=>nomatch e⟩
 |int i=>
  have⟨t,rfl⟩:=r;cases(show T="int" from ty);exact⟨typeIs_int s i t,λ_ e=>nomatch e⟩
 |ref p=>
  cases r;rcases ty with⟨rfl,xs,k⟩ |⟨rfl,o,d,l,hd⟩ |⟨rfl,d⟩ |⟨rfl,S,n,d⟩
  ·have⟨j,_,pl,_⟩:=I.list k;apply⟨pl.isList.typeIs,λa e=>?_⟩;cases e;have⟨o,n,e,c,hd,_⟩:=pl;exact⟨o,e,hd⟩
  ·apply⟨⟨o,I.wL p o d,l⟩,λa e=>?_⟩;cases e;exact⟨o,I.wL _ o d,hd⟩
  ·have z:∃o,s.heap.get? p=some o/\o.ExactDict:=by
    rcases d with⟨f,d⟩ |⟨f,d⟩ |⟨m,d,g⟩
    ·have⟨_,_,_,_,o,_,_,e,ex,_⟩:=I.a9 p _ d;exact⟨o,e,ex⟩
    ·have⟨_,_,_,_,o,_,_,e,ex,_⟩:=I.a9 p _ d;exact⟨o,e,ex⟩
    ·have⟨q,_⟩:=I.a9 p _ d;exact g _ _ q
   have⟨o,e,ex⟩:=z;apply⟨⟨o,e,ex.1⟩,λa h=>?_⟩;cases h;exact⟨o,e,ex.2.1⟩
  ·have⟨o,_,_,_,e,ex,_⟩:=I.a9 p _ d;apply⟨⟨o,e,ex.1⟩,λa h=>?_⟩;cases h;exact⟨o,e,ex.2.1⟩
 |_=>exact False.elim ty
def UM(K:FR)(T:String)(r:V->List V->Hp->VK->Prop)(e:TE):TE:=λd H Q=>e d H λx c=>MR K T x c/\r x [] c Q
def Wn(K:FR)(T:String)(r:V->List V->Hp->VK->Prop)(f:TE)(t:TA):TE:=λc H Q=>f c H λx d=>MR K T x d/\t c d λe g=>r x e g Q
variable {o e:Expr} {es:List Expr} {to:TE} {t:TA} {name:Str} {apos cpos:Pos} {T id:String} {r:V->List V->Hp->VK->Prop}
def O5(m:PlainAttrs T)(slot:Slot T name id)(g:typeOf (.builtin id)=pure (.type "method_descriptor"))(hm:GH X id r)(n:PE X o to)
  (f:attributeBase o name X.env (eval o X.env)=eval o X.env:=by rfl) (d:(apos.endLine==cpos.line)=true:=by rfl):PE X (.Call (.Attribute o name apos) [] [] cpos) (UM X.K T r to):=by
 intro c s i H Q I h;apply wpAny_Call_method0_late f d (cQ (n c s i H _ I h) λv s1 u9=>?_);have⟨x,H1,k,j,ty,l⟩:=u9;have⟨q,p⟩:=GP k j ty;exact⟨T,id,m,slot,g,q,p,AaE rfl (PySem.evalArgs_none (hm c s1 i H1 x [] v [] Q k j .nil l))⟩
def Sh(y:PlainAttrs T)(slot:Slot T name id)(k:typeOf (.builtin id)=pure (.type "method_descriptor"))(hm:GH X id r)(A:PE X o to)(C:PA X (e::es) t)
  (g:attributeBase o name X.env (eval o X.env)=eval o X.env:=by rfl)
  (i:((backTo cpos (starEach (e::es) X.env)).all (λx=>!x.1)&&(backToKw cpos (keywordEach [] X.env)).all (λx=>x.1.isSome)
   &&decide ((e::es).length+([]:List Keyword).length+(if([]:List Keyword).isEmpty then 0 else 1)<30))=true:=by rfl)
  (f:(apos.endLine==cpos.line)=true:=by rfl) (z:starEach (e::es) X.env=(false,eval e X.env)::starEach es X.env:=by rfl) (d:(backTo cpos (starEach es X.env)).any (·.1)=false:=by rfl):
  PE X (.Call (.Attribute o name apos) (e::es) [] cpos) (Wn X.K T r to t):=by
 intro c s j H Q I h;apply wpAny_Call_method_late g i f rfl (cQ (A c s j H _ I h) λv s1 u9=>?_);have⟨x,H1,n,l,ty,w⟩:=u9;have⟨F,E⟩:=GP n l ty;apply⟨T,id,y,slot,k,F,E,?_⟩;have m:=C cpos c s1 j H1 _ n w;rw[z]at m ⊢;apply AaE (by show(false||(backTo cpos (starEach es X.env)).any (·.1))=false;rw[d] <;> rfl) (Calls.evalArgs_plain ?_);exact cQ m λus s2 ⟨p,J,G,q,u⟩=>hm c s2 j J x p v us Q G l q u
end
def V4(X:Cx)(d:String)(r:V->List V->Hp->VK->Prop):Prop:=
 ∀(a:List (Addr×Obj)) (s:Shared) (b:St) (H:Hp) (x:V) (c:List V) (v:Value) (us:List Value) (Q:VK),Inv X a b H s->RelV x v->Vals c us->r x c H Q->
  wpAny (model X.prog X.w) X.A (call (.builtin d) (v::us)) (EP X a b Q) X.xe s
def Vals.one{x:V}{us:List Value}(h:Vals [x] us):∃u,us=[u]/\RelV x u:=by
 cases h with
 |cons r t=>cases t;exact⟨_,rfl,r⟩
def Vals.two{x y:V}{us:List Value}(h:Vals [x,y] us):∃u v,us=[u,v]/\RelV x u/\RelV y v:=by
 cases h with
 |cons r t=>cases t with
  |cons q z=>cases z;exact⟨_,_,rfl,r,q⟩
theorem Vals.zero:∀{us:List Value},Vals [] us->us=[]
 |_,.nil=>rfl
theorem Vals.dropLast(h:Vals xs us):Vals xs.dropLast us.dropLast:=by
 induction h with
 |nil=>exact .nil
 |cons r t a=>
  cases t with
  |nil=>exact .nil
  |cons q b=>exact .cons r a
theorem Vals.rep(h:Vals xs us):∀k:Nat,Vals (List.replicate k xs).flatten (List.replicate k us).flatten
 | 0=>.nil
 |k+1=>by
  rw[YF,YF,Y8,Y8];exact Vals.append h (Vals.rep h k)
def Cz(l:List α):l.eraseIdx (l.length-1)=l.dropLast:=by
 induction l with
 |nil=>rfl
 |cons a r c=>
  cases r with
  |nil=>rfl
  |cons b r=>
   have e:(a::b::r).length-1=((b::r).length-1)+1:=by
    have f:(a::b::r).length=r.length+2:=rfl;have d:(b::r).length=r.length+1:=rfl;exact d
   rw[e,List.eraseIdx_cons_succ,c]
   all_goals rfl
theorem foldl_rep(a:List Value):∀(k:Nat)(b:List Value),
  List.foldl (λd c=>d++c) b.toArray (List.replicate k a.toArray)=(b++(List.replicate k a).flatten).toArray
 | 0,b=>by simp
 |k+1,b=>by
  have e:b.toArray++a.toArray=(b++a).toArray:=by simp
  have f:(b++a)++(List.replicate k a).flatten=b++(List.replicate (k+1) a).flatten:=by
   rw[YF,Y8,Xo]
  rw[<-f,<-foldl_rep a k (b++a),<-e,YF,Y4]
def Inv.Sz{a its':List Value}{n:Nat}{f:Array Value->Array Value}{c:Nat}(I:Inv X pins σ H s)(k:H l=some (.lst xs))
  (e:s.heap.get? l=some {cls:=.type "list",data:=.seq a.toArray n}) (i:f a.toArray=its'.toArray) (g:Vals b its') (d:b.length<=sizeLine):
  Inv X pins σ (upd H l (.lst b)) {s with heap:=s.heap.update l (Obj.mapSeq f),toks:=c}:=by
 have q:=PySem.IsL.update e f;rw[i]at q;apply I.write (x:=l) (e:=l) (by rw[k];exact trivial) (.inl rfl) (λm u j h=>(YO s.heap (Obj.mapSeq f) (XW j)).trans h) ⟨_,q⟩ ?_;exact⟨d,its',_,g,q⟩
def Inv.PC(I:Inv X pins σ H s)(b:Vals ys its)(a:ys.length<=sizeLine):
  Inv X pins σ (upd H s.heap.objs.size (.lst ys)) {s with heap:=s.heap.push {cls:=.type "list",data:=.seq its.toArray},toks:=t'}:=
 I.laid (λ_ _ q=>WC _ q) (WJ _) ⟨a,its,0,b,WZ _ rfl⟩
theorem Inv.fresh(I:Inv X pins σ H s):H s.heap.objs.size=none:=I.a9.fresh (WJ _)
def Inv.IK(I:Inv X pins σ H s)(b:H l=some (.lst xs)):xs.length<=sizeLine/\∃(a:List Value)(n:Nat),Vals xs a/\xs.length=a.length/\s.heap.get? l=some {cls:=.type "list",data:=.seq a.toArray n}:=by
 have⟨z,a,n,r,e⟩:=I.a9 l _ b;exact⟨z,a,n,r,r.length,e⟩
def IC(h:n<=sizeLine):Builtin.List.listTooLong n=false:=by
 unfold Builtin.List.listTooLong;exact Xc (Aaj.mpr h)
def K5:V->List V->Hp->VK->Prop:=λx b H Q=>∃l a y,x=.ref l/\b=[y]/\H l=some (.lst a)/\a.length<sizeLine/\Q .bg (upd H l (.lst (a++[y])))
def wC:V4 X "list.append" K5:=by
 intro b s g H x j v us Q I d rv h;have⟨l,i,y,rfl,rfl,c,k,q⟩:=h;cases d;have⟨u,rfl,f⟩:=rv.one;have⟨z,a,n,r,hl,e⟩:=I.IK c;apply Aaa YX ⟨_,e,rfl⟩ F.entry_list_append (F.args_list_append_2 _ _) (PySem.list_append l a.toArray n u (by rw[W7];lia)) ⟨e,?_⟩;apply⟨.bg,_,I.Sz (its':=a++[u]) c e (by simp) (r.append (.cons f .nil)) ?_,rfl,q⟩;rw[WR,Y7]
 lia
def Vc:V->List V->Hp->VK->Prop:=λx b H Q=>∃l a y,x=.ref l/\b=[]/\H l=some (.lst a)/\a[a.length-1]?=some y/\Q y (upd H l (.lst a.dropLast))
def Pr:V4 X "list.pop" Vc:=by
 intro d s m H x p v us Q I g rv h;have⟨l,o,y,rfl,rfl,f,j,q⟩:=h;cases g;have c:=rv.zero;subst c;have⟨z,a,n,r,hl,e⟩:=I.IK f;have⟨u,k,i⟩:=r.get j;have b:a.toArray[a.toArray.size-1]?=some u:=by
  show a.toArray[a.length-1]?=some u;rw[<-Ys,<-hl];exact k
 apply Aaa F.slot_list_pop ⟨_,e,rfl⟩ F.entry_list_pop (F.args_list_pop_1 _) (MeetsSeq.list_pop_last l a.toArray n u b (by rw[W7];lia)) ⟨e,?_⟩;apply⟨y,_,I.Sz (its':=a.dropLast) f e ?_ r.dropLast ?_,i,q⟩
 ·show a.toArray.eraseIdxIfInBounds (a.toArray.size-1)=a.dropLast.toArray;rw[W7,List.eraseIdxIfInBounds_toArray,Cz]
 ·rw[Aaz]
  lia
def Vg:R2:=λx y H Q=>∃l b c a,x=.ref l/\y=.ref b/\H l=some (.lst c)/\H b=some (.lst a)/\c.length+a.length<=sizeLine/\∀p,H p=none->Q (.ref p) (upd H p (.lst (c++a)))
def Iv:qN X (binaryOp .Add) Vg:=by
 intro d s w H x y v u Q I g f h;have⟨l,b,E,A,rfl,rfl,m,o,j,q⟩:=h;cases g;cases f;have⟨z,c,n,r,hl,e⟩:=I.IK m;have⟨C,a,n2,i,k,t⟩:=I.IK o;apply PySem.P.add_list e t ?_ (by rw[W7,W7];lia);have p:c.toArray++a.toArray=(c++a).toArray:=by simp
 rw[p];exact⟨.ref _,_,I.PC (t':=s.toks) (r.append i) (by rw[WR];exact j),rfl,q _ I.fresh⟩
def Vb:R2:=λx y H Q=>∃l k a,x=.ref l/\y=.int k/\H l=some (.lst a)/\-(2^63)<=k/\k<2^63/\a.length*k.toNat<=sizeLine/\
 ∀p,H p=none->Q (.ref p) (upd H p (.lst (List.replicate k.toNat a).flatten))
def len_rep(a:List α)(k:Nat):(List.replicate k a).flatten.length=k*a.length:=by
 induction k with
 |zero=>simp
 |succ k b=>rw[YF,Y8,WR,b,Nat.succ_mul,AbM]
def Pf:qN X (binaryOp .Mult) Vb:=by
 intro p s M H x y v u Q I E C h;have⟨l,k,N,rfl,rfl,G,L,J,w,q⟩:=h;cases E;have⟨t,rfl⟩:=C;have⟨z,b,n,r,hl,e⟩:=I.IK G;have f:b.toArray.size*k.toNat<=sizeLine:=by rw[W7,<-hl];exact w
 have i:¬b.toArray.size*k.toNat > (2^63-1) / 8:=by
  have:(sizeLine:Nat)<=(2^63-1) / 8:=by decide
  lia
 have g:¬(!Builtin.List.listFitsIndex k)=true:=by
  rw[fitsIndex_both L J];exact Xi
 have c:¬Builtin.List.listTooLong (b.toArray.size*k.toNat)=true:=by
  rw[IC f];exact Xi
 have d:List.foldl (λo j=>o++j) #[] (List.replicate (if b.toArray.isEmpty=true then 0 else k.toNat) b.toArray)=(List.replicate k.toNat b).flatten.toArray:=by
  have f0:∀m:Nat,List.foldl (λo j=>o++j) #[] (List.replicate m b.toArray)=(List.replicate m b).flatten.toArray:=λm=>by
   have:=foldl_rep b m [];rw[Aap]at this;exact this
  rw[f0];cases b with
  |nil=>simp
  |cons a O=>rw[WM (by simp)]
 apply wpAny_binaryOp_repeat_ref (T:="list") (U:="int") {} ⟨_,e,rfl⟩ (λA=>typeIs_int A k t) noFill_list_mul F.fills_int_mul F.slot_int_rmul repeat_list F.slot_int_index.lookup
  (Aaa F.slot_int_rmul (typeIs_int s k t) F.entry_int_rmul (F.args_int_rmul_2 _ _) (int___rmul___int_list k t l b.toArray n)
   ⟨e,rfl,⟨_,e,rfl⟩,Aaa F.slot_list_mul ⟨_,e,rfl⟩ F.entry_list_mul (F.args_list_mul_2 _ _) (AutoListH.list___mul___list_int_3 l b.toArray n k t g i c) ⟨e,?_⟩⟩)
 rw[d];exact⟨.ref _,_,I.PC (t':=s.toks) (r.rep k.toNat) (by rw[len_rep,Nat.mul_comm];exact w),rfl,q _ I.fresh⟩
section
variable {κ:Type} [DecidableEq κ]
noncomputable def iX(a:List (κ×V))(k:κ):Option V:=(a.find? λb=>decide (b.1=k)).map (·.2)
noncomputable def putK(a:List (κ×V))(k:κ)(v:V):List (κ×V):=
 if(a.any λb=>decide (b.1=k))=true then a.map (λb=>if b.1=k then(b.1,v)else b)else a++[(k,v)]
def rA{p:κ×V}{r:List (κ×V)}{k:κ}(e:p.1=k):iX (p::r) k=some p.2:=by simp[iX,X0,e]
def lV{p:κ×V}{r:List (κ×V)}{k:κ}(e:¬p.1=k):iX (p::r) k=iX r k:=by simp[iX,X0,e]
theorem zy(k:κ):∀a:List (κ×V),(a.any λb=>decide (b.1=k))=(iX a k).isSome
 |[]=>rfl
 |p::r=>by
  rw[Yw]
  by_cases e:p.1=k
  ·simp only[rA e,Xf e,Bool.true_or,Option.isSome_some]
  ·rw[lV e,Xc e,Abu];exact zy k r
def jk(a:List (κ×V))(k:κ)(v:V):(putK a k v).length<=a.length+1:=by
 unfold putK
 split
 ·rw[WA];exact Yy _
 ·rw[WR,WW,XZ];exact XQ _
def pv.gZ(r:pv o u):o.isSome=u.isSome:=by
 cases o with
 |none=>cases u with
  |none=>rfl
  |some _=>exact(show False from r).elim
 |some _=>cases u with
  |none=>exact(show False from r).elim
  |some _=>rfl
theorem pv.getD(r:pv o u)(rd:RelV d a):RelV (o.getD d) (u.getD a):=by
 cases o with
 |none=>cases u with
  |none=>exact rd
  |some _=>exact(show False from r).elim
 |some _=>cases u with
  |none=>exact(show False from r).elim
  |some _=>exact r
def KV.val{a:List (κ×V)}{f:List (κ×Value)}(r:KV a f)(k:κ):pv (iX a k) (valueAt f k):=by
 unfold KV at r
 induction r with
 |nil=>exact True.intro
 |@cons p q l c h t i=>
  have⟨g,j⟩:=h
  by_cases e:p.1=k
  ·have d:q.1=k:=g.symm.trans e;have b:valueAt (q::c) k=some q.2:=by simp[valueAt,X0,d]
   rw[rA e,b];exact j
  ·have d:¬q.1=k:=λz=>e (g.trans z);have b:valueAt (q::c) k=valueAt c k:=by simp[valueAt,X0,d]
   rw[lV e,b];exact i
theorem KV.any(r:KV a c)(k:κ):(a.any λb=>decide (b.1=k))=c.any λb=>decide (b.1=k):=by
 unfold KV at r
 induction r with
 |nil=>rfl
 |cons h t d=>rw[Yw,Yw,d,h.1]
def KV.Oq(r:KV c d)(k:κ)(f:RelV y u):
  KV (c.map λa=>if a.1=k then(a.1,y)else a) (d.map λa=>if a.1=k then(a.1,u)else a):=by
 unfold KV at r ⊢
 induction r with
 |nil=>exact .nil
 |@cons p q l j h t g=>
  rw[WN,WN];apply .cons ?_ g;have⟨b,i⟩:=h
  by_cases e:p.1=k
  ·rw[WH e,WH (b.symm.trans e)];exact⟨b,f⟩
  ·rw[WM e,WM (λz=>e (b.trans z))];exact⟨b,i⟩
def KV.put(r:KV a b)(k:κ)(c:RelV y u):KV (putK a k y) (stored b k u):=by
 unfold putK stored;rw[r.any k]
 by_cases e:(b.any λd=>decide (d.1=k))=true
 ·rw[WH e,WH e];exact r.Oq k c
 ·rw[WM e,WM e];exact Paired.snoc r ⟨rfl,c⟩
theorem KV.length(r:KV a b):a.length=b.length:=Paired.length r
end
def kW(r:RelV (kV k) u):(bo P w).is k u=true:=by
 cases k with
 |inl i=>have⟨t,e⟩:=(show ∃t,u=Value.int i t from r);subst e;exact p7 P w i t
 |inr x=>have⟨t,e⟩:=(show ∃t,u=Value.str x t from r);subst e;exact p6 P w x t
theorem wM:∀{ks:List Key} {us:List Value},Vals (ks.map kV) us->ItemsAre (bo P w) ks us
 |[],_,r=>by rw[Ye]at r;cases r;exact .nil
 |k::ks,_,r=>by
  rw[WN]at r;cases r with
  |cons h t=>exact .cons (kW h) (wM t)
abbrev KT(H:Hp):List (List Key×V)->List (List Key×Addr×Value)->Prop:=Paired λp q=>p.1=q.1/\H q.2.1=some (.tup (p.1.map kV))/\RelV p.2 q.2.2
def KT.val{H:Hp}{a:List (List Key×V)}{f:List (List Key×Addr×Value)}(r:KT H a f)(k:List Key):pv (iX a k) ((atKey f k).map (·.2)):=by
 induction r with
 |nil=>exact True.intro
 |@cons p q l c h t i=>
  have⟨g,_,j⟩:=h
  by_cases e:p.1=k
  ·have d:q.1=k:=g.symm.trans e;have b:atKey (q::c) k=some q.2:=by simp[atKey,X0,d]
   rw[rA e,b];exact j
  ·have d:¬q.1=k:=λz=>e (g.trans z);have b:atKey (q::c) k=atKey c k:=by simp[atKey,X0,d]
   rw[lV e,b];exact i
def KT.Oq(r:KT H b xs)(k:List Key)(f:RelV y u):
  KT H (b.map λc=>if c.1=k then(c.1,y)else c) (xs.map (putAt k u)):=by
 induction r with
 |nil=>exact .nil
 |@cons p q l j h t g=>
  rw[WN,WN];apply .cons ?_ g;have⟨a,d,i⟩:=h;unfold putAt
  by_cases e:p.1=k
  ·rw[WH e,WH (a.symm.trans e)];exact⟨a,d,f⟩
  ·rw[WM e,WM (λz=>e (a.trans z))];exact⟨a,d,i⟩
def KT.put(r:KT H a xs)(k:List Key)(f:H b=some (.tup (k.map kV)))(c:RelV y u):
  KT H (putK a k y) (storedH xs k b u):=by
 have e:(a.any λd=>decide (d.1=k))=(atKey xs k).isSome:=by
  rw[zy,(r.val k).gZ,AaS]
 unfold putK storedH;rw[e]
 by_cases q:(atKey xs k).isSome=true
 ·rw[WH q,WH q];exact r.Oq k c
 ·rw[WM q,WM q];exact Paired.snoc r ⟨rfl,f,c⟩
def KT.keeps(r:KT H a xs)(ht:∀b c,H b=some (.tup c)->d b=some (.tup c)):KT d a xs:=
 Paired.Pu r λ_ _ z=>⟨z.1,ht _ _ z.2.1,z.2.2⟩
def MY(ok:gQ P w H h)(e:Rd H a u):cp P w H h a u:=e.ok ok
def qe(ok:gQ P w H h)(e:Rd H a (.dK b)):b.length<=sizeLine/\(a==sysModules)=false/\∃c,KV b c/\h.DictOf (bo P w) a c:=
 show cp P w H h a (.dK b) from MY ok e
def AU(ok:gQ P w H h)(e:H a=some (.dK b)):b.length<=sizeLine/\(a==sysModules)=false/\∃c,KV b c/\h.DictOf (bo P w) a c:=qe ok (.inl e)
def lJ(ok:gQ P w H h)(e:H a=some (.tup (ks.map kV))):(tupleKind (bo P w)).is h ks a:=by
 obtain⟨_,b,r,o,f,d,⟨n,c⟩,_⟩:=(show cp P w H h a (.tup (ks.map kV)) from ok a _ e);exact⟨o,b.toArray,n,f,d,c,by simpa using wM r⟩
def tZ(ok:gQ P w H h)(e:Rd H a (.dT b)):b.length<=sizeLine/\(a==sysModules)=false/\
  ∃d,KT H b d/\h.DictOfH (tupleKind (bo P w)) a d:=by
 have⟨z,y,d,r,o,es,u,s,n,k,j,i⟩:=(show cp P w H h a (.dT b) from MY ok e);apply⟨z,y,d,r,o,es,u,s,n,k,j,λx c=>?_,i⟩;have all:∀{l:List (List Key×V)} {m:List (List Key×Addr×Value)},KT H l m->∀x∈m,(tupleKind (bo P w)).is h x.1 x.2.1:=by
  intro l m q
  induction q with
  |nil=>intro x c;exact nomatch c
  |@cons p q A v f t g=>
   intro x c;rcases WV.mp c with e |c
   ·subst e;exact lJ ok (by rw[<-f.1];exact f.2.1)
   ·exact g x c
 exact all r x c
def Ta(ok:gQ P w H h)(e:H a=some (.dT b)):b.length<=sizeLine/\(a==sysModules)=false/\
  ∃c,KT H b c/\h.DictOfH (tupleKind (bo P w)) a c:=tZ ok (.inl e)
def om(H:Hp)(a:Addr)(y:V)(r:Option V):Prop:=
 (∃c k,Rd H a (.dK c)/\y=kV k/\r=iX c k)\/∃c k b,Rd H a (.dT c)/\y=.ref b/\H b=some (.tup (k.map kV))/\r=iX c k
def MM(H:Hp)(a:Addr)(y v:V)(d:Hp):Prop:=
 (∃c k,H a=some (.dK c)/\y=kV k/\c.length<sizeLine/\d=upd H a (.dK (putK c k v)))\/
 ∃c k b,H a=some (.dT c)/\y=.ref b/\H b=some (.tup (k.map kV))/\c.length<sizeLine/\d=upd H a (.dT (putK c k v))
theorem om.k{H:Hp}{a:Addr}{b:List (Key×V)}{k:Key}(e:H a=some (.dK b)):om H a (kV k) (iX b k):=.inl ⟨b,k,.inl e,rfl,rfl⟩
theorem MM.k{H:Hp}{a:Addr}{b:List (Key×V)}{k:Key}{v:V}(e:H a=some (.dK b))(hl:b.length<sizeLine):MM H a (kV k) v (upd H a (.dK (putK b k v))):=.inl ⟨b,k,e,rfl,hl,rfl⟩
def Inv.big(I:Inv X pins σ H s):sysModules<s.heap.objs.size:=by
 have h:mainGlobals<s.heap.objs.size:=(I.mod.glob.keeps I.bk).lt;exact ZT {} h
def Gg(C:A.units+1<cLine)(I:Inv X pins σ H s)(g:om H a y (some v))(r:RelV y u)(h:∀f q,Inv X pins σ H q->RelV v f->Q f q):
  wpAny (model X.prog X.w) A (getItem (.ref a) u) Q E s:=by
 rcases g with⟨i,k,e,n,l⟩ |⟨i,k,b,e,n,F,l⟩
 ·subst n;have⟨z,hd,x,d,dd⟩:=qe I.a9 e;have⟨f,j,c⟩:=pv.some_of (v:=v) (o:=valueAt x k) (by rw[l];exact d.val k);exact wpAny_getItem_of (kW r) dd.mapOf j (h f _ (I.tok _) c)
 ·subst n;cases(show u=Value.ref b from r);have⟨z,hd,t,d,dd⟩:=tZ I.a9 e;have⟨f,j,c⟩:=pv.some_of (v:=v) (o:=(atKey t k).map (·.2)) (by rw[l];exact d.val k);have⟨p,hp,m⟩:=XD.mp j;apply wpAny_getItem_heap (Y9 C) (lJ I.a9 F) dd hp ?_;rw[m];exact h f _ (I.tok _) c
def VB(m:A.units+1<cLine)(I:Inv X pins σ H s)(g:om H a y o)(j:RelV y u)(h:∀i,Inv X pins σ H i->Q (.bool o.isSome) i):
  wpAny (model X.prog X.w) A (compareOp .In u (.ref a)) Q E s:=by
 rcases g with⟨d,k,e,f,l⟩ |⟨d,k,b,e,f,n,l⟩
 ·subst f;have⟨z,hd,r,c,dd⟩:=qe I.a9 e;apply wpAny_in_of (kW j) hd dd.mapOf ?_;rw[<-(c.val k).gZ,<-l];exact h _ (I.tok _)
 ·subst f;cases(show u=Value.ref b from j);have⟨z,hd,p,c,dd⟩:=tZ I.a9 e;apply wpAny_in_heap (Y9 m) (lJ I.a9 n) hd dd ?_;have q:=(c.val k).gZ;rw[AaS]at q;rw[<-q,<-l];exact h _ (I.tok _)
def Mg(m:A.units+1<cLine)(I:Inv X pins σ H s)(g:om H a y o)(j:RelV y u)(h:∀i,Inv X pins σ H i->Q (.bool (!o.isSome)) i):
  wpAny (model X.prog X.w) A (compareOp .NotIn u (.ref a)) Q E s:=by
 rcases g with⟨d,k,e,f,l⟩ |⟨d,k,b,e,f,n,l⟩
 ·subst f;have⟨z,hd,r,c,dd⟩:=qe I.a9 e;apply wpAny_notIn_of (kW j) hd dd.mapOf ?_;rw[<-(c.val k).gZ,<-l];exact h _ (I.tok _)
 ·subst f;cases(show u=Value.ref b from j);have⟨z,hd,p,c,dd⟩:=tZ I.a9 e;apply wpAny_notIn_heap (Y9 m) (lJ I.a9 n) hd dd ?_;have q:=(c.val k).gZ;rw[AaS]at q;rw[<-q,<-l];exact h _ (I.tok _)
def kd(I:Inv X pins σ H s)(d:Ug (H a))(f:Heap.SameBut a s.heap c)(g:∃q,c.get? a=some q)(new:cp X.prog X.w (upd H a ob) c a ob):
  Inv X pins σ (upd H a ob) {s with heap:=c,toks:=t'}:=
 I.write (x:=a) (e:=a) d (.inl rfl) (λb q h z=>(f.2 b h).trans z) g new
def CG(z:b.length<=sizeLine)(hd:(a==sysModules)=false)(c:KV b d)(dd:e.DictOf (bo P w) a d):
  cp P w H' e a (.dK b):=⟨z,hd,d,c,dd⟩
def Gf(M:A.units+1<cLine)(I:Inv X pins σ H s)(g:MM H a y v U)(x:RelV y u)(rv:RelV v r)(h:∀t,Inv X pins σ U t->Q ⟨⟩ t):
  wpAny (model X.prog X.w) A (setItem (.ref a) u r) Q E s:=by
 rcases g with⟨f,k,e,o,l,p⟩ |⟨f,k,b,e,o,G,l,p⟩
 ·subst o p;have⟨z,hd,L,d,dd⟩:=AU I.a9 e;have m:L.length<=sizeLine:=by rw[<-d.length];exact z
  have hl:(putK f k v).length<=sizeLine:=by have:=jk f k v;lia
  apply wpAny_setItem_pairs (hsz:=m) (kW x) dd λC i n=>h _ ?_;have N:∃q,C.get? a=some q:=by have⟨q,_,_,j,_⟩:=i;exact⟨q,j⟩
  exact kd I (by rw[e];exact True.intro) n N (CG hl hd (d.put k rv) i)
 ·subst o p;cases(show u=Value.ref b from x);have⟨z,hd,J,d,dd⟩:=Ta I.a9 e;have m:J.length<=sizeLine:=by rw[<-Paired.length d];exact z
  have hl:(putK f k v).length<=sizeLine:=by have:=jk f k v;lia
  apply wpAny_setItem_heap (hsz:=m) (Y9 M) (lJ I.a9 G) dd λC i n=>h _ ?_;have⟨q,es,T,j,S,R,P,_,O⟩:=i;apply kd I (by rw[e];exact True.intro) n ⟨q,j⟩ ⟨hl,hd,_,(d.put k G rv).keeps λc Y F=>?_,q,es,T,j,S,R,P,O⟩;rw[aE (Ss F e (λz=>nomatch z))];exact F
def Tb(I:Inv X pins σ H s)(e:Rd H a (.dK c))(h:∀t d,Inv X pins σ H d->Q (.int c.length t) d):wpAny (model X.prog X.w) A (call (.builtin "len") [.ref a]) Q E s:=by
 have⟨z,hd,f,b,dd⟩:=qe I.a9 e;apply call_len_dict hd dd (by rw[<-b.length];rw[Yv]at z;lia) ?_;rw[<-b.length];exact h _ _ (I.tok _)
def MI(i:Expr):Prop:=∀ov a,subscripted i false ov a=operate [ov,a] (getItem ov a)
def KG{prog:Program}{w:World}{A:Around}{E:Value->Shared->Prop}{s:Shared}{env:Env}{b a:Expr}{pos:Pos}{T m:String}{Q:Value->Shared->Prop}
  (hl:typeLookup (.type T) "__getitem__"=pure (some (.builtin m))) (n:MI a)
  (h:wpAny (model prog w) A (eval b env) (λo f=>wpAny (model prog w) A (eval a env) (λi c=>c.TypeIs o T/\wpAny (model prog w) A (getItem o i) Q E c) E f) E s):
  wpAny (model prog w) A (eval (.Subscript b a pos) env) Q E s:=by
 apply Subscript_ (Yd h (λo f k=>Yd k (λi c d=>?_) λ_ _ x=>x) λ_ _ x=>x);have⟨l,d⟩:=d;unfold subscriptTail;apply Wz ?_;rw[getitemInPython_of_ne l.not_modules];apply Wz (Za l hl ?_);have g:wpAny (model prog w) A (subscripted a false o i) (λr e=>wpAny (model prog w) A (letTemporaryGo b o r >>=λ_=>pure r) Q E e) E c:=by
  rw[n o i];exact wpAny_operating (Yd d (λr e j=>Wz (wpAny_letTemporaryGo (WD j))) λ_ _ x=>x)
 first
  |exact WD (Wz g)
  |exact Wz (WD (Wz g))
  |exact Wz g
def AV(I:Inv X pins σ H s)(g:om H a y o):s.TypeIs (.ref a) "dict":=by
 rcases g with⟨c,k,e,_,_⟩ |⟨c,k,b,e,_,_,_⟩
 ·have⟨_,_,f,_,dd⟩:=qe I.a9 e;exact dd.typeIs
 ·have⟨_,_,d,_,dd⟩:=tZ I.a9 e;exact dd.typeIs
def t4(h:Heap)(a:sysModules<h.objs.size):cp P w H (h.push {cls:=.type "dict",data:=.dict #[]}) h.objs.size (.dK []):=
 ⟨Xg _,ZP.mpr (XW (Xa a)),[],.nil,Heap.DictOf.new h⟩
def NT:TE:=λ_ H Q=>∀p,H p=none->Q (.ref p) (upd H p (.dK []))
def Ie:PE X (.Dict [] [] pos) NT:=λb s c H Q I h=>
 wpAny_Dict_empty ⟨.ref s.heap.objs.size,_,I.laid (a:=s.heap.objs.size) (o:=.dK []) (t':=s.toks) (λ_ _ q=>WC _ q) (WJ _) (t4 s.heap I.big),rfl,h _ (I.a9.fresh (WJ _))⟩
def xx:List (TE×TE)->St->Hp->(List (V×V)->Hp->Prop)->Prop
 |[],_,H,Q=>Q [] H
 |(b,a)::r,σ,H,Q=>b σ H λx f=>a σ f λy e=>xx r σ e λc d=>Q ((x,y)::c) d
abbrev VV:List (V×V)->List (Value×Value)->Prop:=Paired λp q=>RelV p.1 q.1/\RelV p.2 q.2
def QU(X:Cx)(pos:Pos)(c:List (Option Expr))(a:List Expr)(e:List (TE×TE)):Prop:=
 ∀(b:List (Addr×Obj)) (s:Shared) (d:St) (H:Hp) (Q:List (V×V)->Hp->Prop),Inv X b d H s->xx e d H Q->
  wpAny (model X.prog X.w) X.A (evalPairs (pairTrees c a X.env pos)) (λh i=>∃f g,Inv X b d g i/\VV f h/\Q f g) X.xe s
def Lg:QU X pos [] [] []:=λa s b H Q I h=>pairTrees_nil_walk ⟨[],H,I,.nil,h⟩
def HW(p:PE X k f)(o:PE X v e)(hr:QU X pos ks d c):
  QU X pos (some k::ks) (v::d) ((f,e)::c):=λa s b H Q I h=>
 pairTrees_cons_walk (cQ (p a s b H _ I h) λu s1 ⟨x,H1,t,i,m⟩=>cQ (o a s1 b H1 _ t m) λA s2 ⟨y,z,r,g,l⟩=>
  cQ (hr a s2 b z _ r l) λws s3 ⟨n,w,q,rel,j⟩=>⟨(x,y)::n,w,q,.cons ⟨i,g⟩ rel,j⟩)
def bA(a more:List (Key×V)):List (Key×V):=more.foldl (λb c=>putK b c.1 c.2) a
def KV.merge:∀{more:List (Key×V)} {rs:List (Key×Value)} {a:List (Key×V)} {b:List (Key×Value)},KV more rs->KV a b->KV (bA a more) (merged b rs):=by
 intro more rs a b r;unfold KV at r
 induction r generalizing a b with
 |nil=>intro q;exact q
 |@cons p q g f h t d=>
  intro c;have e:KV (putK a p.1 p.2) (stored b q.1 q.2):=by
   have:=c.put p.1 h.2;rw[<-h.1];exact this
  exact d e
theorem gK:∀(more a:List (Key×V)),(bA a more).length<=a.length+more.length
 |[],a=>by show a.length<=a.length+0;exact WJ _
 |p::r,a=>by
  have c:=gK r (putK a p.1 p.2);have b:=jk a p.1 p.2;show(bA (putK a p.1 p.2) r).length<=_;rw[WW];lia
theorem t9:∀{d:List (Key×V)} {e:List (Value×Value)},VV (d.map λf=>(kV f.1,f.2)) e->∃rs,Carries (bo P w) e rs/\KV d rs
 |[],_,r=>by rw[Ye]at r;cases r;exact⟨[],True.intro,.nil⟩
 |p::d,_,r=>by
  rw[WN]at r;cases r with
  |@cons a b as bs h t=>
   have⟨rs,c,q⟩:=t9 (P:=P) (w:=w) t;have⟨i,g⟩:=b;exact⟨(p.1,g)::rs,⟨kW h.1,rfl,c⟩,.cons ⟨rfl,h.2⟩ q⟩
def GX(b:List (TE×TE)):TE:=λe H Q=>∀p,H p=none->xx b e (upd H p (.dK [])) λf d=>d p=some (.dK [])/\∃a:List (Key×V),f=a.map (λc=>(kV c.1,c.2))/\a.length<=15/\Q (.ref p) (upd d p (.dK (bA [] a)))
def yd(h:QU X pos keys values i)(f:keys.all (·.isSome)=true)(hl:keys.length=values.length)(A:keys≠[])(j:keys.length<=15):PE X (.Dict keys values pos) (GX i):=by
 intro b s l H Q I q;have hn:=I.a9.fresh (WJ s.heap.objs.size);have E:=I.laid (a:=s.heap.objs.size) (o:=.dK []) (h':=s.heap.push {cls:=.type "dict",data:=.dict #[]}) (t':=s.toks) (λ_ _ q=>WC _ q) (WJ _) (t4 s.heap I.big);apply wpAny_Dict_walk (knd:=bo X.prog X.w) f hl A j (cQ (h b _ l _ _ E (q _ hn)) λws s2 u9=>?_);have⟨F,G,k,rel,e,d,C,lk,r⟩:=u9;subst C;have⟨rs,c,n⟩:=t9 (P:=X.prog) (w:=X.w) rel;have⟨z,hd,m,p,dd⟩:=AU k.a9 e;cases p;apply⟨rs,c,dd,λh' g u=>⟨.ref s.heap.objs.size,_,?_,rfl,r⟩⟩;have t:(bA [] d).length<=sizeLine:=by
  have y:=gK d [];rw[XZ]at y;rw[Yv];lia
 have x:∃q,h'.get? s.heap.objs.size=some q:=by have⟨q,_,_,v,_⟩:=g;exact⟨q,v⟩
 exact kd k (by rw[e];exact True.intro) u x (CG t hd (n.merge .nil) g)
def Qi(p:A.units+1<cLine)(I:Inv X pins σ H s)(g:om H a y o)(m:RelV y u)(h:∀i j,Inv X pins σ H j->RelV (o.getD .bg) i->Q i j):
  wpAny (model X.prog X.w) A (call (.builtin "dict.get") [.ref a,u]) Q E s:=by
 rcases g with⟨d,k,e,f,l⟩ |⟨d,k,b,e,f,q,l⟩
 ·subst f;have⟨z,hd,r,c,dd⟩:=qe I.a9 e;apply AaC Yr dd.typeIs YY (Abz _ _) (meets_dict_get (bo X.prog X.w) a (kW m) hd) ⟨_,dd.mapOf,h _ _ (I.tok _) ?_⟩;rw[l];exact(c.val k).getD rfl
 ·subst f;cases(show u=Value.ref b from m);have⟨z,hd,n,c,dd⟩:=tZ I.a9 e;apply AaC Yr dd.typeIs YY (Abz _ _) (meetsH_dict_get (tupleKind (bo X.prog X.w)) a b hd) ⟨Y9 p,k,n,lJ I.a9 q,dd,h _ _ (I.tok _) ?_⟩;rw[l];exact(c.val k).getD rfl
def Qh(q:A.units+1<cLine)(I:Inv X pins σ H s)(g:om H a y o)(n:RelV y u)(rd:RelV d r)(h:∀j m,Inv X pins σ H m->RelV (o.getD d) j->Q j m):
  wpAny (model X.prog X.w) A (call (.builtin "dict.get") [.ref a,u,r]) Q E s:=by
 rcases g with⟨f,k,e,i,l⟩ |⟨f,k,b,e,i,t,l⟩
 ·subst i;have⟨z,hd,v,c,dd⟩:=qe I.a9 e;apply AaC Yr dd.typeIs YY (Aae _ _ _) (meets_dict_get_default (bo X.prog X.w) a (kW n) hd r) ⟨_,dd.mapOf,h _ _ (I.tok _) ?_⟩;rw[l];exact(c.val k).getD rd
 ·subst i;cases(show u=Value.ref b from n);have⟨z,hd,p,c,dd⟩:=tZ I.a9 e;apply AaC Yr dd.typeIs YY (Aae _ _ _) (meetsH_dict_get_default (tupleKind (bo X.prog X.w)) a b hd r) ⟨Y9 q,k,p,lJ I.a9 t,dd,h _ _ (I.tok _) ?_⟩;rw[l];exact(c.val k).getD rd
end L2
namespace Att
open PySem.W PySem.Calls PyProof.Rows
def qL:∀(ns:List Int)(c:List Value),WellAll P h c (ns.map WData.int)->IntsAre c ns:=by
 intro ns
 induction ns with
 |nil=>
  intro c w;rw[Ye]at w;cases w;exact .nil
 |cons n ns d=>
  intro c w;rw[WN]at w;cases w with
  |cons a b=>
   cases a;exact .cons _ _ (d _ b)
def E7{l:OpenLaw}{n:Nat}(hn:l.most=some n){P:Params}{h:Heap}{args:List WData}{b:List Value}
  (c:l.row.toRowW.claim.pre args=true) (j:WellAll P h b args):
  ∃a m ns,b=[Value.ref a]/\args=[WData.list (ns.map WData.int)]/\h.get? a=some {cls:=.type "list",data:=.seq m.toArray}/\IntsAre m ns/\ns.length<=n:=by
 have k:WShape.hasAll [] args [.list .int]=true:=(pre_splitW c).1;have o:l.pre.holds [] {args:=args}=true:=(pre_splitW c).2;have⟨d,r,rfl,x,w⟩:=hasAllW_cons k;obtain rfl:=hasAllW_nil w;have⟨y,rfl,v⟩:=hasW_list x;have⟨ns,rfl⟩:=items_int v;have e:ns.length<=n:=by
  unfold OpenLaw.pre at o;have i:(WTm.not (.lt (.lit (.int (n:Int))) (.len (.arg 0)))).holds [] {args:=[.list (ns.map .int)]}=true:=by
   have i:=(holds_andW o).1;rw[hn]at i;exact i
  have g:=condW_of i (w_not (w_lt w_lit (w_len_list (w_arg rfl))));rw[WA]at g;apply XA λq=>?_;have t:(n:Int)<((ns.length:Nat):Int):=by exact YK.mpr q
  first
   |(rw[Xf t]at g;exact absurd g {})
   |(simp at g;lia)
 cases j with
 |cons s p=>
  cases p;cases s with
  |list u f=>exact⟨_,_,ns,rfl,rfl,u,qL ns _ f,e⟩
def Fm(l:OpenLaw)(args:List WData):l.row.toRowW.claim.post args (.bool true) args=true:=
 postW_of (r:=l.row.toRowW) (X:=(true==true))
  (show WShape.has [] (.bool true) .bool=true by first |rfl |decide |simp[WShape.has,WShape.arms,WShape.armsAll])
  (show(WTm.eq .res (.lit (.bool true))).value [] {args:=args,res:=some (.bool true),after:=args}=some (.bool (true==true)) from w_eq_bool (w_res rfl) w_lit) rfl
def Bf{l:OpenLaw}{n:Nat}{q:Program}{c:List Str}{H:(Str->Option Value)->Heap->Prop}{F:World->Heap->Prop}{d:DefRec}
  (hn:l.most=some n) (y:d.params.defaults=[])
  (call:∀(w:World)(s₀ b:Shared)(mg u:Str->Option Value)(m:Addr)(o:Obj)(t s g:Value)(a:Addr)(h:List Value)(ns:List Int),
   Ground q c [] H w s₀ mg u b.heap->F w b.heap->
   b.heap.get? m=some o->o.data=.func (docDef d.name d.params d.body d.scope t s g)->b.heap.CodeRec s d.name->mg d.name=some (.ref m)->
   b.heap.get? a=some {cls:=.type "list",data:=.seq h.toArray}->IntsAre h ns->ns.length<=n->b.gens=#[]->
   codeAny (model l.prog w) callerA (.call (.ref m) ⟨[.ref a],[]⟩) (λr p=>r=.ok (.ret (.bool true))/\OldK b.heap p.heap/\p.os=b.os/\AllBare p.gens) b):
  WalkO q c H F l.row.toRowW d [] (λf h=>PySem.call f h):=by
 intro w s₀ b mg u G Y m o t s g R kV L hd z E x N args A as i C I v M;obtain rfl:R=.none:=Dflts.none E y;obtain rfl:kV=.none:=Dflts.noKw E;have⟨a,h,ns,rfl,rfl,j,e,k⟩:=E7 hn i v;apply enter_call (ZL (call w s₀ b mg u m o t s g a h ns G Y L (fd_plain hd) z x j e k N) λr p J=>?_);have⟨rfl,Q,P,O⟩:=J;exact⟨.inl ⟨.bool true,.bool true,[],rfl,λ_=>rfl,.bool true,Fm l _,λ_=>⟨List.Pairwise.nil,λ_ hm=>(nomatch hm)⟩⟩,Q,P,O⟩
section
variable {prog:Program} {w:World} {A:Around} {E:Value->Shared->Prop} {s:Shared} {K:Frag}
end
end Att
namespace L2
open PyProof.Rows
def ox{b:List Value}{ns:List Int}(a:IntsAre b ns):Vals (ns.map V.int) b:=by
 induction a with
 |nil=>exact .nil
 |cons n t h c=>exact .cons ⟨t,rfl⟩ c
def Ud(H:Hp):Prop:=∀b,H b=none\/∃o a,H b=some (.Eh o (.lst a))
def IW{P:Program}{w:World}{K:FR}{mg N:Str->Option Value}{CX:MN}{k:Nat}{T a:Addr}{fd:FuncData}{x:Str}{sp:Sp}{c:Shared}{p:List Value}{ns:List Int}
  (KX:K.In c.heap) (E:c.heap.Ns mainGlobals mg) (g:c.heap.Ns builtinsNs N) (R:∀x:Str,x≠"__name__"->N x=bootBuiltins x) (G:c.heap.NoLimit) (hg:c.gens=#[])
  (L:c.heap.get? a=some {cls:=.type "list",data:=.seq p.toArray}) (X:IntsAre p ns) (hl:ns.length<=sizeLine) (hr:fh k callerA)
  (F:∀base:Heap,K.In base->base.Ns mainGlobals mg->gf P w K mg base CX k T fd [x] sp) (t:∀(s:Shared)(u:Value),BindsTo s fd ⟨[u],[]⟩ [(x,u)])
  (O:∀H:Hp,Ud H->eV K H a (ns.map V.int)->sp [.ref a] H (λv _=>v=.bl true) λ_ _ _=>False)
  (S:∀H e i,CX [] H c (λ_ _ _=>False) e i->False):
  codeAny (model P w) callerA (.call (.ref T) ⟨[.ref a],[]⟩) (λr i=>r=.ok (.ret (.bool true))/\OldK c.heap i.heap/\i.os=c.os/\AllBare i.gens) c:=by
 have rv:=ox X;have A:=X.length;have l:∀H:Hp,Ud H->eV K H a (ns.map V.int)->gQ P w H c.heap->(∀b,H b≠none->b=a)->(H a≠none->K.lookup a=none)->
   codeAny (model P w) callerA (.call (.ref T) ⟨[.ref a],[]⟩) (λr i=>r=.ok (.ret (.bool true))/\OldK c.heap i.heap/\i.os=c.os/\AllBare i.gens) c:=by
  intro H Y hS a9 Z hK;have f:∀{b:Addr} {o:Obj},c.heap.get? b=some o->H b=none->(yH c.heap H).get? b=some o:=λe n=>I8 e n;have M:∀{b:Addr} {o:Obj} {es:Array DictEntry} {J:Nat},c.heap.get? b=some o->o.data=.dict es J->H b=none:=λ{b o es J} e d=>by
   cases q:H b with
   |none=>rfl
   |some u=>
    have U:b=a:=Z b (by rw[q];simp);subst U;rw[L]at e;cases e;have d':Data.seq p.toArray _=Data.dict es J:=d;cases d'
  have j:∀{b:Addr} {m:Str->Option Value},c.heap.Ns b m->(yH c.heap H).Ns b m:=λ{b m} ⟨o,es,J,e,d,r⟩=>⟨o,es,J,f e (M e d),d,r⟩;have I:K.In (yH c.heap H):=λb o e=>f (KX b o e) (by
   cases q:H b with
   |none=>rfl
   |some u=>
    have U:b=a:=Z b (by rw[q];simp);subst U;rw[hK (by rw[q];simp)]at e;cases e)
  have hM:Mod K mg (yH c.heap H):=⟨I,j E,⟨N,j g,R⟩,let⟨mc,h1,h2⟩:=G;⟨mc,j h1,h2⟩⟩;have e0:ML P w K mg (yH c.heap H) callerA [] c H:=⟨rfl,hM,λb o e=>Lz e,Aak (FV _ _),trivial,λb g=>absurd (show b∈([]:List Addr) from g) (by simp),a9,.of_eq hg⟩;apply ZL ((F _ I (j E)).run callerA [] c H ⟨[.ref a],[]⟩ [.ref a] [.ref a] _ _ hr e0 (t c (.ref a)) (.cons rfl .nil) (O H Y hS)) λr i h=>?_;cases r with
  |error e=>exact(S H e i h).elim
  |ok fl=>
   cases fl with
   |next=>exact False.elim h
   |brk=>exact False.elim h
   |cont=>exact False.elim h
   |ret u=>
    have⟨v,H',os,bare,un,C,r',q⟩:=h;have q':v=.bl true:=q;subst q';obtain rfl:u=Value.bool true:=r';apply⟨rfl,OldK.of_keep λb o e=>?_,os,bare⟩;cases q:H b with
    |none=>exact un.keep b o e q (by intro z;exact absurd (show b∈([]:List Addr) from z) (by simp)) (by simp)
    |some u=>
     rcases Y b with z |⟨ob,xs,z⟩
     ·rw[q]at z;cases z
     ·have z2:=un.vv b ob _ z;have⟨e1,_⟩:=a9 b _ z;have⟨e2,_⟩:=C b _ z2;rw[e]at e1;cases e1;exact e2
 cases Q:K.lookup a with
 |some o=>
  have e:=KX a o Q;rw[L]at e;cases e;apply l (λ_=>none) (λ_=>.inl rfl) (.inr ⟨_,p.toArray,_,Q,rfl,rfl,rfl,by rw[W7,A];exact hl,by simpa using rv⟩) (λb u z=>by have y:(none:Option HO)=some u:=z;cases y) (λb z=>absurd rfl z) λz=>absurd rfl z
 |none=>
  apply l (λb=>if b=a then some (.Eh {cls:=.type "list",data:=.seq p.toArray} (.lst (ns.map V.int)))else none) (λb=>?_) (.inl (.inr ⟨{cls:=.type "list",data:=.seq p.toArray},WH rfl⟩)) (λb u z=>?_) (λb z=>?_) λ_=>Q
  ·by_cases g:b=a
   ·exact .inr ⟨_,_,WH g⟩
   ·exact .inl (WM g)
  ·by_cases g:b=a
   ·have y:=(WH g).symm.trans z;cases y;subst g;exact⟨L,by rw[WA];exact hl,p,_,rv,L⟩
   ·have y:=(WM g).symm.trans z;cases y
  ·by_cases g:b=a
   ·exact g
   ·exact absurd (WM g) z
noncomputable def nI(s:Stmt):Arguments:=match s with
 |.FunctionDef _ a _ _ _ _ _ _ _ _=>a
 |_=>{posonlyargs:=[],args:=[],vararg:=none,kwonlyargs:=[],kw_defaults:=[],kwarg:=none,defaults:=[]}
noncomputable def gD(s:Stmt):List Stmt:=match s with
 |.FunctionDef _ _ b _ _ _ _ _ _ _=>b
 |_=>[]
noncomputable def ah(s:Stmt):Scope:=match s with
 |.FunctionDef _ _ _ _ _ _ sc _ _ _=>sc
 |_=>{kind:=.function,names:=[],isGenerator:=false,isCoroutine:=false}
abbrev xm:MN:=λ_ _ _ _ _ _=>False
abbrev E0:XK:=λ_ _ _=>False
def Sj:Passes xm X E0:=λ_ _ _ _ _ _ _ h=>h.elim
structure CZ(K:FR)(x qual:Str)(st:Stmt)(f:Addr)(fd:FuncData):Prop where
 ex:∃(oc:Value)(od:Option Addr)(kV doc pm:Value)(an:Option Addr)(cdv ct:Value)(osl:Array (Option Value)),
  fd=PySem.W.fnOf x qual (nI st) (gD st) (ah st) .none kV doc pm an cdv ct/\K.lookup f=some ⟨oc,od,.func fd,osl⟩/\PySem.W.codeIn K cdv qual=true
 kp:PySem.W.keepIn K (.ref f)=true
section
variable {P:Program} {w:World} {K:FR} {mg:Str->Option Value} {base:Heap}
def CZ.ok{x a:Str}{st:Stmt}{f:Addr}{j:FuncData}{N e:List Str}{k:Nat}{sp:Sp}(F:CZ K x a st f j)(S:aw N e (ah st))(len:∀c H Q E,sp c H Q E->c.length=e.length)
  (d:∀(b:Value)(A:Around)(outer:List Env)(s:Shared)(H:Hp)(c:List V)(Q:VK)(E:XK),fh k (A.deeper (envOfC a (ah st) s.heap.objs.size f b))->sp c H Q E->
   ∃t,Bm (AW xm P w K mg base N a (ah st) f b A outer s H E).Q2 (gD st) t/\t {nx:=λ_ n=>Q .bg n,rt:=Q} (start N c) H):gf P w K mg base xm (k+1) f j e sp:=by
 have⟨r,p,kV,m,o,u,b,ct,l,rfl,lk,i⟩:=F.ex;apply S6 lk i S len λA outer s H c Q E hr g=>?_;have⟨t,h,q⟩:=d b A outer s H c Q E hr g;exact⟨t,h.Q2,q⟩
def CZ.binds{x a:Str}{st:Stmt}{f:Addr}{i:FuncData}{d:List Str}(F:CZ K x a st f i)
  (h:∀(kV b e:Value)(g:Option Addr)(c ct:Value)(us:List Value),us.length=d.length->bindArgs (PySem.W.fnOf x a (nI st) (gD st) (ah st) .none kV b e g c ct) ⟨us,[]⟩=pure (d.zip us)):Binds K i d []:=by
 have⟨m,l,kV,b,e,g,c,ct,j,rfl,lk,k⟩:=F.ex;exact .all (h kV b e g c ct)
end
def SN(hr:fh k A):A.units+1<cLine:=Xj (Yb (by decide:1<=64) _) hr.units
def Gp:eW X (.builtin "len") (λc H Q=>∃a b,c=[V.ref a]/\H a=some (.dK b)/\Q (.int b.length) H):=by
 intro d s i H c us Q I r h;have⟨a,b,rfl,f,q⟩:=h;have⟨u,rfl,e⟩:=vals1 r;cases e;exact Tb I (.inl f) λt j g=>⟨.int b.length,H,g,⟨t,rfl⟩,q⟩
def Vr{A B:Prop}(h:B):if false=true then A else B:=by
 rw[WM Xi];exact h
def Vq{A B:Prop}(h:A):if true=true then A else B:=by
 rw[WH rfl];exact h
section
variable {κ:Type} [DecidableEq κ]
end
def gQ.off(ok:gQ P w H h)(d:H C=none)(k:∀b u,b≠C->h.get? b=some u->f.get? b=some u):gQ P w H f:=by
 intro a o e;have ne:a≠C:=by rintro rfl;rw[d]at e;cases e
 apply(ok a o e).xB (λb u c q=>k b u ?_ q) (λ_ x=>x) (λ_ _ x=>x);rcases c with rfl |c
 ·exact ne
 ·rintro rfl;rw[d]at c;cases c
noncomputable def ko(env:Env):List (Str×NameKind)->List (Str×Addr)->List (Str×Addr)
 |[],acc=>acc
 |(n,k)::r,acc=>if(k==NameKind.free)=true then ko env r ((n,(env.cells.lookup n).getD 0)::acc)else ko env r acc
def t6(h:∀y∈scope.names,y.2=.free->∃c,env.cells.lookup y.1=some c):closureFor scope env=pure (ko env scope.names []):=by
 have d:∀(names:List (Str×NameKind)) (b:List (Str×Addr)),(∀y∈names,y.2=.free->∃c,env.cells.lookup y.1=some c)->
   (forIn names b (λ(x:Str×NameKind)(r:List (Str×Addr))=>match x with
    |(name,kind)=>if(kind==NameKind.free)=true then do let a<-cellOf env name;pure (ForInStep.yield ((name,a)::r))else pure (ForInStep.yield r)):Sem (List (Str×Addr)))=pure (ko env names b):=by
  intro names
  induction names with
  |nil=>intro b _;rfl
  |cons y r l=>
   intro b i;have⟨n,k⟩:=y;have hr:=λa=>l a λz m=>i z (WG _ m);rw[ZO];unfold ko
   by_cases g:(k==NameKind.free)=true
   ·have f:k=.free:=by simpa using g
    have⟨c,j⟩:=i (n,k) WI f;have e:cellOf env n=pure c:=by unfold cellOf;rw[j]
    simp only[g,Ze,e,j,Option.getD_some];exact hr _
   ·simp only[g,X6];exact hr _
 have k:=d scope.names [] h;unfold closureFor;dsimp only;rw[k];rfl
theorem ph:∀(names:List (Str×NameKind)) (a:List (Str×Addr)),(∀y∈names,y.2=.free->∃c,env.cells.lookup y.1=some c)->
  (∀d,a.lookup x=some d->env.cells.lookup x=some d)->(ko env names a).lookup x=some c->env.cells.lookup x=some c
 |[],a,_,b,h=>b c h
 |(n,k)::r,a,j,b,h=>by
  unfold ko at h;have hr:=λz m=>j z (WG _ m)
  by_cases i:(k==NameKind.free)=true
  ·rw[WH i]at h;apply ph r _ hr (λd hd=>?_) h;have g:k=.free:=by simpa using i
   have⟨o,l⟩:=j (n,k) WI g;rw[XJ]at hd;cases f:x==n with
   |true=>
    rw[f]at hd;have e:x=n:=by simpa using f
    rw[e,l];rw[l]at hd;exact hd
   |false=>
    rw[f]at hd;exact b d hd
  ·rw[WM i]at h;exact ph r _ hr b h
theorem t7:∀(names:List (Str×NameKind)) (a:List (Str×Addr)),(∃c,a.lookup x=some c)->∃c,(ko env names a).lookup x=some c
 |[],_,h=>h
 |(n,k)::r,a,h=>by
  unfold ko
  by_cases b:(k==NameKind.free)=true
  ·rw[WH b];apply t7 r _ ?_;rw[XJ];cases d:x==n with
   |true=>exact⟨_,rfl⟩
   |false=>exact h
  ·rw[WM b];exact t7 r _ h
theorem nK:∀(names:List (Str×NameKind)) (a:List (Str×Addr)),(x,NameKind.free)∈names->∃c,(ko env names a).lookup x=some c
 |[],_,h=>by cases h
 |(n,k)::r,a,h=>by
  unfold ko;rcases WV.mp h with e |d
  ·injection e with g f
   subst g f;rw[WH (by rfl)];apply t7 r _ ⟨(env.cells.lookup x).getD 0,?_⟩;rw[XJ,YL]
  ·by_cases b:(k==NameKind.free)=true
   ·rw[WH b];exact nK r _ d
   ·rw[WM b];exact nK r _ d
theorem iq{env:Env}:∀{names:List (Str×NameKind)} {x:Str} {j:NameKind},
  (names.map λ(n,k)=>if(k==NameKind.free&&env.scope.kind==.function&&env.kindOf n==some .cell)then(n,NameKind.cell)else(n,k)).lookup x=some j->
  ∃k,names.lookup x=some k/\(j=k\/(k=.free/\j=.cell))
 |[],_,_,h=>by simp at h
 |(n,k)::r,x,j,h=>by
  have a:List.lookup x ((if(k==NameKind.free&&env.scope.kind==.function&&env.kindOf n==some .cell)=true then(n,NameKind.cell)else(n,k))::_)=some j:=h;rw[XJ];cases c:x==n with
  |true=>
   apply⟨k,rfl,?_⟩
   by_cases b:(k==NameKind.free&&env.scope.kind==.function&&env.kindOf n==some .cell)=true
   ·rw[WH b,XJ,c]at a;simp only[W9,YM]at b;exact .inr ⟨b.1.1,(Option.some.inj a).symm⟩
   ·rw[WM b,XJ,c]at a;exact .inl (Option.some.inj a).symm
  |false=>
   by_cases b:(k==NameKind.free&&env.scope.kind==.function&&env.kindOf n==some .cell)=true
   ·rw[WH b,XJ,c]at a;exact iq a
   ·rw[WM b,XJ,c]at a;exact iq a
theorem ir{env:Env}:∀{names:List (Str×NameKind)} {x:Str},names.lookup x=some .free->
  (names.map λ(n,k)=>if(k==NameKind.free&&env.scope.kind==.function&&env.kindOf n==some .cell)then(n,NameKind.cell)else(n,k)).lookup x=some .cell\/
  (names.map λ(n,k)=>if(k==NameKind.free&&env.scope.kind==.function&&env.kindOf n==some .cell)then(n,NameKind.cell)else(n,k)).lookup x=some .free
 |[],_,h=>by simp at h
 |(n,k)::r,x,h=>by
  rw[WN];show List.lookup x ((if(k==NameKind.free&&env.scope.kind==.function&&env.kindOf n==some .cell)=true then(n,NameKind.cell)else(n,k))::_)=_\/List.lookup x ((if(k==NameKind.free&&env.scope.kind==.function&&env.kindOf n==some .cell)=true then(n,NameKind.cell)else(n,k))::_)=_;rw[XJ]at h;cases a:x==n with
  |true=>
   rw[a]at h;have c:k=.free:=Option.some.inj h
   by_cases b:(k==NameKind.free&&env.scope.kind==.function&&env.kindOf n==some .cell)=true
   ·rw[WH b,XJ,a];exact .inl rfl
   ·rw[WM b,XJ,a,c];exact .inr rfl
  |false=>
   rw[a]at h
   by_cases b:(k==NameKind.free&&env.scope.kind==.function&&env.kindOf n==some .cell)=true
   ·rw[WH b,XJ,a];exact ir h
   ·rw[WM b,XJ,a];exact ir h
abbrev k5(X:Cx)(N':List Str)(scope:Scope)(C:Addr)(s₃:Shared)(H₃:Hp)(fp:List Addr)(pl:List (Addr×Obj)):Cx:=
 {X with N:=N',s₀:=s₃,H₀:=H₃,env:=compEnvC scope (ko X.env scope.names []) C X.env,outer:=X.stack,ex:=fp,fn:=λ_=>false,calm:=true,pn:=X.pn++pl,xe:=λ_ _=>False}
structure bN(X:Cx)(N':List Str)(caps:List (Option Nat))(scope:Scope):Prop where
 kind:scope.kind=.function
 IE:∀y∈scope.names,y.2≠.cell
 names:∀y∈scope.names,y.2=.local->scope.names.lookup y.1=some .local
 JI:∀y∈scope.names,y.2=.free->X.env.kindOf y.1=some .cell\/X.env.kindOf y.1=some .free
 len:caps.length=N'.length
 Wt:∀(j i:Nat)(x:Str),caps[j]?=some (some i)->N'[j]?=some x->X.N[i]?=some x/\scope.names.lookup x=some .free
 nd:N'.Nodup
noncomputable def Bd(a:List (Option Nat))(b:St):St:=a.map λo=>o.bind λi=>(b[i]?).join
theorem bN.has(S:bN X d a scope)(ok:X.Ok):∀y∈scope.names,y.2=.free->∃c,X.env.cells.lookup y.1=some c:=λy b e=>ok.has y.1 (S.JI y b e)
def bN.look(S:bN X b a scope)(ok:X.Ok)(h:(ko X.env scope.names []).lookup x=some c):X.env.cells.lookup x=some c:=
 ph scope.names [] (S.has ok) (λ_ z=>by simp at z) h
def Inv.block(S:bN X N' f scope)(I:Inv X pins σ H a)(hc:X.calm=true)(R:∀b∈fp,gd X pins H b)(Z:∀b∈fp,b<a.heap.objs.size){g:Heap}{t₄:Nat}{t:Str->Option Value}
  (hn:g.Ns a.heap.objs.size t) (O:∀b o,a.heap.get? b=some o->g.get? b=some o):
  Inv (k5 X N' scope a.heap.objs.size a H fp pins) [] (Bd f σ) H {a with heap:=g,toks:=t₄}:=by
 have ok:=I.ok;have fresh:∀b o,a.heap.get? b=some o->b≠a.heap.objs.size:=λb o e=>Xa (WX e);have s:∀x c,(ko X.env scope.names []).lookup x=some c->∃v,a.heap.IsCell c v:=λx c e=>I.cell x c (S.look ok e);apply⟨⟨ok.mod,?_,ok.glob,ok.blt,WJ _,?_,?_,?_,λ_=>ok.hd hc,ok.frames,.inl rfl,?_,I.bs,?_,?_,?_,I.stack,I.Dk⟩,rfl,I.bare,Un.kept O,?_,?_,I.a9.fresh (WJ _),?_,?_,I.a9.kept O,?_⟩
 ·show(relabel scope X.env).kind=.function;exact S.kind
 ·intro x y c h1 h2;exact ok.inj x y c (S.look ok h1) (S.look ok h2)
 ·intro x hx;have T:(relabel scope X.env).names.lookup x=some .cell\/(relabel scope X.env).names.lookup x=some .free:=hx;have L:∀j,(relabel scope X.env).names.lookup x=some j->j=.cell\/j=.free->∃c,(ko X.env scope.names []).lookup x=some c:=by
   intro j hj hjk;have⟨k,hk1,hk2⟩:=iq hj;have hm:=Yl hk1;have hkf:k=.free:=by
    rcases hk2 with rfl |⟨e,_⟩
    ·rcases hjk with rfl |e
     ·exact absurd rfl (S.IE _ hm)
     ·exact e
    ·exact e
   subst hkf;exact nK scope.names [] hm
  rcases T with h |h
  ·exact L _ h (.inl rfl)
  ·exact L _ h (.inr rfl)
 ·intro x c h _;exact absurd (show false=true from h) {}
 ·intro b J;apply⟨Xa (Z b J),λx c h=>(R b J).2.2.2.2.1 x c (S.look ok h)⟩
 ·exact WL ok.Nn I.sz
 ·intro b o e J;rcases(R b J).2.2.2.1 with z |z
  ·exact ok.ID b o e z
  ·exact absurd (WO (WX e) ok.Nn) (Aaj.mpr z)
 ·intro b J z;rcases WV.mp (I.rJ b z)with e |e
  ·exact(R b J).2.1 e
  ·exact(R b J).2.2.1 e
 ·apply⟨t,hn,λj x v e1 e2 e3=>?_⟩;have l:(f.map λo=>o.bind λi=>(σ[i]?).join)[j]?=some (some v):=e2;rw[WY]at l;cases F:f[j]? with
  |none=>rw[F]at l;cases l
  |some oi=>
   rw[F]at l;have C:(oi.bind λi=>(σ[i]?).join)=some v:=Option.some.inj l;cases oi with
   |none=>cases C
   |some i=>
    have r:(σ[i]?).join=some v:=C;have M:σ[i]?=some (some v):=by
     cases hs:σ[i]? with
     |none=>rw[hs]at r;cases r
     |some w=>rw[hs]at r;rw[show w=some v from r]
    have⟨hX,E⟩:=S.Wt j i x F e1;have⟨m,_,hl⟩:=I.loc;have A:=S.JI _ (Yl E) rfl;have N:TH X.env.scope x:=by
     rcases A with z |z
     ·exact .inr (.inl z)
     ·exact .inr (.inr z)
    have⟨u,ru,lk⟩:=hl i x v hX M N;apply⟨u,ru,.inr ⟨?_,?_⟩⟩
    ·exact ir E
    ·have⟨c,P⟩:=nK (env:=X.env) scope.names [] (Yl E);apply⟨c,P,?_⟩;rcases lk with⟨z,_⟩ |⟨_,c',Q,G⟩
     ·have z':X.env.kindOf x=some .local:=z;rcases A with q |q
      ·rw[z']at q;cases q
      ·rw[z']at q;cases q
     ·have:=S.look I.ok P;rw[this]at Q;cases Q;have⟨o,Y,hd⟩:=G;exact⟨o,O _ _ Y,hd⟩
 ·intro x c h;have⟨v,o,Y,hd⟩:=s x c h;exact⟨v,o,O _ _ Y,hd⟩
 ·intro x c h;exact I.jq x c (S.look ok h)
 ·intro p hp;have U:p∈X.pn++pins:=by
   rcases Xw.mp hp with z |z
   ·exact z
   ·cases z
  have⟨e,n,ne,nf,d⟩:=I.pin p U;apply⟨O _ _ e,n,fresh _ _ e,λz=>?_,d⟩;rcases WV.mp (I.rJ p.1 z)with q |q
  ·exact ne q
  ·exact nf q
 ·show(f.map _).length=N'.length;rw[WA];exact S.len
def Inv.Dc(S:bN X p j scope)(I:Inv X pins σ H a)(f:∀b∈h,gd X pins H b)(J:Inv (k5 X p scope a.heap.objs.size a H h pins) [] r i s')(d:∀b u,b≠a.heap.objs.size->s'.heap.get? b=some u->h''.get? b=some u):Inv X pins σ i {s' with heap:=h''}:=by
 have m:i a.heap.objs.size=none:=J.free;have u:Un (GF X.stack) h H i a.heap h'':=by
  have b:=J.base;have ne:∀x o,a.heap.get? x=some o->x≠a.heap.objs.size:=λx o e=>Xa (WX e);apply⟨λx o e n g c=>d _ _ (ne x o e) (b.keep x o e n g c),λx o e n g c=>?_,b.free,λx o e c=>?_,b.rD,b.vv,b.xw⟩
  ·have⟨k,q⟩:=b.slot x o e n g c;exact⟨k,d _ _ (ne x o e) q⟩
  ·have⟨l,q⟩:=b.there x o e c;exact⟨l,d _ _ (ne x o e) q⟩
 exact I.call' (s':={s' with heap:=h''}) (ch:=h) J.os u (J.a9.off m d) J.bare λb c=>⟨(f b c).2.2.2.1,(f b c).2.1,(f b c).2.2.2.2.1,(f b c).2.2.2.2.2⟩
def Ny(X:Cx)(d:List Expr)(t:TT):Prop:=
 ∀(a:List (Addr×Obj)) (s:Shared) (b:St) (H:Hp) (Q:Bool->Hp->Prop),Inv X a b H s->t b H Q->
  wpAny (model X.prog X.w) X.A (forIn d true λc r=>if r=true then do let ok<-isTrue c X.env (eval c X.env);pure (ForInStep.yield ok)else pure (ForInStep.yield r)) (TP X a b Q) X.xe s
def bI:TT:=λ_ H Q=>Q true H
def Ln:Ny X [] bI:=λa s b H Q I h=>wpAny_tests_nil ⟨H,I,h⟩
def Lm(h:PT X c t):Ny X [c] t:=λa s b H Q I q=>wpAny_tests_one (h a s b H Q I q)
def Wc(h:wpAny M A t Q (λ_ _=>False) s):wpAny M A t Q E s:=Yd h (λ_ _ q=>q) λ_ _ f=>f.elim
def Uh(_ j:Int):Prop:=0<j/\j<=10^40
def log2_small(h:n<=10^40):n.log2<9000:=by
 by_cases a:n=0
 ·rw[a];decide
 ·apply(Nat.log2_lt a).mpr (Xj h ?_);exact WO (show 10^40<2^200 by decide) (Ab0 {} {})
def Ir:qN X (binaryOp .FloorDiv) (rI Uh λi j=>.int (i / j)):=Us λi j _ _ _ _ _ a q=>by
 have c:(0:Int)<j:=a.1;have b:j<=10^40:=a.2;exact floordiv_int () (by rw[Int.fdiv_eq_ediv_of_nonneg i ()];exact q) (.inl (PyProof.noPylong_of_log2 (log2_small ())))
mutual
inductive CY(K:FR)(H:Hp):V->PyData->Prop where
 |bg:CY K H .bg .none
 |bl (b:Bool):CY K H (.bl b) (.bool b)
 |int (i:Int):CY K H (.int i) (.int i)
 |str (x:Str):CY K H (.str x) (.str x)
 |tup {a:Addr} {xs:List V} {ds:List PyData}:iJ K H a xs->uq K H xs ds->CY K H (.ref a) (.tuple ds)
 |lst {a:Addr} {xs:List V} {ds:List PyData}:eV K H a xs->uq K H xs ds->CY K H (.ref a) (.list ds)
inductive uq(K:FR)(H:Hp):List V->List PyData->Prop where
 |nil:uq K H [] []
 |cons {x:V} {xs:List V} {d:PyData} {ds:List PyData}:CY K H x d->uq K H xs ds->uq K H (x::xs) (d::ds)
end
mutual
theorem CY.reads(I:Inv X pins σ H s){x:V}{u:Value}{d:PyData}(z:CY X.K H x d)(r:RelV x u):∃as,Reads s.heap u d as:=by
 cases z with
 |bg=>cases(show _=Value.none from r);exact⟨_,.none⟩
 |bl b=>cases(show _=Value.bool b from r);exact⟨_,.bool b⟩
 |int i=>have⟨t,e⟩:=(show ∃t,_=Value.int i t from r);cases e;exact⟨_,.int i t⟩
 |str x=>have⟨t,e⟩:=(show ∃t,_=Value.str x t from r);cases e;exact⟨_,.str x t⟩
 |tup c hl=>
  cases(show _=Value.ref _ from r);obtain⟨a,rv,⟨o,h,g,n,f⟩,_⟩:=I.tuple c;have⟨as,q⟩:=uq.reads I hl rv;exact⟨_,.tuple h g f (by simpa using q)⟩
 |lst c hl=>
  cases(show _=Value.ref _ from r);have⟨a,rv,pl,_⟩:=I.list c;have⟨o,h,g,n,f⟩:=pl.isList;have⟨as,q⟩:=uq.reads I hl rv;exact⟨_,.list h g f (by simpa using q)⟩
theorem uq.reads(I:Inv X pins σ H s){a:List V}{us:List Value}{b:List PyData}(z:uq X.K H a b)(v:Vals a us):∃as,ReadsAll s.heap us b as:=by
 cases z with
 |nil=>cases v;exact⟨_,.nil⟩
 |cons h t=>
  cases v with
  |cons r q=>
   have⟨as,p⟩:=CY.reads I h r;have⟨bs,c⟩:=uq.reads I t q;exact⟨_,.cons p c⟩
end
def U7:V->Option Int->Option Int->Hp->VK->Prop:=λx a b H Q=>∃z,x=.str z/\z.length<=sizeLine/\Q (.str (Txt.slice z a b)) H
def N4:QQ X U7:=by
 intro b s w H x v G E p r J Q I y C pl n h;have⟨z,rfl,A,q⟩:=h;have⟨t,rfl⟩:=(show ∃t,v=Value.str z t from y);apply⟨"str",_,F.slot_str_getitem.lookup,typeIs_str _ _ _,?_⟩;have⟨o,e,d,c⟩:=C;have a:(Txt.slice z p r).length<=sizeLine/\∀g k,EP X b w Q (.str (Txt.slice z p r) g) {s with toks:=k}:=⟨WL (Txt.slice_le z _ _) A,λg k=>⟨.str _,H,I.tok k,⟨g,rfl⟩,q⟩⟩;cases pl with
 |none=>
  cases n with
  |none=>exact ZE (l:=none) (u:=none) (st:=none) ⟨o,e,d,c⟩ rfl (AaH a)
  |int j f=>exact ZE (l:=none) (u:=some (j,f)) (st:=none) ⟨o,e,d,c⟩ rfl (AaH a)
 |int i m=>
  cases n with
  |none=>exact ZE (l:=some (i,m)) (u:=none) (st:=none) ⟨o,e,d,c⟩ rfl (AaH a)
  |int j f=>exact ZE (l:=some (i,m)) (u:=some (j,f)) (st:=none) ⟨o,e,d,c⟩ rfl (AaH a)
def JK:eW X (.builtin "isinstance") (λc H Q=>∃x n t b,c=[x,.ty n]/\nR X.K H x t/\PySem.W.kitOne X.K t (.type n)=some b/\Q (.bl b) H):=by
 intro d s j H c us Q I r h;have⟨x,n,t,b,rfl,ty,e,q⟩:=h;have⟨u,f,rfl,i,a⟩:=vals2 r;cases(show f=Value.type n from a);exact FO I i ty e λg=>⟨.bl b,H,I.tok g,rfl,q⟩
def iW:entryFor table "dict.update.loop"=some Builtin.«dict.update.loop»:=Abp (by ac_nf)
def dR:plainId "dict.update.loop"=true:=by decide+kernel
def As(a more:List (Key×V))(p:Key×V):bA a (more++[p])=putK (bA a more) p.1 p.2:=by
 unfold bA;rw[List.foldl_append];rfl
noncomputable def AA(out:List (Str×NameKind))(N c:List Str)(b:List (Option Nat))(a:Scope):Bool:=
 decide (a.kind=.function)&&a.names.all (λy=>decide (y.2≠.cell))&&a.names.all (λy=>!decide (y.2=.local)||decide (a.names.lookup y.1=some .local))&&
 a.names.all (λy=>!decide (y.2=.free)||decide (out.lookup y.1=some .cell)||decide (out.lookup y.1=some .free))&&decide (b.length=c.length)&&
 (List.range b.length).all (λj=>match b[j]?,c[j]? with
  |some (some i),some x=>decide (N[i]?=some x)&&decide (a.names.lookup x=some .free)
  |_,_=>true)&&decide c.Nodup
def aR(h:AA X.env.scope.names X.N p a scope=true):bN X p a scope:=by
 unfold AA at h;simp only[W9,Xy,Yt,Yn,Bool.not_eq_true',Abv]at h;obtain⟨⟨⟨⟨⟨⟨o,n⟩,m⟩,l⟩,k⟩,g⟩,f⟩:=h;apply⟨o,n,λy b e=>?_,λy b e=>?_,k,λj i x hj d=>?_,f⟩
 ·rcases m y b with z |z
  ·exact absurd e z
  ·exact z
 ·rcases l y b with(z |z) |z
  ·exact absurd e z
  ·exact .inl z
  ·exact .inr z
 ·have c:j<a.length:=(WB.mp hj).1;have:=g j (XM.mpr c);rw[hj,d]at this;simp only[W9,Xy]at this;exact this
end L2
namespace L2
end L2
namespace L2
open PyProof.Rows
def oy:PyData.strOk x=true↔∀c∈x.cps,c<0x110000:=by
 unfold PyData.strOk;rw[Array.all_eq_true_iff_forall_mem];simp
def EZ(g:PyData.strOk a=true)(f:PyData.strOk b=true):PyData.strOk (a++b)=true:=by
 rw[oy]at*;intro c e;have d:c∈a.cps++b.cps:=e;rcases Array.mem_append.mp d with z |z
 ·exact g c z
 ·exact f c z
def zF(l u:Option Int)(h:PyData.strOk x=true):PyData.strOk (Txt.slice x l u)=true:=by
 unfold Txt.slice
 split
 ·exact h
 ·rw[oy]at*;intro c b;have a:c∈(List.filterMap (x.cps[·]?) (Builtin.Str.strSliceIndices l u 1 x.length)).toArray:=b;rw[List.mem_toArray]at a;have⟨i,_,e⟩:=ZW.mp a;exact h c (Aar e)
def EY(h:PyData.strOk z=true)(a:fI z.cps.toList i=some c):PyData.strOk (⟨#[c]⟩:Str)=true:=by
 rw[oy]at*;intro d hd;have e:d=c:=by simpa using hd
 subst e;have⟨j,_,hj,_⟩:=rn a;exact h d (by have:=WE hj;simpa using this)
def entry_all_loop:entryFor table "all.loop"=some Builtin.«all.loop»:=Abp (by ac_nf)
def plain_all_loop:plainId "all.loop"=true:=by decide+kernel
def Kd{A:Around}{a:List (Addr×Obj)}{σ:St}{H:Hp}{p it:Addr}{bs:List Bool}{R:Result->Shared->Prop}(F:A.handled=none)(hp:eV X.K H p (bs.map V.bl))
  (hit:it≠X.env.locals/\(it∈X.ex\/X.s₀.heap.objs.size<=it)/\(∀x c,X.env.cells.lookup x=some c->c≠it)/\∀q∈X.pn++a,q.1≠it) (g:H it=none)
  (h:∀t,Inv X a σ H t->R (.ok (.ret (.bool (bs.all id)))) t):∀(n i:Nat)(s:Shared),bs.length-i=n->i<=bs.length->(bs.take i).all id=true->s.heap.IsListIter it p i->Inv X a σ H s->
   codeAny (model X.prog X.w) A (.builtin "all.loop" ⟨[.ref it],[]⟩) R s:=by
 intro n
 induction n with
 |zero=>
  intro i s hn E ht st I;have G:i=bs.length:=by lia
  apply X4 entry_all_loop ?_;rw[XF plain_all_loop _];have⟨l,rv,pl,z⟩:=I.list hp;have r:=rv.length;rw[WA]at r;show wpAny _ _ (pyNext (.ref it) >>=_) _ _ s;apply Wz (AaM F st pl.isList (by simp;lia) λh' J=>?_);have j:=I.turned (t':=s.toks) (h':=h') (it:=it) (λb o f e=>J b o f e) g hit.1 hit.2.1 hit.2.2.1 hit.2.2.2;apply Wz (Yq (WD ?_));rw[G,X1]at ht;have:=h _ j;rw[ht]at this;exact this
 |succ n y=>
  intro i s hn E ht st I;have d:i<bs.length:=by lia
  apply X4 entry_all_loop ?_;rw[XF plain_all_loop _];have⟨l,rv,pl,z⟩:=I.list hp;have m:(bs.map V.bl)[i]?=some (.bl bs[i]):=by rw[WY,WK d];rfl
  have⟨u,C,v⟩:=rv.get m;cases(show u=Value.bool bs[i] from v);show wpAny _ _ (pyNext (.ref it) >>=_) _ _ s;apply Wz (AaB st pl.isList (x:=.bool bs[i]) (by simpa using C) λh' k sb=>?_);have j:=I.turned (t':=s.toks) (h':=h') (it:=it) (λb o f e=>(sb.2 b f).trans e) g hit.1 hit.2.1 hit.2.2.1 hit.2.2.2;dsimp only;apply Wz (Xn (Zi ?_));apply Wz (Aal ?_)
  by_cases f:bs[i]=true
  ·rw[WH f];apply WD ⟨YD plain_all_loop _,y (i+1) _ () d ?_ k j⟩;rw[ZA,WK d,List.all_append,ht,f];rfl
  ·rw[WM f];apply Wz (Yq (WD ?_));have:=h _ j;have e:bs.all id=false:=by
    rw[List.all_eq_false];exact⟨bs[i],ZG d,by simpa using f⟩
   rw[e]at this;exact this
def JN(g:X.calm=true):eW X (.builtin "all") (λc H Q=>∃(p:Addr)(bs:List Bool),c=[.ref p]/\eV X.K H p (bs.map V.bl)/\Q (.bl (bs.all id)) H):=by
 intro a s σ H c us Q I r h;have⟨p,bs,rfl,hp,q⟩:=h;have⟨u,rfl,d⟩:=vals1 r;cases(show u=Value.ref p from d);have i:X.A.handled=none:=I.ok.hd g;have⟨f,rv,pl,w⟩:=I.list hp;apply call_function_tree F.kind_all F.plain_all F.entry_all (F.args_all1 _) ?_;unfold Builtin.«all»;show wpAny _ _ (pyIter (.ref p) >>=_) _ _ s;apply Wz (Zj pl.isList ?_);have n:Inv X a σ H {s with heap:=s.heap.push {cls:=.type "list_iterator",data:=.fields #[.ref p,.int 0 0]}}:=I.kept (t':=s.toks) λb o e=>WC _ e;have⟨f0,m,x,l,k,j⟩:=I.vw (b:=s.heap.objs.size) (H':=H) (WJ _) (I.a9.fresh (WJ _));apply WD ⟨YD plain_all_loop _,?_⟩;exact Kd (X:=X) (σ:=σ) (H:=H) (by exact i) hp ⟨m,l,k,j⟩ f0 (λv t=>⟨.bl _,H,t,rfl,q⟩) bs.length 0 _ (by simp) (Xg _) rfl ⟨_,WZ _ rfl,rfl,rfl⟩ n
def entry_any_loop:entryFor table "any.loop"=some Builtin.«any.loop»:=Abp (by ac_nf)
def plain_any_loop:plainId "any.loop"=true:=by decide+kernel
def Kb{A:Around}{a:List (Addr×Obj)}{σ:St}{H:Hp}{p it:Addr}{bs:List Bool}{R:Result->Shared->Prop}(G:A.handled=none)(hp:eV X.K H p (bs.map V.bl))
  (hit:it≠X.env.locals/\(it∈X.ex\/X.s₀.heap.objs.size<=it)/\(∀x c,X.env.cells.lookup x=some c->c≠it)/\∀q∈X.pn++a,q.1≠it) (g:H it=none)
  (h:∀v,Inv X a σ H v->R (.ok (.ret (.bool (bs.any id)))) v):∀(n i:Nat)(s:Shared),bs.length-i=n->i<=bs.length->(bs.take i).any id=false->s.heap.IsListIter it p i->Inv X a σ H s->
   codeAny (model X.prog X.w) A (.builtin "any.loop" ⟨[.ref it],[]⟩) R s:=by
 intro n
 induction n with
 |zero=>
  intro i s hn F ht st I;have J:i=bs.length:=by lia
  apply X4 entry_any_loop ?_;rw[XF plain_any_loop _];have⟨l,rv,pl,C⟩:=I.list hp;have r:=rv.length;rw[WA]at r;show wpAny _ _ (pyNext (.ref it) >>=_) _ _ s;apply Wz (AaM G st pl.isList (by simp;lia) λh' L=>?_);have j:=I.turned (t':=s.toks) (h':=h') (it:=it) (λb o f e=>L b o f e) g hit.1 hit.2.1 hit.2.2.1 hit.2.2.2;apply Wz (Yq (WD ?_));rw[J,X1]at ht;have:=h _ j;rw[ht]at this;exact this
 |succ n z=>
  intro i s hn F ht st I;have d:i<bs.length:=by lia
  apply X4 entry_any_loop ?_;rw[XF plain_any_loop _];have⟨l,rv,pl,C⟩:=I.list hp;have m:(bs.map V.bl)[i]?=some (.bl bs[i]):=by rw[WY,WK d];rfl
  have⟨u,E,y⟩:=rv.get m;cases(show u=Value.bool bs[i] from y);show wpAny _ _ (pyNext (.ref it) >>=_) _ _ s;apply Wz (AaB st pl.isList (x:=.bool bs[i]) (by simpa using E) λh' k sb=>?_);have j:=I.turned (t':=s.toks) (h':=h') (it:=it) (λb o f e=>(sb.2 b f).trans e) g hit.1 hit.2.1 hit.2.2.1 hit.2.2.2;dsimp only;apply Wz (Xn (Zi ?_));apply Wz (Aal ?_)
  by_cases f:bs[i]=true
  ·rw[WH f];apply Wz (Yq (WD ?_));have:=h _ j;have e:bs.any id=true:=by
    rw[Zh];exact⟨bs[i],ZG d,f⟩
   rw[e]at this;exact this
  ·rw[WM f];apply WD ⟨YD plain_any_loop _,z (i+1) _ () d ?_ k j⟩;rw[ZA,WK d,List.any_append,ht];have t:bs[i]=false:=by simpa using f
   rw[t];rfl
def JM(g:X.calm=true):eW X (.builtin "any") (λc H Q=>∃(p:Addr)(bs:List Bool),c=[.ref p]/\eV X.K H p (bs.map V.bl)/\Q (.bl (bs.any id)) H):=by
 intro a s σ H c us Q I r h;have⟨p,bs,rfl,hp,q⟩:=h;have⟨u,rfl,d⟩:=vals1 r;cases(show u=Value.ref p from d);have i:X.A.handled=none:=I.ok.hd g;have⟨f,rv,pl,w⟩:=I.list hp;apply call_function_tree F.kind_any F.plain_any F.entry_any (F.args_any1 _) ?_;unfold Builtin.«any»;show wpAny _ _ (pyIter (.ref p) >>=_) _ _ s;apply Wz (Zj pl.isList ?_);have n:Inv X a σ H {s with heap:=s.heap.push {cls:=.type "list_iterator",data:=.fields #[.ref p,.int 0 0]}}:=I.kept (t':=s.toks) λb o e=>WC _ e;have⟨f0,m,x,l,k,j⟩:=I.vw (b:=s.heap.objs.size) (H':=H) (WJ _) (I.a9.fresh (WJ _));apply WD ⟨YD plain_any_loop _,?_⟩;exact Kb (X:=X) (σ:=σ) (H:=H) (by exact i) hp ⟨m,l,k,j⟩ f0 (λv t=>⟨.bl _,H,t,rfl,q⟩) bs.length 0 _ (by simp) (Xg _) rfl ⟨_,WZ _ rfl,rfl,rfl⟩ n
end L2
namespace L2
open PyProof.Rows PySem.SeqAt
noncomputable def cb:Nat->PyData->Bool
 |_,.int _=>true
 |_,.str x=>PyData.strOk x
 |n+1,.tuple xs=>xs.all (cb n)
 |_,_=>false
def fv(w:World):Nat->PyData->Int
 |_,.int i=>PN w (.inl i)
 |_,.str x=>PN w (.inr x)
 |n+1,.tuple xs=>reduceHash (Builtin.Tuple.tupleHashOf (xs.map (fv w n)))
 |_,_=>0
def pA(a:Addr)(us:List (Addr×V))(c:List PyData):World->Heap->Prop:=λw h=>us.length<=sizeLine/\(a==sysModules)=false/\c.all (cb 8)=true/\c.Nodup/\
 ∃b:List (PyData×Addr×Value),Paired (λ(u:Addr×V)(y:PyData×Addr×Value)=>u.1=y.2.1/\RelV u.2 y.2.2) us b/\b.map (·.1)=c/\
 ∃o es d,h.get? a=some o/\o.ExactDict/\o.data=.dict es d/\es.toList=b.map λy=>⟨fv w 8 y.1,.ref y.2.1,y.2.2⟩
end L2
namespace Sm
open L2
inductive D where
 |bg |bl (b:Bool) |int (i:Int) |str (x:Str) |ty (n:String)
 |tup (xs:List D) |lv (xs:List D) |ro (xs:List D) |dv (kvs:List (Key×D)) |ob (n:Nat)
inductive MO where
 |lst (xs:List D) |dct (kvs:List (Key×D)) |dcH (kvs:List (D×D))
abbrev MH:=List MO
mutual
noncomputable def je:D->Option PyData
 |.bg=>some .none
 |.bl b=>some (.bool b)
 |.int i=>some (.int i)
 |.str x=>some (.str x)
 |.tup xs=>(gX xs).map .tuple
 |.lv xs=>(gX xs).map .list
 |.ro xs=>(gX xs).map .list
 |_=>none
noncomputable def gX:List D->Option (List PyData)
 |[]=>some []
 |x::r=>(je x).bind λa=>(gX r).map λb=>a::b
end
abbrev DS:=List (Option D)
abbrev VU:Hp:=λ_=>none
structure Ad where
 ob:List Addr
 rs:List Addr
def Ad.has(b:Ad)(a:Addr):Prop:=a∈b.ob\/a∈b.rs
def TupAt(K:FR)(c:Ad)(H:Hp)(a:Addr)(b:List V):Prop:=(Rd H a (.tup b)/\¬c.has a)\/iJ K VU a b
def QT(K:FR)(c:Ad)(H:Hp)(a:Addr)(b:List V):Prop:=(Rd H a (.lst b)/\¬c.has a)\/eV K VU a b
mutual
inductive Rep(K:FR)(ρ:Ad)(H:Hp):V->D->Prop where
 |bg:Rep K ρ H .bg .bg
 |bl (b:Bool):Rep K ρ H (.bl b) (.bl b)
 |int (i:Int):Rep K ρ H (.int i) (.int i)
 |str {x:Str} (h:PyData.strOk x=true):Rep K ρ H (.str x) (.str x)
 |ty (n:String):Rep K ρ H (.ty n) (.ty n)
 |tup {a:Addr} {vs:List V} {ds:List D}:TupAt K ρ H a vs->az K ρ H vs ds->Rep K ρ H (.ref a) (.tup ds)
 |lv {a:Addr} {vs:List V} {ds:List D}:H a=some (.lst vs)->¬ρ.has a->az K ρ H vs ds->Rep K ρ H (.ref a) (.lv ds)
 |ro {a:Addr} {vs:List V} {ds:List D}:QT K ρ H a vs->az K ρ H vs ds->Rep K ρ H (.ref a) (.ro ds)
 |dv {a:Addr} {us:List (Key×V)} {kvs:List (Key×D)}:H a=some (.dK us)->¬ρ.has a->bB K ρ H us kvs->Rep K ρ H (.ref a) (.dv kvs)
 |ob {a:Addr} {n:Nat}:ρ.ob[n]?=some a->Rep K ρ H (.ref a) (.ob n)
inductive az(K:FR)(ρ:Ad)(H:Hp):List V->List D->Prop where
 |nil:az K ρ H [] []
 |cons {v:V} {vs:List V} {d:D} {ds:List D}:Rep K ρ H v d->az K ρ H vs ds->az K ρ H (v::vs) (d::ds)
inductive bB(K:FR)(ρ:Ad)(H:Hp):List (Key×V)->List (Key×D)->Prop where
 |nil:bB K ρ H [] []
 |cons {k:Key} {v:V} {vs:List (Key×V)} {d:D} {ds:List (Key×D)}:Rep K ρ H v d->bB K ρ H vs ds->bB K ρ H ((k,v)::vs) ((k,d)::ds)
end
structure Ch(ρ:Ad)(H:Hp)(ρ':Ad)(H':Hp):Prop where
 pre:∀(n:Nat) a,ρ.ob[n]?=some a->ρ'.ob[n]?=some a
 old:∀b o,¬ρ.has b->H b=some o->¬ρ'.has b/\H' b=some o
def Ch.refl(a:Ad)(H:Hp):Ch a H a H:=⟨λ_ _ e=>e,λ_ _ n e=>⟨n,e⟩⟩
def Ch.trans(a:Ch f H d H1)(b:Ch d H1 c i):Ch f H c i:=
 ⟨λn x e=>b.pre n x (a.pre n x e),λx o n e=>let⟨g,h⟩:=a.old x o n e;b.old x o g h⟩
structure cV(ρ:Ad)(H:Hp)(ρ':Ad)(H':Hp):Prop extends Ch ρ H ρ' H' where
 rs:ρ'.rs=ρ.rs
 res:∀b∈ρ.rs,H' b=H b
theorem cV.refl(a:Ad)(H:Hp):cV a H a H:=⟨.refl _ _,rfl,λ_ _=>rfl⟩
theorem cV.trans(a:cV f H d H1)(b:cV d H1 c g):cV f H c g:=
 ⟨a.toCh.trans b.toCh,b.rs.trans a.rs,λx e=>(b.res x (by rw[a.rs];exact e)).trans (a.res x e)⟩
instance {ρ ρ':Ad} {H H':Hp}:CoeOut (cV ρ H ρ' H') (Ch ρ H ρ' H'):=⟨cV.toCh⟩
def Ch.rd(S:Ch c H b d)(h:Rd H a u)(n:¬c.has a):Rd d a u/\¬b.has a:=by
 rcases h with h |⟨o,h⟩
 ·have⟨q,e⟩:=S.old a _ n h;exact⟨.inl e,q⟩
 ·have⟨q,e⟩:=S.old a _ n h;exact⟨.inr ⟨o,e⟩,q⟩
mutual
theorem Rep.mono(S:Ch j H c k){v:V}{d:D}(r:Rep K j H v d):Rep K c k v d:=by
 cases r with
 |bg=>exact .bg
 |bl b=>exact .bl b
 |int i=>exact .int i
 |str x=>exact .str x
 |ty n=>exact .ty n
 |tup h l=>exact .tup (h.elim (λ⟨a,n⟩=>.inl (S.rd a n)) .inr) (az.mono S l)
 |lv h n l=>have ⟨f,g⟩:=S.old _ _ n h;exact .lv g f (az.mono S l)
 |ro h l=>exact .ro (h.elim (λ⟨a,n⟩=>.inl (S.rd a n)) .inr) (az.mono S l)
 |dv h n l=>have ⟨f,g⟩:=S.old _ _ n h;exact .dv g f (bB.mono S l)
 |ob e=>exact .ob (S.pre _ _ e)
theorem az.mono(S:Ch d H a e){b:List V}{c:List D}(r:az K d H b c):az K a e b c:=by
 cases r with
 |nil=>exact .nil
 |cons h t=>exact .cons (Rep.mono S h) (az.mono S t)
theorem bB.mono(S:Ch d H a e){b:List (Key×V)}{c:List (Key×D)}(r:bB K d H b c):bB K a e b c:=by
 cases r with
 |nil=>exact .nil
 |cons h t=>exact .cons (Rep.mono S h) (bB.mono S t)
end
theorem az.length:∀{b:List V} {c:List D},az K e H b c->b.length=c.length:=by
 intro b
 induction b with
 |nil=>intro c a;cases a;rfl
 |cons v b d=>intro c a;cases a with |cons _ t=>rw[WW,WW,d t]
theorem az.got:∀{a:List V} {b:List D} {i:Nat} {d:D},az K c H a b->b[i]?=some d->∃v,a[i]?=some v/\Rep K c H v d
 |_,_,_,_,.nil,e=>by simp at e
 |_,_,0,_,.cons r _,e=>by simp at e;subst e;exact⟨_,rfl,r⟩
 |_,_,i+1,d,.cons _ t,e=>by
  have⟨u,g,f⟩:=az.got (i:=i) (d:=d) t (by simpa using e);exact⟨u,by simpa using g,f⟩
def az.append:∀{b d:List V} {c es:List D},az K e H b c->az K e H d es->az K e H (b++d) (c++es):=by
 intro b d
 induction b with
 |nil=>intro c es a s;cases a;exact s
 |cons v b f=>intro c es a s;cases a with |cons r t=>exact .cons r (f t s)
theorem az.take:∀{a:List V} {b:List D} (n:Nat),az K c H a b->az K c H (a.take n) (b.take n)
 |_,_,0,_=>.nil
 |_,_,_+1,.nil=>.nil
 |_,_,n+1,.cons r t=>.cons r (az.take n t)
theorem az.drop:∀{a:List V} {b:List D} (n:Nat),az K c H a b->az K c H (a.drop n) (b.drop n)
 |_,_,0,r=>r
 |_,_,_+1,.nil=>.nil
 |_,_,n+1,.cons _ t=>az.drop n t
theorem az.set(r:Rep K a H v d):∀{b:List V} {c:List D} (i:Nat),az K a H b c->az K a H (b.set i v) (c.set i d)
 |_,_,_,.nil=>.nil
 |_,_,0,.cons _ t=>.cons r t
 |_,_,i+1,.cons q t=>.cons q (az.set r i t)
def az.snoc(t:az K a H b ds)(r:Rep K a H v d):az K a H (b++[v]) (ds++[d]):=t.append (.cons r .nil)
theorem az.dropLast:∀{b:List V} {c:List D},az K d H b c->az K d H b.dropLast c.dropLast:=by
 intro b
 induction b with
 |nil=>intro c a;cases a;exact .nil
 |cons v b e=>intro c a;cases a with |cons r t=>cases t with
  |nil=>exact .nil
  |cons q t=>exact .cons r (e (.cons q t))
theorem az.isEmpty(t:az K b H a ds):a.isEmpty=ds.isEmpty:=by cases t <;> rfl
def TupAt.sq(h:TupAt K c H a b):iJ K H a b:=by
 rcases h with⟨h,_⟩ |h
 ·exact .inl h
 ·rcases h with(h |⟨o,h⟩) |h
  ·cases h
  ·cases h
  ·exact .inr h
def QT.sq(h:QT K c H a b):eV K H a b:=by
 rcases h with⟨h,_⟩ |h
 ·exact .inl h
 ·rcases h with(h |⟨o,h⟩) |h
  ·cases h
  ·cases h
  ·exact .inr h
def Bq(K:FR)(c:Ad)(H:Hp)(a:Addr):MO->Prop
 |.lst ds=>∃d,H a=some (.lst d)/\az K c H d ds
 |.dct b=>∃us,H a=some (.dK us)/\bB K c H us b
 |.dcH b=>∃us e,H a=some (.Kr (pA a us e))/\az K c H (us.map λu=>V.ref u.1) (b.map (·.1))/\az K c H (us.map (·.2)) (b.map (·.2))/\gX (b.map (·.1))=some e
structure bM(K:FR)(ρ:Ad)(h:MH)(H:Hp):Prop where
 len:ρ.ob.length=h.length
 nd:ρ.ob.Nodup
 at_:∀(n:Nat) a o,ρ.ob[n]?=some a->h[n]?=some o->Bq K ρ H a o
 vY:∀b∈ρ.rs,(∃o,H b=some o)/\b∉ρ.ob
def Bq.has(x:Bq K c H a o):∃u,H a=some u:=by
 cases o with
 |lst ds=>have⟨b,e,_⟩:=x;exact⟨_,e⟩
 |dct ds=>have⟨b,e,_⟩:=x;exact⟨_,e⟩
 |dcH ds=>have⟨b,_,e,_⟩:=x;exact⟨_,e⟩
theorem Bq.mono(x:Bq K f H a o)(T:Ch f H b d)(e:d a=H a):Bq K b d a o:=by
 cases o with
 |lst ds=>have⟨c,x,r⟩:=x;exact⟨c,e.trans x,r.mono T⟩
 |dct ds=>have⟨c,x,r⟩:=x;exact⟨c,e.trans x,r.mono T⟩
 |dcH ds=>have⟨us,h,x,r,g,p⟩:=x;exact⟨us,h,e.trans x,r.mono T,g.mono T,p⟩
def bM.mem(S:bM K c h H)(f:a∈c.ob):∃(n:Nat)(o:MO),c.ob[n]?=some a/\h[n]?=some o/\Bq K c H a o:=by
 have⟨n,hn,e⟩:=List.mem_iff_getElem.mp f;have b:n<h.length:=by rw[<-S.len];exact hn
 have d:c.ob[n]?=some a:=by rw[WK hn,e]
 exact⟨n,h[n],d,WK b,S.at_ n a _ d (WK b)⟩
theorem bM.has(S:bM K c h H)(b:c.has a):∃u,H a=some u:=by
 rcases b with b |b
 ·have⟨_,_,_,_,x⟩:=S.mem b;exact x.has
 ·exact(S.vY a b).1
def bM.fresh(S:bM K a h H)(hp:H p=none):¬a.has p:=λm=>by
 have⟨u,e⟩:=S.has m;rw[hp]at e;cases e
def cV.laid(S:bM K a h H)(hp:H p=none):cV a H a (upd H p o):=
 ⟨⟨λ_ _ e=>e,λb u n e=>⟨n,by rw[aE (aO e hp)];exact e⟩⟩,rfl,λb c=>by
  have⟨u,e⟩:=(S.vY b c).1;rw[aE (aO e hp)]⟩
def bM.same(S:bM K c h H)(T:cV c H c f)(k:∀a∈c.ob,f a=H a):bM K c h f:=
 ⟨S.len,S.nd,λn a o e g=>(S.at_ n a o e g).mono T.toCh (k a (WE e)),λb d=>⟨by rw[T.res b d];exact(S.vY b d).1,(S.vY b d).2⟩⟩
theorem bM.laid(S:bM K b h H)(hp:H p=none):bM K b h (upd H p o):=
 S.same (cV.laid S hp) λa c=>by
  have⟨u,e⟩:=S.has (.inl c);rw[aE (aO e hp)]
abbrev Ad.more(ρ:Ad)(p:Addr):Ad:=⟨ρ.ob++[p],ρ.rs⟩
def cV.made(S:bM K c h H)(hp:H p=none):cV c H (c.more p) (upd H p o):=by
 apply⟨⟨λn a e=>?_,λb u n e=>?_⟩,rfl,(cV.laid S hp).res⟩
 ·show(c.ob++[p])[n]?=_;rw[W0 (WB.mp e).1];exact e
 ·apply⟨λm=>?_,by rw[aE (aO e hp)];exact e⟩;rcases m with m |m
  ·rcases Xw.mp m with m |m
   ·exact n (.inl m)
   ·exact aO e hp (WU.mp m)
  ·exact n (.inr m)
theorem bM.made(S:bM K d h H)(hp:H p=none)(k:Bq K (d.more p) (upd H p u) p o):bM K (d.more p) (h++[o]) (upd H p u):=by
 apply⟨by simp[S.len],?_,λn a x c f=>?_,λb i=>?_⟩
 ·show(d.ob++[p]).Nodup;rw[Z4];apply⟨S.nd,by simp,λa l b i z=>?_⟩;rw[WU.mp i]at z;exact S.fresh hp (.inl (z ▸ l))
 ·by_cases hn:n<d.ob.length
  ·have c:(d.ob++[p])[n]?=some a:=c;rw[W0 hn]at c;rw[W0 (by rw[<-S.len];exact hn)]at f;have q:=S.at_ n a x c f;have⟨w,r⟩:=q.has;exact q.mono (cV.made S hp).toCh (aE (aO r hp))
  ·have j:=(WB.mp c).1;simp at j;have g:n=d.ob.length:=by lia
   subst g;have c:(d.ob++[p])[d.ob.length]?=some a:=c;rw[W4 (WJ _)]at c;rw[W4 (by rw[S.len];exact WJ _)]at f;simp at c;rw[S.len]at f;simp at f;subst c;subst f;exact k
 ·obtain⟨⟨v,e⟩,n⟩:=S.vY b i;have z:=aO e hp;apply⟨⟨v,by rw[aE z];exact e⟩,λm=>?_⟩;rcases Xw.mp m with m |m
  ·exact n m
  ·exact z (WU.mp m)
def cV.wrote(S:bM K c h H)(d:a∈c.ob):cV c H c (upd H a o):=
 ⟨⟨λ_ _ e=>e,λb u n e=>⟨n,by rw[aE (λ(z:b=a)=>n (.inl (by rw[z];exact d)))];exact e⟩⟩,rfl,λb f=>aE λ(z:b=a)=>(S.vY b f).2 (by rw[z];exact d)⟩
theorem bM.wrote(S:bM K c h H)(e:c.ob[n]?=some a)(j:Bq K c (upd H a u) a o):bM K c (h.set n o) (upd H a u):=by
 have k:=WE e;have T:cV c H c (upd H a u):=cV.wrote S k;apply⟨by rw[XY];exact S.len,S.nd,λm b x g f=>?_,λb d=>⟨by rw[T.res b d];exact(S.vY b d).1,(S.vY b d).2⟩⟩
 by_cases hm:n=m
 ·subst hm;have i:n<h.length:=by rw[<-S.len];exact(WB.mp e).1
  rw[e]at g;cases g;rw[Xk i]at f;cases f;exact j
 ·rw[WQ hm]at f;have q:=S.at_ m b x g f;have d:b≠a:=by
   intro z;subst z;exact hm ((AaW (WB.mp e).1 S.nd).mp (e.trans g.symm))
  exact q.mono T.toCh (aE d)
abbrev Ad.keep(ρ:Ad)(l:Addr):Ad:=⟨ρ.ob,l::ρ.rs⟩
theorem Ch.keep(hl:H l=none):Ch c H (c.keep l) (upd H l o):=by
 apply⟨λn a e=>e,λb u n e=>⟨λm=>?_,by rw[aE (aO e hl)];exact e⟩⟩;rcases m with m |m
 ·exact n (.inl m)
 ·rcases WV.mp m with m |m
  ·exact aO e hl m
  ·exact n (.inr m)
theorem bM.keep(S:bM K d h H)(hl:H l=none):bM K (d.keep l) h (upd H l o):=by
 apply⟨S.len,S.nd,λn a x i g=>?_,λb c=>?_⟩
 ·have q:=S.at_ n a x i g;have⟨w,f⟩:=q.has;exact q.mono (Ch.keep hl) (aE (aO f hl))
 ·rcases WV.mp c with rfl |c
  ·exact⟨⟨_,aQ⟩,λm=>S.fresh hl (.inl m)⟩
  ·obtain⟨⟨v,e⟩,n⟩:=S.vY b c;exact⟨⟨v,by rw[aE (aO e hl)];exact e⟩,n⟩
def Ch.put(hl:l∈c.rs):Ch c H c (upd H l o):=⟨λn a e=>e,λb u n e=>⟨n,by rw[aE (λ(z:b=l)=>n (.inr (by rw[z];exact hl)))];exact e⟩⟩
theorem bM.put(S:bM K c h H)(hl:l∈c.rs):bM K c h (upd H l o):=by
 apply⟨S.len,S.nd,λn a x e f=>(S.at_ n a x e f).mono (Ch.put hl) (aE λ(z:a=l)=>(S.vY l hl).2 (by rw[<-z];exact WE e)),λb d=>⟨?_,(S.vY b d).2⟩⟩
 by_cases z:b=l
 ·subst z;exact⟨_,aQ⟩
 ·rw[aE z];exact(S.vY b d).1
def Ch.free{os rs c:List Addr}{H:Hp}(d:∀b∈c,b∈rs):Ch ⟨os,rs⟩ H ⟨os,c⟩ H:=⟨λn a e=>e,λb u n e=>⟨λm=>n (m.elim .inl λm=>.inr (d b m)),e⟩⟩
theorem bM.free{os rs c:List Addr}{H:Hp}(S:bM K ⟨os,rs⟩ h H)(d:∀b∈c,b∈rs):bM K ⟨os,c⟩ h H:=
 ⟨S.len,S.nd,λn a x g f=>(S.at_ n a x g f).mono (Ch.free d) rfl,λb e=>S.vY b (d b e)⟩
structure cA(K:FR)(ρ:Ad)(H:Hp)(σ:St)(δ:DS):Prop where
 len:σ.length=δ.length
 at_:∀(i:Nat) d,δ[i]?=some (some d)->∃v,σ[i]?=some (some v)/\Rep K ρ H v d
theorem cA.mono(R:cA K f H σ g)(S:Ch f H c h):cA K c h σ g:=⟨R.len,λi d e=>let⟨v,a,b⟩:=R.at_ i d e;⟨v,a,b.mono S⟩⟩
theorem cA.set(R:cA K c H σ f)(r:Rep K c H v d)(i:Nat):cA K c H (σ.set i (some v)) (f.set i (some d)):=by
 apply⟨by rw[XY,XY];exact R.len,λj e b=>?_⟩
 by_cases a:i=j
 ·subst a;have hl:i<f.length:=by
   have:=(WB.mp b).1;rw[XY]at this;exact this
  rw[Xk hl]at b;cases b;exact⟨v,by rw[Xk (by rw[R.len];exact hl)],r⟩
 ·rw[WQ a]at b ⊢;exact R.at_ j e b
abbrev EM:=DS->MH->Option (D×MH)
abbrev TM:=DS->MH->Option (Bool×MH)
abbrev AM:=DS->MH->Option (List D×MH)
inductive Fl where
 |nx |bk |ct |rt (d:D)
abbrev SM:=DS->MH->Option (Fl×DS×MH)
abbrev GM:=D->DS->MH->Option (DS×MH)
abbrev Fn:=List D->MH->Option (D×MH)
inductive Nx(K:FR)(ρ:Ad)(H:Hp)(h':MH)(d:D)(v:V)(H':Hp):Prop where
 |mk (ρ'):cV ρ H ρ' H'->bM K ρ' h' H'->Rep K ρ' H' v d->Nx K ρ H h' d v H'
noncomputable def dN(K:FR)(a:Ad)(H:Hp)(b:MH)(d:D):VK:=λv c=>Nx K a H b d v c
inductive VY(K:FR)(m:EM)(σ:L2.St)(H:Hp)(Q:VK):Prop where
 |mk (ρ δ h d h'):cA K ρ H σ δ->bM K ρ h H->(m δ h=some (d,h'))->(∀v H',dN K ρ H h' d v H'->Q v H')->VY K m σ H Q
def tM(K:FR)(m:EM):TE:=λa H Q=>VY K m a H Q
inductive TR(K:FR)(m:TM)(σ:L2.St)(H:Hp)(Q:Bool->Hp->Prop):Prop where
 |mk (ρ δ h b h'):cA K ρ H σ δ->bM K ρ h H->(m δ h=some (b,h'))->(∀ρ' H',cV ρ H ρ' H'->bM K ρ' h' H'->Q b H')->TR K m σ H Q
def Dh(K:FR)(m:TM):TT:=λa H Q=>TR K m a H Q
inductive T8(K:FR)(m:AM)(σ:L2.St)(H:Hp)(Q:List V->Hp->Prop):Prop where
 |mk (ρ δ h ds h'):cA K ρ H σ δ->bM K ρ h H->(m δ h=some (ds,h'))->(∀vs ρ' H',cV ρ H ρ' H'->bM K ρ' h' H'->az K ρ' H' vs ds->Q vs H')->T8 K m σ H Q
def VT(K:FR)(m:AM):TA:=λa H Q=>T8 K m a H Q
inductive TV(K:FR)(m:SM)(E:Ends)(σ:L2.St)(H:Hp):Prop where
 |mk (ρ δ h fl δ' h'):cA K ρ H σ δ->bM K ρ h H->(m δ h=some (fl,δ',h'))->(∀ρ' H',cV ρ H ρ' H'->bM K ρ' h' H'->
 match fl with
 |.nx=>∀σ',cA K ρ' H' σ' δ'->E.nx σ' H'
 |.bk=>∀σ',cA K ρ' H' σ' δ'->E.bk σ' H'
 |.ct=>∀σ',cA K ρ' H' σ' δ'->E.ct σ' H'
 |.rt d=>∀v,Rep K ρ' H' v d->E.rt v H')->TV K m E σ H
def GV(K:FR)(m:SM):TS:=λE a H=>TV K m E a H
inductive T6(K:FR)(m:GM)(v:V)(σ:L2.St)(H:Hp)(Q:L2.St->Hp->Prop):Prop where
 |mk (ρ δ h d δ' h'):cA K ρ H σ δ->bM K ρ h H->Rep K ρ H v d->(m d δ h=some (δ',h'))->(∀ρ' H' σ',cV ρ H ρ' H'->bM K ρ' h' H'->cA K ρ' H' σ' δ'->Q σ' H')->T6 K m v σ H Q
def GA(K:FR)(m:GM):TG:=λv a H Q=>T6 K m v a H Q
def SE(X:Cx)(e:Expr)(m:EM):Prop:=PE X e (tM X.K m)
def ST(X:Cx)(e:Expr)(m:TM):Prop:=PT X e (Dh X.K m)
def SW(X:Cx)(e:Expr)(m:TM):Prop:=PW X e (Dh X.K m)
def SA(X:Cx)(es:List Expr)(m:AM):Prop:=PA X es (VT X.K m)
def SS(X:Cx)(s:Stmt)(m:SM):Prop:=PS X s (GV X.K m)
def Kt(X:Cx)(s:List Stmt)(m:SM):Prop:=Bm X s (GV X.K m)
def SG(X:Cx)(e:Expr)(m:GM):Prop:=PG X e (GA X.K m)
def _root_.L2.PE.imp(h:PE X e t)(i:∀a H Q,c a H Q->t a H Q):PE X e c:=λb s a H Q I q=>h b s a H Q I (i a H Q q)
def _root_.L2.PT.imp(h:PT X e t)(i:∀a H Q,c a H Q->t a H Q):PT X e c:=λb s a H Q I q=>h b s a H Q I (i a H Q q)
def _root_.L2.PW.imp(h:PW X e t)(i:∀a H Q,d a H Q->t a H Q):PW X e d:=λc b s a H Q I q=>h c b s a H Q I (i a H Q q)
def _root_.L2.PA.imp(h:PA X e t)(i:∀a H Q,c a H Q->t a H Q):PA X e c:=λpos b s a H Q I q=>h pos b s a H Q I (i a H Q q)
def _root_.L2.PS.imp(h:PS X e t)(i:∀E a H,c E a H->t E a H):PS X e c:=λb s a H E I q=>h b s a H E I (i E a H q)
def _root_.L2.Bm.imp(h:Bm X e t)(i:∀E a H,c E a H->t E a H):Bm X e c:=λb s a H E I q=>h b s a H E I (i E a H q)
def _root_.L2.PG.imp(h:PG X e t)(i:∀v a H Q,c v a H Q->t v a H Q):PG X e c:=λb s a H v u Q I r q=>h b s a H v u Q I r (i v a H Q q)
def bc(h:o.bind f=some b):∃a,o=some a/\f a=some b:=Aaf.mp h
def dX(h:o.map f=some b):∃a,o=some a/\f a=b:=XD.mp h
def JT{x:D}{a:Type}{g:Bool->Option a}{z:a}(e:(match x with |.bl c=>g c |_=>none)=some z):∃c,x=.bl c/\g c=some z:=by
 cases x <;> first |exact absurd e (by intro z;cases z) |exact⟨_,rfl,e⟩
def dN.here(S:bM K a h H)(r:Rep K a H v d):dN K a H h d v H:=⟨a,.refl _ _,S,r⟩
def dN.step(T:cV c H b H1)(p:dN K b H1 f d v i):dN K c H f d v i:=let⟨a,g,h,e⟩:=p;⟨a,T.trans g,h,e⟩
theorem dN.tup(S:bM K a h H)(r:az K a H b ds)(hp:H p=none):dN K a H h (.tup ds) (.ref p) (upd H p (.tup b)):=
 ⟨a,cV.laid S hp,S.laid hp,.tup (.inl ⟨.inl aQ,S.fresh hp⟩) (r.mono (cV.laid S hp).toCh)⟩
theorem dN.lv(S:bM K a h H)(r:az K a H b ds)(hp:H p=none):dN K a H h (.lv ds) (.ref p) (upd H p (.lst b)):=
 ⟨a,cV.laid S hp,S.laid hp,.lv aQ (S.fresh hp) (r.mono (cV.laid S hp).toCh)⟩
theorem dN.dv(S:bM K a h H)(r:bB K a H us ds)(hp:H p=none):dN K a H h (.dv ds) (.ref p) (upd H p (.dK us)):=
 ⟨a,cV.laid S hp,S.laid hp,.dv aQ (S.fresh hp) (r.mono (cV.laid S hp).toCh)⟩
noncomputable def aM(i:Nat):EM:=λa h=>(a[i]?).join.map λd=>(d,h)
noncomputable def eK(d:D):EM:=λ_ h=>some (d,h)
noncomputable def ag(f:D->D->MH->Option (D×MH))(a b:EM):EM:=λc h=>(a c h).bind λp=>(b c p.2).bind λq=>f p.1 q.1 q.2
noncomputable def jw(f:D->MH->Option (D×MH))(a:EM):EM:=λb h=>(a b h).bind λp=>f p.1 p.2
noncomputable def aV:AM:=λ_ h=>some ([],h)
noncomputable def af(a:EM)(r:AM):AM:=λb h=>(a b h).bind λp=>(r b p.2).bind λq=>some (p.1::q.1,q.2)
noncomputable def aj(f:Fn)(a:AM):EM:=λb h=>(a b h).bind λp=>f p.1 p.2
noncomputable def Gd(t:TM)(a b:EM):EM:=λc h=>(t c h).bind λp=>if p.1 then a c p.2 else b c p.2
noncomputable def ao(a:EM):TM:=λc h=>(a c h).bind λp=>match p.1 with
 |.bl b=>some (b,p.2)
 |_=>none
noncomputable def zC(t:TM):TM:=λa h=>(t a h).map λp=>(!p.1,p.2)
noncomputable def ib(a b:TM):TM:=λc h=>(a c h).bind λp=>if p.1 then b c p.2 else some (false,p.2)
noncomputable def Dg(a b:TM):TM:=λc h=>(a c h).bind λp=>if p.1 then some (true,p.2)else b c p.2
noncomputable def yV(a b:EM):EM:=λd h=>(a d h).bind λp=>match p.1 with
 |.bl c=>if c then b d p.2 else some (.bl false,p.2)
 |_=>none
noncomputable def aA:Fn:=λa h=>some (.tup a,h)
inductive V0(K:FR)(f:D->D->MH->Option (D×MH))(x y:V)(H:Hp)(Q:VK):Prop where
 |mk (ρ h d e z h'):bM K ρ h H->Rep K ρ H x d->Rep K ρ H y e->(f d e h=some (z,h'))->(∀v H',dN K ρ H h' z v H'->Q v H')->V0 K f x y H Q
def rS(K:FR)(f:D->D->MH->Option (D×MH)):R2:=λx y H Q=>V0 K f x y H Q
def qt(X:Cx)(g:Value->Value->Sem Value)(f:D->D->MH->Option (D×MH)):Prop:=qN X g (rS X.K f)
inductive VZ(K:FR)(f:D->MH->Option (D×MH))(x:V)(H:Hp)(Q:VK):Prop where
 |mk (ρ h d z h'):bM K ρ h H->Rep K ρ H x d->(f d h=some (z,h'))->(∀v H',dN K ρ H h' z v H'->Q v H')->VZ K f x H Q
def rU(K:FR)(f:D->MH->Option (D×MH)):V->Hp->VK->Prop:=λx H Q=>VZ K f x H Q
inductive V2(K:FR)(f:Fn)(vs:List V)(H:Hp)(Q:VK):Prop where
 |mk (ρ h ds z h'):bM K ρ h H->az K ρ H vs ds->(f ds h=some (z,h'))->(∀v H',dN K ρ H h' z v H'->Q v H')->V2 K f vs H Q
def rF(K:FR)(f:Fn):List V->Hp->VK->Prop:=λa H Q=>V2 K f a H Q
def gm(X:Cx)(g:Value)(f:Fn):Prop:=eW X g (rF X.K f)
section
variable {X:Cx} {a b c e:Expr} {es:List Expr} {pos:Pos} {ma mb mc:EM} {mt mu:TM} {m:AM} {f:D->D->MH->Option (D×MH)}
def N7(l:X.N[i]?=some x)(j:TH X.env.scope x)(hd:(x==("__debug__":Str))=false:=by ac_nf)(g:(x==("__classdict__":Str))=false:=by ac_nf):SE X (.Name x pos) (aM i):=
 (OW l j hd g).imp λσ H Q u9=>by
  have⟨q,s,h,d,t,R,S,e,k⟩:=u9;have⟨u,p,o⟩:=dX e;cases o;have⟨v,n,r⟩:=R.at_ i _ (AbA.mp p);exact⟨v,n,k v H (.here S r)⟩
def Hk(hp:PE X e (tC v))(hr:∀g H,Rep X.K g H v d):SE X e (eK d):=hp.imp λσ H Q u9=>by
 have⟨g,j,h,n,l,R,S,i,k⟩:=u9;cases i;exact k v H (.here S (hr _ _))
def bt{i j}:SE X (.Constant (.int i) j pos) (eK (.int i)):=Hk O4 λ_ _=>.int i
def MW{b j}:SE X (.Constant (.bool b) j pos) (eK (.bl b)):=Hk Si λ_ _=>.bl b
def BG{j}:SE X (.Constant .none j pos) (eK .bg):=Hk O2 λ_ _=>.bg
def bJ{x j}(h:PyData.strOk x=true:=by decide+kernel):SE X (.Constant (.str x) j pos) (eK (.str x)):=Hk OZ λ_ _=>.str h
def RH(g:Gl X x)(hm:X.mg x=none)(d:bootBuiltins x=some (.type n))(hn:x≠"__name__":=by decide)(hd:(x==("__debug__":Str))=false:=by ac_nf):SE X (.Name x pos) (eK (.ty n)):=
 Hk (Lu (v:=.ty n) g hm d rfl hn hd) λ_ _=>.ty n
def zY(h:tM X.K (ag f ma mb) σ H Q):Ru (rS X.K f) (tM X.K ma) (tM X.K mb) σ H Q:=by
 have⟨r,j,h,d,z,R,S,e,k⟩:=h;obtain⟨⟨x,n⟩,E,e⟩:=bc e;obtain⟨⟨y,l⟩,C,A⟩:=bc e;apply⟨r,j,h,x,n,R,S,E,λv H1 u9=>?_⟩;have⟨i,q,G,t⟩:=u9;apply⟨i,j,n,y,l,R.mono q,G,C,λu J u9=>?_⟩;have⟨g,o,F,s⟩:=u9;exact⟨g,l,x,y,d,z,F,t.mono o,s,A,λw I p=>k w I (p.step (q.trans o))⟩
def b7(d:qt X (binaryOp op) f)(h:SE X a ma)(g:SE X b mb):SE X (.BinOp a op b pos) (ag f ma mb):=(M1 d h g).imp λ_ _ _=>zY
def Oa(d:qt X (compareOp op) f)(h:SE X a ma)(g:SE X b mb)(hm:behindInMarks op b=false):SE X (.Compare a [op] [b] pos) (ag f ma mb):=(Lr d h g hm).imp λ_ _ _=>zY
def oz{g:CmpOp}(n:qt X (compareOp g) f)(p:SE X a ma)(o:SE X b mb)(hm:behindInMarks g b=false):ST X (.Compare a [g] [b] pos) (ao (ag f ma mb)):=
 (K7 n p o hm).imp λσ H Q u9=>by
  have⟨j,l,h,c,w,R,S,e,k⟩:=u9;obtain⟨⟨x,q⟩,s,i⟩:=bc e;have⟨y,rfl,i⟩:=JT i;cases i;apply zY ⟨j,l,h,.bl c,q,R,S,s,λv u u9=>?_⟩;have⟨d,T,t,r⟩:=u9;cases r;exact⟨c,rfl,k d u T t⟩
def MV{i:UnaryOp}{f:D->MH->Option (D×MH)}(q:TJ X (unaryOp i) (rU X.K f))(r:SE X a ma):SE X (.UnaryOp i a pos) (jw f ma):=(Sf q r).imp λσ H Q u9=>by
 have⟨l,n,h,d,s,R,S,e,k⟩:=u9;obtain⟨⟨x,j⟩,t,e⟩:=bc e;exact⟨l,n,h,x,j,R,S,t,λv H1 ⟨g,u,y,o⟩=>⟨g,j,x,d,s,y,o,e,λw z p=>k w z (p.step u)⟩⟩
def ar:SA X [] aV:=ye.imp λσ H Q u9=>by
 have⟨g,i,h,d,j,R,S,e,k⟩:=u9;cases e;exact k [] g H (.refl _ _) S .nil
def aa(t:SE X e ma)(hr:SA X es m)(s:starEach (e::es) X.env=(false,eval e X.env)::starEach es X.env:=by ac_nf):SA X (e::es) (af ma m):=
 (qZ t hr s).imp λσ H Q u9=>by
  have⟨p,j,h,d,G,R,S,e,k⟩:=u9;obtain⟨⟨x,l⟩,z,e⟩:=bc e;obtain⟨⟨q,u⟩,y,w⟩:=bc e;cases w;apply⟨p,j,h,x,l,R,S,z,λv H1 u9=>?_⟩;have⟨i,o,C,r⟩:=u9;exact⟨i,j,l,q,u,R.mono o,C,y,λF g E n A rs=>k _ g E (o.trans n) A (.cons (r.mono n) rs)⟩
def kA(m:AM)(n:Nat):Prop:=∀g h d i,m g h=some (d,i)->d.length=n
def aB:kA aV 0:=λd h i g e=>by cases e;rfl
def ae(hr:kA m n):kA (af ma m) (n+1):=λi h q o e=>by
 obtain⟨⟨x,l⟩,p,e⟩:=bc e;obtain⟨⟨j,k⟩,g,d⟩:=bc e;cases d;rw[WW,hr _ _ _ _ g]
def c7{q}(h:SA X es m)(hl:kA m n)(hn:n<=sizeLine:=by decide):SE X (.Tuple es q pos) (aj aA m):=(OX h).imp λσ H Q u9=>by
 have⟨l,o,h,d,v,R,S,e,k⟩:=u9;obtain⟨⟨x,r⟩,i,e⟩:=bc e;cases e;apply⟨l,o,h,x,r,R,S,i,λu j w s t g=>⟨by rw[g.length,hl _ _ _ _ i];exact hn,λp hp=>k _ _ (dN.step s (.tup t g hp))⟩⟩
inductive T9(K:FR)(m:AM)(σ:L2.St)(H:Hp)(Q:VK):Prop where
 |mk (ρ δ h ds h'):cA K ρ H σ δ->bM K ρ h H->(m δ h=some (ds,h'))->(∀ρ1 H1 p vs,cV ρ H ρ1 H1->bM K ρ1 h' H1->H1 p=none->az K ρ1 H1 vs ds->Q (.ref p) (upd H1 p (.lst vs)))->T9 K m σ H Q
def Wl(K:FR)(m:AM):TE:=λd H Q=>T9 K m d H Q
def rp(X:Cx)(e:Expr)(m:AM):Prop:=PE X e (Wl X.K m)
noncomputable def fz(m:AM):EM:=λd h=>(m d h).map λp=>(.lv p.1,p.2)
noncomputable def CB(m:AM):EM:=λd h=>(m d h).map λp=>(.ob p.2.length,p.2++[.lst p.1])
theorem dN.ob(S:bM K d h H)(r:az K d H g ds)(hp:H p=none):dN K d H (h++[.lst ds]) (.ob h.length) (.ref p) (upd H p (.lst g)):=
 ⟨d.more p,cV.made S hp,S.made hp ⟨g,aQ,r.mono (cV.made S hp).toCh⟩,.ob (show(d.ob++[p])[h.length]?=_ by rw[<-S.len,W4 (WJ _)];simp)⟩
theorem rp.lv(h:rp X e m):SE X e (fz m):=h.imp λσ H Q u9=>by
 have⟨i,j,h,d,u,R,S,e,k⟩:=u9;obtain⟨⟨q,l⟩,o,n⟩:=dX e;cases n;exact⟨i,j,h,q,l,R,S,o,λg v p t T s hp r=>k _ _ (dN.step T (.lv s r hp))⟩
theorem rp.ob(h:rp X e m):SE X e (CB m):=h.imp λσ H Q u9=>by
 have⟨i,j,h,d,u,R,S,e,k⟩:=u9;obtain⟨⟨q,l⟩,o,n⟩:=dX e;cases n;exact⟨i,j,h,q,l,R,S,o,λg v p t T s hp r=>k _ _ (dN.step T (.ob s r hp))⟩
def fU(h:SA X es m)(hl:kA m n)(hn:n<=sizeLine:=by decide):rp X (.List es pos) m:=(O3 h).imp λσ H Q ⟨i,j,h,ds,o,R,S,e,k⟩=>
 ⟨i,j,h,ds,o,R,S,e,λl d s q r g=>⟨by rw[g.length,hl _ _ _ _ e];exact hn,λp hp=>k d s p l q r hp g⟩⟩
noncomputable def Ws:EM:=λ_ h=>some (.dv [],h)
def RM:SE X (.Dict [] [] pos) Ws:=Ie.imp λσ H Q ⟨g,i,h,d,j,R,S,e,k⟩ p hp=>by
 cases e;exact k _ _ (.dv S .nil hp)
def G2(h:ST X a mt):ST X (.UnaryOp .Not a pos) (zC mt):=(OM h).imp λσ H Q u9=>by
 have⟨g,i,h,c,q,R,S,e,k⟩:=u9;obtain⟨⟨x,j⟩,n,l⟩:=dX e;cases l;exact⟨g,i,h,x,j,R,S,n,λd p T o=>k d p T o⟩
def qQ(h:ST X a mt):SW X (.BoolOp .And [a] pos) mt:=K6 h
def NW(h:ST X a mt):SW X (.BoolOp .Or [a] pos) mt:=OK h
def xy{d:List Expr}(r:ST X a mt)(q:SW X (.BoolOp .And (b::d) pos) mu):SW X (.BoolOp .And (a::b::d) pos) (ib mt mu):=(OL r q).imp λσ H Q u9=>by
 have⟨p,l,h,c,s,R,S,e,k⟩:=u9;obtain⟨⟨x,n⟩,t,i⟩:=bc e;apply⟨p,l,h,x,n,R,S,t,λg y T o=>?_⟩;cases x with
 |true=>rw[WH rfl]at i ⊢;exact⟨g,l,n,c,s,R.mono T,o,i,λj w u v=>k j w (T.trans u) v⟩
 |false=>rw[WM (by simp)]at i ⊢;cases i;exact k g y T o
def MS{d:List Expr}(r:ST X a mt)(q:SW X (.BoolOp .Or (b::d) pos) mu):SW X (.BoolOp .Or (a::b::d) pos) (Dg mt mu):=(Sd r q).imp λσ H Q u9=>by
 have⟨p,l,h,c,s,R,S,e,k⟩:=u9;obtain⟨⟨x,n⟩,t,i⟩:=bc e;apply⟨p,l,h,x,n,R,S,t,λg y T o=>?_⟩;cases x with
 |false=>rw[WM (by simp)]at i ⊢;exact⟨g,l,n,c,s,R.mono T,o,i,λj w u v=>k j w (T.trans u) v⟩
 |true=>rw[WH rfl]at i ⊢;cases i;exact k g y T o
def SW.st(h:SW X a mt):ST X a mt:=PW.pt h
def xG{op}(h:SE X a ma):SE X (.BoolOp op [a] pos) ma:=O0 h
def rP{g:List Expr}(t:SE X a ma)(s:SE X (.BoolOp .And (b::g) pos) mb):SE X (.BoolOp .And (a::b::g) pos) (yV ma mb):=(O6 t s).imp λσ H Q u9=>by
 have⟨q,l,h,d,u,R,S,e,k⟩:=u9;obtain⟨⟨x,n⟩,w,i⟩:=bc e;have⟨c,rfl,i⟩:=JT i;apply⟨q,l,h,.bl c,n,R,S,w,λv z u9=>?_⟩;have⟨j,T,o,r⟩:=u9;cases r;apply⟨c,rfl,?_⟩;cases c with
 |true=>rw[WH rfl]at i ⊢;exact⟨j,l,n,d,u,R.mono T,o,i,λv y p=>k v y (p.step T)⟩
 |false=>rw[WM (by simp)]at i ⊢;cases i;exact k _ _ ⟨j,T,o,.bl _⟩
noncomputable def Qe(a:EM):EM:=λd h=>(a d h).bind λp=>match p.1 with
 |.bl c=>some (.bl (!c),p.2)
 |_=>none
def N9(n:SE X a ma):SE X (.UnaryOp .Not a pos) (Qe ma):=(O1 n).imp λσ H Q u9=>by
 have⟨j,l,h,d,s,R,S,e,k⟩:=u9;obtain⟨⟨x,o⟩,p,i⟩:=bc e;have⟨c,rfl,i⟩:=JT i;cases i;apply⟨j,l,h,.bl c,o,R,S,p,λv t u9=>?_⟩;have⟨g,T,q,r⟩:=u9;cases r;exact⟨c,rfl,k _ _ ⟨g,T,q,.bl _⟩⟩
def RL(s:ST X c mt)(u:SE X a ma)(t:SE X b mb):SE X (.IfExp c a b pos) (Gd mt ma mb):=(Ic s u t).imp λσ H Q u9=>by
 have⟨r,j,h,d,o,R,S,e,k⟩:=u9;obtain⟨⟨x,l⟩,w,i⟩:=bc e;apply⟨r,j,h,x,l,R,S,w,λg y T q=>?_⟩;cases x with
 |true=>rw[WH rfl]at i ⊢;exact⟨g,j,l,d,o,R.mono T,q,i,λv n p=>k v n (p.step T)⟩
 |false=>rw[WM (by simp)]at i ⊢;exact⟨g,j,l,d,o,R.mono T,q,i,λv n p=>k v n (p.step T)⟩
noncomputable def EV(d:D)(h:MH):Option Bool:=match d with
 |.bg=>some false
 |.bl b=>some b
 |.int i=>some (i !=0)
 |.str x=>if x.length<=sizeLine then some ((x.length:Int) !=0)else none
 |.tup xs=>some (!xs.isEmpty)
 |.dv g=>some (!g.isEmpty)
 |.ob n=>match h[n]? with
  |some (.lst xs)=>some (!xs.isEmpty)
  |some (.dct g)=>some (!g.isEmpty)
  |_=>none
 |.lv xs=>some (!xs.isEmpty)
 |.ro xs=>some (!xs.isEmpty)
 |.ty _=>none
def lZ(a:EM):TM:=λd h=>(a d h).bind λp=>(EV p.1 p.2).map λc=>(c,p.2)
theorem bB.isEmpty(t:bB K d H us ds):us.isEmpty=ds.isEmpty:=by cases t <;> rfl
def Ky{K:FR}{j:Ad}{H:Hp}{h:MH}{v:V}{d:D}{c:Bool}(S:bM K j h H)(r:Rep K j H v d)(e:EV d h=some c):QO K v H c:=by
 cases r with
 |bg=>cases e;exact rfl
 |bl b=>cases e;exact rfl
 |int i=>cases e;exact rfl
 |str p=>
  unfold EV at e
  by_cases z:‹Str›.length<=sizeLine
  ·simp only[WH z]at e;cases e;exact⟨z,rfl⟩
  ·simp only[WM z]at e;cases e
 |ty n=>exact cw e
 |tup ht l=>cases e;exact .inr (.inl ⟨_,ht.sq,by rw[l.isEmpty]⟩)
 |lv ht n l=>cases e;exact .inl ⟨_,eV.of ht,by rw[l.isEmpty]⟩
 |ro ht l=>cases e;exact .inl ⟨_,ht.sq,by rw[l.isEmpty]⟩
 |dv ht n l=>cases e;exact .inr (.inr ⟨_,ht,by rw[l.isEmpty]⟩)
 |ob hn=>
  unfold EV at e;rename_i a n;cases q:h[n]? with
  |none=>simp only[q]at e;cases e
  |some o=>
   have x:=S.at_ n a o hn q;cases o with
   |lst ds=>simp only[q]at e;cases e;have⟨k,g,l⟩:=x;exact .inl ⟨_,eV.of g,by rw[l.isEmpty]⟩
   |dct ds=>simp only[q]at e;cases e;have⟨k,g,l⟩:=x;exact .inr (.inr ⟨_,g,by rw[l.isEmpty]⟩)
   |dcH ds=>simp only[q]at e;cases e
def rK(o:SE X a ma)(n:∀d,isTrue a X.env d=(do let v<-d;standAt a.pos;holding [v] (truthy v)):=by intro _;ac_nf):ST X a (lZ ma):=(HP o n).imp λσ H Q u9=>by
 have⟨j,l,h,c,y,R,S,e,k⟩:=u9;obtain⟨⟨x,p⟩,u,t⟩:=bc e;have⟨z,s,q⟩:=dX t;cases q;exact⟨j,l,h,x,p,R,S,u,λv w ⟨g,T,i,r⟩=>⟨c,Ky i r s,k g w T i⟩⟩
end
mutual
noncomputable def Mw:D->D->Bool
 |.bg,.bg=>true
 |.bl a,.bl b=>a==b
 |.int a,.int b=>a==b
 |.str a,.str b=>decide (a=b)
 |.ty a,.ty b=>a==b
 |.tup a,.tup b=>zj a b
 |.lv a,.lv b=>zj a b
 |.ro a,.ro b=>zj a b
 |.dv a,.dv b=>JV a b
 |.ob a,.ob b=>a==b
 |_,_=>false
noncomputable def zj:List D->List D->Bool
 |[],[]=>true
 |a::r,b::s=>Mw a b&&zj r s
 |_,_=>false
noncomputable def JV:List (Key×D)->List (Key×D)->Bool
 |[],[]=>true
 |(k,a)::r,(j,b)::s=>decide (k=j)&&Mw a b&&JV r s
 |_,_=>false
end
mutual
theorem EH:∀(a b:D),Mw a b=true->a=b
 |.bg,b,h=>by cases b <;> first |rfl |(cases h;done)
 |.bl x,b,h=>by cases b <;> first |exact congrArg _ (eq_of_beq h) |(cases h;done)
 |.int x,b,h=>by cases b <;> first |exact congrArg _ (eq_of_beq h) |(cases h;done)
 |.str x,b,h=>by cases b <;> first |exact congrArg _ (XR h) |(cases h;done)
 |.ty x,b,h=>by cases b <;> first |exact congrArg _ (eq_of_beq h) |(cases h;done)
 |.ob x,b,h=>by cases b <;> first |exact congrArg _ (eq_of_beq h) |(cases h;done)
 |.tup x,b,h=>by cases b <;> first |exact congrArg _ (iE _ _ h) |(cases h;done)
 |.lv x,b,h=>by cases b <;> first |exact congrArg _ (iE _ _ h) |(cases h;done)
 |.ro x,b,h=>by cases b <;> first |exact congrArg _ (iE _ _ h) |(cases h;done)
 |.dv x,b,h=>by cases b <;> first |exact congrArg _ (zk _ _ h) |(cases h;done)
theorem iE:∀(a b:List D),zj a b=true->a=b
 |[],b,h=>by cases b <;> first |rfl |(cases h;done)
 |x::r,b,h=>by
  cases b with
  |nil=>cases h
  |cons y s=>have h:=Xb.mp h;rw[EH _ _ h.1,iE _ _ h.2]
theorem zk:∀(a b:List (Key×D)),JV a b=true->a=b
 |[],b,h=>by cases b <;> first |rfl |(cases h;done)
 |(k,x)::r,b,h=>by
  cases b with
  |nil=>cases h
  |cons y s=>
   have⟨j,y⟩:=y;have h:=Xb.mp h;have g:=Xb.mp h.1;rw[XR g.1,EH _ _ g.2,zk _ _ h.2]
end
mutual
theorem xh:∀(a:D),Mw a a=true
 |.bg=>rfl
 |.bl x=>YL x
 |.int x=>YL x
 |.str x=>Xf rfl
 |.ty x=>YL x
 |.ob x=>YL x
 |.tup x=>fg x
 |.lv x=>fg x
 |.ro x=>fg x
 |.dv x=>pj x
theorem fg:∀(a:List D),zj a a=true
 |[]=>rfl
 |x::r=>Xb.mpr ⟨xh x,fg r⟩
theorem pj:∀(a:List (Key×D)),JV a a=true
 |[]=>rfl
 |(k,x)::r=>Xb.mpr ⟨Xb.mpr ⟨Xf rfl,xh x⟩,pj r⟩
end
def JU:MO->MO->Bool
 |.lst a,.lst b=>zj a b
 |.dct a,.dct b=>JV a b
 |.dcH a,.dcH b=>zj (a.map (·.1)) (b.map (·.1))&&zj (a.map (·.2)) (b.map (·.2))
 |_,_=>false
theorem Af:∀{a b:List (D×D)},a.map (·.1)=b.map (·.1)->a.map (·.2)=b.map (·.2)->a=b
 |[],[],_,_=>rfl
 |[],_::_,h,_=>by cases h
 |_::_,[],h,_=>by cases h
 |(x,y)::a,(u,v)::b,h,g=>by
  have⟨c,d⟩:=List.cons.inj h;have⟨g1,g2⟩:=List.cons.inj g;dsimp only at c g1;rw[c,g1,Af d g2]
def EF(h:JU a b=true):a=b:=by
 cases a <;> cases b <;> first |(cases h;done) |skip
 ·rw[iE _ _ h]
 ·rw[zk _ _ h]
 ·have h:=Xb.mp h;rw[Af (iE _ _ h.1) (iE _ _ h.2)]
def xg(a:MO):JU a a=true:=by
 cases a with
 |lst x=>exact fg x
 |dct x=>exact pj x
 |dcH x=>exact Xb.mpr ⟨fg _,fg _⟩
def zl:MH->MH->Bool
 |[],[]=>true
 |a::r,b::s=>JU a b&&zl r s
 |_,_=>false
theorem EG:∀{a b:MH},zl a b=true->a=b
 |[],b,h=>by cases b <;> first |rfl |simp[zl]at h
 |x::r,b,h=>by
  cases b with
  |nil=>simp[zl]at h
  |cons y s=>simp[zl]at h;rw[EF h.1,EG h.2]
noncomputable def bV:SM:=λa h=>some (.nx,a,h)
noncomputable def Og:SM:=λa h=>some (.bk,a,h)
noncomputable def ai(a b:SM):SM:=λc h=>(a c h).bind λr=>match r.1 with
 |.nx=>b r.2.1 r.2.2
 |_=>some r
noncomputable def aJ(i:Nat)(e:EM):SM:=λa h=>(e a h).bind λp=>some (.nx,a.set i (some p.1),p.2)
noncomputable def fC(e:EM)(g:GM):SM:=λa h=>(e a h).bind λp=>(g p.1 a p.2).bind λq=>some (.nx,q.1,q.2)
noncomputable def b8(e:EM):SM:=λa h=>(e a h).bind λp=>some (.nx,a,p.2)
noncomputable def aP(e:EM):SM:=λa h=>(e a h).bind λp=>some (.rt p.1,a,p.2)
noncomputable def eS(t:TM)(a b:SM):SM:=λc h=>(t c h).bind λp=>if p.1 then a c p.2 else b c p.2
noncomputable def gN(i:Nat):GM:=λd a h=>some (a.set i (some d),h)
abbrev GI:=List D->DS->MH->Option (DS×MH)
noncomputable def bE:GI:=λb a h=>match b with
 |[]=>some (a,h)
 |_=>none
noncomputable def ak(g:GM)(u:GI):GI:=λb a h=>match b with
 |[]=>none
 |d::r=>(g d a h).bind λp=>u r p.1 p.2
noncomputable def gT(n:Nat)(u:GI):GM:=λd a h=>match d with
 |.tup xs=>if xs.length=n then u xs a h else none
 |_=>none
abbrev W:=List (Nat×MO)
abbrev IM:=DS->MH->Option (List D×W×MH)
def hZ:W->MH->Bool
 |[],_=>true
 |(n,o)::r,h=>(match h[n]? with |some u=>JU u o |none=>false)&&hZ r h
def nE(a:W)(g:GM)(b:SM):List D->SM
 |[],c,h=>if hZ a h then some (.nx,c,h)else none
 |x::r,c,h=>if hZ a h then(g x c h).bind λq=>(b q.1 q.2).bind λz=>match z.1 with
  |.nx=>nE a g b r z.2.1 z.2.2
  |.ct=>nE a g b r z.2.1 z.2.2
  |.bk=>some (.nx,z.2.1,z.2.2)
  |.rt d=>some (.rt d,z.2.1,z.2.2)
  else none
def gV(i:IM)(g:GM)(b:SM):SM:=λa h=>(i a h).bind λp=>nE p.2.1 g b p.1 a p.2.2
noncomputable def ia(c:TM)(b:SM):Nat->SM
 | 0,_,_=>none
 |n+1,a,h=>(c a h).bind λp=>if p.1 then(b a p.2).bind λz=>match z.1 with
   |.nx=>ia c b n z.2.1 z.2.2
   |.ct=>ia c b n z.2.1 z.2.2
   |.bk=>some (.nx,z.2.1,z.2.2)
   |.rt d=>some (.rt d,z.2.1,z.2.2)
  else some (.nx,a,p.2)
section
variable {X:Cx} {a b c e tg iter:Expr} {es:List Expr} {st:Stmt} {sts rest:List Stmt} {pos:Pos} {ma mb:EM} {mt:TM} {ms mu:SM} {m:AM} {g:GM} {gs:GI}
def cu:Kt X [] bV:=K9.imp λE σ H u9=>by
 have⟨d,i,h,fl,f,j,R,S,e,k⟩:=u9;cases e;exact k d H (.refl _ _) S σ R
def NZ:SS X (.Break pos) Og:=HU.imp λE σ H u9=>by
 have⟨d,i,h,fl,f,j,R,S,e,k⟩:=u9;cases e;exact k d H (.refl _ _) S σ R
def Ot(hh:GV X.K (ai ms mu) E σ H):Rq (GV X.K ms) (GV X.K mu) E σ H:=by
 have⟨o,p,h,fl,t,w,R,S,e,k⟩:=hh;obtain⟨⟨x,n,u⟩,r,q⟩:=bc e;cases x with
 |nx=>exact⟨o,p,h,.nx,n,u,R,S,r,λf l i j v A=>⟨f,n,u,fl,t,w,A,j,q,λs C y z=>k s C (i.trans y) z⟩⟩
 |bk=>cases q;exact⟨o,p,h,.bk,_,_,R,S,r,λf l i j=>k f l i j⟩
 |ct=>cases q;exact⟨o,p,h,.ct,_,_,R,S,r,λf l i j=>k f l i j⟩
 |rt d=>cases q;exact⟨o,p,h,.rt d,_,_,R,S,r,λf l i j=>k f l i j⟩
def ab(f:SS X st ms)(d:Kt X rest mu):Kt X (st::rest) (ai ms mu):=(HQ f d).imp λ_ _ _=>Ot
def aF(d:SS X st ms):Kt X [st] ms:=K8 d
def HA(hh:GV X.K (aJ i ma) E σ H):GY (tM X.K ma) (wU i) E σ H:=by
 have⟨j,n,h,fl,l,t,R,S,e,k⟩:=hh;obtain⟨⟨x,p⟩,r,q⟩:=bc e;cases q;exact⟨j,n,h,x,p,R,S,r,λv H1 ⟨d,f,s,o⟩=>k d H1 f s _ ((R.mono f).set o i)⟩
def NY(l:X.N.Nodup)(h:X.N[i]?=some x)(d:Loc X.env.scope x)(k:SE X e ma)(f:swapsWith e (some (.Name x pos')) pos.line X.env=pure false:=by ac_nf)(j:X.fn x=true\/X.env.scope.names.lookup x=some .local:=by first |exact .inl rfl |exact .inr rfl |assumption):SS X (.Assign [.Name x pos'] e pos) (aJ i ma):=(ON l h d k f j).imp λ_ _ _=>HA
def KN(p:X.N.Nodup)(n:X.N[i]?=some x)(l:Loc X.env.scope x)(o:X.fn x=true\/X.env.scope.names.lookup x=some .local:=by first |exact .inl rfl |exact .inr rfl |assumption):SG X (.Name x pos) (gN i):=
 (Lq p n l o).imp λv σ H Q u9=>by
  have⟨f,q,h,d,j,s,R,S,r,e,k⟩:=u9;cases e;exact k f H _ (.refl _ _) S (R.set r i)
inductive Nr(K:FR)(m:GI)(vs:List V)(σ:L2.St)(H:Hp)(Q:L2.St->Hp->Prop):Prop where
 |mk (ρ δ h ds δ' h'):cA K ρ H σ δ->bM K ρ h H->az K ρ H vs ds->(m ds δ h=some (δ',h'))->(∀ρ' H' σ',cV ρ H ρ' H'->bM K ρ' h' H'->cA K ρ' H' σ' δ'->Q σ' H')->Nr K m vs σ H Q
noncomputable def UI(K:FR)(m:GI):Nt:=λf d H Q=>Nr K m f d H Q
def Ub(X:Cx)(es:List Expr)(m:GI):Prop:=MG X es (UI X.K m)
def _root_.L2.MG.imp{X:Cx}{e:List Expr}{t j:Nt}(h:MG X e t)(i:∀v d H Q,j v d H Q->t v d H Q):MG X e j:=λf s d H v u Q I r q=>h f s d H v u Q I r (i v d H Q q)
def jK:Ub X [] bE:=Lp.imp λv σ H Q u9=>by
 have⟨f,j,h,d,i,l,R,S,r,e,k⟩:=u9;cases r with
 |nil=>cases e;exact⟨rfl,k f H σ (.refl _ _) S R⟩
 |cons _ _=>cases e
def cZ(i:SG X e g)(w:Ub X es gs)(u:(assignEach (e::es) X.env).map (·.2)=assign e X.env::(assignEach es X.env).map (·.2):=by ac_nf):Ub X (e::es) (ak g gs):=(HY i w u).imp λv σ H Q u9=>by
 have⟨s,t,h,d,o,x,R,S,r,e,k⟩:=u9;cases r with
 |nil=>cases e
 |cons r rs=>
  obtain⟨⟨f,i⟩,z,y⟩:=bc e;exact⟨_,_,rfl,s,t,h,_,f,i,R,S,r,z,λn I q p E F=>⟨n,f,i,_,o,x,F,E,rs.mono p,y,λl G j A C R2=>k l G j (p.trans A) C R2⟩⟩
def rN(s:X.calm=true)(h:Ub X es gs)(hn:(assignEach es X.env).length=n:=by ac_nf)(i:(assignEach es X.env).findIdx? (·.1)=none:=by ac_nf):SG X (.Tuple es u pos) (gT n gs):=
 (OU s h hn i).imp λv σ H Q ⟨o,p,h,d,f,t,R,S,r,e,k⟩=>by
  cases r <;> first |(exact absurd e (by intro z;cases z)) |skip
  rename_i a q j ht l _;unfold gT at e;dsimp only at e
  by_cases z:j.length=n
  ·rw[WH z]at e;exact⟨a,q,rfl,ht.sq,by rw[l.length];exact z,o,p,h,j,f,t,R,S,l,e,k⟩
  ·rw[WM z]at e;cases e
def eX(w:SE X e ma)(u:SG X tg g)(t:swapsWithSole [tg] e pos.line X.env=pure false:=by ac_nf)(s:swappedStores [tg] e X.env=pure none:=by ac_nf)
  (d:(assignEach [tg] X.env).map (·.2)=[assign tg X.env]:=by ac_nf):SS X (.Assign [tg] e pos) (fC ma g):=(OQ w u t s d).imp λE σ H u9=>by
 have⟨o,l,h,fl,q,M,R,S,e,k⟩:=u9;obtain⟨⟨x,d⟩,C,A⟩:=bc e;obtain⟨⟨p,L⟩,y,z⟩:=bc A;cases z;exact⟨o,l,h,x,d,R,S,C,λv H1 ⟨j,n,I,r⟩=>⟨j,l,d,x,_,_,R.mono n,I,r,y,λi J f F G R2=>k i J (n.trans F) G f R2⟩⟩
def jJ(o:SE X e ma)(n:swapsWith e none pos.line X.env=pure false:=by ac_nf):SS X (.Expr e pos) (b8 ma):=(Lc o n).imp λE σ H u9=>by
 have⟨i,l,h,fl,j,u,R,S,e,k⟩:=u9;obtain⟨⟨x,p⟩,r,q⟩:=bc e;cases q;exact⟨i,l,h,x,p,R,S,r,λv H1 ⟨d,f,s,t⟩=>k d H1 f s σ (R.mono f)⟩
def br(n:SE X e ma):SS X (.Return (some e) pos) (aP ma):=(OO n).imp λE σ H u9=>by
 have⟨f,j,h,fl,i,t,R,S,e,k⟩:=u9;obtain⟨⟨x,o⟩,q,p⟩:=bc e;cases p;exact⟨f,j,h,x,o,R,S,q,λv H1 ⟨d,r,s,l⟩=>k d H1 r s v l⟩
def cB(v:ST X c mt)(y:Kt X sa ms)(w:Kt X sb mu):SS X (.If c sa sb pos) (eS mt ms mu):=(Se v y w).imp λE σ H u9=>by
 have⟨u,n,h,fl,i,s,R,S,e,k⟩:=u9;obtain⟨⟨x,o⟩,z,j⟩:=bc e;apply⟨u,n,h,x,o,R,S,z,λf A l t=>?_⟩;cases x with
 |true=>rw[WH rfl]at j ⊢;exact⟨f,n,o,fl,i,s,R.mono l,t,j,λd r p q=>k d r (l.trans p) q⟩
 |false=>rw[WM (by simp)]at j ⊢;exact⟨f,n,o,fl,i,s,R.mono l,t,j,λd r p q=>k d r (l.trans p) q⟩
structure QW(K:FR)(J:It)(ρ:Ad)(H:Hp)(ws:W)(xs:List D):Prop where
 run:∀ρ1 H1 h1,Ch ρ H ρ1 H1->bM K ρ1 h1 H1->hZ ws h1=true->∀i:Nat,(xs.length<=i->J.stop i H1)/\∀x,xs[i]?=some x->J.go i H1/\∀v H2,J.Ra i H1 v H2->cV ρ1 H1 ρ1 H2/\bM K ρ1 h1 H2/\Rep K ρ1 H2 v x
inductive TZ(K:FR)(m:IM)(σ:L2.St)(H:Hp)(R:It->Hp->Prop):Prop where
 |mk (ρ δ h xs ws h'):cA K ρ H σ δ->bM K ρ h H->(m δ h=some (xs,ws,h'))->(∀J ρ1 H1,cV ρ H ρ1 H1->bM K ρ1 h' H1->QW K J ρ1 H1 ws xs->R J H1)->TZ K m σ H R
def NQ(K:FR)(m:IM):TI:=λd H R=>TZ K m d H R
def SI(X:Cx)(tg iter:Expr)(m:IM):Prop:=PI X tg iter (NQ X.K m)
def _root_.L2.PI.imp(h:PI X tg e t)(i:∀d H Q,j d H Q->t d H Q):PI X tg e j:=λf s d H R I q=>h f s d H R I (i d H R q)
def Ou(hh:GV X.K (gV mi g ms) E σ H):Ry (NQ X.K mi) (GA X.K g) (GV X.K ms) E σ H:=by
 have⟨ρ,δ,h,fl,z,U,R,S,e,k⟩:=hh;obtain⟨⟨s,L,h1⟩,e1,e2⟩:=bc e;apply⟨ρ,δ,h,s,L,h1,R,S,e1,λJ I H1 Z S1 It=>?_⟩;apply⟨λi m F y=>∃j p w,m=s.length-i/\i<=s.length/\cV I H1 j y/\cA X.K j y F p/\bM X.K j w y/\nE L g ms (s.drop i) p w=some (fl,z,U),⟨_,I,δ,h1,rfl,Xg _,.refl _ _,R.mono Z,S1,e2⟩,?_⟩;rintro i m F y ⟨j,p,w,rfl,hi,O,R2,S2,u⟩;cases q:s.drop i with
 |nil=>
  rw[q]at u;unfold nE at u
  by_cases M:hZ L w=true
  ·rw[WH M]at u;cases u;have hl:s.length<=i:=by have:=congrArg List.length q;rw[Aag,XZ]at this;lia
   exact .inl ⟨(It.run j y _ O S2 M i).1 hl,k j y (Z.trans O) S2 F R2⟩
  ·rw[WM M]at u;cases u
 |cons x r=>
  rw[q]at u;unfold nE at u
  by_cases M:hZ L w=true
  ·rw[WH M]at u;have hx:s[i]?=some x:=by
    have:=congrArg (λl=>l[0]?) q
    simpa using this
   have hlt:i<s.length:=(WB.mp hx).1;have hr:s.drop (i+1)=r:=by
    have:=congrArg List.tail q
    simpa using this
   obtain⟨⟨P,h3⟩,e4,e5⟩:=bc u;obtain⟨⟨f4,t,N⟩,e6,Y⟩:=bc e5;have⟨hgo,hy⟩:=(It.run j y w O S2 M i).2 x hx;have NN:∀f n o,cV j y f n->bM X.K f N n->cA X.K f n o t->nE L g ms r t N=some (fl,z,U)->
     ∃m',m'<s.length-i/\(∃j p w,m'=s.length-(i+1)/\i+1<=s.length/\cV I H1 j n/\cA X.K j n o p/\bM X.K j w n/\nE L g ms (s.drop (i+1)) p w=some (fl,z,U)):=
    λf n o Q C R5 e8=>⟨s.length-(i+1),by lia,f,t,N,rfl,hlt,O.trans Q,R5,C,by rw[hr];exact e8⟩
   apply .inr ⟨hgo,λo n=>∃f,cV j y f n/\bM X.K f N n/\cA X.K f n o t/\nE L g ms r t N=some (fl,z,U),λo n ⟨f,Q,C,R5,e8⟩=>NN f n o Q C R5 e8,λv H3 y3=>?_⟩;have⟨T3,S3,r3⟩:=hy v H3 y3;apply⟨j,p,w,x,P,h3,R2.mono T3,S3,r3,e4,λρ4 H4 σ4 T4 S4 R4=>?_⟩;apply⟨ρ4,P,h3,f4,t,N,R4,S4,e6,λf n Q C=>?_⟩;have A:cV j y f n:=T3.trans (T4.trans Q);cases f4 with
   |nx=>exactλG T=>⟨f,A,C,T,Y⟩
   |ct=>exactλG T=>⟨f,A,C,T,Y⟩
   |bk=>cases Y;exactλG T=>k f n (Z.trans (O.trans A)) C G T
   |rt d=>cases Y;exactλv r=>k f n (Z.trans (O.trans A)) C v r
  ·rw[WM M]at u;cases u
def cX(hp:PassesOwn (model X.prog X.w) X.A X.env X.xe)(j:X.calm=true)(h:SI X tg iter d)(i:SG X tg g)(k:Kt X body ms)(f:∀x,foldedSetIterable iter X.env x=pure x:=by intro _;ac_nf):SS X (.For tg iter body [] pos) (gV d g ms):=
 (OP hp j h i k f).imp λ_ _ _=>Ou
def Hy(hh:GV X.K (ia mt ms n) E σ H):GU (Dh X.K mt) (GV X.K ms) E σ H:=by
 have⟨M,Y,h,fl,z,O,R,S,e,k⟩:=hh;apply⟨λm o L=>∃i j F,cV M H i L/\cA X.K i L o j/\bM X.K i F L/\ia mt ms m j F=some (fl,z,O),⟨n,M,Y,h,.refl _ _,R,S,e⟩,?_⟩;rintro m o L ⟨i,j,F,J,R2,S2,Q⟩;cases m with
 |zero=>cases Q
 |succ m=>
  obtain⟨⟨x,N⟩,e3,I⟩:=bc Q;apply⟨i,j,F,x,N,R2,S2,e3,λq U u T=>?_⟩;cases x with
  |false=>rw[WM (by simp)]at I ⊢;cases I;exact k q U (J.trans u) T o (R2.mono u)
  |true=>
   rw[WH rfl]at I ⊢;obtain⟨⟨P,l,C⟩,e5,G⟩:=bc I;apply⟨λy s=>∃f,cV q U f s/\bM X.K f C s/\cA X.K f s y l/\ia mt ms m l C=some (fl,z,O),λy s ⟨f,t,w,R5,Z⟩=>⟨m,XQ m,f,l,C,J.trans (u.trans t),R5,w,Z⟩,?_⟩;apply⟨q,j,N,P,l,C,R2.mono u,T,e5,λf s t w=>?_⟩;cases P with
   |nx=>exactλp A=>⟨f,t,w,A,G⟩
   |ct=>exactλp A=>⟨f,t,w,A,G⟩
   |bk=>cases G;exactλp A=>k f s (J.trans (u.trans t)) w p A
   |rt d=>cases G;exactλv r=>k f s (J.trans (u.trans t)) w v r
def G3(hp:PassesOwn (model X.prog X.w) X.A X.env X.xe)(d:ST X c mt)(f:Kt X body ms):SS X (.While c body [] pos) (ia mt ms n):=(HR hp d f).imp λ_ _ _=>Hy
end
end Sm
namespace L2
open PyProof.Rows
def OT(hl:PE X l r):PI X w l (λj H R=>r j H λx d=>∃a,x=.ref a/\(((∃f,eV X.K d a f)/\R (VQ X.K a) d)\/((∃f,iJ X.K d a f)/\R (VP X.K a) d))):=by
 intro g s j H R I h;apply cQ (hl g s j H _ I h) λv s1 u9=>?_;have⟨x,d,c,t,k⟩:=u9;have⟨a,e,k⟩:=k;subst e;cases t;rcases k with⟨⟨f,m⟩,q⟩ |⟨⟨f,m⟩,q⟩
 ·have⟨i,rv,p,u⟩:=c.list m;apply Zj p.isList ?_;apply⟨s1.heap.objs.size,[s1.heap.objs.size],_,_,d,rfl,c.kept (t':=s1.toks) λb o e=>WC _ e,ES a _,⟨_,WZ _ rfl,rfl,rfl⟩,λb n=>?_,q⟩;have e:b=s1.heap.objs.size:=by simpa using n
  subst e;exact c.vw (WJ _) (c.a9.fresh (WJ _))
 ·have⟨i,rv,p,u⟩:=c.tuple m;apply ZD (show s1.heap.IsTuple a i.toArray from p) ?_;apply⟨s1.heap.objs.size,[s1.heap.objs.size],_,_,d,rfl,c.kept (t':=s1.toks) λb o e=>WC _ e,Bu a _,⟨_,WZ _ rfl,rfl,rfl⟩,λb n=>?_,q⟩;have e:b=s1.heap.objs.size:=by simpa using n
  subst e;exact c.vw (WJ _) (c.a9.fresh (WJ _))
end L2
namespace Sm
open L2
noncomputable def cq(d:D)(h:MH):Option (List D×W):=match d with
 |.lv xs=>some (xs,[])
 |.ro xs=>some (xs,[])
 |.tup xs=>some (xs,[])
 |.ob n=>match h[n]? with
  |some (.lst xs)=>some (xs,[(n,.lst xs)])
  |_=>none
 |_=>none
def fe(e:EM):IM:=λa h=>(e a h).bind λp=>(cq p.1 p.2).map λq=>(q.1,q.2,p.2)
noncomputable def jn(m:AM):IM:=λa h=>(m a h).bind λp=>match p.1 with
 |[.int j]=>if -(2^62)<=j/\j<2^62 then some ((List.range j.toNat).map λ(k:Nat)=>D.int (k:Int),[],p.2)else none
 |[.int i,.int j]=>if -(2^62)<=i/\i<2^62/\-(2^62)<=j/\j<2^62 then some ((List.range (j-i).toNat).map λ(k:Nat)=>D.int (i+(k:Int)),[],p.2)else none
 |_=>none
def yE(hl:∀a b d,Ch f H a b->bM K a d b->hZ ws d=true->∃c,az K a b c xs/\(∀i:Nat,c.length<=i->J.stop i b)/\∀(i:Nat) v,c[i]?=some v->J.go i b/\∀u e,J.Ra i b u e->e=b/\u=v):QW K J f H ws xs:=by
 apply⟨λa b d T S p i=>?_⟩;have⟨c,l,k,j⟩:=hl a b d T S p;apply⟨λo=>k i (by rw[l.length];exact o),λx m=>?_⟩;have⟨v,n,r⟩:=l.got m;have⟨g,y⟩:=j i v n;apply⟨g,λu e h=>?_⟩;have⟨rfl,rfl⟩:=y u e h;exact⟨.refl _ _,S,r⟩
def PX(hl:∀b d f,Ch h H b d->bM K b f d->hZ ws f=true->∃c,az K b d c xs/\eV K d a c):QW K (VQ K a) h H ws xs:=
 yE λb d f T S k=>by
  have⟨c,l,q⟩:=hl b d f T S k;apply⟨c,l,λi j=>⟨c,q,j⟩,λi v g=>⟨⟨c,v,q,g⟩,λu m ⟨e,y⟩=>⟨e,?_⟩⟩⟩;have:=y c q;rw[g]at this;exact(Option.some.inj this).symm
def PU(hl:∀b d f,Ch h H b d->bM K b f d->hZ ws f=true->∃c,az K b d c xs/\iJ K d a c):QW K (VP K a) h H ws xs:=
 yE λb d f T S k=>by
  have⟨c,l,q⟩:=hl b d f T S k;apply⟨c,l,λi j=>⟨c,q,j⟩,λi v g=>⟨⟨c,v,q,g⟩,λu m ⟨e,y⟩=>⟨e,?_⟩⟩⟩;have:=y c q;rw[g]at this;exact(Option.some.inj this).symm
def Mq(a:hZ [(n,o)] h=true):h[n]?=some o:=by
 unfold hZ at a;cases q:h[n]? with
 |none=>rw[q]at a;cases a
 |some u=>
  rw[q]at a;simp[hZ]at a;rw[EF a]
inductive SeqAt(K:FR)(H:Hp)(a:Addr)(vs:List V):Bool->Prop where
 |l:eV K H a vs->SeqAt K H a vs true
 |t:iJ K H a vs->SeqAt K H a vs false
noncomputable def tH:D->Bool
 |.tup _=>false
 |_=>true
def ij(S:bM K p h H)(r:Rep K p H v d)(e:cq d h=some (xs,ws)):∃a,v=.ref a/\(∃j,SeqAt K H a j (tH d)/\az K p H j xs)/\
  ∀c g f,Ch p H c g->bM K c f g->hZ ws f=true->∃j,az K c g j xs/\SeqAt K g a j (tH d):=by
 cases r with
 |tup ht l=>
  cases e;apply⟨_,rfl,⟨_,.t ht.sq,l⟩,λc g f T m _=>?_⟩;cases(Rep.tup ht l).mono T with
  |tup f k=>exact⟨_,k,.t f.sq⟩
 |lv ht n l=>
  cases e;apply⟨_,rfl,⟨_,.l (eV.of ht),l⟩,λc g f T m _=>?_⟩;cases(Rep.lv ht n l).mono T with
  |lv f _ k=>exact⟨_,k,.l (eV.of f)⟩
 |ro ht l=>
  cases e;apply⟨_,rfl,⟨_,.l ht.sq,l⟩,λc g f T m _=>?_⟩;cases(Rep.ro ht l).mono T with
  |ro f k=>exact⟨_,k,.l f.sq⟩
 |@ob a n hn=>
  unfold cq at e;dsimp only at e;cases q:h[n]? with
  |none=>rw[q]at e;cases e
  |some o=>
   rw[q]at e;cases o with
   |dct _=>exact cw e
   |dcH _=>exact cw e
   |lst z=>
    cases e;have⟨j,y,l⟩:=S.at_ n a _ hn q;apply⟨a,rfl,⟨j,.l (eV.of y),l⟩,λc g f T m u=>?_⟩;have⟨us,w,s⟩:=m.at_ n a _ (T.pre n a hn) (Mq u);exact⟨us,s,.l (eV.of w)⟩
 |bg=>exact cw e
 |bl b=>exact cw e
 |int i=>exact cw e
 |str x=>exact cw e
 |ty x=>exact cw e
 |dv _ _ _=>exact cw e
section
variable {X:Cx} {a b c e tg iter:Expr} {es:List Expr} {pos:Pos} {ma mb:EM} {mt:TM} {ms mu:SM} {m:AM} {g:GM} {gs:GI}
def fB(h:SE X e ma):SI X tg e (fe ma):=(OT h).imp λσ H Q u9=>by
 have⟨A,C,h,xs,ws,N,R,S,e,k⟩:=u9;obtain⟨⟨x,F⟩,L,J⟩:=bc e;obtain⟨⟨M,w⟩,I,G⟩:=dX J;cases G;apply⟨A,C,h,x,F,R,S,L,λv H1 u9=>?_⟩;have⟨i,z,s,E⟩:=u9;obtain⟨a,rfl,⟨y,q,l⟩,st⟩:=ij s E I;apply⟨a,rfl,?_⟩;generalize tH x=b at q st;cases q with
 |l q=>exact .inl ⟨⟨y,q⟩,k _ i H1 z s (PX λd u o p r n=>by have⟨us,j,f⟩:=st d u o p r n;cases f with |l f=>exact⟨us,j,f⟩)⟩
 |t q=>exact .inr ⟨⟨y,q⟩,k _ i H1 z s (PU λd u o p r n=>by have⟨us,j,f⟩:=st d u o p r n;cases f with |t f=>exact⟨us,j,f⟩)⟩
theorem jM:∀(ns:List Int),az K ρ H (ns.map V.int) (ns.map D.int)
 |[]=>.nil
 |_::r=>.cons (.int _) (jM r)
def PV(f:Int)(n:Nat):QW K (Uw f n) ρ H [] ((List.range n).map λ(k:Nat)=>D.int (f+(k:Int))):=by
 apply yE λh w y T S x=>⟨(List.range n).map λ(k:Nat)=>V.int (f+(k:Int)),?_,λi o=>?_,λi v l=>?_⟩
 ·have:=jM (K:=K) (ρ:=h) (H:=w) ((List.range n).map λ(k:Nat)=>f+(k:Int));rw[YU,YU]at this;exact this
 ·rw[WA,W3]at o;exact o
 ·rw[WY]at l;have⟨j,t,s⟩:=dX l;have⟨d,r⟩:=WB.mp t;rw[W3]at d;rw[AaP]at r;subst r;subst s;exact⟨d,λu z ⟨p,q⟩=>⟨p,q⟩⟩
def Fd(l:az K f H d [.int j]):d=[.int j]:=by
 cases l with
 |cons r l=>cases l;cases r;rfl
def bU(t:Gl X "range")(hm:X.mg "range"=none)(u:SA X [a] m)(s:starEach [a] X.env=[(false,eval a X.env)]:=by ac_nf)(hl:kA m 1):SI X tg (.Call (.Name "range" p) [a] [] pos) (jn m):=
 (Ft t hm u s).imp λA H Q q=>by
  have⟨ρ,o,h,C,E,G,R,S,e,k⟩:=q;obtain⟨⟨x,v⟩,l,f⟩:=bc e;apply⟨ρ,o,h,x,v,R,S,l,λF i n w y r=>?_⟩;have⟨d,rfl⟩:=Y1.mp (hl _ _ _ _ l);cases d <;> first |exact absurd f (by intro z;cases z) |skip
  rename_i j;dsimp only at f
  by_cases z:-(2^62)<=j/\j<2^62
  ·rw[WH z]at f;cases f;apply⟨j,Fd r,z.1,z.2,k _ i n w y ?_⟩;have:=PV (K:=X.K) (ρ:=i) (H:=n) 0 j.toNat
   simpa using this
  ·rw[WM z]at f;cases f
noncomputable def kZ(d:List (Option Nat))(f:DS):DS:=d.map λo=>o.bind λi=>(f[i]?).join
noncomputable def bI:TM:=λ_ h=>some (true,h)
def aX(d:W)(g:GM)(c:TM)(e:EM):List D->DS->MH->Option (List D×MH)
 |[],_,h=>if hZ d h then some ([],h)else none
 |x::r,f,h=>if hZ d h then(g x f h).bind λq=>(c q.1 q.2).bind λt=>if t.1 then(e q.1 t.2).bind λy=>(aX d g c e r q.1 y.2).map λz=>(y.1::z.1,z.2)else aX d g c e r q.1 t.2 else none
def cj(d:List (Option Nat))(i:IM)(g:GM)(c:TM)(e:EM):AM:=λf h=>(i f h).bind λp=>(aX p.2.1 g c e p.1 (kZ d f) p.2.2).bind λq=>if q.1.length<=sizeLine then some q else none
theorem cA.Bd(R:cA K l H σ h)(f:List (Option Nat)):cA K l H (Bd f σ) (kZ f h):=by
 apply⟨by simp[L2.Bd,kZ],λi d hd=>?_⟩;unfold kZ at hd;rw[WY]at hd;have⟨o,q,k⟩:=dX hd;cases o with
 |none=>exact cw k
 |some j=>
  have p:h[j]?=some (some d):=AbA.mp k;have⟨v,n,r⟩:=R.at_ j d p;apply⟨v,?_,r⟩;unfold L2.Bd;rw[WY,q];simp[n]
def Nu(X:Cx)(d:List Expr)(m:TM):Prop:=Ny X d (Dh X.K m)
def bP:Nu X [] bI:=λd s f H Q I hh=>by
 have⟨i,j,h,b,l,R,S,e,k⟩:=hh;cases e;exact Ln d s f H Q I (k i H (.refl _ _) S)
def md(h:ST X c mt):Nu X [c] mt:=Lm h
end
end Sm
namespace Sm
open L2 PyProof.Rows
section
variable {X:Cx} {a b c e tg iter elt:Expr} {es:List Expr} {pos:Pos} {ma mb:EM} {mt:TM} {ms mu:SM} {m:AM} {g:GM} {gs:GI}
end
inductive Ua(K:FR)(n:Nat)(F:Fn)(vs:List V)(H:Hp)(Q:VK):Prop where
 |mk (ρ h ds d h'):bM K ρ h H->az K ρ H vs ds->(ds.length=n)->(F ds h=some (d,h'))->(∀v H',dN K ρ H h' d v H'->Q v H')->Ua K n F vs H Q
def GB(K:FR)(n:Nat)(F:Fn):Sp:=λa H Q _=>Ua K n F a H Q
def KR(G:gf X.prog X.w X.K X.mg X.base xm k f fd t (GB X.K n F))(hr:fh k X.A)(y:Gl X x)(hm:X.mg x=some (.ref f))(u:PySem.W.keepIn X.K (.ref f)=true)(C:Binds X.K fd t [])
  (I:SA X (e::es) m) (hl:kA m n) (c:(x==("__debug__":Str))=false:=by ac_nf) (z:starEach (e::es) X.env=(false,eval e X.env)::starEach es X.env:=by ac_nf) (b:(backTo pos (starEach es X.env)).any (·.1)=false:=by ac_nf):
  SE X (.Call (.Name x p) (e::es) [] pos) (aj F m):=(Ls (E:=E0) G hr y hm u C .nil Sj I c z b).imp λσ H Q u9=>by
 have⟨l,o,h,d,J,R,S,e,q⟩:=u9;obtain⟨⟨j,g⟩,i,L⟩:=bc e;apply⟨l,o,h,j,g,R,S,i,λr a O M N s=>?_⟩;show GB X.K n F (r++[]) O Q E0;rw[XC];exact⟨a,g,j,d,J,N,s,hl _ _ _ _ i,L,λv T P=>q v T (P.step M)⟩
noncomputable def K0(r:Fl×DS×MH):Option (D×MH):=match r.1 with
 |.rt d=>some (d,r.2.2)
 |.nx=>some (.bg,r.2.2)
 |_=>none
noncomputable def entry(len:Nat)(a:List D):DS:=a.map some++List.replicate (len-a.length) none
def gr(len:Nat)(a:SM):Fn:=λb h=>(a (entry len b) h).bind K0
theorem cA.entry{K:FR}{c:Ad}{H:Hp}{e:List V}{b:List D}(N:List Str)(l:az K c H e b):cA K c H (L2.start N e) (Sm.entry N.length b):=by
 apply⟨by simp[L2.start,Sm.entry,l.length],λi d hd=>?_⟩;unfold Sm.entry at hd;unfold L2.start
 by_cases a:i<b.length
 ·rw[W0 (by simpa using a),WY]at hd;have⟨j,h,g⟩:=dX hd;cases g;have⟨v,f,r⟩:=l.got h;apply⟨v,?_,r⟩;rw[W0 (by rw[WA,l.length];exact a),WY,f];rfl
 ·rw[W4 (by simpa using a),AbD]at hd
  split at hd <;> cases hd
section
variable {P:Program} {w:World} {K:FR} {mg:Str->Option Value} {base:Heap} {x qual:Str} {st:Stmt} {f:Addr} {fd:FuncData} {N ps:List Str} {k:Nat}
def P6(F:CZ K x qual st f fd)(z:aw N ps (ah st))(p:∀(a:Value)(A:Around)(outer:List Env)(s:Shared)(H:Hp)(E:XK),fh k (A.deeper (envOfC qual (ah st) s.heap.objs.size f a))->Kt (AW xm P w K mg base N qual (ah st) f a A outer s H E).Q2 (gD st) body):
  gf P w K mg base xm (k+1) f fd ps (GB K ps.length (gr N.length body)):=by
 apply F.ok z (λo H Q E h=>?_) (λa A outer s H o Q E hr h=>?_)
 ·have⟨i,h,j,d,u,S,r,hl,_⟩:=h;rw[r.length];exact hl
 ·have⟨i,h,j,d,u,S,r,hl,e,q⟩:=h;apply⟨_,p a A outer s H E hr,?_⟩;obtain⟨⟨fl,g,t⟩,y,c⟩:=bc e;apply⟨i,entry N.length j,h,fl,g,t,cA.entry N r,S,y,λb G l m=>?_⟩;cases fl with
  |nx=>cases c;exactλn C=>q _ _ ⟨b,l,m,.bg⟩
  |rt d=>cases c;exactλv r=>q _ _ ⟨b,l,m,r⟩
  |bk=>cases c
  |ct=>cases c
end
mutual
noncomputable def gu(n:Nat):D->Bool
 |.tup xs=>dh n xs
 |.lv xs=>dh n xs
 |.ro xs=>dh n xs
 |.dv a=>Mo n a
 |.ob m=>decide (m<n)
 |_=>true
noncomputable def dh(n:Nat):List D->Bool
 |[]=>true
 |x::r=>gu n x&&dh n r
noncomputable def Mo(n:Nat):List (Key×D)->Bool
 |[]=>true
 |(_,x)::r=>gu n x&&Mo n r
end
def zt(n:Nat):MO->Bool
 |.lst xs=>dh n xs
 |.dct a=>Mo n a
 |.dcH a=>dh n (a.map (·.1))&&dh n (a.map (·.2))
abbrev Ad.cut(ρ:Ad)(n:Nat):Ad:=⟨ρ.ob.take n,ρ.rs⟩
def Ad.nJ{b:Ad}{n:Nat}{a:Addr}(h:(b.cut n).has a):b.has a:=h.elim (λm=>.inl (Aax m)) .inr
mutual
theorem Rep.cut{K:FR}{f:Ad}{H:Hp}{n:Nat}{v:V}{d:D}(r:Rep K f H v d)(c:gu n d=true):Rep K (f.cut n) H v d:=by
 cases r with
 |bg=>exact .bg
 |bl b=>exact .bl b
 |int i=>exact .int i
 |str x=>exact .str x
 |ty n=>exact .ty n
 |tup h l=>exact .tup (h.elim (λ⟨a,n⟩=>.inl ⟨a,λm=>n (Ad.nJ m)⟩) .inr) (az.cut l c)
 |lv h n l=>exact .lv h (λm=>n (Ad.nJ m)) (az.cut l c)
 |ro h l=>exact .ro (h.elim (λ⟨a,n⟩=>.inl ⟨a,λm=>n (Ad.nJ m)⟩) .inr) (az.cut l c)
 |dv h n l=>exact .dv h (λm=>n (Ad.nJ m)) (bB.cut l c)
 |ob e=>exact .ob ((Xu (XR c)).trans e)
theorem az.cut{K:FR}{a:Ad}{H:Hp}{n:Nat}{v:List V}{d:List D}(r:az K a H v d)(c:dh n d=true):az K (a.cut n) H v d:=by
 cases r with
 |nil=>exact .nil
 |cons r l=>have c:=Xb.mp c;exact .cons (Rep.cut r c.1) (az.cut l c.2)
theorem bB.cut{K:FR}{a:Ad}{H:Hp}{n:Nat}{v:List (Key×V)}{d:List (Key×D)}(r:bB K a H v d)(c:Mo n d=true):bB K (a.cut n) H v d:=by
 cases r with
 |nil=>exact .nil
 |cons r l=>have c:=Xb.mp c;exact .cons (Rep.cut r c.1) (bB.cut l c.2)
end
mutual
theorem Rep.clean{K:FR}{a:Ad}{H:Hp}{v:V}{d:D}(r:Rep K a H v d):gu a.ob.length d=true:=by
 cases r with
 |tup h l=>exact az.clean l
 |lv h n l=>exact az.clean l
 |ro h l=>exact az.clean l
 |dv h n l=>exact bB.clean l
 |ob e=>exact Xf (WB.mp e).1
 |_=>rfl
theorem az.clean{K:FR}{a:Ad}{H:Hp}{v:List V}{d:List D}(r:az K a H v d):dh a.ob.length d=true:=by
 cases r with
 |nil=>rfl
 |cons r l=>exact Xb.mpr ⟨Rep.clean r,az.clean l⟩
theorem bB.clean{K:FR}{a:Ad}{H:Hp}{v:List (Key×V)}{d:List (Key×D)}(r:bB K a H v d):Mo a.ob.length d=true:=by
 cases r with
 |nil=>rfl
 |cons r l=>exact Xb.mpr ⟨Rep.clean r,bB.clean l⟩
end
theorem Bq.cut{K:FR}{d:Ad}{H:Hp}{n:Nat}{a:Addr}{o:MO}(x:Bq K d H a o)(c:zt n o=true):Bq K (d.cut n) H a o:=by
 cases o with
 |lst ds=>have⟨b,e,l⟩:=x;exact⟨b,e,l.cut c⟩
 |dct ds=>have⟨b,e,l⟩:=x;exact⟨b,e,l.cut c⟩
 |dcH ds=>have⟨us,f,e,l,g,p⟩:=x;have c:=Xb.mp c;exact⟨us,f,e,l.cut c.1,g.cut c.2,p⟩
theorem Bq.clean{K:FR}{b:Ad}{H:Hp}{a:Addr}{o:MO}(x:Bq K b H a o):zt b.ob.length o=true:=by
 cases o with
 |lst ds=>have⟨c,e,l⟩:=x;exact l.clean
 |dct ds=>have⟨c,e,l⟩:=x;exact l.clean
 |dcH ds=>have⟨us,f,e,l,d,p⟩:=x;exact Xb.mpr ⟨l.clean,d.clean⟩
noncomputable def Bw(n:Nat)(h:MH)(d:D):D:=match d with
 |.ob m=>if m<n then .ob m else match h[m]? with
  |some (.lst xs)=>.lv xs
  |some (.dct a)=>.dv a
  |_=>.ob m
 |d=>d
def leave(h:MH)(d:D)(a:MH):Option (D×MH):=
 if gu h.length (Bw h.length a d)&&(zl (a.take h.length) h||(a.take h.length).all (zt h.length))then some (Bw h.length a d,a.take h.length)else none
def LB(len:Nat)(a:SM):Fn:=λb h=>((a (entry len b) h).bind K0).bind λp=>leave h p.1 p.2
theorem dN.leave{K:FR}{t:Ad}{H F:Hp}{h i L:MH}{d M:D}{v:V}(S:bM K t h H)(p:dN K t H i d v F)(e:Sm.leave h d i=some (M,L)):dN K t H L M v F:=by
 have⟨c,T,k,r⟩:=p;unfold Sm.leave at e
 by_cases y:(gu h.length (Bw h.length i d)&&(zl (i.take h.length) h||(i.take h.length).all (zt h.length)))=true
 ·rw[WH y]at e;cases e;rw[W9]at y;have⟨g,s⟩:=y;have O:h.length<=i.length:=by
   rw[<-S.len,<-k.len];apply XA λC=>?_;have f:t.ob[c.ob.length]?=some t.ob[c.ob.length]:=WK C;have:=(WB.mp (T.pre _ _ f)).1
   lia
  have w:∀(m:Nat) o,m<h.length->i[m]?=some o->zt h.length o=true:=by
   intro m o hm I;rw[Yn]at s;rcases s with s |s
   ·have f:=EG s;have u:h[m]?=some o:=by rw[<-f,Xu hm];exact I
    have A:m<t.ob.length:=by rw[S.len];exact hm
    have:=(S.at_ m _ o (WK A) u).clean;rw[S.len]at this;exact this
   ·rw[Yt]at s;exact s o (WE (show(i.take h.length)[m]?=some o by rw[Xu hm];exact I))
  have P:bM K (c.cut h.length) (i.take h.length) F:=by
   apply⟨by simp[k.len],k.nd.sublist (AaV _ _),λn a o f u=>?_,λb J=>⟨(k.vY b J).1,λm=>(k.vY b J).2 (Aax m)⟩⟩;have hn:n<h.length:=by
    have:=(WB.mp u).1;rw[Xm]at this
    lia
   have f:(c.ob.take h.length)[n]?=some a:=f;rw[Xu hn]at f u;exact(k.at_ n a o f u).cut (w n o hn u)
  apply⟨c.cut h.length,⟨⟨λn a e=>?_,λb o n e=>?_⟩,T.rs,T.res⟩,P,?_⟩
  ·have hn:n<h.length:=by rw[<-S.len];exact(WB.mp e).1
   show(c.ob.take h.length)[n]?=some a;rw[Xu hn];exact T.pre n a e
  ·have⟨n1,f⟩:=T.old b o n e;exact⟨λm=>n1 (Ad.nJ m),f⟩
  ·cases d with
   |ob m=>
    unfold Bw at g ⊢;dsimp only at g ⊢
    by_cases hm:m<h.length
    ·rw[WH hm]at g ⊢;exact r.cut g
    ·rw[WM hm]at g ⊢;cases r with
     |ob hn=>
      rename_i a;have G:¬(c.cut h.length).has a:=by
       intro z;rcases z with z |z
       ·have⟨j,hj⟩:=List.getElem?_of_mem z;have E:j<h.length:=by
         have:=(WB.mp hj).1;rw[Xm]at this
         lia
        rw[Xu E]at hj;have:=(AaW (WB.mp hj).1 k.nd).mp (hj.trans hn.symm)
        lia
       ·exact(k.vY a z).2 (WE hn)
      cases q:i[m]? with
      |none=>rw[q]at g;exact absurd g (by simp[gu];lia)
      |some o=>
       have x:=k.at_ m a o hn q;cases o with
       |lst xs=>
        rw[q]at g;have⟨N,f,l⟩:=x;exact .lv f G (l.cut (by simpa [gu] using g))
       |dct xs=>
        rw[q]at g;have⟨N,f,l⟩:=x;exact .dv f G (l.cut (by simpa [gu] using g))
       |dcH xs=>rw[q]at g;exact absurd g (by simp[gu];lia)
   |_=>exact r.cut g
 ·rw[WM y]at e;cases e
section
variable {P:Program} {w:World} {K:FR} {mg:Str->Option Value} {base:Heap} {x qual:Str} {st:Stmt} {f:Addr} {fd:FuncData} {N ps:List Str} {k:Nat}
def f9(G:gf P w K mg base xm k f fd ps (GB K ps.length (gr N.length body))):gf P w K mg base xm k f fd ps (GB K ps.length (LB N.length body)):=by
 apply G.imp λl H Q E hh=>?_;have⟨a,h,i,d,m,S,r,hl,e,q⟩:=hh;obtain⟨⟨d1,b⟩,g,c⟩:=bc e;exact⟨a,h,i,d1,b,S,r,hl,g,λv j p=>q v j (p.leave S c)⟩
end
def spT(K:FR):Sp:=λb H Q _=>∃(a:Addr)(ns:List Int),b=[.ref a]/\eV K H a (ns.map V.int)/\ns.length<=63/\∀c,Q (.bl true) c
def LN{P:Program}{w:World}{K:FR}{mg:Str->Option Value}{base:Heap}{k:Nat}{f:Addr}{h:FuncData}{g:List Str}{F:Fn}(G:gf P w K mg base xm k f h g (GB K 1 F))
  (l:∀ns:List Int,ns.length<=63->∃d,F [.ro (ns.map D.int)] []=some (.bl true,d)):gf P w K mg base xm k f h g (spT K):=by
 apply G.imp λp H Q E hh=>?_;have⟨a,ns,rfl,c,hl,q⟩:=hh;have⟨d,e⟩:=l ns hl;apply⟨⟨[],[]⟩,[],[.ro (ns.map D.int)],.bl true,d,⟨rfl,Abh,λn a o e=>by simp at e,λb j=>absurd j (by simp)⟩,.cons (.ro ?_ (jM ns)) .nil,rfl,e,λv m ⟨i,T,S,r⟩=>?_⟩
 ·rcases c with c |c
  ·exact .inl ⟨c,λz=>z.elim (λz=>absurd z (by simp)) λz=>absurd z (by simp)⟩
  ·exact .inr (.inr c)
 ·cases r;exact q m
def uZ(h:MH)(d:D):Option PyData:=match d with
 |.ob n=>match h[n]? with
  |some (.lst xs)=>(gX xs).map .list
  |_=>none
 |d=>je d
mutual
theorem Rep.qT{K:FR}{f:Ad}{H:Hp}{v:V}{d:D}{p:PyData}(r:Rep K f H v d)(e:je d=some p):CY K H v p/\p.canLay0=true:=by
 cases r with
 |bg=>cases e;exact⟨.bg,rfl⟩
 |bl b=>cases e;exact⟨.bl b,rfl⟩
 |int i=>cases e;exact⟨.int i,rfl⟩
 |str g=>cases e;exact⟨.str _,by simpa [PyData.canLay0] using g⟩
 |tup h l=>have⟨q,c,rfl⟩:=dX e;have⟨a,b⟩:=az.qT l c;exact⟨.tup h.sq a,by simpa [PyData.canLay0] using b⟩
 |lv h n l=>have⟨q,c,rfl⟩:=dX e;have⟨a,b⟩:=az.qT l c;exact⟨.lst (eV.of h) a,by simpa [PyData.canLay0] using b⟩
 |ro h l=>have⟨q,c,rfl⟩:=dX e;have⟨a,b⟩:=az.qT l c;exact⟨.lst h.sq a,by simpa [PyData.canLay0] using b⟩
 |_=>exact cw e
theorem az.qT{K:FR}{c:Ad}{H:Hp}{v:List V}{d:List D}{p:List PyData}(r:az K c H v d)(e:gX d=some p):uq K H v p/\PyData.canLayAll0 p=true:=by
 cases r with
 |nil=>cases e;exact⟨.nil,rfl⟩
 |cons r l=>
  have⟨a,h,g⟩:=bc e;have⟨b,f,rfl⟩:=dX g;have⟨a1,a2⟩:=Rep.qT r h;have⟨j,i⟩:=az.qT l f;exact⟨.cons a1 j,by simp[PyData.canLayAll0,a2,i]⟩
end
section
variable {K:FR} {ρ:Ad} {H:Hp} {h:MH} {v:V} {d:D}
def mR(S:bM K ρ h H)(r:Rep K ρ H v d)(e:uZ h d=some p):CY K H v p/\p.canLay0=true:=by
 cases r with
 |@ob a n hn=>
  unfold uZ at e;dsimp only at e;cases q:h[n]? with
  |none=>rw[q]at e;cases e
  |some o=>
   rw[q]at e;cases o with
   |dct _=>exact cw e
   |dcH _=>exact cw e
   |lst xs=>
    have⟨m,g,l⟩:=S.at_ n a _ hn q;have⟨b,f,c⟩:=dX e;subst c;have⟨k,j⟩:=l.qT f;exact⟨.lst (eV.of g) k,by simpa [PyData.canLay0] using j⟩
 |bg=>exact Rep.qT (Rep.bg (ρ:=ρ)) e
 |bl b=>exact Rep.qT (Rep.bl (ρ:=ρ) b) e
 |int i=>exact Rep.qT (Rep.int (ρ:=ρ) i) e
 |str x=>exact Rep.qT (Rep.str (ρ:=ρ) x) e
 |ty n=>exact Rep.qT (Rep.ty (ρ:=ρ) n) e
 |tup h l=>exact Rep.qT (.tup h l) e
 |lv h n l=>exact Rep.qT (.lv h n l) e
 |ro h l=>exact Rep.qT (.ro h l) e
 |dv h n l=>exact Rep.qT (.dv h n l) e
noncomputable def dY(d:D)(h:MH):Option (List D):=match d with
 |.lv xs=>some xs
 |.ob n=>match h[n]? with
  |some (.lst xs)=>some xs
  |_=>none
 |_=>none
def dz(S:bM K ρ h H)(r:Rep K ρ H v d)(e:dY d h=some xs):∃a b,v=.ref a/\H a=some (.lst b)/\az K ρ H b xs:=by
 cases r with
 |@ob a n hn=>
  unfold dY at e;dsimp only at e;cases q:h[n]? with
  |none=>rw[q]at e;cases e
  |some o=>
   rw[q]at e;cases o with
   |dct _=>exact cw e
   |dcH _=>exact cw e
   |lst f=>
    cases e;have⟨b,c,l⟩:=S.at_ n a _ hn q;exact⟨a,b,rfl,c,l⟩
 |lv h n l=>cases e;exact⟨_,_,rfl,h,l⟩
 |_=>exact cw e
noncomputable def cg(d:D)(h:MH):Option (List (Key×D)):=match d with
 |.dv a=>some a
 |.ob n=>match h[n]? with
  |some (.dct a)=>some a
  |_=>none
 |_=>none
def iC(S:bM K ρ h H)(r:Rep K ρ H v d)(e:cg d h=some xs):∃a b,v=.ref a/\H a=some (.dK b)/\bB K ρ H b xs:=by
 cases r with
 |@ob a n hn=>
  unfold cg at e;dsimp only at e;cases q:h[n]? with
  |none=>rw[q]at e;cases e
  |some o=>
   rw[q]at e;cases o with
   |lst _=>exact cw e
   |dcH _=>exact cw e
   |dct f=>
    cases e;have⟨b,c,l⟩:=S.at_ n a _ hn q;exact⟨a,b,rfl,c,l⟩
 |dv h n l=>cases e;exact⟨_,_,rfl,h,l⟩
 |_=>exact cw e
def qR(S:bM K ρ h H)(r:Rep K ρ H v d)(e:cq d h=some (xs,ws)):∃a c,v=.ref a/\(eV K H a c\/iJ K H a c)/\az K ρ H c xs:=by
 obtain⟨a,f,⟨c,q,l⟩,_⟩:=ij S r e;apply⟨a,c,f,?_,l⟩;generalize tH d=b at q;cases q with
 |l q=>exact .inl q
 |t q=>exact .inr q
noncomputable def oU:D->Option Key
 |.int i=>some (.inl i)
 |.str x=>some (.inr x)
 |_=>none
noncomputable def dE(a:List (Key×D))(k:Key):Option D:=(a.find? λb=>decide (b.1=k)).map (·.2)
noncomputable def putD(a:List (Key×D))(k:Key)(v:D):List (Key×D):=
 if(a.any λb=>decide (b.1=k))=true then a.map (λb=>if b.1=k then(b.1,v)else b)else a++[(k,v)]
def iB(r:Rep K ρ H v d)(e:oU d=some k):v=kV k:=by
 cases r with
 |int i=>cases e;rfl
 |str x=>cases e;rfl
 |_=>exact cw e
def bB.val:∀{us:List (Key×V)} {b:List (Key×D)} (k:Key),bB K ρ H us b->(dE b k=none/\iX us k=none)\/∃d v,dE b k=some d/\iX us k=some v/\Rep K ρ H v d:=by
 intro us
 induction us with
 |nil=>intro b k a;cases a;exact .inl ⟨rfl,rfl⟩
 |cons u us c=>
  intro b k a;cases a with |@cons j v _ d ds r l=>
  by_cases z:j=k
  ·exact .inr ⟨d,v,by simp[dE,z],by simp[iX,z],r⟩
  ·have f:dE ((j,d)::ds) k=dE ds k:=by simp only[dE,X0,z,decide_false]
   have e:iX ((j,v)::us) k=iX us k:=lV z;rw[f,e];exact c k l
theorem bB.length:∀{us:List (Key×V)} {b:List (Key×D)},bB K ρ H us b->us.length=b.length:=by
 intro us
 induction us with
 |nil=>intro b a;cases a;rfl
 |cons u us c=>intro b a;cases a with |cons _ l=>rw[WW,WW,c l]
theorem bB.any(k:Key):∀{us:List (Key×V)} {c:List (Key×D)},bB K ρ H us c->(us.any λe=>decide (e.1=k))=(c.any λe=>decide (e.1=k)):=by
 intro us
 induction us with
 |nil=>intro b a;cases a;rfl
 |cons u us f=>intro b a;cases a with |cons _ l=>rw[Yw,Yw,f l]
theorem bB.map(r:Rep K ρ H v d):∀{us:List (Key×V)} {e:List (Key×D)},bB K ρ H us e->bB K ρ H (us.map λc=>if c.1=k then(c.1,v)else c) (e.map λc=>if c.1=k then(c.1,d)else c):=by
 intro us
 induction us with
 |nil=>intro b a;cases a;exact .nil
 |cons u us f=>
  intro b a;cases a with |@cons j _ _ _ _ q l=>
  rw[WN,WN]
  by_cases z:j=k
  ·rw[WH z,WH z];exact .cons r (f l)
  ·rw[WM z,WM z];exact .cons q (f l)
def bB.append:∀{us b:List (Key×V)} {ks ls:List (Key×D)},bB K ρ H us ks->bB K ρ H b ls->bB K ρ H (us++b) (ks++ls):=by
 intro us b
 induction us with
 |nil=>intro ks ls a t;cases a;exact t
 |cons u us c=>intro ks ls a t;cases a with |cons r l=>exact .cons r (c l t)
def bB.put(l:bB K ρ H us a)(r:Rep K ρ H v d):bB K ρ H (putK us k v) (putD a k d):=by
 unfold putK putD;rw[l.any k]
 by_cases z:(a.any λb=>decide (b.1=k))=true
 ·rw[WH z,WH z];exact l.map r
 ·rw[WM z,WM z];exact l.append (.cons r .nil)
end
def Cy(d e:D)(h:MH):Option (D×MH):=match d,e with
 |.int i,.int j=>some (.int (i+j),h)
 |.str a,.str b=>if a.length+b.length<=sizeLine then some (.str (a++b),h)else none
 |.tup [],.tup _=>none
 |.tup (x::f),.tup c=>if f.length+1+c.length<=sizeLine then some (.tup (x::f++c),h)else none
 |d,e=>(dY d h).bind λf=>(dY e h).bind λc=>if f.length+c.length<=sizeLine then some (.lv (f++c),h)else none
noncomputable def yM(d e:D)(h:MH):Option (D×MH):=match d,e with
 |.int i,.int j=>some (.int (i-j),h)
 |_,_=>none
noncomputable def ny(i j:Int):Bool:=(decide (-(2^64)<i)&&decide (i<2^64))||(decide (-(2^64)<j)&&decide (j<2^64))
def P8(d e:D)(h:MH):Option (D×MH):=match d,e with
 |.int i,.int j=>if ny i j then some (.int (i*j),h)else none
 |_,_=>none
noncomputable def tU(d e:D)(h:MH):Option (D×MH):=match d,e with
 |.int i,.int j=>if 0<j then some (.int (i % j),h)else none
 |_,_=>none
noncomputable def Jn(d e:D)(h:MH):Option (D×MH):=match d,e with
 |.int i,.int j=>if 0<j/\j<=10^40 then some (.int (i / j),h)else none
 |_,_=>none
noncomputable def L7(d e:D)(h:MH):Option (D×MH):=match d,e with
 |.int i,.int j=>if 0<=j/\j<=1000000/\i.natAbs<2^64 then some (.int (i^j.toNat),h)else none
 |_,_=>none
noncomputable def Ml(f:Int->Int->Bool)(d e:D)(h:MH):Option (D×MH):=match d,e with
 |.int i,.int j=>some (.bl (f i j),h)
 |_,_=>none
def Nh:=Ml λi j=>decide (i<j)
def F7:=Ml λi j=>decide (j<i)
def Q5:=Ml λi j=>decide (j<=i)
def Er(d e:D)(h:MH):Option Bool:=(uZ h d).bind λa=>(uZ h e).bind λb=>if a.depth<=64/\b.depth<=64 then some (PyData.eqv a b)else none
noncomputable def Vs:D->Bool
 |.bg=>true
 |_=>false
def tW(d e:D)(h:MH):Option (D×MH):=match e with
 |.bg=>some (.bl (Vs d),h)
 |_=>none
def iV(d e:D)(h:MH):Option (D×MH):=match e with
 |.bg=>some (.bl (!Vs d),h)
 |_=>none
noncomputable def dG(d:D)(h:MH):Option (D×MH):=match d with
 |.int i=>some (.int (-i),h)
 |_=>none
def inD(d e:D)(h:MH):Option Bool:=match cg e h with
 |some c=>(oU d).map λk=>(dE c k).isSome
 |none=>match d,e with
  |.str x,.str y=>some (!(Builtin.Str.occurrences y x 0 y.length 1).isEmpty)
  |d,e=>(cq e h).bind λp=>(uZ h d).bind λa=>(gX p.1).bind λbs=>if a.depth<=60/\PyData.depthAll bs<=60 then some (bs.any λb=>PyData.eqv b a)else none
def yS(d e:D)(h:MH):Option (D×MH):=(inD d e h).map λc=>(.bl c,h)
def lL(d e:D)(h:MH):Option (D×MH):=(inD d e h).map λc=>(.bl (!c),h)
def ax(d e:D)(h:MH):Option (D×MH):=match cg d h with
 |some a=>(oU e).bind λk=>(dE a k).map λz=>(z,h)
 |none=>match d,e with
  |.str z,.int i=>if z.length<=sizeLine then(fI z.cps.toList i).map λc=>(.str ⟨#[c]⟩,h)else none
  |d,.int i=>(cq d h).bind λp=>(fI p.1 i).map λz=>(z,h)
  |_,_=>none
def i9{K:FR}{a:Ad}{H:Hp}{x:V}{i:Int}(r:Rep K a H x (.int i)):x=.int i:=by cases r;rfl
def BS{K:FR}{a:Ad}{H:Hp}{x:V}{i:Str}(r:Rep K a H x (.str i)):x=.str i/\PyData.strOk i=true:=by cases r with |str h=>exact⟨rfl,h⟩
def Hw{K:FR}{b:Ad}{H:Hp}{x:V}{d:List D}(r:Rep K b H x (.tup d)):∃a c,x=.ref a/\TupAt K b H a c/\az K b H c d:=by cases r with |tup h l=>exact⟨_,_,rfl,h,l⟩
def yf(t:qN X g (rI C q))(w:∀d e h z b,f d e h=some (z,b)->∃i j,d=.int i/\e=.int j/\C i j/\b=h/\∀l H,Rep X.K l H (q i j) z):qt X g f:=by
 intro a s m H x y v u Q I p o hh;have⟨l,h,d,e,z,b,S,rd,r,A,k⟩:=hh;have⟨i,j,rfl,rfl,c,rfl,n⟩:=w _ _ _ _ _ A;obtain rfl:=i9 rd;obtain rfl:=i9 r;exact t a s m H _ _ v u Q I p o ⟨i,j,rfl,rfl,c,k _ _ (.here S (n _ _))⟩
def q0(r:qN X g (M0 q))(t:∀d e h z b,f d e h=some (z,b)->∃i j,d=.int i/\e=.int j/\b=h/\∀c H,Rep X.K c H (q i j) z):qt X g f:=by
 intro a s l H x y v u Q I o n hh;have⟨c,h,d,e,z,b,S,rd,p,w,k⟩:=hh;have⟨i,j,rfl,rfl,rfl,m⟩:=t _ _ _ _ _ w;obtain rfl:=i9 rd;obtain rfl:=i9 p;exact r a s l H _ _ v u Q I o n ⟨i,j,rfl,rfl,k _ _ (.here S (m _ _))⟩
def Ik:qt X (binaryOp .Sub) yM:=q0 Pe λd e h z b a=>by
 cases d <;> first |(exact cw a) |skip
 cases e <;> first |(exact cw a) |skip
 cases a;exact⟨_,_,rfl,rfl,rfl,λ_ _=>.int _⟩
def O7:qt X (binaryOp .Mult) P8:=yf Pj λd e h z b a=>by
 cases d <;> first |(exact cw a) |skip
 cases e <;> first |(exact cw a) |skip
 rename_i i j;unfold P8 at a;dsimp only at a
 by_cases c:ny i j=true
 ·rw[WH c]at a;cases a;apply⟨i,j,rfl,rfl,?_,rfl,λ_ _=>.int _⟩;unfold ny at c;simp only[Yn,W9,Xy]at c;exact c
 ·rw[WM c]at a;cases a
def sY:qt X (binaryOp .Mod) tU:=yf Pk λd e h z b a=>by
 cases d <;> first |(exact cw a) |skip
 cases e <;> first |(exact cw a) |skip
 rename_i i j;unfold tU at a;dsimp only at a
 by_cases c:0<j
 ·rw[WH c]at a;cases a;exact⟨i,j,rfl,rfl,c,rfl,λ_ _=>.int _⟩
 ·rw[WM c]at a;cases a
def Pa:qt X (binaryOp .FloorDiv) Jn:=yf Ir λd e h z b a=>by
 cases d <;> first |(exact cw a) |skip
 cases e <;> first |(exact cw a) |skip
 rename_i i j;unfold Jn at a;dsimp only at a
 by_cases c:0<j/\j<=10^40
 ·rw[WH c]at a;cases a;exact⟨i,j,rfl,rfl,c,rfl,λ_ _=>.int _⟩
 ·rw[WM c]at a;cases a
def Im:qt X (binaryOp .Pow) L7:=yf Ph λd e h z b a=>by
 cases d <;> first |(exact cw a) |skip
 cases e <;> first |(exact cw a) |skip
 rename_i i j;unfold L7 at a;dsimp only at a
 by_cases c:0<=j/\j<=1000000/\i.natAbs<2^64
 ·rw[WH c]at a;cases a;exact⟨i,j,rfl,rfl,c,rfl,λ_ _=>.int _⟩
 ·rw[WM c]at a;cases a
def JE(a:Ml f d e h=some (z,b)):∃i j,d=.int i/\e=.int j/\b=h/\z=.bl (f i j):=by
 cases d <;> first |(exact cw a) |skip
 cases e <;> first |(exact cw a) |skip
 cases a;exact⟨_,_,rfl,rfl,rfl,rfl⟩
def Sk:qt X (compareOp .Lt) Nh:=q0 Sn λd e h z b a=>by
 have⟨i,j,rfl,rfl,rfl,rfl⟩:=JE a;exact⟨i,j,rfl,rfl,rfl,λ_ _=>.bl _⟩
def Sl:qt X (compareOp .Gt) F7:=q0 So λd e h z b a=>by
 have⟨i,j,rfl,rfl,rfl,rfl⟩:=JE a;exact⟨i,j,rfl,rfl,rfl,λ_ _=>.bl _⟩
def M7:qt X (compareOp .GtE) Q5:=q0 Sq λd e h z b a=>by
 have⟨i,j,rfl,rfl,rfl,rfl⟩:=JE a;exact⟨i,j,rfl,rfl,rfl,λ_ _=>.bl _⟩
def GO:TJ X (unaryOp .USub) (rU X.K dG):=by
 intro a s c H x v Q I e hh;have⟨f,h,d,z,g,S,rd,b,k⟩:=hh;cases rd <;> first |(exact cw b) |skip
 cases b;exact NI a s c H _ v Q I e ⟨_,rfl,k _ _ (.here S (.int _))⟩
def Qs(d e:D)(h:MH):Option (D×MH):=(dY d h).bind λb=>(dY e h).bind λa=>if b.length+a.length<=sizeLine then some (D.lv (b++a),h)else none
def Ui(d e:D)(h:MH)(p:D×MH):Prop:=(∃i j,d=.int i/\e=.int j)\/(∃a b,d=.str a/\e=.str b)\/(∃x f c,d=.tup (x::f)/\e=.tup c)\/Qs d e h=some p
def zo{d e:D}{h:MH}{p:D×MH}(z:Qs d e h=some p):Ui d e h p:=.inr (.inr (.inr z))
def Jp{d e:D}{h:MH}{p:D×MH}(c:Cy d e h=some p):Ui d e h p:=by
 cases d with
 |int i=>cases e with
  |int j=>exact .inl ⟨i,j,rfl,rfl⟩
  |_=>exact zo c
 |str a=>cases e with
  |str b=>exact .inr (.inl ⟨a,b,rfl,rfl⟩)
  |_=>exact zo c
 |tup xs=>cases e with
  |tup f=>cases xs with
   |nil=>exact cw c
   |cons x xs=>exact .inr (.inr (.inl ⟨x,xs,f,rfl,rfl⟩))
  |_=>cases xs <;> exact zo c
 |_=>exact zo c
def Pb:qt X (binaryOp .Add) Cy:=by
 intro f s o H x y v u Q I t r hh;have⟨Z,h,d,e,z,O,S,rd,C,g,k⟩:=hh;have n:((dY d h).bind λm=>(dY e h).bind λl=>if m.length+l.length<=sizeLine then some (D.lv (m++l),h)else none)=some (z,O)->wpAny (model X.prog X.w) X.A (binaryOp .Add v u) (EP X f o Q) X.xe s:=by
  intro g;have⟨m,Y,T⟩:=bc g;have⟨l,U,G⟩:=bc T
  by_cases c:m.length+l.length<=sizeLine
  ·rw[WH c]at G;cases G;have⟨a,J,rfl,R,N⟩:=dz S rd Y;have⟨b,us,rfl,P,M⟩:=dz S C U;exact Iv f s o H _ _ v u Q I t r ⟨a,b,J,us,rfl,rfl,R,P,by rw[N.length,M.length];exact c,λp hp=>k _ _ (.lv S (N.append M) hp)⟩
  ·rw[WM c]at G;cases G
 rcases(Jp g:(∃i j,d=.int i/\e=.int j)\/(∃a b,d=.str a/\e=.str b)\/(∃x m l,d=.tup (x::m)/\e=.tup l)\/Qs d e h=some (z,O))with⟨i,j,rfl,rfl⟩ |⟨a,b,rfl,rfl⟩ |⟨x0,m,l,rfl,rfl⟩ |z
 ·cases g;obtain rfl:=i9 rd;obtain rfl:=i9 C;exact Pm f s o H _ _ v u Q I t r ⟨_,_,rfl,rfl,k _ _ (.here S (.int _))⟩
 ·unfold Cy at g;dsimp only at g
  by_cases c:a.length+b.length<=sizeLine
  ·rw[WH c]at g;cases g;have⟨rfl,F⟩:=BS rd;have⟨rfl,L⟩:=BS C;exact B6 f s o H _ _ v u Q I t r ⟨a,b,rfl,rfl,c,k _ _ (.here S (.str (EZ F L)))⟩
  ·rw[WM c]at g;cases g
 ·unfold Cy at g;dsimp only at g
  by_cases c:m.length+1+l.length<=sizeLine
  ·rw[WH c]at g;cases g;have⟨a,J,rfl,F,q⟩:=Hw rd;have⟨b,us,rfl,L,E⟩:=Hw C;apply Ly f s o H _ _ v u Q I t r ⟨a,b,J,us,rfl,rfl,F.sq,L.sq,?_,?_,λz=>?_,λ_ p hp=>k _ _ (.tup S (q.append E) hp)⟩
   ·intro z;rw[z]at q;cases q
   ·rw[q.length,E.length];exact c
   ·rw[z]at E;cases E;rw[XC]at k;exact k _ _ (.here S (.tup F q))
  ·rw[WM c]at g;cases g
 ·exact n z
def j8(b:p.canLay0=true)(a:p.depth<=64):SeqAt.shaped p=true:=by
 unfold PySem.SeqAt.shaped;rw[b,Xf a];rfl
def Dy{K:FR}{a:Ad}{H:Hp}{v:V}{d:D}(r:Rep K a H v d):decide (v=V.bg)=Vs d:=by
 cases r <;> rfl
def O8:qt X (compareOp .Is) tW:=by
 intro a s c H x y v u Q I g f hh;have⟨j,h,d,e,z,l,S,rd,i,b,k⟩:=hh;cases e <;> first |(exact cw b) |skip
 cases b;cases i;apply Pl a s c H _ _ v u Q I g f ⟨rfl,?_⟩;rw[Dy rd];exact k _ _ (.here S (.bl _))
def Lw:qt X (compareOp .IsNot) iV:=by
 intro a s c H x y v u Q I g f hh;have⟨j,h,d,e,z,l,S,rd,i,b,k⟩:=hh;cases e <;> first |(exact cw b) |skip
 cases b;cases i;apply Lx a s c H _ _ v u Q I g f ⟨rfl,?_⟩;rw[Dy rd];exact k _ _ (.here S (.bl _))
theorem xi{us:List Value}{a:List PyData}{as:List Addr}(H:ReadsAll h us a as)(c:∀u d as,u∈us->Reads h u d as->d∈a->f u=PyData.eqv d p):us.any f=a.any λb=>PyData.eqv b p:=by
 cases H with
 |nil=>rfl
 |cons r l=>rw[Yw,Yw,c _ _ _ WI r WI,xi l λu d as e hr hd=>c u d as (WG _ e) hr (WG _ hd)]
open Classical in
noncomputable def Ep(h:Heap)(p:PyData)(u:Value):Bool:=if q:∃d as,Reads h u d as/\d.canLay0=true then PyData.eqv q.choose p else false
def o8(r:Reads h u d as)(c:d.canLay0=true):Ep h p u=PyData.eqv d p:=by
 have q:∃d as,Reads h u d as/\d.canLay0=true:=⟨d,as,r,c⟩;unfold Ep;rw[dif_pos q];have⟨e,a,b⟩:=q.choose_spec;rw[PySem.SeqAt.Reads.unique _ _ _ _ _ b a r]
theorem cn:∀{a:List PyData} {d:PyData},PyData.canLayAll0 a=true->d∈a->d.canLay0=true
 |x::r,d,c,m=>by
  simp only[PyData.canLayAll0,W9]at c;rcases WV.mp m with rfl |m
  ·exact c.1
  ·exact cn c.2 m
theorem kc:∀{a:List PyData} {d:PyData},d∈a->d.depth<=PyData.depthAll a
 |x::r,d,m=>by
  simp only[PyData.depthAll];rcases WV.mp m with rfl |m
  ·lia
  ·have:=kc m;lia
theorem jN{us:List Value}{b:List PyData}{as:List Addr}(H:ReadsAll h us b as)(y:Value)(a:y∈us):∃d as,Reads h y d as/\d∈b:=by
 cases H with
 |nil=>cases a
 |cons r l=>
  rcases WV.mp a with rfl |a
  ·exact⟨_,_,r,WI⟩
  ·have⟨d,as,a1,a2⟩:=jN l y a;exact⟨d,as,a1,WG _ a2⟩
def in_of(hu:X.A.units+64<cLine)(I:L2.Inv X pins σ H s)(F:L2.RelV x v)(M:L2.RelV y u)(S:bM X.K ρ h H)(rd:Rep X.K ρ H x d)(N:Rep X.K ρ H y e){c:Bool}(o:inD d e h=some c){Q:Bool->Shared->Prop}(q:∀i,L2.Inv X pins σ H i->Q c i):
  wpAny (model X.prog X.w) X.A (compareOp .In v u) (λr i=>∃c,r=.bool c/\Q c i) X.xe s/\wpAny (model X.prog X.w) X.A (compareOp .NotIn v u) (λr i=>∃c,r=.bool (!c)/\Q c i) X.xe s:=by
 unfold inD at o;cases O:cg e h with
 |some kvs=>
  rw[O]at o;have⟨k,U,T⟩:=dX o;have⟨a,us,rfl,ha,l⟩:=iC S N O;obtain rfl:u=Value.ref a:=M;have ek:=iB rd U;subst ek;have g:om H a (kV k) (iX us k):=om.k ha;have ec:(iX us k).isSome=c:=by
   rw[<-T];rcases l.val k with⟨J,G⟩ |⟨d,v,J,G,_⟩
   ·rw[J,G];rfl
   ·rw[J,G];rfl
  apply⟨VB () I g F λi I'=>⟨c,by rw[ec],q i I'⟩,Mg () I g F λi I'=>⟨c,by rw[ec],q i I'⟩⟩
 |none=>
  rw[O]at o;dsimp only at o;have z:((cq e h).bind λp=>(uZ h d).bind λa=>(gX p.1).bind λbs=>if a.depth<=60/\PyData.depthAll bs<=60 then some (bs.any λb=>PyData.eqv b a)else none)=some c->
    wpAny (model X.prog X.w) X.A (compareOp .In v u) (λr i=>∃c,r=.bool c/\Q c i) X.xe s/\wpAny (model X.prog X.w) X.A (compareOp .NotIn v u) (λr i=>∃c,r=.bool (!c)/\Q c i) X.xe s:=by
   intro o;obtain⟨⟨xs,ws⟩,U,T⟩:=bc o;have⟨p,e3,e4⟩:=bc T;have⟨bs,e5,L⟩:=bc e4
   by_cases w:p.depth<=60/\PyData.depthAll bs<=60
   ·rw[WH w]at L;cases L;have⟨a,vs,rfl,n,l⟩:=qR S N U;obtain rfl:u=Value.ref a:=M;have⟨r1,c1⟩:=mR S rd e3;have⟨r2,Y⟩:=l.qT e5;have⟨as,ra⟩:=r1.reads I F;have C:∀f:List Value,Vals vs f->(∀y,y∈f->PySem.SeqAt.EqAt X.A.in1 s y v (Ep s.heap p y))/\f.any (Ep s.heap p)=bs.any λb=>PyData.eqv b p:=by
     intro f rv;have⟨bs',rb⟩:=r2.reads I rv;apply⟨λy E=>?_,xi rb λu d as _ hr hd=>o8 hr (cn Y hd)⟩;have⟨d,Z,hr,hd⟩:=jN rb y E;rw[o8 hr (cn Y hd)];apply Zy d p _ s y v Z as hr ra (cn Y hd) c1 ?_;have J:=kc hd;have G:min d.depth p.depth<=d.depth:=ZN _ _;show X.A.units+1+min d.depth p.depth<cLine;have h3:=w.2
     lia
    rcases n with n |n
    ·have⟨f,rv,pl,_⟩:=I.list n;have⟨R,P⟩:=C f rv;have m:∀y,y∈f.toArray->PySem.SeqAt.EqAt X.A.in1 s y v (Ep s.heap p y):=λy E=>R y (by simpa using E);have j:f.toArray.any (Ep s.heap p)=bs.any λb=>PyData.eqv b p:=by rw[<-P];simp
     exact⟨PySem.SeqAt.in_listAt _ pl.isList m ⟨_,rfl,by rw[j];exact q s I⟩,PySem.SeqAt.notIn_listAt _ pl.isList m ⟨_,rfl,by rw[j];exact q s I⟩⟩
    ·have⟨f,rv,pl,_⟩:=I.tuple n;have⟨R,P⟩:=C f rv;have m:∀y,y∈f.toArray->PySem.SeqAt.EqAt X.A.in1 s y v (Ep s.heap p y):=λy E=>R y (by simpa using E);have j:f.toArray.any (Ep s.heap p)=bs.any λb=>PyData.eqv b p:=by rw[<-P];simp
     exact⟨PySem.SeqAt.in_tupleAt _ pl m ⟨_,rfl,by rw[j];exact q s I⟩,PySem.SeqAt.notIn_tupleAt _ pl m ⟨_,rfl,by rw[j];exact q s I⟩⟩
   ·rw[WM w]at L;cases L
  split at o
  ·cases o;cases rd;cases N;have⟨t,rfl⟩:=F;have⟨t',rfl⟩:=M;exact⟨in_str ⟨_,rfl,q s I⟩,notIn_str ⟨_,rfl,q s I⟩⟩
  ·exact z o
def M6(n:X.A.units+64<cLine):qt X (compareOp .In) yS:=by
 intro a s i H x y v u Q I l j hh;have⟨w,h,d,e,z,C,S,rd,m,p,k⟩:=hh;have⟨c,t,q⟩:=dX p;cases q;apply cQ (in_of n I l j S rd m t (Q:=λg b=>g=c/\L2.Inv X a i H b) λb f=>⟨rfl,f⟩).1 λr b u9=>?_;have⟨g,hr,o,f⟩:=u9;subst hr;subst o;exact⟨.bl _,H,f,rfl,k _ _ (.here S (.bl _))⟩
def Io(n:X.A.units+64<cLine):qt X (compareOp .NotIn) lL:=by
 intro a s i H x y v u Q I l j hh;have⟨w,h,d,e,z,C,S,rd,m,p,k⟩:=hh;have⟨c,t,q⟩:=dX p;cases q;apply cQ (in_of n I l j S rd m t (Q:=λg b=>g=c/\L2.Inv X a i H b) λb f=>⟨rfl,f⟩).2 λr b u9=>?_;have⟨g,hr,o,f⟩:=u9;subst hr;subst o;exact⟨.bl _,H,f,rfl,k _ _ (.here S (.bl _))⟩
def My{K:FR}{a:Ad}{H:Hp}{b:List V}{c:List D}{i:Int}{d:D}(l:az K a H b c)(e:fI c i=some d):∃v,fI b i=some v/\Rep K a H v d:=by
 unfold fI at e;have⟨j,h,g⟩:=bc e;have⟨v,f,r⟩:=l.got g;exact⟨v,by unfold fI;rw[l.length,h];exact f,r⟩
def F6{d e z:D}{h o:MH}(a:ax d e h=some (z,o)):o=h/\((∃b k,cg d h=some b/\oU e=some k/\dE b k=some z)\/(∃x i c,d=.str x/\e=.int i/\x.length<=sizeLine/\fI x.cps.toList i=some c/\z=.str ⟨#[c]⟩)\/∃i j l,e=.int i/\cq d h=some (j,l)/\fI j i=some z):=by
 unfold ax at a
 split at a
 ·have⟨q,n,m⟩:=bc a;have⟨p,g,f⟩:=dX m;cases f;exact⟨rfl,.inl ⟨_,q,‹_›,n,g⟩⟩
 ·split at a
  ·split at a
   ·have⟨c,g,f⟩:=dX a;cases f;exact⟨rfl,.inr (.inl ⟨_,_,c,rfl,rfl,‹_›,g,rfl⟩)⟩
   ·cases a
  ·obtain⟨⟨j,l⟩,n,m⟩:=bc a;have⟨p,g,f⟩:=dX m;cases f;exact⟨rfl,.inr (.inr ⟨_,j,l,rfl,n,g⟩)⟩
  ·cases a
def SF(hu:X.A.units+64<cLine):Q9 X (rS X.K ax):=by
 intro b f j s t H x y v u Q I p o hh q;have⟨ρ,h,d,e,z,h',S,rd,E,Z,k⟩:=hh;have⟨rfl,T⟩:=F6 Z;rcases T with⟨R,M,P,J,n⟩ |⟨x0,i,ch,rfl,rfl,c,n,rfl⟩ |⟨i,xs,ws,rfl,J,n⟩
 ·have⟨a,us,rfl,U,l⟩:=iC S rd P;obtain rfl:v=Value.ref a:=p;have Y:=iB E J;subst Y;rcases l.val M with⟨G,N⟩ |⟨d',w,G,N,r⟩
  ·rw[G]at n;cases n
  ·rw[G]at n;cases n;have g:om H a (kV M) (some w):=by rw[<-N];exact om.k U
   exact tail_any (AV I g) ZY.lookup (Gg () I g o λw' s3 I3 C=>⟨w,H,I3,C,k _ _ (.here S r)⟩) q
 ·have⟨rfl,F⟩:=BS rd;obtain rfl:=i9 E;exact PR b f j s t H _ _ v u Q I p o ⟨x0,i,ch,rfl,rfl,c,n,k _ _ (.here S (.str (EY F n)))⟩ q
 ·have⟨a,L,rfl,m,l⟩:=qR S rd J;have⟨w,O,r⟩:=My l n;obtain rfl:=i9 E;rcases m with m |m
  ·exact LQ b f j s t H _ _ v u Q I p o ⟨a,L,i,w,rfl,rfl,m,O,k _ _ (.here S r)⟩ q
  ·exact PQ b f j s t H _ _ v u Q I p o ⟨a,L,i,w,rfl,rfl,m,O,k _ _ (.here S r)⟩ q
def RK(e:X.A.units+64<cLine)(h:SE X a d)(g:SE X b c)(f:iK b:=by unfold iK;intro _ _;ac_nf):SE X (.Subscript a b pos) (ag ax d c):=(M3 (SF e) h g f).imp λ_ _ _=>zY
abbrev PM:=DS->MH->Option (Option Int×MH)
noncomputable def wu:PM:=λ_ h=>some (none,h)
noncomputable def wx(e:EM):PM:=λa h=>(e a h).bind λp=>match p.1 with
 |.int i=>some (some i,p.2)
 |_=>none
inductive TX(K:FR)(m:PM)(σ:L2.St)(H:Hp)(Q:Option Int->Hp->Prop):Prop where
 |mk (ρ δ h b h'):cA K ρ H σ δ->bM K ρ h H->(m δ h=some (b,h'))->(∀ρ' H',cV ρ H ρ' H'->bM K ρ' h' H'->Q b H')->TX K m σ H Q
noncomputable def Wj(K:FR)(m:PM):TO:=λa H Q=>TX K m a H Q
def SP'(X:Cx)(e:Option Expr)(m:PM):Prop:=PO X e (Wj X.K m)
def Dq:SP' X none wu:=λa s c H Q I hh=>by
 have⟨d,f,h,b,g,R,S,e,k⟩:=hh;cases e;exact Li a s c H Q I (k d H (.refl _ _) S)
def Dn(l:SE X e j):SP' X (some e) (wx j):=λa s f H Q I hh=>by
 have⟨g,i,h,b,q,R,S,e,k⟩:=hh;obtain⟨⟨x,p⟩,m,d⟩:=bc e;cases x <;> first |(cases d;done) |skip
 cases d;apply Lh l a s f H Q I ⟨g,i,h,_,_,R,S,m,λv o u9=>?_⟩;have⟨c,T,n,r⟩:=u9;cases r;exact⟨_,rfl,k c o T n⟩
noncomputable def cutD(a:List D)(b c:Option Int):List D:=(a.drop (HT.cC a.length 0 b)).take (HT.cC a.length a.length c-HT.cC a.length 0 b)
def S8(d:D)(a b:Option Int)(h:MH):Option (D×MH):=match d with
 |.str z=>if z.length<=sizeLine then some (.str (Txt.slice z a b),h)else none
 |.tup xs=>if HT.cC xs.length 0 a=0/\HT.cC xs.length xs.length b=xs.length then none else some (.tup (cutD xs a b),h)
 |d=>(cq d h).map λp=>(.lv (cutD p.1 a b),h)
inductive Uc(K:FR)(x:V)(lo hi:Option Int)(H:Hp)(Q:VK):Prop where
 |mk (ρ h d z h'):bM K ρ h H->Rep K ρ H x d->(S8 d lo hi h=some (z,h'))->(∀v H',dN K ρ H h' z v H'->Q v H')->Uc K x lo hi H Q
def Wo(K:FR):V->Option Int->Option Int->Hp->VK->Prop:=λx a b H Q=>Uc K x a b H Q
theorem az.t5{K:FR}{a:Ad}{H:Hp}{b:List V}{e:List D}(l:az K a H b e)(c d:Option Int):az K a H (L2.t5 b c d) (cutD e c d):=by
 unfold L2.t5 cutD;rw[l.length];exact(l.drop _).take _
def MU:QQ X (Wo X.K):=by
 intro b s m H x v r o f i n Q I t C pl u hh;have⟨O,h,d,z,M,S,rd,e,k⟩:=hh;have g:tH d=true->((cq d h).map λp=>(D.lv (cutD p.1 f i),h))=some (z,M)->∃T L,typeLookup (.type T) "__getitem__"=pure (some (.builtin L))/\s.TypeIs v T/\wpAny (model X.prog X.w) X.A (getItem v (.ref n)) (EP X b m Q) X.xe s:=by
  intro J E;obtain⟨⟨j,P⟩,N,E⟩:=dX E;cases E;obtain⟨a,rfl,⟨G,q,l⟩,_⟩:=ij S rd N;rw[J]at q;cases q with
  |l q=>exact KJ b s m H _ v r o f i n Q I t C pl u ⟨a,G,rfl,q,λp hp=>k _ _ (.lv S (l.t5 f i) hp)⟩
 cases d with
 |str x0=>
  unfold S8 at e;dsimp only at e
  by_cases c:x0.length<=sizeLine
  ·rw[WH c]at e;cases e;cases rd with |str y=>
   exact N4 b s m H _ v r o f i n Q I t C pl u ⟨x0,rfl,c,k _ _ (.here S (.str (zF _ _ y)))⟩
  ·rw[WM c]at e;cases e
 |tup j=>
  unfold S8 at e;dsimp only at e
  by_cases c:HT.cC j.length 0 f=0/\HT.cC j.length j.length i=j.length
  ·rw[WH c]at e;cases e
  ·rw[WM c]at e;cases e;cases rd with |tup h0 F=>
   exact N0 b s m H _ v r o f i n Q I t C pl u ⟨_,_,rfl,h0.sq,by rw[F.length];exact c,λp hp=>k _ _ (.tup S (F.t5 f i) hp)⟩
 |_=>exact g rfl e
def Hj{x:Str}{g:String}{p pos:Pos}{e:Expr}{es:List Expr}{f:Fn}{m:AM}(s:gm X (.builtin g) f)(r:Gl X x)(hm:X.mg x=none)(q:bootBuiltins x=some (.builtin g))(t:SA X (e::es) m)(hn:x≠"__name__":=by decide)(c:(x==("__debug__":Str))=false:=by ac_nf)
  (he:starEach (e::es) X.env=(false,eval e X.env)::starEach es X.env:=by ac_nf) (b:(backTo pos (starEach es X.env)).any (·.1)=false:=by ac_nf):SE X (.Call (.Name x p) (e::es) [] pos) (aj f m):=
 (sU s r hm q t hn c he b).imp λσ H Q u9=>by
  have⟨l,n,h,d,u,R,S,e,k⟩:=u9;obtain⟨⟨j,i⟩,y,w⟩:=bc e;exact⟨l,n,h,j,i,R,S,y,λE a F z A o=>⟨a,i,j,d,u,A,o,w,λv C P=>k v C (P.step z)⟩⟩
def Hi{x:Str}{g:String}{p pos:Pos}{e:Expr}{es:List Expr}{f:Fn}{m:AM}(s:gm X (.type g) f)(r:Gl X x)(hm:X.mg x=none)(q:bootBuiltins x=some (.type g))(t:SA X (e::es) m)(hn:x≠"__name__":=by decide)(c:(x==("__debug__":Str))=false:=by ac_nf)
  (he:starEach (e::es) X.env=(false,eval e X.env)::starEach es X.env:=by ac_nf) (b:(backTo pos (starEach es X.env)).any (·.1)=false:=by ac_nf):SE X (.Call (.Name x p) (e::es) [] pos) (aj f m):=
 (oJ s r hm q t hn c he b).imp λσ H Q u9=>by
  have⟨l,n,h,d,u,R,S,e,k⟩:=u9;obtain⟨⟨j,i⟩,y,w⟩:=bc e;exact⟨l,n,h,j,i,R,S,y,λE a F z A o=>⟨a,i,j,d,u,A,o,w,λv C P=>k v C (P.step z)⟩⟩
def cz:Fn:=λb h=>match b with
 |[.str z]=>if z.length<=sizeLine then some (.int z.length,h)else none
 |[d]=>match cg d h with
  |some a=>some (.int a.length,h)
  |none=>(cq d h).map λp=>(.int p.1.length,h)
 |_=>none
noncomputable def Qb:Fn:=λa h=>match a with
 |[.int i]=>some (.int (if i<0 then -i else i),h)
 |_=>none
noncomputable def Uk(d:D)(h:MH):Option String:=match d with
 |.bg=>some "NoneType"
 |.bl _=>some "bool"
 |.int _=>some "int"
 |.str _=>some "str"
 |.tup _=>some "tuple"
 |.lv _=>some "list"
 |.dv _=>some "dict"
 |.ob n=>match h[n]? with
  |some (.lst _)=>some "list"
  |some (.dct _)=>some "dict"
  |_=>none
 |_=>none
noncomputable def Dj(t n:String):Bool:=t==n||(t=="bool"&&n=="int")
def yQ:Fn:=λa h=>match a with
 |[d,.ty n]=>if n∈["int","str","bool","tuple","list","dict"]then(Uk d h).map λt=>(.bl (Dj t n),h)else none
 |_=>none
def bw:Fn:=λa h=>match a with
 |[d]=>(cq d h).map λp=>(.tup p.1,h)
 |_=>none
noncomputable def vG:List D->Option (List Bool)
 |[]=>some []
 |.bl b::r=>(vG r).map λbs=>b::bs
 |_=>none
def Qa:Fn:=λb h=>match b with
 |[d]=>(dY d h).bind λa=>(vG a).map λbs=>(.bl (bs.all id),h)
 |_=>none
def P9:Fn:=λb h=>match b with
 |[d]=>(dY d h).bind λa=>(vG a).map λbs=>(.bl (bs.any id),h)
 |_=>none
def rep1{K:FR}{a:Ad}{H:Hp}{b:List V}{d:D}(l:az K a H b [d]):∃v,b=[v]/\Rep K a H v d:=by
 cases l with
 |cons r l=>cases l;exact⟨_,rfl,r⟩
def rep2{K:FR}{a:Ad}{H:Hp}{b:List V}{d e:D}(l:az K a H b [d,e]):∃v u,b=[v,u]/\Rep K a H v d/\Rep K a H u e:=by
 cases l with
 |cons r l=>cases l with
  |cons c l=>cases l;exact⟨_,_,rfl,r,c⟩
def Ql:gm X (.builtin "len") cz:=by
 intro e s g H G us Q I r hh;have⟨E,h,C,z,u,S,l,b,k⟩:=hh
 match C,l,b with
 |[],_,b=>cases b
 |_::_::_,_,b=>exact absurd b (by unfold cz;split <;> simp_all)
 |[d],l,b=>
  have⟨v,rfl,rd⟩:=rep1 l;have i:(match cg d h with |some f=>some (D.int f.length,h) |none=>(cq d h).map λp=>(D.int p.1.length,h))=some (z,u)->wpAny (model X.prog X.w) X.A (call (.builtin "len") us) (EP X e g Q) X.xe s:=by
   intro b;cases q:cg d h with
   |some f=>
    rw[q]at b;cases b;have⟨a,j,rfl,t,lk⟩:=iC S rd q;apply Gp e s g H _ us Q I r ⟨a,j,rfl,t,k _ _ ?_⟩;rw[lk.length];exact .here S (.int _)
   |none=>
    rw[q]at b;obtain⟨⟨F,w⟩,y,x⟩:=dX b;cases x;have⟨a,m,rfl,o,n⟩:=qR S rd y;apply zg e s g H _ us Q I r ⟨a,m,rfl,o,k _ _ ?_⟩;rw[n.length];exact .here S (.int _)
  cases d with
  |str x0=>
   unfold cz at b;dsimp only at b
   by_cases c:x0.length<=sizeLine
   ·rw[WH c]at b;cases b;cases rd;exact zf e s g H _ us Q I r ⟨x0,rfl,c,k _ _ (.here S (.int _))⟩
   ·rw[WM c]at b;cases b
  |_=>exact i b
def Qo:gm X (.builtin "abs") Qb:=by
 intro b s c H g us Q I r hh;have⟨f,h,e,z,i,S,l,a,k⟩:=hh
 match e,l,a with
 |[],_,a=>cases a
 |d::_::_,_,a=>cases d <;> exact cw a
 |[d],l,a=>
  have⟨v,rfl,rd⟩:=rep1 l;cases rd <;> first |(exact cw a) |skip
  cases a;exact JO b s c H _ us Q I r ⟨_,rfl,k _ _ (.here S (.int _))⟩
def dJ:gm X (.type "tuple") bw:=by
 intro e s g H y us Q I r hh;have⟨u,h,o,z,A,S,l,c,k⟩:=hh
 match o,l,c with
 |[],_,c=>cases c
 |_::_::_,_,c=>cases c
 |[d],l,c=>
  have⟨v,rfl,rd⟩:=rep1 l;obtain⟨⟨x,w⟩,f,n⟩:=dX c;cases n;obtain⟨a,rfl,⟨i,q,j⟩,_⟩:=ij S rd f;apply vD e s g H _ us Q I r ⟨a,i,rfl,?_⟩;generalize m:tH d=b at q;cases q with
  |l q=>exact .inl ⟨q,λp hp=>k _ _ (.tup S j hp)⟩
  |t q=>
   apply .inr ⟨q,k _ _ ?_⟩;cases rd <;> first |(cases m;done) |skip
   cases f;exact .here S (.tup ‹_› ‹_›)
def JS{K:FR}{d:Ad}{H:Hp}:∀{b:List V} {c:List D} {bs:List Bool},az K d H b c->vG c=some bs->b=bs.map V.bl:=by
 intro b
 induction b with
 |nil=>intro c bs a e;cases a;cases e;rfl
 |cons v b f=>
  intro c bs a e;cases a with |cons r l=>
  cases r <;> first |(cases e;done) |skip
  have⟨i,h,g⟩:=dX e;cases g;rw[f l h];rfl
def Qn(i:X.calm=true):gm X (.builtin "all") Qa:=by
 intro c s f H u us Q I r hh;have⟨q,h,p,z,x,S,l,b,k⟩:=hh
 match p,l,b with
 |[],_,b=>cases b
 |_::_::_,_,b=>cases b
 |[d],l,b=>
  have⟨v,rfl,rd⟩:=rep1 l;have⟨t,o,n⟩:=bc b;have⟨bs,m,j⟩:=dX n;cases j;have⟨a,w,rfl,e,g⟩:=dz S rd o;rw[JS g m]at e;exact JN i c s f H _ us Q I r ⟨a,bs,rfl,eV.of e,k _ _ (.here S (.bl _))⟩
def Qm(i:X.calm=true):gm X (.builtin "any") P9:=by
 intro c s f H u us Q I r hh;have⟨q,h,p,z,x,S,l,b,k⟩:=hh
 match p,l,b with
 |[],_,b=>cases b
 |_::_::_,_,b=>cases b
 |[d],l,b=>
  have⟨v,rfl,rd⟩:=rep1 l;have⟨t,o,n⟩:=bc b;have⟨bs,m,j⟩:=dX n;cases j;have⟨a,w,rfl,e,g⟩:=dz S rd o;rw[JS g m]at e;exact JM i c s f H _ us Q I r ⟨a,bs,rfl,eV.of e,k _ _ (.here S (.bl _))⟩
def D2{K:FR}{t n:String}(ht:t∈["NoneType","bool","int","str","tuple","list","dict"])(hn:n∈["int","str","bool","tuple","list","dict"]):PySem.W.kitOne K (.type t) (.type n)=some (Dj t n):=by
 simp only[WV,List.mem_nil_iff,or_false]at ht hn;rcases ht with rfl |rfl |rfl |rfl |rfl |rfl |rfl <;> rcases hn with rfl |rfl |rfl |rfl |rfl |rfl <;> rfl
def Cv{c:List D}{z:D}{h b:MH}(a:yQ c h=some (z,b)):∃d n t,c=[d,.ty n]/\n∈["int","str","bool","tuple","list","dict"]/\Uk d h=some t/\z=.bl (Dj t n)/\b=h:=by
 unfold yQ at a
 split at a
 ·split at a
  ·have⟨t,f,e⟩:=dX a;cases e;exact⟨_,_,t,rfl,‹_›,f,rfl,rfl⟩
  ·cases a
 ·cases a
def NL{K:FR}{g:Ad}{H:Hp}{h:MH}{v:V}{d:D}{t:String}(S:bM K g h H)(rd:Rep K g H v d)(c:Uk d h=some t):t∈["NoneType","bool","int","str","tuple","list","dict"]/\(nR K H v (.type t)\/t="tuple"/\∃a e,v=.ref a/\iJ K H a e):=by
 cases rd with
 |bg=>cases c;exact⟨by decide,.inl .bg⟩
 |bl b=>cases c;exact⟨by decide,.inl (.bl b)⟩
 |int i=>cases c;exact⟨by decide,.inl (.int i)⟩
 |str h0=>cases c;exact⟨by decide,.inl (.str _)⟩
 |ty _=>exact cw c
 |ro _ _=>exact cw c
 |lv h0 _ _=>cases c;exact⟨by decide,.inl (.lst h0)⟩
 |dv h0 _ _=>cases c;exact⟨by decide,.inl (.dK h0)⟩
 |tup h0 j=>cases c;exact⟨by decide,.inr ⟨rfl,_,_,rfl,h0.sq⟩⟩
 |@ob a m hm=>
  unfold Uk at c;dsimp only at c;cases q:h[m]? with
  |none=>rw[q]at c;cases c
  |some o=>
   rw[q]at c;have x:=S.at_ m a o hm q;cases o with
   |lst _=>cases c;have⟨e,f,_⟩:=x;exact⟨by decide,.inl (.lst f)⟩
   |dct _=>cases c;have⟨e,f,_⟩:=x;exact⟨by decide,.inl (.dK f)⟩
   |dcH _=>exact cw c
def pf:gm X (.builtin "isinstance") yQ:=by
 intro b s f H E us Q I r hh;have⟨C,h,J,z,G,S,l,y,k⟩:=hh;have⟨d,n,t,rfl,hn,A,rfl,rfl⟩:=Cv y;have⟨v,u,rfl,rd,i⟩:=rep2 l;cases i;have c:=k (.bl (Dj t n)) H (.here S (.bl _));obtain⟨hm,e |⟨rfl,a,F,rfl,q⟩⟩:=NL S rd A
 ·exact JK b s f H _ us Q I r ⟨v,n,_,_,rfl,e,D2 hm hn,c⟩
 ·have⟨u1,u2,rfl,m,j⟩:=Vals.two r;obtain rfl:u1=Value.ref a:=m;obtain rfl:u2=Value.type n:=j;obtain⟨p,_,⟨o,x,w,_⟩,_⟩:=I.tuple q;exact X8 PySem.W.kitx_tuple I.wL ⟨o,x,w⟩ (D2 (t:="tuple") {} hn) (λz=>nomatch z) λg=>⟨.bl _,H,I.tok g,rfl,c⟩
def Kf(m:AM):AM:=λa h=>(m a h).bind λp=>match p.1 with
 |[d]=>(cq d p.2).map λq=>(q.1,p.2)
 |_=>none
def KO(y:Gl X x)(hm:X.mg x=none)(t:bootBuiltins x=some (.type "list"))(A:SA X [e] m)(hl:kA m 1)(hn:x≠"__name__":=by decide)(f:(x==("__debug__":Str))=false:=by ac_nf)(z:starEach [e] X.env=(false,eval e X.env)::starEach [] X.env:=by ac_nf)(c:(backTo pos (starEach [] X.env)).any (·.1)=false:=by ac_nf):rp X (.Call (.Name x p) [e] [] pos) (Kf m):=
 (oJ ze y hm t A hn f z c).imp λM H Q q=>by
  have⟨n,o,h,d,P,R,S,e,k⟩:=q;obtain⟨⟨I,C⟩,i,G⟩:=bc e;apply⟨n,o,h,I,C,R,S,i,λO b L J j r=>?_⟩;have⟨d,rfl⟩:=Y1.mp (hl _ _ _ _ i);obtain⟨⟨N,w⟩,F,E⟩:=dX G;cases E;have⟨v,rfl,rd⟩:=rep1 r;have⟨a,g,rfl,u,s⟩:=qR j rd F;exact⟨a,g,rfl,u,λl hl=>k b L l g J j hl s⟩
def vy(o i v:D)(h:MH):Option MH:=match o with
 |.ob n=>match h[n]? with
  |some (.lst xs)=>match i with
   |.int j=>(vq xs.length j).map λp=>h.set n (.lst (xs.set p v))
   |_=>none
  |some (.dct a)=>(oU i).bind λk=>if a.length<sizeLine then some (h.set n (.dct (putD a k v)))else none
  |_=>none
 |_=>none
def vt(o i:EM):GM:=λv a h=>(o a h).bind λp=>(i a p.2).bind λq=>(vy p.1 q.1 v q.2).map λb=>(a,b)
inductive Nw(K:FR)(o i v:V)(H:Hp)(Q:Hp->Prop):Prop where
 |mk (ρ h a b c h'):bM K ρ h H->Rep K ρ H o a->Rep K ρ H i b->Rep K ρ H v c->(vy a b c h=some h')->(∀ρ' H',cV ρ H ρ' H'->bM K ρ' h' H'->Q H')->Nw K o i v H Q
def Va(K:FR):V->V->V->Hp->(Hp->Prop)->Prop:=λo i v H Q=>Nw K o i v H Q
def La(U:X.A.units+64<cLine):MF X (Va X.K):=by
 intro g s J H o i v ov N u Q I ro C rv hh;have⟨e,h,a,b,c,Y,S,L,F,E,d,k⟩:=hh;cases L <;> first |(exact cw d) |skip
 rename_i a n hn;unfold vy at d;dsimp only at d;cases q:h[n]? with
 |none=>rw[q]at d;cases d
 |some w=>
  rw[q]at d;have x:=S.at_ n a w hn q;have G:=WE hn;cases w with
  |lst xs=>
   dsimp only at d;cases F <;> first |(exact cw d) |skip
   rename_i j;have⟨p,t,f⟩:=dX d;cases f;have⟨y,r,l⟩:=x;have T:cV e H e (upd H a (.lst (y.set p v))):=cV.wrote S G;exact set_list g s J H _ _ v ov N u Q I ro C rv ⟨a,y,j,p,rfl,rfl,r,by rw[l.length];exact t,k e _ T (S.wrote hn ⟨_,aQ,(l.set E p).mono T.toCh⟩)⟩
  |dct m=>
   dsimp only at d;have⟨M,t,f⟩:=bc d
   by_cases z:m.length<sizeLine
   ·rw[WH z]at f;cases f;have⟨us,r,l⟩:=x;have O:=iB F t;subst O;obtain rfl:ov=Value.ref a:=ro;have T:cV e H e (upd H a (.dK (putK us M v))):=cV.wrote S G;exact Gf () I (MM.k r (by rw[l.length];exact z)) C rv λR P=>⟨_,P,k e _ T (S.wrote hn ⟨_,aQ,(l.put E).mono T.toCh⟩)⟩
   ·rw[WM z]at f;cases f
  |dcH _=>exact cw d
def oA (z:X.A.units+64<cLine) (C:SE X o mo) (E:SE X i w) (F:∀v,assign (.Subscript o i pos) X.env v=(do
   let ov<-holding [v] (eval o X.env);let a<-holding [v,ov] (eval i X.env)
   standAt pos
   holding [v,ov,a] (setItem ov a v)
   release [v,ov,a] []):=by intro _;ac_nf):SG X (.Subscript o i pos) (vt mo w):=
 (HZ C E (La z) F).imp λv σ H Q u9=>by
  have⟨q,l,h,d,s,Z,R,S,r,e,k⟩:=u9;obtain⟨⟨x,n⟩,N,M⟩:=bc e;obtain⟨⟨y,m⟩,L,J⟩:=bc M;have⟨Y,I,G⟩:=dX J;cases G;exact⟨q,l,h,x,n,R,S,N,λov H1 ⟨j,c,T,u⟩=>⟨j,l,n,y,m,R.mono c,T,L,λa H2 ⟨g,b,P,t⟩=>
   ⟨g,m,x,y,d,_,P,u.mono b,t,r.mono (c.trans b).toCh,I,λf U p O=>k f U σ (c.trans (b.trans p)) O (R.mono (c.trans (b.trans p)).toCh)⟩⟩⟩
abbrev Gx:=D->List D->MH->Option (D×MH)
inductive V1(K:FR)(f:Gx)(x:V)(vs:List V)(H:Hp)(Q:VK):Prop where
 |mk (ρ h d ds z h'):bM K ρ h H->Rep K ρ H x d->az K ρ H vs ds->(f d ds h=some (z,h'))->(∀v H',dN K ρ H h' z v H'->Q v H')->V1 K f x vs H Q
def rM(K:FR)(f:Gx):V->List V->Hp->VK->Prop:=λx a H Q=>V1 K f x a H Q
noncomputable def eM(lS:D->MH->Bool)(f:Gx)(o:EM)(m:AM):EM:=λa h=>(o a h).bind λp=>if lS p.1 p.2 then(m a p.2).bind λq=>f p.1 q.1 q.2 else none
def bL(d:D)(h:MH):Bool:=(dY d h).isSome
def IZ(d:D)(h:MH):Bool:=(cg d h).isSome
noncomputable def bu:Gx:=λd a h=>match d,a with
 |.ob n,[y]=>match h[n]? with
  |some (.lst xs)=>if xs.length<sizeLine then some (.bg,h.set n (.lst (xs++[y])))else none
  |_=>none
 |_,_=>none
noncomputable def Au:Gx:=λd a h=>match d,a with
 |.ob n,[]=>match h[n]? with
  |some (.lst xs)=>(xs[xs.length-1]?).map λy=>(y,h.set n (.lst xs.dropLast))
  |_=>none
 |_,_=>none
def iZ{K:FR}{b:Ad}{H:Hp}{h:MH}{v:V}{d:D}(S:bM K b h H)(r:Rep K b H v d)(e:bL d h=true):MR K "list" v H:=by
 have⟨i,g⟩:=Zn.mp e;have⟨a,c,rfl,f,_⟩:=dz S r g;exact .inl ⟨rfl,c,eV.of f⟩
def NJ{K:FR}{b:Ad}{H:Hp}{h:MH}{v:V}{d:D}(S:bM K b h H)(r:Rep K b H v d)(e:IZ d h=true):MR K "dict" v H:=by
 have⟨i,g⟩:=Zn.mp e;have⟨a,c,rfl,f,_⟩:=iC S r g;exact .inr (.inr (.inl ⟨rfl,.inl ⟨c,f⟩⟩))
def xH{T t:String}{name:Str}{o e:Expr}{es:List Expr}{g a:Pos}{f:Gx}{C:EM}{m:AM}{lS:D->MH->Bool}(U:∀{K:FR} {q:Ad} {H:Hp} {h:MH} {v:V} {d:D},bM K q h H->Rep K q H v d->lS d h=true->MR K T v H)
  (M:PlainAttrs T) (slot:Slot T name t) (u:typeOf (.builtin t)=pure (.type "method_descriptor")) (hm:GH X t (rM X.K f)) (O:SE X o C) (P:SA X (e::es) m)
  (j:attributeBase o name X.env (eval o X.env)=eval o X.env:=by ac_nf)
  (l:((backTo a (starEach (e::es) X.env)).all (λx=>!x.1)&&(backToKw a (keywordEach [] X.env)).all (λx=>x.1.isSome)
   &&decide ((e::es).length+([]:List Keyword).length+(if([]:List Keyword).isEmpty then 0 else 1)<30))=true:=by ac_nf)
  (i:(g.endLine==a.line)=true:=by ac_nf) (N:starEach (e::es) X.env=(false,eval e X.env)::starEach es X.env:=by ac_nf) (b:(backTo a (starEach es X.env)).any (·.1)=false:=by ac_nf):
  SE X (.Call (.Attribute o name g) (e::es) [] a) (eM lS f C m):=(Sh M slot u hm O P j l i N b).imp λσ H Q u9=>by
 have⟨q,z,h,d,Y,R,S,e,k⟩:=u9;obtain⟨⟨x,y⟩,e1,n⟩:=bc e;dsimp only at n
 by_cases c:lS x y=true
 ·rw[WH c]at n;obtain⟨⟨F,E⟩,e3,Z⟩:=bc n;exact⟨q,z,h,x,y,R,S,e1,λv H1 ⟨s,I,J,A⟩=>⟨U J A c,s,z,y,F,E,R.mono I,J,e3,λvs r H2 G S2 L=>⟨r,E,x,F,d,Y,S2,A.mono G,L,Z,λw H3 p=>k w H3 (p.step (I.trans G))⟩⟩⟩
 ·rw[WM c]at n;cases n
def RJ{T n:String}{name:Str}{o:Expr}{b a:Pos}{f:Gx}{t:EM}{lS:D->MH->Bool}(C:∀{K:FR} {l:Ad} {H:Hp} {h:MH} {v:V} {d:D},bM K l h H->Rep K l H v d->lS d h=true->MR K T v H)
  (z:PlainAttrs T) (slot:Slot T name n) (q:typeOf (.builtin n)=pure (.type "method_descriptor")) (hm:GH X n (rM X.K f)) (A:SE X o t)
  (i:attributeBase o name X.env (eval o X.env)=eval o X.env:=by ac_nf) (g:(b.endLine==a.line)=true:=by ac_nf):
  SE X (.Call (.Attribute o name b) [] [] a) (eM lS f t aV):=(O5 z slot q hm A i g).imp λσ H Q u9=>by
 have⟨l,y,h,d,E,R,S,e,k⟩:=u9;obtain⟨⟨x,r⟩,F,j⟩:=bc e;dsimp only at j
 by_cases c:lS x r=true
 ·rw[WH c]at j;exact⟨l,y,h,x,r,R,S,F,λv H1 ⟨m,G,u,s⟩=>⟨C u s c,m,r,x,[],d,E,u,s,.nil,j,λw I p=>k w I (p.step G)⟩⟩
 ·rw[WM c]at j;cases j
def Iz{K:FR}{b:Ad}{H:Hp}{h:MH}{n:Nat}{d:List D}{v:V}(S:bM K b h H)(r:Rep K b H v (.ob n))(q:h[n]?=some (.lst d)):∃a c,v=.ref a/\b.ob[n]?=some a/\H a=some (.lst c)/\az K b H c d:=by
 cases r with
 |ob hn=>have⟨c,e,l⟩:=S.at_ n _ _ hn q;exact⟨_,c,rfl,hn,e,l⟩
def gY:GH X "list.append" (rM X.K bu):=by
 intro e s j H x A v us Q I o rs hh;have⟨f,h,d,t,z,C,S,rd,l,b,k⟩:=hh;cases d <;> first |(exact cw b) |skip
 rename_i n
 match t,l,b with
 |[],_,b=>exact cw b
 |_::_::_,_,b=>exact cw b
 |[y],l,b=>
  unfold bu at b;dsimp only at b;cases q:h[n]? with
  |none=>rw[q]at b;cases b
  |some w=>
   rw[q]at b;cases w with
   |dct _=>exact cw b
   |dcH _=>exact cw b
   |lst m=>
    dsimp only at b
    by_cases c:m.length<sizeLine
    ·rw[WH c]at b;cases b;have⟨a,g,rfl,hn,r,i⟩:=Iz S rd q;have⟨u,rfl,p⟩:=rep1 l;have T:cV f H f (upd H a (.lst (g++[u]))):=cV.wrote S (WE hn);exact wC e s j H _ _ v us Q I o rs ⟨a,g,u,rfl,rfl,r,by rw[i.length];exact c,k _ _ ⟨f,T,S.wrote hn ⟨_,aQ,(i.snoc p).mono T.toCh⟩,.bg⟩⟩
    ·rw[WM c]at b;cases b
def Pw:GH X "list.pop" (rM X.K Au):=by
 intro c s i H x E v us Q I j rs hh;have⟨e,h,d,A,z,F,S,rd,l,b,k⟩:=hh;cases d <;> first |(exact cw b) |skip
 rename_i n
 match A,l,b with
 |_::_,_,b=>exact cw b
 |[],l,b=>
  unfold Au at b;dsimp only at b;cases q:h[n]? with
  |none=>rw[q]at b;cases b
  |some w=>
   rw[q]at b;cases w with
   |dct _=>exact cw b
   |dcH _=>exact cw b
   |lst C=>
    dsimp only at b;have⟨y,r,p⟩:=dX b;cases p;have⟨a,g,rfl,hn,t,f⟩:=Iz S rd q;cases l;have⟨u,o,m⟩:=f.got r;have T:cV e H e (upd H a (.lst g.dropLast)):=cV.wrote S (WE hn);exact Pr c s i H _ _ v us Q I j rs ⟨a,g,u,rfl,rfl,t,by rw[f.length];exact o,k _ _ ⟨e,T,S.wrote hn ⟨_,aQ,f.dropLast.mono T.toCh⟩,m.mono T.toCh⟩⟩
end Sm
namespace Sb
open L2 PyProof.Rows
open Builtin.SmallTypes (nextOf ownedTupleIsFree ownedTupleHandOut)
noncomputable def kn:Bool->String
 |true=>"list_iterator"
 |false=>"tuple_iterator"
def At(b:Bool)(h:Heap)(j l:Addr)(i:Nat):Prop:=∃o,h.get? j=some o/\o.cls=.type (kn b)/\o.data=.fields #[.ref l,.int i 0]
def Of(b:Bool)(h:Heap)(l:Addr)(a:Array Value):Prop:=match b with
 |true=>h.IsList l a
 |false=>h.IsTuple l a
def At.up(x:At b h j l i)(k:∀o,h.get? j=some o->a.get? j=some o):At b a j l i:=let⟨o,e,r⟩:=x;⟨o,k o e,r⟩
def At.lt(x:At b h j l i):j<h.objs.size:=let⟨_,e,_⟩:=x;WX e
theorem Of.data(x:Of b h l items):∃o n,h.get? l=some o/\o.data=.seq items n:=by
 cases b with
 |true=>have⟨o,e,_,n,d⟩:=(show h.IsList l items from x);exact⟨o,n,e,d⟩
 |false=>have⟨o,e,_,n,d⟩:=(show h.IsTuple l items from x);exact⟨o,n,e,d⟩
def Of.up(x:Of b h l items)(k:∀o,h.get? l=some o->a.get? l=some o):Of b a l items:=by
 cases b with
 |true=>have⟨o,e,r⟩:=(show h.IsList l items from x);exact⟨o,k o e,r⟩
 |false=>have⟨o,e,r⟩:=(show h.IsTuple l items from x);exact⟨o,k o e,r⟩
def tu(hj:At b s.heap j l i)(hl:Of b s.heap l items)(h:items[i]?=some x)(k:∀e,At b e j l (i+1)->Heap.SameBut j s.heap e->Q x {s with heap:=e}):wpAny (model P w) A (nextOf (.ref j)) Q E s:=by
 cases b with
 |true=>exact wpAny_nextOf_list_item (show s.heap.IsListIter j l i from hj) (show s.heap.IsList l items from hl) h k
 |false=>
  have d:s.heap.IsTupleIter j l i:=hj;have⟨o,a,g,c⟩:=d;have⟨n,m,_,p,f⟩:=(show s.heap.IsTuple l items from hl);unfold nextOf;apply Wz (Xz (name:=Str.ofString "__next__") (show s.TypeIs (.ref j) "tuple_iterator" from⟨o,a,g⟩) Zm
   (XE Zm (show s.TypeIs (.ref j) "tuple_iterator" from⟨o,a,g⟩) AbS ?_ (AbJ _)))
  show wpAny _ _ (field (.ref j) 0 >>=_) _ _ s;apply Wz (Xs a c (x:=.ref l) rfl ?_);show wpAny _ _ (if(Value.ref l==Value.none)=true then _ else _) _ _ s;rw[WM (show ¬((Value.ref l==Value.none)=true) by exact Xi)];show wpAny _ _ (field (.ref j) 1 >>=_) _ _ s;apply Wz (Xs a c (x:=.int i 0) rfl ?_);show wpAny _ _ (seqItems? (.ref l) >>=_) _ _ s;apply Wz (XT m f ?_);simp only[Xd,h];apply Wz (wpAny_setField a c (by simp) (WD ⟨x,rfl,WD (k _ ?_ (AaZ ..))⟩));exact⟨_,Yx _ a (Obj.isFreed_of_fields (Aab c _)),(Obj.cls_mapFields ..).trans g,by rw[Aab c];simp[rawInt]⟩
def Ap(hh:A.handled=none)(hj:At b s.heap j l i)(hl:Of b s.heap l items)(n:items[i]?=none)(k:∀f e,Heap.ExtBut j s.heap f->(∃o,f.get? e=some o/\o.cls=.type "StopIteration")->E (.ref e) {s with heap:=f}):wpAny (model P w) A (nextOf (.ref j)) Q E s:=by
 cases b with
 |true=>exact wpAny_nextOf_list_end hh (show s.heap.IsListIter j l i from hj) (show s.heap.IsList l items from hl) n k
 |false=>
  have d:s.heap.IsTupleIter j l i:=hj;have⟨o,c,p,h⟩:=d;have⟨r,q,_,t,g⟩:=(show s.heap.IsTuple l items from hl);unfold nextOf;apply Wz (Xz (name:=Str.ofString "__next__") (show s.TypeIs (.ref j) "tuple_iterator" from⟨o,c,p⟩) Zm
   (XE Zm (show s.TypeIs (.ref j) "tuple_iterator" from⟨o,c,p⟩) AbS ?_ (AbJ _)))
  show wpAny _ _ (field (.ref j) 0 >>=_) _ _ s;apply Wz (Xs c h (x:=.ref l) rfl ?_);show wpAny _ _ (if(Value.ref l==Value.none)=true then _ else _) _ _ s;rw[WM (show ¬((Value.ref l==Value.none)=true) by exact Xi)];show wpAny _ _ (field (.ref j) 1 >>=_) _ _ s;apply Wz (Xs c h (x:=.int i 0) rfl ?_);show wpAny _ _ (seqItems? (.ref l) >>=_) _ _ s;apply Wz (XT q g ?_);simp only[Xd,n];apply Wz (Yq (Wz (wpAny_setField c h (by simp) ?_)));show wpAny _ _ (newExc (.type "StopIteration") [] >>=_) _ _ _;apply Wz ?_;simp only[newExc,newTuple];apply Wz (XO ?_ (by size_fits));apply Wz (m:=firstArgMember _ _) (Abw (a:=Value.none) (by first |(simp only[firstArgMember];rfl) |rfl) ?_);apply XO ?_ (by size_fits);simp only[raiseNew];apply Wz (wpAny_handled ?_)
  first |rw[hh] |rw[show A.in1.handled=none from hh]
  apply Wz (WD (wpAny_throw (k _ _ (((AaZ ..).extBut.push _).push _) ⟨_,WZ _ rfl,rfl⟩)))
open Builtin.SmallTypes (nextOf ownedTupleIsFree ownedTupleHandOut)
variable {P:Program} {w:World} {A:Around} {E:Value->Shared->Prop} {s:Shared} {b c:Bool}
def IX(x:Of b s.heap l items)(k:Q (.ref s.heap.objs.size) {s with heap:=s.heap.push {cls:=.type (kn b),data:=.fields #[.ref l,.int 0 0]}}):wpAny (model P w) A (pyIter (.ref l)) Q E s:=by
 cases b with
 |true=>exact Zj (show s.heap.IsList l items from x) k
 |false=>exact ZD (show s.heap.IsTuple l items from x) k
def Gb{e j l:Addr}{i:Nat}{R:Array Value}{x old:Value}{Q:Option Value->Shared->Prop}(hE:IsEnum s.heap e j i old)(hj:At b s.heap j l i)(hl:Of b s.heap l R)(hx:R[i]?=some x)(ne:e≠j)
  (k:∀h',IsEnumOut h' e j ((i:Int)+1) x s.heap.objs.size->At b h' j l (i+1)->h'.get? s.heap.objs.size=some {cls:=.type "tuple",data:=.seq #[.int i s.toks,x]}->h'.objs.size=s.heap.objs.size+1->
   (∀a o,a≠e->a≠j->s.heap.get? a=some o->h'.get? a=some o)->Q (some (.ref s.heap.objs.size)) {s with heap:=h',toks:=s.toks+1}):wpAny (model P w) A (pyNext (.ref e)) Q E s:=by
 have hT:s.TypeIs (.ref e) "enumerate":=⟨_,hE,rfl⟩;unfold pyNext;apply Wz (Zd (Xz (name:=Str.ofString "__next__") hT Zf (XE Zf hT F.entry_enumerate_next ?_ (F.args_enumerate_next_1 _))));have⟨hp,g,d,N,os⟩:=s;show wpAny _ _ (field (.ref e) 2 >>=_) _ _ _;apply Wz (Xs hE rfl (x:=.ref j) rfl (Wz (tu hj hl hx λf X t=>?_)));replace t:Heap.SameBut j hp f:=t;have M:IsEnum f e j i old:=(t.2 e ne).trans hE;show wpAny _ _ (field (.ref e) 3 >>=_) _ _ ⟨f,g,d,N,os⟩;apply Wz (Xs M rfl (x:=rawInt i) rfl ?_);show wpAny _ _ (field (.ref e) 4 >>=_) _ _ ⟨f,g,d,N,os⟩;apply Wz (Xs M rfl (x:=.none) rfl ?_);show wpAny _ _ (mkInt i >>=_) _ _ ⟨f,g,d,N,os⟩;apply Wz (wpAny_mkInt ?_);show wpAny _ _ (setField (.ref e) 3 (rawInt ((i:Int)+1)) >>=_) _ _ ⟨f,g,d,N+1,os⟩;apply Wz (wpAny_setField_rec M (by simp) λu L r=>?_);replace r:Heap.SameBut e f u:=r;replace L:IsEnum u e j ((i:Int)+1) old:=L;show wpAny _ _ (setField (.ref e) 4 .none >>=_) _ _ ⟨u,g,d,N+1,os⟩;apply Wz (wpAny_setField_rec L (by simp) λm J p=>?_);replace p:Heap.SameBut e u m:=p;replace J:IsEnum m e j ((i:Int)+1) old:=J;show wpAny _ _ (newTuple [.int i N,x] >>=_) _ _ ⟨m,g,d,N+1,os⟩;apply Wz (Z9 ?_);have I:IsEnum (m.push {cls:=.type "tuple",data:=.seq #[.int i N,x]}) e j ((i:Int)+1) old:=WC _ J;generalize n:m.push {cls:=.type "tuple",data:=.seq #[.int i N,x]}=h at I;have sz:m.objs.size=hp.objs.size:=by rw[p.1,r.1,t.1]
 have lte:e<hp.objs.size:=WX hE;have tp:h.get? hp.objs.size=some {cls:=.type "tuple",data:=.seq #[.int i N,x]}:=by rw[<-n,<-sz];exact WZ _ rfl
 have Z:h.objs.size=hp.objs.size+1:=by rw[<-n,XI,sz]
 have Y:∀a o,a≠e->a≠j->hp.get? a=some o->h.get? a=some o:=λa o z1 z2 q=>by
  rw[<-n];exact WC _ (p.extBut a o z1 (r.extBut a o z1 (t.extBut a o z2 q)))
 have j₄:At b h j l (i+1):=X.up λo q=>by rw[<-n];exact WC _ (p.extBut j o (XW ne) (r.extBut j o (XW ne) q))
 show wpAny _ _ (ownedTupleIsFree (.ref e) >>=_) _ _ ⟨h,g,d,N+1,os⟩;rw[sz];clear n J p L r M t X sz m u f;apply Wz ?_;unfold ownedTupleIsFree;apply Wz (Xs I rfl (x:=.none) rfl (WD ?_));simp only[Ze];apply Wz (Yq (Wz (Xs I rfl (x:=old) rfl (Wz (wpAny_setField_rec I (by simp) λH U C=>?_)))));replace C:Heap.SameBut e h H:=C;replace U:IsEnum H e j ((i:Int)+1) x:=U;show wpAny _ _ (ownedTupleHandOut (.ref e) (.ref hp.objs.size) >>=_) _ _ ⟨H,g,d,N+1,os⟩;apply Wz ?_;unfold ownedTupleHandOut;apply Wz (wpAny_setField_rec U (by simp) λO T y=>?_);replace y:Heap.SameBut e H O:=y;replace T:IsEnumOut O e j ((i:Int)+1) x hp.objs.size:=T;apply wpAny_setField_rec T (by simp) λG S v=>?_;replace v:Heap.SameBut e O G:=v;replace S:IsEnumOut G e j ((i:Int)+1) x hp.objs.size:=S;have up:∀a o,a≠e->h.get? a=some o->G.get? a=some o:=λa o z q=>v.extBut a o z (y.extBut a o z (C.extBut a o z q));apply Wz (Aal (WD ⟨_,rfl,WD (k G S (j₄.up λo q=>up j o (XW ne) q) (up _ _ (YI lte) tp) ?_ λa o z1 z2 q=>up a o z1 (Y a o z1 z2 q))⟩));rw[v.1,y.1,C.1,Z]
def Jv{e j l:Addr}{i:Nat}{a:Array Value}{old:Value}{Q:Option Value->Shared->Prop}(hh:A.handled=none)(h:IsEnum s.heap e j i old)(hj:At b s.heap j l i)(hl:Of b s.heap l a)(m:a[i]?=none)
  (k:∀f,Heap.ExtBut j s.heap f->Q none {s with heap:=f}):wpAny (model P w) A (pyNext (.ref e)) Q E s:=by
 have g:s.TypeIs (.ref e) "enumerate":=⟨_,h,rfl⟩;unfold pyNext;apply Wz (Zd (Xz (name:=Str.ofString "__next__") g Zf (XE Zf g F.entry_enumerate_next ?_ (F.args_enumerate_next_1 _))));show wpAny _ _ (field (.ref e) 2 >>=_) _ _ _;apply Wz (Xs h rfl (x:=.ref j) rfl (Wz (Ap hh hj hl m λf y d u9=>?_)));have⟨o,n,p⟩:=u9;exact Wz (YA (T:="StopIteration") (b:=true) ⟨o,n,p⟩ Zk (WD (k _ d)))
def Ga(x:Of b s.heap l items)(k:∀e,IsEnum e (s.heap.objs.size+1) s.heap.objs.size 0 .none->At b e s.heap.objs.size l 0->e.objs.size=s.heap.objs.size+2->(∀a o,s.heap.get? a=some o->e.get? a=some o)->Q (.ref (s.heap.objs.size+1)) {s with heap:=e}):
  wpAny (model P w) A (call (.type "enumerate") [.ref l]) Q E s:=by
 cases b with
 |true=>exact call_enumerate_list (show s.heap.IsList l items from x) k
 |false=>
  have p:PySem.Meets (Builtin.«enumerate.__new__» ⟨[.type "enumerate",.ref l],[]⟩) (λ_ R s=>s.heap.IsTuple l items/\
    R (.ok (.ret (.ref (s.heap.push {cls:=.type "tuple_iterator",data:=.fields #[.ref l,.int 0 0]}).objs.size)))
     {s with heap:=(s.heap.push {cls:=.type "tuple_iterator",data:=.fields #[.ref l,.int 0 0]}).push {cls:=.type "enumerate",data:=.fields #[.none,.bool false,.ref s.heap.objs.size,rawInt 0,.none,.none]}}):=
   .of_wp λprog w A R s h=>by
    have⟨hp,g,d,m,os⟩:=s;have⟨hl,h⟩:=h;have n:=sub_enumerate;have f:Heap.IsTuple (Shared.heap ⟨hp,g,d,m,os⟩) l items:=hl;have⟨o0,t,v,r,u⟩:=id f
    wp_walk
    apply wpAny_stack_any λst=>WD ?_
    split
    ·rename_i c _ _ _ _ _;cases(c==Value.type "enumerate")
     ·wp_walk using ZD f
      exact⟨_,rfl,h⟩
     ·wp_walk using ZD f
      exact⟨_,rfl,h⟩
    ·wp_walk using ZD f
     exact⟨_,rfl,h⟩
  apply callType_new F.called_enumerate {} (F.typeCall_enumerate_1 _) (F.newCall_enumerate_1 _) (λobj=>F.args_object_init_2 obj _) F.entry_enumerate_new p ⟨x,?_⟩;have i:(s.heap.push {cls:=.type "tuple_iterator",data:=.fields #[.ref l,.int 0 0]}).objs.size=s.heap.objs.size+1:=XI ..;show _/\_;rw[i];have j:IsEnum ((s.heap.push {cls:=.type "tuple_iterator",data:=.fields #[.ref l,.int 0 0]}).push
    {cls:=.type "enumerate",data:=.fields #[.none,.bool false,.ref s.heap.objs.size,rawInt 0,.none,.none]}) (s.heap.objs.size+1) s.heap.objs.size 0 .none:=by
   have q:=WZ (s.heap.push {cls:=.type "tuple_iterator",data:=.fields #[.ref l,.int 0 0]}) (o:={cls:=.type "enumerate",data:=.fields #[.none,.bool false,.ref s.heap.objs.size,rawInt 0,.none,.none]}) rfl;rw[i]at q;exact q
  apply⟨⟨_,j,rfl⟩,k _ j ⟨_,WC _ (WZ _ rfl),rfl,rfl⟩ (by rw[XI,i]) λa o q=>WC _ (WC _ q)⟩
end Sb
namespace Sb
open L2 PyProof.Rows
open Builtin.SmallTypes (nextOf ownedTupleIsFree ownedTupleHandOut)
structure Zp(z T U p q l m:Addr):Prop where
 Tz:T≠z
 Uz:U≠z
 pz:p≠z
 qz:q≠z
 TU:T≠U
 Tp:T≠p
 Tq:T≠q
 Up:U≠p
 Uq:U≠q
 pq:p≠q
 lz:l≠z
 lU:l≠U
 lp:l≠p
 lq:l≠q
 mz:m≠z
 mU:m≠U
 mp:m≠p
 mq:m≠q
def zw (D:Zp z T U p q l m) (X:IsZip s.heap z T U .none) (hT:IsPair s.heap T (.ref p) (.ref q)) (hU:IsPair s.heap U u v) (h1:At b s.heap p l i) (h2:At c s.heap q m i) (hl:Of b s.heap l xs) (hm:Of c s.heap m ys) (hx:xs[i]?=some x) (hy:ys[i]?=some y) (k:∀M,IsZip M z T U (rawInt s.heap.objs.size)->IsPair M U x y->At b M p l (i+1)->At c M q m (i+1)->IsPair M s.heap.objs.size x y->M.objs.size=s.heap.objs.size+1->
   (∀a o,a≠z->a≠U->a≠p->a≠q->s.heap.get? a=some o->M.get? a=some o)->Q (some (.ref s.heap.objs.size)) {s with heap:=M}):wpAny (model P w) A (pyNext (.ref z)) Q E s:=by
 have ty:s.TypeIs (.ref z) "zip":=⟨_,X,rfl⟩;unfold pyNext;apply Wz (Zd (Xz (name:=Str.ofString "__next__") ty YV (XE YV ty Aau ?_ (Aan _))));show wpAny _ _ (field (.ref z) 2 >>=_) _ _ _;apply Wz (Xs X rfl (x:=.bool false) rfl ?_);show wpAny _ _ (field (.ref z) 3 >>=_) _ _ _;apply Wz (Xs X rfl (x:=.ref T) rfl (Wz (XT hT rfl ?_)));show wpAny _ _ (ownedTupleIsFree (.ref z) >>=_) _ _ _;apply Wz ?_;unfold ownedTupleIsFree;apply Wz (Xs X rfl (x:=.none) rfl (WD ?_));simp only[Ze];apply Wz (Yq (Wz (Xs X rfl (x:=.ref U) rfl (Wz (wpAny_setField_rec X (by simp) λk₁ G f=>?_)))));replace G:IsZip k₁ z T U .ellipsis:=G;apply Wz ?_;simp only[List.zipIdx_cons,List.zipIdx_nil,ZO,AaA];apply Wz (Wz (Aa1 ?_));show wpAny _ _ (nextOf (.ref p) >>=_) _ _ _;apply Wz (tu (h1.up λo e=>f.extBut _ o D.pz e) (hl.up λo e=>f.extBut _ o D.lz e) hx λk₂ p₂ h=>WD ?_);have O:IsPair k₂ U u v:=h.extBut _ _ D.Up (f.extBut _ _ D.Uz hU);apply Wz (XT O rfl (Wz (AaR O λk₃ J g=>Wz (Aal (WD ?_)))));replace J:IsPair k₃ U x v:=J;apply Wz (Wz (Aa1 ?_));show wpAny _ _ (nextOf (.ref q) >>=_) _ _ _;apply Wz (tu (h2.up λo e=>g.extBut _ o D.Uq.symm (h.extBut _ o D.pq.symm (f.extBut _ o D.qz e))) (hm.up λo e=>g.extBut _ o D.mU (h.extBut _ o D.mp (f.extBut _ o D.mz e))) hy λk₄ q₄ n=>WD ?_);have N:IsPair k₄ U x v:=n.extBut _ _ D.Uq J;apply Wz (XT N rfl (Wz (AaR N λd C j=>Wz (Aal (WD (WD ?_))))));replace C:IsPair d U x y:=C;apply Wz (XT C rfl (Wz (Z9 ?_)));have sz:d.objs.size=s.heap.objs.size:=by rw[j.1,n.1,g.1,h.1,f.1]
 have L:IsZip d z T U .ellipsis:=j.extBut _ _ D.Uz.symm (n.extBut _ _ D.qz.symm (g.extBut _ _ D.Uz.symm (h.extBut _ _ D.pz.symm G)));have S:∀a o,a≠z->a≠U->a≠p->a≠q->s.heap.get? a=some o->d.get? a=some o:=λa o a1 a2 a3 a4 e=>j.extBut _ _ a2 (n.extBut _ _ a4 (g.extBut _ _ a2 (h.extBut _ _ a3 (f.extBut _ _ a1 e))));have p₅:At b d p l (i+1):=p₂.up λo e=>j.extBut _ o D.Up.symm (n.extBut _ o D.pq (g.extBut _ o D.Up.symm e));have q₅:At c d q m (i+1):=q₄.up λo e=>j.extBut _ o D.Uq.symm e;have Z:z<d.objs.size:=WX L;show wpAny _ _ (ownedTupleHandOut (.ref z) (.ref d.objs.size) >>=_) _ _ _;apply Wz ?_;unfold ownedTupleHandOut;have Y:IsZip (d.push {cls:=.type "tuple",data:=.seq #[x,y]}) z T U .ellipsis:=WC _ L;apply Wz (wpAny_setField_rec Y (by simp) λk₇ F I=>?_);replace F:IsZip k₇ z T U (rawInt d.objs.size):=F;apply wpAny_setField_rec F (by simp) λr t H=>?_;replace t:IsZip r z T U (rawInt d.objs.size):=t;have up:∀a o,a≠z->d.get? a=some o->r.get? a=some o:=λa o a1 e=>H.extBut _ _ a1 (I.extBut _ _ a1 (WC _ e));have R:IsPair r d.objs.size x y:=H.extBut _ _ (YI Z) (I.extBut _ _ (YI Z) (WZ _ rfl));have s8:r.objs.size=d.objs.size+1:=by rw[H.1,I.1,XI]
 rw[sz]at t R s8;apply WD ⟨_,rfl,WD ?_⟩;show Q (some (.ref d.objs.size)) _;rw[sz];exact k r t (up _ _ D.Uz C) (p₅.up λo e=>up _ o D.pz e) (q₅.up λo e=>up _ o D.qz e) R s8 λa o a1 a2 a3 a4 e=>up a o a1 (S a o a1 a2 a3 a4 e)
def C0(hh:A.handled=none)(D:Zp z T U p q l m)(J:IsZip s.heap z T U .none)(hT:IsPair s.heap T (.ref p) (.ref q))(hU:IsPair s.heap U u v)(h1:At b s.heap p l i)(h2:At c s.heap q m i)(hl:Of b s.heap l xs)(hm:Of c s.heap m X)(he:xs[i]?=none\/X[i]?=none)(k:∀H,(∀a o,a≠z->a≠U->a≠p->a≠q->s.heap.get? a=some o->H.get? a=some o)->Q none {s with heap:=H}):wpAny (model P w) A (pyNext (.ref z)) Q E s:=by
 have ty:s.TypeIs (.ref z) "zip":=⟨_,J,rfl⟩;unfold pyNext;apply Wz (Zd (Xz (name:=Str.ofString "__next__") ty YV (XE YV ty Aau ?_ (Aan _))));have fin:∀H e,(∀a o,a≠z->a≠U->a≠p->a≠q->s.heap.get? a=some o->H.get? a=some o)->(∃o,H.get? e=some o/\o.cls=.type "StopIteration")->
   (λe s'=>wpAny (model P w) A (isInstance e (.type "StopIteration")) (λr L=>(if r=true then Q none L else E e L)) E s') (.ref e) {s with heap:=H}:=λH e up ⟨o,ho,hc⟩=>
  YA (T:="StopIteration") (b:=true) ⟨o,ho,hc⟩ Zk (by rw[WH rfl];exact k H up)
 show wpAny _ _ (field (.ref z) 2 >>=_) _ _ _;apply Wz (Xs J rfl (x:=.bool false) rfl ?_);show wpAny _ _ (field (.ref z) 3 >>=_) _ _ _;apply Wz (Xs J rfl (x:=.ref T) rfl (Wz (XT hT rfl ?_)));show wpAny _ _ (ownedTupleIsFree (.ref z) >>=_) _ _ _;apply Wz ?_;unfold ownedTupleIsFree;apply Wz (Xs J rfl (x:=.none) rfl (WD ?_));simp only[Ze];apply Wz (Yq (Wz (Xs J rfl (x:=.ref U) rfl (Wz (wpAny_setField_rec J (by simp) λO j d=>?_)))));replace j:IsZip O z T U .ellipsis:=j;apply Wz ?_;simp only[List.zipIdx_cons,List.zipIdx_nil,ZO,AaA];apply Wz (Wz (Aa1 ?_));show wpAny _ _ (nextOf (.ref p) >>=_) _ _ _;cases ex:xs[i]? with
 |none=>
  apply Wz (Ap hh (h1.up λo e=>d.extBut _ o D.pz e) (hl.up λo e=>d.extBut _ o D.lz e) ex λn e f u9=>?_);have⟨R,h,t⟩:=u9;have C:IsZip n z T U .ellipsis:=f _ _ D.pz.symm j;have S:e≠z:=λr=>by subst r;rw[C]at h;cases h;simp at t
  apply wpAny_setField_rec C (by simp) λN _ g=>?_;apply Wz (YA (T:="StopIteration") (b:=true) ⟨R,g.extBut _ _ S h,t⟩ Zk (WD (k _ λa o a1 _ a3 _ r=>g.extBut _ _ a1 (f _ _ a3 (d.extBut _ _ a1 r)))))
 |some x=>
  have ey:X[i]?=none:=by rcases he with r |r;rw[ex]at r;cases r;exact r
  apply Wz (tu (h1.up λo e=>d.extBut _ o D.pz e) (hl.up λo e=>d.extBut _ o D.lz e) ex λn Y f=>WD ?_);have I:IsPair n U u v:=f.extBut _ _ D.Up (d.extBut _ _ D.Uz hU);apply Wz (XT I rfl (Wz (AaR I λN U₃ g=>Wz (Aal (WD ?_)))));apply Wz (Wz (Aa1 ?_));show wpAny _ _ (nextOf (.ref q) >>=_) _ _ _;apply Wz (Ap hh (h2.up λo e=>g.extBut _ o D.Uq.symm (f.extBut _ o D.pq.symm (d.extBut _ o D.qz e))) (hm.up λo e=>g.extBut _ o D.mU (f.extBut _ o D.mp (d.extBut _ o D.mz e))) ey λM e G u9=>?_);have⟨R,h,t⟩:=u9;have y:IsZip M z T U .ellipsis:=G _ _ D.qz.symm (g.extBut _ _ D.Uz.symm (f.extBut _ _ D.pz.symm j));have S:e≠z:=λr=>by subst r;rw[y]at h;cases h;simp at t
  apply wpAny_setField_rec y (by simp) λZ _ F=>?_;apply Wz (YA (T:="StopIteration") (b:=true) ⟨R,F.extBut _ _ S h,t⟩ Zk (WD (k _ λa o a1 a2 a3 a4 r=>F.extBut _ _ a1 (G _ _ a4 (g.extBut _ _ a2 (f.extBut _ _ a3 (d.extBut _ _ a1 r)))))))
abbrev g1(b:Bool)(h:Heap)(l:Addr):Heap:=h.push {cls:=.type (kn b),data:=.fields #[.ref l,.int 0 0]}
abbrev g2(b c:Bool)(h:Heap)(l m:Addr):Heap:=(g1 b h l).push {cls:=.type (kn c),data:=.fields #[.ref m,.int 0 0]}
abbrev g3(b c:Bool)(h:Heap)(l m:Addr):Heap:=(g2 b c h l m).push {cls:=.type "tuple",data:=.seq #[.ref h.objs.size,.ref (g1 b h l).objs.size]}
abbrev g4(b c:Bool)(h:Heap)(l m:Addr):Heap:=(g3 b c h l m).push {cls:=.type "tuple",data:=.seq #[.none,.none]}
abbrev g5(b c:Bool)(h:Heap)(l m:Addr):Heap:=(g4 b c h l m).push {cls:=.type "zip",data:=.fields #[.none,.bool false,.bool false,.ref (g2 b c h l m).objs.size,.ref (g3 b c h l m).objs.size]}
def Kv(b c:Bool)(l m:Addr)(f a:Array Value):PySem.Meets (Builtin.«zip.__new__» ⟨[.type "zip",.ref l,.ref m],[]⟩) (λ_ R s=>Of b s.heap l f/\Of c s.heap m a/\R (.ok (.ret (.ref (g4 b c s.heap l m).objs.size))) {s with heap:=g5 b c s.heap l m}):=
 .of_wp λprog w A R s h=>by
  have⟨hp,g,d,i,os⟩:=s;have⟨hl,hm,h⟩:=h;have j:=sub_zip;have k:Of b (Shared.heap ⟨hp,g,d,i,os⟩) l f:=hl;have L2:Of c (Shared.heap ⟨hp.push {cls:=.type (kn b),data:=.fields #[.ref l,.int 0 0]},g,d,i,os⟩) m a:=hm.up λo e=>WC _ e
  wp_walk using IX k,IX L2
  exact⟨_,rfl,h⟩
def zv (hl:Of b s.heap l xs) (hm:Of c s.heap m r) (k:∀d,IsZip d (s.heap.objs.size+4) (s.heap.objs.size+2) (s.heap.objs.size+3) .none->IsPair d (s.heap.objs.size+2) (.ref s.heap.objs.size) (.ref (s.heap.objs.size+1))->IsPair d (s.heap.objs.size+3) .none .none->
   At b d s.heap.objs.size l 0->At c d (s.heap.objs.size+1) m 0->d.objs.size=s.heap.objs.size+5->(∀a o,s.heap.get? a=some o->d.get? a=some o)->Q (.ref (s.heap.objs.size+4)) {s with heap:=d}):
  wpAny (model P w) A (call (.type "zip") [.ref l,.ref m]) Q E s:=by
 apply callType_new F.called_zip {} (F.typeCall_zip_2 _ _) (F.newCall_zip_2 _ _) (λobj=>F.args_object_init_3 obj _ _) F.entry_zip_new (Kv b c l m xs r) ⟨hl,hm,?_⟩;have h:(g1 b s.heap l).objs.size=s.heap.objs.size+1:=XI ..;have g:(g2 b c s.heap l m).objs.size=s.heap.objs.size+2:=by rw[XI,h]
 have f:(g3 b c s.heap l m).objs.size=s.heap.objs.size+3:=by rw[XI,g]
 have e:(g4 b c s.heap l m).objs.size=s.heap.objs.size+4:=by rw[XI,f]
 have q:(g5 b c s.heap l m).objs.size=s.heap.objs.size+5:=by rw[XI,e]
 have i:(g5 b c s.heap l m).get? (g4 b c s.heap l m).objs.size=some _:=WZ _ rfl;have j:(g5 b c s.heap l m).get? (g3 b c s.heap l m).objs.size=some _:=WC _ (WZ _ rfl);have n:(g5 b c s.heap l m).get? (g2 b c s.heap l m).objs.size=some _:=WC _ (WC _ (WZ _ rfl));have p:(g5 b c s.heap l m).get? (g1 b s.heap l).objs.size=some _:=WC _ (WC _ (WC _ (WZ _ rfl)));have t:(g5 b c s.heap l m).get? s.heap.objs.size=some _:=WC _ (WC _ (WC _ (WC _ (WZ _ rfl))));show _/\_;rw[g,f,e]at i;rw[h,g]at n;rw[f]at j;rw[h]at p;rw[e];exact⟨⟨_,i,rfl⟩,k _ i n j ⟨_,t,rfl,rfl⟩ ⟨_,p,rfl,rfl⟩ q λa o x=>WC _ (WC _ (WC _ (WC _ (WC _ x))))⟩
section
variable {X:Cx} {pins:List (Addr×Obj)} {σ:L2.St} {H:Hp} {s:Shared} {h':Heap} {fp:List Addr}
def qP(I:L2.Inv X pins σ H s)(k:∀b o,b∉fp->s.heap.get? b=some o->h'.get? b=some o)(f:∀b∈fp,gd X pins H b):L2.Inv X pins σ H {s with heap:=h',toks:=t'}:=by
 have d:∀b u,H b=some u->b∉fp:=λb u e z=>by rw[(f b z).1]at e;cases e
 have g:X.env.locals∉fp:=λz=>(f _ z).2.1 rfl;apply I.step (g':=s.gens) (d':=s.drawn) (ch:=fp) (λb i=>?_) (λb o _ _ a e _=>k b o a e) (λb o _ _ a e _=>⟨o.slots,k b o a e⟩) (λ_ _ _ _ n=>n)
  (λb o a e=>⟨o,k b o a e⟩) (λ_ _ e=>e) (λ_ _ _ e=>e) (λb x e=>⟨#[],by rw[e];simp⟩) (λm hm=>?_) (λb u e=>?_) I.bare
 ·have⟨f0,t,y,p,l,j⟩:=f b i;exact⟨p,t,l,j⟩
 ·have⟨o,es,w,h,r⟩:=hm;exact⟨o,es,w,k _ o g h,r⟩
 ·apply(I.a9 b u e).xB (λc v a q=>k c v ?_ q) (λ_ q=>q) λ_ _ q=>q;rcases a with z |z
  ·rw[z];exact d b u e
  ·exact d c _ z
def Dd(I:L2.Inv X pins σ H s)(k:∀b o,b∉fp->s.heap.get? b=some o->h'.get? b=some o)(g:∀b∈fp,gd X pins H b)(l:∀b∈fp,b<s.heap.objs.size)(ht:h'.get? s.heap.objs.size=some {cls:=.type "tuple",data:=.seq us.toArray n})(r:Vals vs us)(i:vs.length<=sizeLine):L2.Inv X pins σ (upd H s.heap.objs.size (.tup vs)) {s with heap:=h',toks:=t'}:=by
 have d:∀b u,H b=some u->b∉fp:=λb u e z=>by rw[(g b z).1]at e;cases e
 have h:X.env.locals∉fp:=λz=>(g _ z).2.1 rfl;have hp:H s.heap.objs.size=none:=I.a9.fresh (WJ _);have np:∀b o,s.heap.get? b=some o->b≠s.heap.objs.size:=λb o e=>Xa (WX e);have f:∀b u,H b=some u->b≠s.heap.objs.size:=λb u e=>aO e hp;apply I.step (g':=s.gens) (d':=s.drawn) (ch:=fp) (λb p=>?_) (λb o _ _ a e _=>k b o a e) (λb o _ _ a e _=>⟨o.slots,k b o a e⟩) (λb o _ e n=>by rw[aE (np b o e)];exact n)
  (λb o a e=>⟨o,k b o a e⟩) (λb _ e=>by rw[aE (f b _ e)];exact e) (λb _ _ e=>by rw[aE (f b _ e)];exact e) (λb E e=>⟨#[],by rw[aE (f b _ e),e];simp⟩) (λm hm=>?_) (λb u e=>?_) I.bare
 ·have⟨f0,A,F,x,w,t⟩:=g b p;exact⟨x,A,w,t⟩
 ·have⟨o,es,C,j,q⟩:=hm;exact⟨o,es,C,k _ o h j,q⟩
 ·by_cases z:b=s.heap.objs.size
  ·subst z;rw[aQ]at e;cases e;exact⟨i,us,r,⟨_,ht,rfl,⟨n,rfl⟩,rfl⟩⟩
  ·rw[aE z]at e;apply(I.a9 b u e).xB (λc v a q=>k c v ?_ q) (λc q=>?_) λc u q=>?_
   ·rcases a with y |y
    ·rw[y];exact d b u e
    ·exact d c _ y
   ·rw[aE (f _ _ q)];exact q
   ·rw[aE (f _ _ q)];exact q
end
def kz(b:Bool)(K:FR)(H:Hp)(l:Addr)(a:List V):Prop:=match b with
 |true=>eV K H l a
 |false=>iJ K H l a
def kz.of(I:L2.Inv X pins σ H s)(q:kz b X.K H l xs):∃a:List Value,Vals xs a/\Of b s.heap l a.toArray:=by
 cases b with
 |true=>have⟨a,r,p,_⟩:=I.list (show eV X.K H l xs from q);exact⟨a,r,p.isList⟩
 |false=>have⟨a,r,p,_⟩:=I.tuple (show iJ X.K H l xs from q);exact⟨a,r,p⟩
def kz.inj(I:L2.Inv X pins σ H s)(q:kz b X.K H l xs)(a:kz b X.K H l c):xs=c:=by
 cases b with
 |true=>exact I.AD q a
 |false=>exact I.vL q a
def V6(b:Bool)(K:FR)(l:Addr):It:=
 ⟨λi H=>∃a x,kz b K H l a/\a[i]?=some x,λi H x c=>∃p y,H p=none/\x=.ref p/\c=upd H p (.tup [.int (i:Int),y])/\∀a,kz b K H l a->a[i]?=some y,λi H=>∃a,kz b K H l a/\a.length<=i⟩
def V5(b c:Bool)(K:FR)(l m:Addr):It:=
 ⟨λi H=>∃a d x y,kz b K H l a/\kz c K H m d/\a[i]?=some x/\d[i]?=some y,
  λi H x e=>∃p u v,H p=none/\x=.ref p/\e=upd H p (.tup [u,v])/\(∀a,kz b K H l a->a[i]?=some u)/\∀a,kz c K H m a->a[i]?=some v,
  λi H=>∃a d,kz b K H l a/\kz c K H m d/\(a.length<=i\/d.length<=i)⟩
def ET{P:Program}{w:World}{K:FR}{es:List Expr}{k0:Nat}{pos:Pos}(b:Bool)(l e j:Addr)(ne:e≠j):Turn P w K (.Tuple es k0 pos) (V6 b K l) [e,j] e (λi h=>(∃old,IsEnum h e j i old)/\At b h j l i) where
 mem:=by simp
 obj:=λi h st a c=>by
  obtain⟨⟨old,d⟩,o,m,_,d2⟩:=st;simp at c;rcases c with rfl |rfl
  ·exact⟨_,d,λv z=>by cases z⟩
  ·exact⟨o,m,λv z=>by rw[d2]at z;cases z⟩
 keep:=λi h h' ⟨⟨old,d⟩,m⟩ k=>⟨⟨old,k e (by simp) _ d⟩,m.up λo q=>k j (by simp) o q⟩
 item:=by
  intro X N J R T i g s Y H E I y st L;subst N J R;have⟨Z,x,t,G⟩:=L;obtain⟨⟨old,d⟩,m⟩:=st;have⟨C,rv,O⟩:=t.of I;have⟨u,hu,ru⟩:=rv.get G;have p:∀a∈[e,j],a<s.heap.objs.size:=λa c=>by
   simp at c;rcases c with rfl |rfl
   ·exact WX d
   ·exact m.lt
  apply Gb d m O (x:=u) (by simpa using hu) ne λh' a1 a2 a3 a4 a5=>⟨_,rfl,wpAny_letOwnedTupleGo_enum a1 λS b1 U=>?_⟩;have hp:H s.heap.objs.size=none:=I.a9.fresh (WJ _);have I1:=Dd (t':=s.toks+1) (vs:=[.int (i:Int),x]) (us:=[.int i s.toks,u]) (n:=0) I (λa o c q=>a5 a o (λz=>c (by simp[z])) (λz=>c (by simp[z])) q) y p a3 (.cons ⟨_,rfl⟩ (.cons ru .nil)) (show 2<=sizeLine by decide);have r:∀a∈[e,j],gd X g (upd H s.heap.objs.size (.tup [.int (i:Int),x])) a:=λa c=>by
   have⟨f0,f⟩:=y a c;exact⟨by rw[aE (Xa (p a c))];exact f0,f⟩
  have I2:=qP (t':=s.toks+1) I1 (h':=S) (λa o c q=>U.extBut a o (λz=>c (by simp[z])) q) r;exact⟨.ref s.heap.objs.size,_,I2,rfl,⟨_,x,hp,rfl,rfl,λys hy=>by rw[hy.inj I t];exact G⟩,⟨⟨_,by simpa using b1⟩,a2.up λo q=>U.extBut j o (XW ne) q⟩,λa c=>(r a c).1⟩
 done:=by
  intro X N J R T i g s Y H E I y st L;subst N J R;have⟨Z,t,G⟩:=L;obtain⟨⟨old,d⟩,m⟩:=st;have⟨C,rv,O⟩:=t.of I;have hl:=rv.length;exact Jv (I.ok.hd T) d m O (by simp;lia) λh' eb=>⟨rfl,qP (t':=s.toks) I (λa o c q=>eb a o (λz=>c (by simp[z])) q) y⟩
 self:=λA i s Q E ⟨⟨old,d⟩,_⟩ q=>by
  have M:s.TypeIs (.ref e) "enumerate":=⟨_,d,rfl⟩;apply wpAny_pyIter_slot M F.slot_enumerate_iter (XE F.slot_enumerate_iter M F.entry_enumerate_iter ?_ (F.args_enumerate_iter_1 _));show wpAny _ _ (ret (.ref e)) _ _ s;exact WD ⟨_,rfl,"enumerate",_,M,Zf.lookup,q⟩
def GQ{P:Program}{w:World}{K:FR}{es:List Expr}{k0:Nat}{pos:Pos}(b c:Bool)(z T U p q l m:Addr)(D:Zp z T U p q l m):
  Turn P w K (.Tuple es k0 pos) (V5 b c K l m) [z,T,U,p,q] z (λi h=>IsZip h z T U .none/\IsPair h T (.ref p) (.ref q)/\(∃u v,IsPair h U u v)/\At b h p l i/\At c h q m i) where
 mem:=by simp
 obj:=λi h st a d=>by
  obtain⟨L,t,⟨u,v,J⟩,⟨o4,G,_,d4⟩,⟨o5,F,_,d5⟩⟩:=st;simp at d;rcases d with rfl |rfl |rfl |rfl |rfl
  ·exact⟨_,L,λv z=>by cases z⟩
  ·exact⟨_,t,λv z=>by cases z⟩
  ·exact⟨_,J,λv z=>by cases z⟩
  ·exact⟨o4,G,λv z=>by rw[d4]at z;cases z⟩
  ·exact⟨o5,F,λv z=>by rw[d5]at z;cases z⟩
 keep:=λi h h' ⟨L,t,⟨u,v,J⟩,G,F⟩ k=>⟨k z (by simp) _ L,k T (by simp) _ t,⟨u,v,k U (by simp) _ J⟩,G.up λo e=>k p (by simp) o e,F.up λo e=>k q (by simp) o e⟩
 item:=by
  intro X hP hw hK hc i C s σ H E I hf st hg;subst hP hw hK;have⟨xs,ys,x,y,j,g,hx,hy⟩:=hg;obtain⟨L,t,⟨u,v,J⟩,G,F⟩:=st;have⟨is1,N,R⟩:=j.of I;have⟨is2,M,O⟩:=g.of I;have⟨u1,hu1,ru1⟩:=N.get hx;have⟨u2,hu2,ru2⟩:=M.get hy;have S:∀a∈[z,T,U,p,q],a<s.heap.objs.size:=λa d=>by
   simp at d;rcases d with rfl |rfl |rfl |rfl |rfl
   ·exact WX L
   ·exact WX t
   ·exact WX J
   ·exact G.lt
   ·exact F.lt
  apply zw D L t J G F R O (x:=u1) (y:=u2) (by simpa using hu1) (by simpa using hu2) λh' a1 a2 a3 a4 a5 a6 a7=>⟨_,rfl,wpAny_letOwnedTupleGo_zip a1 λh'' b1 Z=>?_⟩;have hp:H s.heap.objs.size=none:=I.a9.fresh (WJ _);have I1:=Dd (t':=s.toks) (vs:=[x,y]) (us:=[u1,u2]) (n:=0) I (h':=h') (fp:=[z,T,U,p,q]) (λa o d e=>a7 a o (λr=>d (by simp[r])) (λr=>d (by simp[r])) (λr=>d (by simp[r])) (λr=>d (by simp[r])) e) hf S a5 (.cons ru1 (.cons ru2 .nil)) (show 2<=sizeLine by decide);have Y:∀a∈[z,T,U,p,q],gd X C (upd H s.heap.objs.size (.tup [x,y])) a:=λa d=>by
   have⟨f0,f⟩:=hf a d;exact⟨by rw[aE (Xa (S a d))];exact f0,f⟩
  have I2:=qP (t':=s.toks) I1 (h':=h'') (fp:=[z,T,U,p,q]) (λa o d e=>Z.extBut a o (λr=>d (by simp[r])) e) Y;have hT':=a7 T _ D.Tz D.TU D.Tp D.Tq t;exact⟨.ref s.heap.objs.size,_,I2,rfl,⟨_,x,y,hp,rfl,rfl,λzs hz=>by rw[hz.inj I j];exact hx,λzs hz=>by rw[hz.inj I g];exact hy⟩,
   ⟨b1,Z.extBut T _ D.Tz hT',⟨_,_,Z.extBut U _ D.Uz a2⟩,a3.up λo e=>Z.extBut p o D.pz e,a4.up λo e=>Z.extBut q o D.qz e⟩,λa d=>(Y a d).1⟩
 done:=by
  intro X hP hw hK hc i C s σ H E I hf st hg;subst hP hw hK;have⟨xs,ys,j,g,hx⟩:=hg;obtain⟨L,t,⟨u,v,J⟩,G,F⟩:=st;have⟨is1,N,R⟩:=j.of I;have⟨is2,M,O⟩:=g.of I;have hl1:=N.length;have hl2:=M.length;exact C0 (I.ok.hd hc) D L t J G F R O (by simp;lia) λh' eb=>⟨rfl,qP (t':=s.toks) I (fp:=[z,T,U,p,q]) (λa o d e=>eb a o (λr=>d (by simp[r])) (λr=>d (by simp[r])) (λr=>d (by simp[r])) (λr=>d (by simp[r])) e) hf⟩
 self:=λA i s Q E st h=>wpAny_pyIter_zip st.1 h
def boot_zip:bootBuiltins "zip"=some (.type "zip"):=by decide+kernel
def Gs:bootBuiltins "enumerate"=some (.type "enumerate"):=by decide+kernel
def MP(n l m:Nat)(hl:l<n)(hm:m<n):Zp (n+4) (n+2) (n+3) n (n+1) l m:=by
 constructor <;> (intro h;have h:(_:Nat)=_:=h;lia)
def Lo(E:Gl X "enumerate")(hm:X.mg "enumerate"=none)(G:PA X [a] r)(z:starEach [a] X.env=[(false,eval a X.env)]:=by ac_nf):
  PI X (.Tuple es k0 i) (.Call (.Name "enumerate" p) [a] [] pos) (λj H R=>r j H λm g=>∃l b,m=[.ref l]/\(∃k,kz b X.K g l k)/\R (V6 b X.K l) g):=by
 intro d s j H R I h;apply Call_ (fZ I E hm Gs (XH (cQ (G pos d s j H _ I h) λus s1 u9=>?_) z rfl));have⟨m,g,f,v,x⟩:=u9;obtain⟨l,b,e,⟨k,C⟩,q⟩:=x;subst e;have⟨u,rfl,t⟩:=Vals.one v;obtain rfl:u=Value.ref l:=t;have⟨y,rv,J⟩:=C.of f;apply Ga J λo a1 a2 a3 a4=>?_;have L:L2.Inv X d j g {s1 with heap:=o}:=f.kept (t':=s1.toks) a4;have F:∀c∈[s1.heap.objs.size+1,s1.heap.objs.size],gd X d g c:=λc n=>by
  simp at n;rcases n with rfl |rfl
  ·exact f.vw (Yy _) (f.a9.fresh (Yy _))
  ·exact f.vw (WJ _) (f.a9.fresh (WJ _))
 have T:=ET (P:=X.prog) (w:=X.w) (K:=X.K) (es:=es) (k0:=k0) (pos:=i) b l (s1.heap.objs.size+1) s1.heap.objs.size (ZF _);apply T.self X.A 0 {s1 with heap:=o} _ X.xe ⟨⟨_,a1⟩,a2⟩ ?_;exact⟨_,[s1.heap.objs.size+1,s1.heap.objs.size],_,_,g,rfl,L,T,⟨⟨_,a1⟩,a2⟩,F,q⟩
def OS(hg:Gl X "zip")(hm:X.mg "zip"=none)(ha:PA X [a,t] M)(Z:starEach [a,t] X.env=[(false,eval a X.env),(false,eval t X.env)]:=by ac_nf)(k:starEach [t] X.env=[(false,eval t X.env)]:=by ac_nf):
  PI X (.Tuple es k0 i) (.Call (.Name "zip" p) [a,t] [] pos) (λy H R=>M y H λE g=>∃l m b c,E=[.ref l,.ref m]/\(∃z,kz b X.K g l z)/\(∃z,kz c X.K g m z)/\R (V5 b c X.K l m) g):=by
 intro f s y H R I h;apply Call_ (fZ I hg hm boot_zip (XH (cQ (ha pos f s y H _ I h) λus s1 ⟨E,g,x,O,Q⟩=>?_) (by rw[Z,k]) (by rw[k];rfl)));obtain⟨l,m,b,c,e,⟨z,hq⟩,⟨ys,C⟩,q⟩:=Q;subst e;have⟨u,v,rfl,N,j⟩:=Vals.two O;obtain rfl:u=Value.ref l:=N;obtain rfl:v=Value.ref m:=j;have⟨Y,rv,G⟩:=hq.of x;have⟨F,j,r⟩:=C.of x;apply zv G r λJ a1 a2 a3 a4 L a6 a7=>?_;have I2:L2.Inv X f y g {s1 with heap:=J}:=x.kept (t':=s1.toks) a7;have hf:∀d∈[s1.heap.objs.size+4,s1.heap.objs.size+2,s1.heap.objs.size+3,s1.heap.objs.size,s1.heap.objs.size+1],gd X f g d:=λd hd=>by
  simp at hd;have:s1.heap.objs.size<=d:=by lia
  exact x.vw this (x.a9.fresh this)
 have U:l<s1.heap.objs.size:=by have⟨o,n,e,_⟩:=G.data;exact WX e
 have S:m<s1.heap.objs.size:=by have⟨o,n,e,_⟩:=r.data;exact WX e
 have D:Zp (s1.heap.objs.size+4) (s1.heap.objs.size+2) (s1.heap.objs.size+3) s1.heap.objs.size (s1.heap.objs.size+1) l m:=MP _ _ _ U S;have T:=GQ (P:=X.prog) (w:=X.w) (K:=X.K) (es:=es) (k0:=k0) (pos:=i) b c _ _ _ _ _ l m D;apply T.self X.A 0 {s1 with heap:=J} _ X.xe ⟨a1,a2,⟨_,_,a3⟩,a4,L⟩ ?_;exact⟨_,[s1.heap.objs.size+4,s1.heap.objs.size+2,s1.heap.objs.size+3,s1.heap.objs.size,s1.heap.objs.size+1],_,_,g,rfl,I2,T,⟨a1,a2,⟨_,_,a3⟩,a4,L⟩,hf,q⟩
end Sb
namespace Sm
open L2 PyProof.Rows
noncomputable def kX:Nat->List D->List D
 |_,[]=>[]
 |k,x::r=>.tup [.int (k:Int),x]::kX (k+1) r
noncomputable def oq:List D->List D->List D
 |x::r,y::s=>.tup [x,y]::oq r s
 |_,_=>[]
theorem o9:∀(a:List D)(k i:Nat),(kX k a)[i]?=(a[i]?).map λx=>.tup [.int ((k+i:Nat):Int),x]
 |[],k,i=>by simp[kX]
 |x::r,k,0=>by simp[kX]
 |x::r,k,i+1=>by
  show(kX (k+1) r)[i]?=_;rw[o9 r (k+1) i];simp only[X2];congr 1
  funext y
  rw[show k+1+i=k+(i+1) by lia]
theorem cF:∀(a:List D)(k:Nat),(kX k a).length=a.length
 |[],_=>rfl
 |_::r,k=>by simp[kX,cF r (k+1)]
theorem zx:∀(b a:List D)(i:Nat),(oq b a)[i]?=(b[i]?).bind λx=>(a[i]?).map λy=>.tup [x,y]
 |[],_,i=>by simp[oq]
 |_::_,[],i=>by simp[oq]
 |x::r,y::s,0=>by simp[oq]
 |x::r,y::s,i+1=>by
  show(oq r s)[i]?=_;rw[zx r s i];simp
theorem pB:∀(b a:List D),(oq b a).length=min b.length a.length
 |[],_=>by simp[oq]
 |_::_,[]=>by simp[oq]
 |x::r,y::s=>by simp[oq,pB r s]
def SeqAt.Dm{K:FR}{H:Hp}{a:Addr}{c:List V}{b:Bool}(q:SeqAt K H a c b):Sb.kz b K H a c:=by
 cases q with
 |l q=>exact q
 |t q=>exact q
def CM(a:hZ (ws++b) h=true):hZ ws h=true/\hZ b h=true:=by
 induction ws with
 |nil=>exact⟨rfl,a⟩
 |cons x r c=>
  have⟨n,o⟩:=x;simp only[ZI,hZ,W9]at a ⊢;have⟨e,d⟩:=c a.2;exact⟨⟨a.1,e⟩,d⟩
def tN(m:AM):IM:=λa h=>(m a h).bind λp=>match p.1 with
 |[d]=>(cq d p.2).map λq=>(kX 0 q.1,q.2,p.2)
 |_=>none
def P1(m:AM):IM:=λa h=>(m a h).bind λp=>match p.1 with
 |[d,e]=>(cq d p.2).bind λq=>(cq e p.2).map λr=>(oq q.1 r.1,q.2++r.2,p.2)
 |_=>none
def PF{c:Type}{l:List c}(h:l.length=2):∃a b,l=[a,b]:=by
 cases l with
 |nil=>cases h
 |cons a l=>have⟨b,rfl⟩:=Y1.mp (Nat.succ.inj h);exact⟨a,b,rfl⟩
def mh(O:Gl X "enumerate")(hm:X.mg "enumerate"=none)(T:SA X [a] m)(hl:kA m 1)(N:starEach [a] X.env=[(false,eval a X.env)]:=by ac_nf):SI X (.Tuple es k0 r) (.Call (.Name "enumerate" p) [a] [] pos) (tN m):=
 (Sb.Lo O hm T N).imp λσ H Q G=>by
  have⟨E,F,h,xs,c,h',R,S,e,k⟩:=G;obtain⟨⟨ds,Z⟩,A,e2⟩:=bc e;apply⟨E,F,h,ds,Z,R,S,A,λvs j H1 T1 C J=>?_⟩;have⟨d,rfl⟩:=Y1.mp (hl _ _ _ _ A);obtain⟨⟨ys,w⟩,e3,e4⟩:=dX e2;cases e4;have⟨v,rfl,rd⟩:=rep1 J;obtain⟨a,rfl,⟨us,q,l⟩,st⟩:=ij C rd e3;apply⟨a,tH d,rfl,⟨us,q.Dm⟩,k _ j H1 T1 C ⟨λg H2 Y T2 b P i=>?_⟩⟩;have⟨c,s,n⟩:=st g H2 Y T2 b P;apply⟨λt=>⟨c,n.Dm,by rw[s.length];rw[cF]at t;exact t⟩,λx f=>?_⟩;rw[o9]at f;have⟨y,ey,f⟩:=dX f;subst f;have⟨v,z,rv⟩:=s.got ey;apply⟨⟨c,v,n.Dm,z⟩,λu H3 u9=>?_⟩;have⟨p,I,hp,M,U,L⟩:=u9;subst M;subst U;have o:I=v:=by have:=L c n.Dm;rw[z]at this;exact(Option.some.inj this).symm
  subst o;apply⟨cV.laid b hp,b.laid hp,.tup (.inl ⟨.inl aQ,b.fresh hp⟩) (.cons ?_ (.cons (rv.mono (cV.laid b hp).toCh) .nil))⟩;rw[YZ];exact .int _
def N5(hg:Gl X "zip")(hm:X.mg "zip"=none)(ha:SA X [a,b] m)(hl:kA m 2)(hs:starEach [a,b] X.env=[(false,eval a X.env),(false,eval b X.env)]:=by ac_nf)(L:starEach [b] X.env=[(false,eval b X.env)]:=by ac_nf):
  SI X (.Tuple es k0 O) (.Call (.Name "zip" p) [a,b] [] pos) (P1 m):=
 (Sb.OS hg hm ha hs L).imp λσ H Q zz=>by
  have⟨ρ,δ,h,xs,s,h',R,S,e,k⟩:=zz;obtain⟨⟨ds,h1⟩,Z,e2⟩:=bc e;apply⟨ρ,δ,h,ds,h1,R,S,Z,λvs t H1 T1 N r1=>?_⟩;have⟨d,d',rfl⟩:=PF (hl _ _ _ _ Z);obtain⟨⟨ys,w⟩,e3,e4⟩:=bc e2;obtain⟨⟨zs,w'⟩,e5,e6⟩:=dX e4;cases e6;have⟨v,z,rfl,rd,F⟩:=rep2 r1;obtain⟨a,rfl,⟨us,q,l⟩,st⟩:=ij N rd e3;obtain⟨a',rfl,⟨A,q',l'⟩,C⟩:=ij N F e5;apply⟨a,a',tH d,tH d',rfl,⟨us,q.Dm⟩,⟨A,q'.Dm⟩,k _ t H1 T1 N ⟨λn H2 U T2 g hc i=>?_⟩⟩;have⟨c1,c2⟩:=CM hc;have⟨s,P,G⟩:=st n H2 U T2 g c1;have⟨c,o,f⟩:=C n H2 U T2 g c2;apply⟨λT=>⟨s,c,G.Dm,f.Dm,by rw[P.length,o.length];rw[pB]at T;dsimp only at T;lia⟩,λx j=>?_⟩;rw[zx]at j;have⟨y,ey,j⟩:=bc j;have⟨y',M,j⟩:=dX j;subst j;have⟨v,Y,rv⟩:=P.got ey;have⟨z,r,E⟩:=o.got M;apply⟨⟨s,c,v,z,G.Dm,f.Dm,Y,r⟩,λu H3 u9=>?_⟩;have⟨p,x1,x2,hp,hu,hH,J,I⟩:=u9;subst hu;subst hH;have z1:x1=v:=by have:=J s G.Dm;rw[Y]at this;exact(Option.some.inj this).symm
  have z2:x2=z:=by have:=I c f.Dm;rw[r]at this;exact(Option.some.inj this).symm
  subst z1;subst z2;exact⟨cV.laid g hp,g.laid hp,.tup (.inl ⟨.inl aQ,g.fresh hp⟩) (.cons (rv.mono (cV.laid g hp).toCh) (.cons (E.mono (cV.laid g hp).toCh) .nil))⟩
def yU(ls:List (Key×D)):List (Key×D)->Option Bool
 |[]=>some true
 |(k,v)::r=>match dE ls k with
  |none=>some false
  |some u=>(je v).bind λa=>(je u).bind λb=>if a.depth<=60/\b.depth<=60 then(yU ls r).map λc=>PyData.eqv a b&&c else none
def Jx(ks ls:List (Key×D)):Option Bool:=if ks.length=ls.length then yU ls ks else some false
def Ju(d e:D)(h:MH):Option Bool:=match cg d h,cg e h with
 |some ks,some ls=>Jx ks ls
 |_,_=>Er d e h
def bx(d e:D)(h:MH):Option (D×MH):=(Ju d e h).map λc=>(.bl c,h)
def g7(d e:D)(h:MH):Option (D×MH):=(Ju d e h).map λc=>(.bl (!c),h)
def LZ(Z:X.A.units+64<cLine)(I:L2.Inv X pins σ H s)(M:bB X.K w H C ls)(F:KV C m):
  ∀{us:List (Key×V)} {ks:List (Key×D)} {h:List (Key×Value)} {c:Bool},bB X.K w H us ks->KV us h->yU ls ks=some c->PySem.W.KeqHits X.A.in1 s m h c:=by
 intro us
 induction us with
 |nil=>
  intro ks h c a g e;cases a;cases g;cases e;exact .nil
 |cons u0 us N=>
  intro ks h c a g e;cases a with |@cons k v _ d _ r l=>
  cases g with
  |cons g E=>
   rename_i p h;have⟨Y,y⟩:=p;have⟨u,t⟩:=g;dsimp only at u t;subst u;simp only[yU]at e;have f:=F.val k;rcases M.val k with⟨o,n⟩ |⟨d',U,o,n,L⟩
   ·rw[o]at e;cases e;rw[n]at f;apply .miss ?_;cases q:valueAt m k with
    |none=>rfl
    |some _=>rw[q]at f;exact f.elim
   ·rw[o]at e;have⟨a,R,e⟩:=bc e;have⟨b,Q,e⟩:=bc e
    by_cases z:a.depth<=60/\b.depth<=60
    ·rw[WH z]at e;have⟨c',P,O⟩:=dX e;subst O;rw[n]at f;cases q:valueAt m k with
     |none=>rw[q]at f;exact f.elim
     |some x=>
      rw[q]at f;have⟨J,T⟩:=r.qT R;have⟨G,S⟩:=L.qT Q;have⟨as,j⟩:=J.reads I t;have⟨bs,i⟩:=G.reads I f;apply .hit q (Zy a b _ s y x as bs j i T S ?_) (N l E P);have:min a.depth b.depth<=a.depth:=ZN _ _;show X.A.units+1+min a.depth b.depth<cLine
      lia
    ·rw[WM z]at e;cases e
def Jt(F:X.A.units+64<cLine)(I:L2.Inv X pins σ H s)(L:L2.RelV x v)(J:L2.RelV y u)(S:bM X.K G h H)(rd:Rep X.K G H x d)(M:Rep X.K G H y e)(f:Ju d e h=some c):
  (∀Q:Value->Shared->Prop,Q (.bool c) s->wpAny (model X.prog X.w) X.A (compareOp .Eq v u) Q X.xe s)/\∀Q:Value->Shared->Prop,Q (.bool (!c)) s->wpAny (model X.prog X.w) X.A (compareOp .NotEq v u) Q X.xe s:=by
 have data:Er d e h=some c->(∀Q:Value->Shared->Prop,Q (.bool c) s->wpAny (model X.prog X.w) X.A (compareOp .Eq v u) Q X.xe s)/\∀Q:Value->Shared->Prop,Q (.bool (!c)) s->wpAny (model X.prog X.w) X.A (compareOp .NotEq v u) Q X.xe s:=by
  intro f;have⟨a,e3,e4⟩:=bc f;have⟨b,e5,r⟩:=bc e4
  by_cases w:a.depth<=64/\b.depth<=64
  ·rw[WH w]at r;cases r;have⟨r1,Y⟩:=mR S rd e3;have⟨Z,U⟩:=mR S M e5;have⟨as,j⟩:=r1.reads I L;have⟨bs,i⟩:=Z.reads I J;exact⟨λQ q=>eq_dataH j i (j8 Y w.1) (j8 U w.2) F q,λQ q=>ne_dataH j i (j8 Y w.1) (j8 U w.2) F q⟩
  ·rw[WM w]at r;cases r
 unfold Ju at f;cases n:cg d h with
 |none=>rw[n]at f;exact data f
 |some ks=>
  cases E:cg e h with
  |none=>rw[n,E]at f;exact data f
  |some ls=>
   rw[n,E]at f;have⟨a,us,rfl,ha,P⟩:=iC S rd n;have⟨b,ws,rfl,hb,O⟩:=iC S M E;obtain rfl:v=Value.ref a:=L;obtain rfl:u=Value.ref b:=J;have⟨_,p,l,j,C⟩:=AU I.a9 ha;have⟨_,o,k,i,t⟩:=AU I.a9 hb;have T:l.length=ks.length:=by rw[<-P.length];exact(Paired.length j).symm
   have R:k.length=ls.length:=by rw[<-O.length];exact(Paired.length i).symm
   dsimp only[Jx]at f
   by_cases z:ks.length=ls.length
   ·rw[WH z]at f;have g:=LZ F I O i P j f;have m:(l.length==k.length&&c)=c:=by rw[T,R,z,YL,AaJ]
    exact⟨λQ q=>PySem.W.keq_eq p o C t () (λ_=>g) (by rw[m];exact q),λQ q=>PySem.W.keq_ne p o C t () (λ_=>g) (by rw[m];exact q)⟩
   ·rw[WM z]at f;cases f;have m:(l.length==k.length&&false)=false:=Abl _;have N:l.length=k.length->PySem.W.KeqHits X.A.in1 s k l false:=λq=>absurd (by rw[<-T,<-R];exact q) z;exact⟨λQ q=>PySem.W.keq_eq p o C t () N (by rw[m];exact q),λQ q=>PySem.W.keq_ne p o C t () N (by rw[m];exact q)⟩
def Iq(i:X.A.units+64<cLine):qt X (compareOp .Eq) bx:=by
 intro a s n H x y v u Q I f b hh;have⟨o,h,d,e,z,p,S,rd,g,j,k⟩:=hh;have⟨c,m,l⟩:=dX j;cases l;exact(Jt i I f b S rd g m).1 _ ⟨.bl _,H,I,rfl,k _ _ (.here S (.bl _))⟩
def Ip(i:X.A.units+64<cLine):qt X (compareOp .NotEq) g7:=by
 intro a s n H x y v u Q I f b hh;have⟨o,h,d,e,z,p,S,rd,g,j,k⟩:=hh;have⟨c,m,l⟩:=dX j;cases l;exact(Jt i I f b S rd g m).2 _ ⟨.bl _,H,I,rfl,k _ _ (.here S (.bl _))⟩
def fc(b:List (Key×D))(c:List (Key×D)):List (Key×D):=c.foldl (λa p=>putD a p.1 p.2) b
def bB.merge{K:FR}{f:Ad}{H:Hp}:∀{c:List (Key×V)} {e:List (Key×D)} {acc:List (Key×V)} {ac:List (Key×D)},bB K f H acc ac->bB K f H c e->bB K f H (bA acc c) (fc ac e):=by
 intro c
 induction c with
 |nil=>intro e acc ac a b;cases b;exact a
 |cons x c g=>intro e acc ac a b;cases b with |@cons k v _ d _ r l=>exact g (acc:=putK acc k v) (ac:=putD ac k d) (a.put r) l
def ED:bootBuiltins "list"=some (.type "list"):=by decide+kernel
def cI:bootBuiltins "tuple"=some (.type "tuple"):=by decide+kernel
def Mt:bootBuiltins "dict"=some (.type "dict"):=by decide+kernel
def Mu:bootBuiltins "bool"=some (.type "bool"):=by decide+kernel
def CP:bootBuiltins "int"=some (.type "int"):=by decide+kernel
def JR:bootBuiltins "str"=some (.type "str"):=by decide+kernel
def QD:bootBuiltins "len"=some (.builtin "len"):=by decide+kernel
def QG:bootBuiltins "abs"=some (.builtin "abs"):=by decide+kernel
def cM:bootBuiltins "isinstance"=some (.builtin "isinstance"):=by decide+kernel
def QF:bootBuiltins "all"=some (.builtin "all"):=by decide+kernel
def QE:bootBuiltins "any"=some (.builtin "any"):=by decide+kernel
noncomputable def NH(a:Scope)(x:Str):Bool:=match a.names.lookup x with
 |some .local=>true
 |some .cell=>true
 |some .free=>true
 |_=>false
noncomputable def LH(a:Scope)(x:Str):Bool:=match a.names.lookup x with
 |some .local=>true
 |some .cell=>true
 |_=>false
noncomputable def Ut(X:Cx)(x:Str):Bool:=X.fn x||(match X.env.scope.names.lookup x with
 |some .local=>true
 |_=>false)
def NG(h:NH sc x=true):TH sc x:=by
 unfold NH at h
 split at h <;> first |(cases h;done) |skip
 ·exact .inl ‹_›
 ·exact .inr (.inl ‹_›)
 ·exact .inr (.inr ‹_›)
def IP(h:LH sc x=true):Loc sc x:=by
 unfold LH at h
 split at h <;> first |(cases h;done) |skip
 ·exact .inl ‹_›
 ·exact .inr ‹_›
def Jg(h:Ut X x=true):X.fn x=true\/X.env.scope.names.lookup x=some .local:=by
 unfold Ut at h;rw[Yn]at h;rcases h with h |h
 ·exact .inl h
 ·split at h
  ·exact .inr ‹_›
  ·cases h
def sv(i:Nat)(c:X.N[i]?=some x:=by ac_nf)(b:NH X.env.scope x=true:=by ac_nf)(hd:(x==("__debug__":Str))=false:=by ac_nf)(a:(x==("__classdict__":Str))=false:=by ac_nf):SE X (.Name x pos) (aM i):=N7 c (NG b) hd a
def sset(i:Nat)(h:X.N.Nodup)(g:SE X e a)(d:X.N[i]?=some x:=by ac_nf)(b:LH X.env.scope x=true:=by ac_nf)(c:swapsWith e (some (.Name x pos')) pos.line X.env=pure false:=by ac_nf)(f:Ut X x=true:=by ac_nf):SS X (.Assign [.Name x pos'] e pos) (aJ i a):=NY h d (IP b) g c (Jg f)
def sgn(i:Nat)(d:X.N.Nodup)(b:X.N[i]?=some x:=by ac_nf)(a:LH X.env.scope x=true:=by ac_nf)(c:Ut X x=true:=by ac_nf):SG X (.Name x pos) (gN i):=KN d b (IP a) (Jg c)
noncomputable def BM(i j:Nat)(m:AM):SM:=λc h=>(m c h).bind λp=>match p.1 with
 |[a,b]=>some (.nx,(c.set i (some a)).set j (some b),p.2)
 |_=>none
def G4(i j:Nat){kt l c}(O:X.N.Nodup)(hl:kA m 2)(M:X.calm=true)(z:i≠j)(P:PS X (.Assign [.Tuple [.Name x w,.Name y py] kt pt] (.Tuple [a,b] l c) pos) (Rt i j (VT X.K m))):
  SS X (.Assign [.Tuple [.Name x w,.Name y py] kt pt] (.Tuple [a,b] l c) pos) (BM i j m):=P.imp λE J H s=>by
 have⟨p,r,h,fl,q,Q,R,S,e,k⟩:=s;obtain⟨⟨F,A⟩,n,C⟩:=bc e;apply⟨p,r,h,F,A,R,S,n,λL f I o G t=>?_⟩;have⟨d,T,rfl⟩:=PF (hl _ _ _ _ n);cases C;have⟨v,u,rfl,rd,g⟩:=rep2 t;exact⟨v,u,rfl,k f I o G _ (((R.mono o.toCh).set rd i).set g j)⟩
structure Df(P:Program)(w:World)(K:FR)(mg:Str->Option Value)(base:Heap)(nm:Str)(k:Nat)(ps:List Str)(n:Nat)(F:Fn):Prop where
 ex:∃(f:Addr)(fd:FuncData),gf P w K mg base xm k f fd ps (GB K n F)/\PySem.W.keepIn K (.ref f)=true/\Binds K fd ps []/\mg nm=some (.ref f)
def RN(d:Df X.prog X.w X.K X.mg X.base nm k r n F)(hr:fh h X.A)(i:k<=h)(o:SA X (e::es) m)(hl:kA m n)(j:Gl X nm:=by unfold Gl;ac_nf)(b:(nm==("__debug__":Str))=false:=by ac_nf)(l:starEach (e::es) X.env=(false,eval e X.env)::starEach es X.env:=by ac_nf)(a:(backTo pos (starEach es X.env)).any (·.1)=false:=by ac_nf):SE X (.Call (.Name nm p) (e::es) [] pos) (aj F m):=by
 have⟨f,s,G,g,q,c⟩:=d.ex;exact KR G (hr.mono i) j c g q o hl b l a
def jR{P:Program}{w:World}{K:FR}{mg:Str->Option Value}{base:Heap}{k n:Nat}{f:Addr}{c:FuncData}{b:List Str}:gf P w K mg base xm k f c b (GB K n λ_ _=>none):=
 ⟨λa H Q E hh=>(by have⟨_,_,_,_,_,_,_,_,e,_⟩:=hh;cases e),λA outer s H args us a Q E _ _ _ _ hh=>(by have⟨_,_,_,_,_,_,_,_,e,_⟩:=hh;cases e)⟩
end Sm
namespace L2
open PyProof.Rows
abbrev TK:=St->Hp->(St->Hp->Prop)->Prop
def PM(B:Cx)(c:Sem Unit)(t:TK):Prop:=
 ∀(a:List (Addr×Obj)) (s:Shared) (d:St) (H:Hp) (N:St->Hp->Prop),Inv B a d H s->t d H N->wpAny (model B.prog B.w) B.A c (λ_ f=>∃b e,Inv B a b e f/\N b e) B.xe s
def uu(J:It)(g:TG)(o:TT)(n:TK)(N:St->Hp->Prop)(f:St)(q:Hp):Prop:=
 ∃W:Nat->Nat->St->Hp->Prop,(∃m,W 0 m f q)/\∀i m h d,W i m h d->
  (J.stop i d/\N h d)\/(J.go i d/\∃j:St->Hp->Prop,(∀c e,j c e->∃k,k<m/\W (i+1) k c e)/\∀x e,J.Ra i d x e->g x h e λa p=>
   o a p λb l=>if b=true then n a l j else j a l)
noncomputable def fA(e:Expr)(d:Nat)(h:Expr)(b:List Expr)(f:Sem Unit)(p:Pos)(a g:Value)(env:Env):Sem Fin:=do
 standAt p
 match<-pyNext a with
 |none=>pure (.done .next)
 |some v=>
  letOwnedTupleGo h a v
  assign h env v
  let mut ok:=true
  for c in b do
   if ok then ok<-isTrue c env (eval c env)
  if ok then f
  again (.compLoop e d a g env)
noncomputable def nv(e:Expr)(d:Nat)(a:Expr)(b:Value)(env:Env):Sem Unit:=do
 let x<-eval a env
 standAt a.pos
 let x<-foldedSetIterable a env x;let _<-runOwn (.compStart e d (<-holding [x] (pyIter x)) b env) env
noncomputable def emitSet(a:Expr)(b:Value)(env:Env):Sem Unit:=do let v<-eval a env;standAt a.pos;let _<-call (.builtin "set.add") [b,v]
def ER(a c d:Expr)(e:List Expr)(f:Scope)(pos:Pos)(g b:Value)(env:Env):
  compTurn (.SetComp a [⟨c,d,e,0⟩] f pos) 0 g b env=fA (.SetComp a [⟨c,d,e,0⟩] f pos) 0 c e (emitSet a b env) d.pos g b env:=by rfl
noncomputable def jv(a:Expr)(b:Value)(env:Env):Sem Unit:=do let _<-call (.builtin "list.append") [b,<-eval a env]
def rC(a c d:Expr)(e:List Expr)(f:Scope)(pos:Pos)(g b:Value)(env:Env):
  compTurn (.ListComp a [⟨c,d,e,0⟩] f pos) 0 g b env=fA (.ListComp a [⟨c,d,e,0⟩] f pos) 0 c e (jv a b env) d.pos g b env:=by rfl
def xt(a f g i e:Expr)(h l:List Expr)(j:Scope)(pos:Pos)(k d:Value)(env:Env):
  compTurn (.ListComp a [⟨f,g,h,0⟩,⟨i,e,l,0⟩] j pos) 0 k d env=fA (.ListComp a [⟨f,g,h,0⟩,⟨i,e,l,0⟩] j pos) 0 f h (nv (.ListComp a [⟨f,g,h,0⟩,⟨i,e,l,0⟩] j pos) 1 e d env) g.pos k d env:=by
 apply Eq.trans (b:=(do
   standAt g.pos
   match<-pyNext k with
   |none=>pure (.done .next)
   |some v=>
    letOwnedTupleGo f k v
    assign f env v
    let mut ok:=true
    for c in h do
     if ok then ok<-isTrue c env (eval c env)
    if ok then
     let x<-eval e env
     standAt e.pos
     let x<-foldedSetIterable e env x;let _<-runOwn (.compStart (.ListComp a [⟨f,g,h,0⟩,⟨i,e,l,0⟩] j pos) 1 (<-holding [x] (pyIter x)) d env) env
    again (.compLoop (.ListComp a [⟨f,g,h,0⟩,⟨i,e,l,0⟩] j pos) 0 k d env):Sem Fin)) rfl ?_
 unfold fA nv;simp only[bind_assoc,pure_bind]
def xr(a f i c d:Expr)(j e:List Expr)(g:Scope)(pos:Pos)(h b:Value)(env:Env):
  compTurn (.ListComp a [⟨f,i,j,0⟩,⟨c,d,e,0⟩] g pos) 1 h b env=fA (.ListComp a [⟨f,i,j,0⟩,⟨c,d,e,0⟩] g pos) 1 c e (jv a b env) d.pos h b env:=by rfl
structure Plain(e:Expr):Prop where
 loop:∀(P:Program)(w:World)(d:Nat)(it acc:Value)(env:Env),(model P w).den (.compLoop e d it acc env)=(compTurn e d it acc env).onRaise (λx=>do noteFrame x env;theTreesLotGoes x)
 start:∀(P:Program)(w:World)(d:Nat)(it acc:Value)(env:Env),(model P w).den (.compStart e d it acc env)=(compStart e d it acc env).onRaise (λx=>do noteFrame x env;standAt theWindowsPlace)
 ul:∀(A:Around)(d:Nat)(it acc:Value)(env:Env),A.under (.compLoop e d it acc env)=A
 us:∀(A:Around)(d:Nat)(it acc:Value)(env:Env),A.under (.compStart e d it acc env)=A
def Fo(a:Expr)(c:List Comprehension)(b:Scope)(pos:Pos):Plain (.SetComp a c b pos):=⟨λ_ _ _ _ _ _=>rfl,λ_ _ _ _ _ _=>rfl,λ_ _ _ _ _=>rfl,λ_ _ _ _ _=>rfl⟩
def iw(a:Expr)(c:List Comprehension)(b:Scope)(pos:Pos):Plain (.ListComp a c b pos):=⟨λ_ _ _ _ _ _=>rfl,λ_ _ _ _ _ _=>rfl,λ_ _ _ _ _=>rfl,λ_ _ _ _ _=>rfl⟩
def Nk(hk:Plain e)(ht:compTurn e d (.ref it) acc B.env=fA e d tg ifs act p (.ref it) acc B.env)(hc:B.calm=true)(hx:B.xe=λ_ _=>False)(hg:PG B tg g)(U:Ny B ifs tc)(hm:PM B act tm)(I:Inv B pins τ H s)(T:Turn B.prog B.w B.K tg J C it R)(st:R 0 s.heap)(hf:∀b∈C,gd B pins H b)(hw:uu J g tc tm N τ H):
  codeAny (model B.prog B.w) B.A (.compLoop e d (.ref it) acc B.env) (λr P=>r=.ok .next/\∃a c,Inv B pins a c P/\N a c) s:=by
 obtain⟨W,⟨m0,w0⟩,G⟩:=hw;have j:∀{c:Hp},(∀b∈C,c b=none)->∀b∈C,gd B pins c b:=λhn b l=>⟨hn b l,(hf b l).2⟩;have up:∀{α:Type} {t:Sem α} {Q:α->Shared->Prop} {E:Value->Shared->Prop} {s:Shared},wpAny (model B.prog B.w) B.A t Q B.xe s->wpAny (model B.prog B.w) B.A t Q E s:=λh=>Wc (hx ▸ h);apply codeAny_loop rfl (λn P=>∃i a c,Inv B pins a c P/\R i P.heap/\(∀b∈C,c b=none)/\W i n a c) ?_ m0 ⟨0,_,_,I,st,λb l=>(hf b l).1,w0⟩;rintro n s4 ⟨i,k,Z,J4,L,O,w4⟩;rw[hk.ul,hk.loop];apply wpAny_noted ?_;rw[ht];unfold fA;rcases G i n k Z w4 with⟨stop,qn⟩ |⟨go,N',hN,step⟩
 ·apply Wz (YQ (Wz (Yd (T.done B rfl rfl rfl hc i pins s4 k Z _ J4 (j O) L stop) (λr s5 M=>?_) λ_ _ e=>e)));have⟨hr,J5⟩:=M;subst hr;exact WD ⟨rfl,_,_,J5,qn⟩
 ·apply Wz (YQ (Wz (Yd (T.item B rfl rfl rfl hc i pins s4 k Z _ J4 (j O) L go) (λr s5 M=>?_) λ_ _ e=>e)));have⟨u,hr,M⟩:=M;subst hr;apply Wz (Yd M (λ_ s6 h6=>?_) λ_ _ e=>e);have⟨x,H6,J6,r6,y6,y,X⟩:=h6;have Y:=J6.pinned (j X) (T.obj _ _ y);apply Wz (Yd (up (hg _ s6 k H6 x u _ Y r6 (step x H6 y6))) (λ_ s7 h7=>?_) λ_ _ e=>e);have⟨v,H7,J7,q7⟩:=h7;have again:∀{f:St} {q:Hp} {z:Shared},Inv B (pins++sS C s6.heap) f q z->N' f q->
    ∃m,m<n/\∃i a c,Inv B pins a c z/\R i z.heap/\(∀b∈C,c b=none)/\W i m a c:=λ{f q z} F n8=>by
   have⟨m',hm,w8⟩:=hN f q n8;apply⟨m',hm,i+1,f,q,F.lX,T.keep _ _ _ y λb l o e=>(F.pin (b,o) (Xx _ (Xx _ (iz l e)))).1,λb l=>?_,w8⟩;have⟨o,e,d⟩:=T.obj _ _ y b l;exact(F.pin (b,o) (Xx _ (Xx _ (iz l e)))).2.1
  apply Wz (Yd (up (U _ s7 v H7 _ J7 q7)) (λok z h8=>?_) λ_ _ e=>e);have⟨q,F,q8⟩:=h8;cases ok with
  |false=>exact WD ⟨rfl,again F (by simpa using q8)⟩
  |true=>
   have S:tm v q N':=by simpa using q8
   apply Wz (Yd (up (hm _ z v q _ F S)) (λ_ s9 h9=>?_) λ_ _ e=>e);have⟨τ9,H9,J9,n9⟩:=h9;exact WD ⟨rfl,again J9 n9⟩
def JA{env:Env}{g c:Value}{a:Expr}{prog:Program}{w:World}{A:Around}{s:Shared}{R:Result->Shared->Prop}(k:Plain e)(i:(clausesOf e)[d]?=some ⟨l,a,ifs,0⟩)
  (h0:codeAny (model prog w) A (.compLoop e d g c env) R s)
  (h:wpAny (model prog w) A (pyIter g) (λb f=>codeAny (model prog w) A (.compLoop e d b c env) R f) (notedBy (model prog w) A env λx f=>R (.error x) f) s):
  codeAny (model prog w) A (.compStart e d g c env) R s:=by
 apply AbH ?_;rw[k.us,k.start];apply wpAny_notedAt ?_;unfold compStart;rw[i];show wpAny _ _ (ask >>=_) _ _ s;apply Wz (YS (wpAny_ite ?_))
 split
 ·first
   |exact Wz (WD (WD (And.intro rfl h0)))
   |exact WD (And.intro rfl h0)
 ·first
   |exact Wz (Yq (Wz (YQ (Wz (Yd h (λb f j=>WD (And.intro rfl j)) λ_ _ x=>x)))))
   |(apply Wz (Yq ?_);show wpAny _ _ (standAt a.pos >>=_) _ _ s;exact Wz (YQ (Wz (Yd h (λb f j=>WD (And.intro rfl j)) λ_ _ x=>x))))
def Rx(b:TI)(g:TG)(d:TT)(c:TK):TK:=λa H N=>b a H λJ e=>uu J g d c N a e
def Lk(k:Plain e)(j:(clausesOf e)[d]?=some ⟨f,iter,ifs,0⟩)(ht:∀c:Addr,compTurn e d (.ref c) acc B.env=fA e d f ifs act p (.ref c) acc B.env)(C:B.calm=true)(u:B.xe=λ_ _=>False)(y:PI B f iter m)(z:PG B f g)(i:Ny B ifs o)(hm:PM B act n)(w:∀x,foldedSetIterable iter B.env x=pure x:=by intro _;rfl):PM B (nv e d iter acc B.env) (Rx m g o n):=by
 intro b s l H N I h;unfold nv;apply Wz (cQ (y b s l H _ I h) λv Q G=>?_);apply Wz (YQ (Wz (Abw (w v) (Wz (Xn (cQ G λt P F=>?_))))));have⟨c,S,O,J,U,e,M,T,a,L,E⟩:=F;subst e;have lp:=Nk k (ht c) C u z i hm M T a L E;apply Wz (wpAny_runOwn (ZL (JA k j lp (T.self B.A 0 _ _ _ a lp)) λr R hr=>?_));have⟨rfl,q⟩:=hr;exact WD q
def Kj(X:Cx)(d:Sem Value)(o:Addr->HO):Prop:=∀(a:List (Addr×Obj)) (s:Shared) (b:St) (H:Hp) (Q:Value->Shared->Prop) (E:Value->Shared->Prop),Inv X a b H s->
 (∀(obj:Obj)(c:Nat),Inv X a b (upd H s.heap.objs.size (o s.heap.objs.size)) {s with heap:=s.heap.push obj,toks:=c}->Q (.ref s.heap.objs.size) {s with heap:=s.heap.push obj,toks:=c})->wpAny (model X.prog X.w) X.A d Q E s
def k8(a:List (Option Nat))(d:TI)(o:Addr->HO)(g:TG)(f:TT)(e:Addr->TK):TE:=λb H Q=>d b H λJ c=>∀l,c l=none->uu J g f (e l) (λ_ h=>Q (.ref l) h) (Bd a b) (upd c l (o l))
section
variable {X:Cx} {N':List Str} {caps:List (Option Nat)} {scope:Scope} {e tg iter:Expr} {ifs:List Expr} {p:Pos} {wi:TI} {g:TG} {tc:TT} {tm:Addr->TK} {o:Addr->HO} {na:Sem Value} {act:Addr->Env->Sem Unit}
def JH(S:bN X N' caps scope)(hc:X.calm=true)(hk:Plain e)(hcl:(clausesOf e)[0]?=some ⟨tg,iter,ifs,0⟩)(ht:∀(U l:Addr)(env:Env),compTurn e 0 (.ref U) (.ref l) env=fA e 0 tg ifs (act l env) p (.ref U) (.ref l) env)
  (hA:Kj X na o) (hg:∀C a f i pl,PG (k5 X N' scope C a f i pl) tg g) (hif:∀C a f i pl,Ny (k5 X N' scope C a f i pl) ifs tc)
  (hm:∀C a f i pl l,PM (k5 X N' scope C a f i pl) (act l (k5 X N' scope C a f i pl).env) (tm l)) {d:List (Addr×Obj)} {Y:St} {H:Hp} {s:Shared} {U:Addr} {i:List Addr} {tn:Nat->Heap->Prop} {J:It}
  (I:Inv X d Y H s) (T:Turn X.prog X.w X.K tg J i U tn) (st:tn 0 s.heap) (hf:∀b∈i,gd X d H b) {Q:VK} {RR:Value->Addr->Result->Shared->Prop} {E:Value->Shared->Prop}
  (h:∀l,H l=none->uu J g tc (tm l) (λ_ R=>Q (.ref l) R) (Bd caps Y) (upd H l (o l)))
  (hRR:∀(l C:Addr)(R:Hp)(L:Shared),R C=none->C≠X.env.locals->X.s₀.heap.objs.size<=C->(∀x c,X.env.cells.lookup x=some c->c≠C)->(∀p∈X.pn++d,p.1≠C)->(∃m,L.heap.Ns C m)->Inv X d Y R L->
   (∀h'':Heap,(∀b u,b≠C->L.heap.get? b=some u->h''.get? b=some u)->Inv X d Y R {L with heap:=h''})->Q (.ref l) R->RR (.ref l) C (.ok .next) L):
  wpAny (model X.prog X.w) X.A na (λacc a=>wpAny (model X.prog X.w) X.A (newFunctionEnv scope X.env.globals (ko X.env scope.names []) [] X.env.qual none .none (some X.env)) (λP Z=>
   codeAny (model X.prog X.w) X.A (.compStart e 0 (.ref U) acc {P with scope:=relabel scope X.env}) (RR acc P.locals) Z) E a) E s:=by
 have hw:=h s.heap.objs.size I.fresh;apply hA d s Y H _ _ I λobj t' G=>wpAny_newFunctionEnv S.IE (by intro y hy;simp at hy) (λM t n=>?_) S.kind;have N:∀b∈i,b<s.heap.objs.size:=λb j=>by
  have⟨o,e,_⟩:=T.obj 0 _ st b j;exact WX e
 have F:∀b∈i,gd X d (upd H s.heap.objs.size (o s.heap.objs.size)) b:=λb j=>⟨by rw[aE (Xa (N b j))];exact(hf b j).1,(hf b j).2⟩;have k:∀b u,(s.heap.push obj).get? b=some u->M.get? b=some u:=λb u e=>n.extBut b u (Xa (WX e)) (WC _ e);have st3:tn 0 M:=T.keep 0 _ _ st λb j o e=>k b o (WC _ e);have O:∀b∈i,b<(s.heap.push obj).objs.size:=λb j=>by
  have:=N b j;rw[XI];exact AaU this
 have J0:=Inv.block S G hc F O t k (t₄:=t');have fpB:∀b∈i,gd (k5 X N' scope (s.heap.push obj).objs.size {s with heap:=s.heap.push obj,toks:=t'} (upd H s.heap.objs.size (o s.heap.objs.size)) i d) [] (upd H s.heap.objs.size (o s.heap.objs.size)) b:=λb j=>by
  have⟨f0,f1,f2,f3,f4,f5⟩:=F b j;apply⟨f0,Xa (O b j),λz=>?_,.inl j,λx c e=>f4 x c (S.look G.ok e),λp hp=>?_⟩
  ·rcases WV.mp (G.rJ b z)with q |q
   ·exact f1 q
   ·exact f2 q
  ·rcases Xw.mp hp with q |q
   ·exact f5 p q
   ·cases q
 have lp:=Nk hk (ht U s.heap.objs.size _) rfl rfl (hg _ _ _ _ _) (hif _ _ _ _ _) (hm _ _ _ _ _ s.heap.objs.size) J0 T st3 fpB hw;apply ZL (JA hk hcl lp (T.self X.A 0 _ _ _ st3 lp)) λr L hr=>?_;have⟨rfl,τ,R,J,q⟩:=hr;apply hRR _ _ R L J.free ?_ ?_ ?_ ?_ ?_ ?_ ?_ q
 ·exact(Xa G.lt).symm
 ·exact G.sz
 ·intro x c e z;have⟨v,o,ho,_⟩:=G.cell x c e;exact Xa (WX ho) z
 ·intro p hp z;have⟨e,_⟩:=G.pin p hp;exact Xa (WX e) z
 ·have⟨m,hm,_⟩:=J.loc;exact⟨m,hm⟩
 ·have:=Inv.Dc S G F J (h'':=L.heap) λb u _ e=>e;exact this
 ·exactλh'' hs=>Inv.Dc S G F J hs
def sT(S:bN X N' caps scope)(O:X.calm=true)(G:Plain e)(j:clausesOf e=⟨tg,iter,ifs,0⟩::gs)(ht:∀(n l:Addr)(env:Env),compTurn e 0 (.ref n) (.ref l) env=fA e 0 tg ifs (act l env) p (.ref n) (.ref l) env)(Y:Kj X na o)(L:PI X tg iter wi)(M:∀C a c f pl,PG (k5 X N' scope C a c f pl) tg g)(r:∀C a c f pl,Ny (k5 X N' scope C a c f pl) ifs tc)(hm:∀C a c f pl l,PM (k5 X N' scope C a c f pl) (act l (k5 X N' scope C a c f pl).env) (tm l))(N:eval e X.env=comprehension e scope X.env p0 na false (eval iter X.env))(F:∀x,foldedSetIterable iter X.env x=pure x:=by intro _;rfl):PE X e (k8 caps wi o g tc tm):=by
 intro d s z H Q I h;rw[N];apply wpAny_comprehension_free (use:=none) j F (t6 (S.has I.ok)) S.kind S.names (cQ (L d s z H _ I h) λv s1 h1=>cQ h1 λE s2 Z=>?_);have⟨n,f,tn,J,H2,e,I2,T,k,f2,R⟩:=Z;subst e;apply JH (RR:=λy C=>compPost (model X.prog X.w) X.A X.xe none (EP X d z Q) y C) S O G (by rw[j];rfl) ht Y M r hm I2 T k f2 R ?_;intro l C H' s' _ _ _ _ _ hm _ U q;have⟨m,hm⟩:=hm;exact⟨m,hm,λt i=>⟨.ref l,H',U t λb u P e=>i.extBut b u P e,rfl,q⟩⟩
def HS(hN:X.N.Nodup)(O:X.N[i]?=some y)(hy:X.env.scope.names.lookup y=some .local)(S:bN X N' caps scope)(hc:X.calm=true)(hk:Plain e)(t:clausesOf e=⟨tg,iter,ifs,0⟩::gs)(ht:∀(it l:Addr)(env:Env),compTurn e 0 (.ref it) (.ref l) env=fA e 0 tg ifs (act l env) p (.ref it) (.ref l) env)(hA:Kj X na o)(hi:PI X tg iter wi)(hg:∀C c d j pl,PG (k5 X N' scope C c d j pl) tg g)(M:∀C c d j pl,Ny (k5 X N' scope C c d j pl) ifs tc)(hm:∀C c d j pl l,PM (k5 X N' scope C c d j pl) (act l (k5 X N' scope C c d j pl).env) (tm l))(he:∀use,evalThenUse e X.env use=(do let _<-comprehension e scope X.env p0 na false (eval iter X.env) (some use)))(G:swapsWith e (some (.Name y py)) n.line X.env=pure true:=by rfl)(hs:∀x,foldedSetIterable iter X.env x=pure x:=by intro _;rfl):
  PS X (.Assign [.Name y py] e n) (GY (k8 caps wi o g tc tm) (wU i)):=by
 intro f s σ H D I h;rw[exec_Assign_Name_used _ _ _ _ G];apply Wz (YQ (Wz ?_));rw[he];apply Wz (Yd (wpAny_comprehension_free (use:=some (assign (.Name y py) X.env)) (Q:=λ_ k=>SP X f D .next k) t hs (t6 (S.has I.ok)) S.kind S.names
  (cQ (hi f s σ H _ I h) λv s1 h1=>cQ h1 λitv s2 h2=>?_)) (λ_ k hq=>WD (WD hq)) λ_ _ e=>e)
 have⟨it,j,tn,J,H2,e,I2,T,F,f2,hQ⟩:=h2;subst e;apply JH (Q:=λx H1=>wU i x σ H1 D.nx) (RR:=λacc C=>compPost (model X.prog X.w) X.A X.xe (some (assign (.Name y py) X.env)) (λ_ k=>SP X f D .next k) acc C) S hc hk (by rw[t];rfl) ht hA hg M hm I2 T F f2 hQ ?_;intro l C H' k hC E Z u U hm R hI q;have⟨m,hm⟩:=hm;show wpAny _ X.A (assign (.Name y py) X.env (.ref l)) _ _ k;apply wpAny_assign_Name (vQ (v:=.ref l) R hN O (.inl hy) rfl (λs5 I5 P=>?_) (.inr hy));have⟨a,L,ha⟩:=P;have Y:C≠a:=by
  rcases ha with z |z
  ·rw[z];exact E
  ·exact(u _ _ z).symm
 apply⟨m,hm.sameBut L Y,λh'' r=>?_⟩;have I6:=I5.turned (t':=s5.toks) (h':=h'') (it:=C) (λb o hb e=>r.extBut b o hb e) hC E (.inr Z) u U;exact⟨_,H',I6,q⟩
end
end L2
namespace Sm
open L2 PyProof.Rows
structure Ac(α:Type)where
 at_:FR->Ad->Hp->Addr->α->Prop
 mono:∀{K:FR} {ρ ρ':Ad} {H H':Hp} {l:Addr} {a:α},at_ K ρ H l a->Ch ρ H ρ' H'->H' l=H l->at_ K ρ' H' l a
abbrev MK(α:Type):=DS->MH->α->Option (DS×MH×α)
def dM{e:Type}(b:W)(g:GM)(c:TM)(m:MK e):List D->MK e
 |[],d,h,a=>if hZ b h then some (d,h,a)else none
 |x::r,d,h,a=>if hZ b h then(g x d h).bind λq=>(c q.1 q.2).bind λt=>if t.1 then(m q.1 t.2 a).bind λz=>dM b g c m r z.1 z.2.1 z.2.2 else dM b g c m r q.1 t.2 a else none
structure lQ(l:Addr)(ρ:Ad)(H:Hp)(ρ':Ad)(H':Hp):Prop where
 ch:Ch ρ H ρ' H'
 rs:ρ'.rs=ρ.rs
 res:∀b∈ρ.rs,b≠l->H' b=H b
theorem lQ.refl:lQ l a H a H:=⟨.refl _ _,rfl,λ_ _ _=>rfl⟩
theorem lQ.trans(a:lQ l f H d H1)(b:lQ l d H1 c g):lQ l f H c g:=⟨a.ch.trans b.ch,b.rs.trans a.rs,λx e n=>(b.res x (a.rs ▸ e) n).trans (a.res x e n)⟩
def cV.UA(a:cV d H c H1):lQ l d H c H1:=⟨a.toCh,a.rs,λb e _=>a.res b e⟩
inductive TY{α:Type}(K:FR)(A:Ac α)(l:Addr)(m:MK α)(τ:L2.St)(H:Hp)(N:L2.St->Hp->Prop):Prop where
 |mk (ρ δ h a δ' h' a'):cA K ρ H τ δ->bM K ρ h H->l∈ρ.rs->A.at_ K ρ H l a->(m δ h a=some (δ',h',a'))->(∀ρ' H' τ',lQ l ρ H ρ' H'->bM K ρ' h' H'->cA K ρ' H' τ' δ'->A.at_ K ρ' H' l a'->N τ' H')->TY K A l m τ H N
def GW{a:Type}(K:FR)(A:Ac a)(l:Addr)(m:MK a):TK:=λb H N=>TY K A l m b H N
section
variable {α:Type} {K:FR} {A:Ac α} {l:Addr} {g:GM} {mt:TM} {m:MK α}
def Dz(It:QW K J ρ H ws xs)(T1:Ch ρ H d H1)(R:cA K d H1 τ δ)(S:bM K d h H1)(hl:l∈d.rs)(hA:A.at_ K d H1 l a)(e:dM ws g mt m xs δ h a=some (z,h',a'))(k:∀b f o,lQ l d H1 b f->bM K b h' f->cA K b f o z->A.at_ K b f l a'->N o f):uu J (GA K g) (Dh K mt) (GW K A l m) N τ H1:=by
 apply⟨λi n o f=>∃(b:Ad)(w:DS)(E:MH)(a2:α),n=xs.length-i/\i<=xs.length/\lQ l d H1 b f/\cA K b f o w/\bM K b E f/\A.at_ K b f l a2/\dM ws g mt m (xs.drop i) w E a2=some (z,h',a'),
  ⟨_,d,δ,h,a,rfl,Xg _,.refl,R,S,hA,e⟩,?_⟩
 rintro i n o f ⟨b,w,E,a2,rfl,hi,F,R2,S2,M,j⟩;have L:l∈b.rs:=by rw[F.rs];exact hl
 cases q:xs.drop i with
 |nil=>
  rw[q]at j;unfold dM at j
  by_cases C:hZ ws E=true
  ·rw[WH C]at j;cases j;have hle:xs.length<=i:=by have:=congrArg List.length q;rw[Aag,XZ]at this;lia
   exact .inl ⟨(It.run _ f _ (T1.trans F.ch) S2 C i).1 hle,k _ _ _ F S2 R2 M⟩
  ·rw[WM C]at j;cases j
 |cons x r=>
  rw[q]at j;unfold dM at j
  by_cases C:hZ ws E=true
  ·rw[WH C]at j;have hx:xs[i]?=some x:=by
    have:=congrArg (λl=>l[0]?) q
    simpa using this
   have hlt:i<xs.length:=(WB.mp hx).1;have hr:xs.drop (i+1)=r:=by
    have:=congrArg List.tail q
    simpa using this
   obtain⟨⟨u,h3⟩,e4,T⟩:=bc j;obtain⟨⟨t,h4⟩,e6,O⟩:=bc T;dsimp only at e4 T e6 O;have⟨hgo,hy⟩:=(It.run _ f E (T1.trans F.ch) S2 C i).2 x hx;apply .inr ⟨hgo,λG y=>∃(c:Ad)(s:DS)(Q:MH)(U:α),lQ l d H1 c y/\cA K c y G s/\bM K c Q y/\A.at_ K c y l U/\dM ws g mt m r s Q U=some (z,h',a'),?_,?_⟩
   ·rintro G y ⟨c,s,Q,U,P,R5,X,Y,T⟩;exact⟨xs.length-(i+1),by lia,c,s,Q,U,rfl,hlt,P,R5,X,Y,by rw[hr];exact T⟩
   ·intro v H3 y3;have⟨T3,S3,r3⟩:=hy v H3 y3;apply⟨b,w,E,x,u,h3,R2.mono T3.toCh,S3,r3,e4,λρ4 H4 τ4 T4 S4 R4=>?_⟩;apply⟨ρ4,u,h3,t,h4,R4,S4,e6,λc y P X=>?_⟩;have p:cV b f c y:=T3.trans (T4.trans P);have Y:A.at_ K c y l a2:=A.mono M p.toCh (p.res l L);cases t with
    |false=>
     rw[WM (by simp)]at O;exact Vr ⟨c,u,h4,a2,F.trans p.UA,R4.mono P.toCh,X,Y,O⟩
    |true=>
     rw[WH rfl]at O;obtain⟨⟨I,h6,a6⟩,e8,e9⟩:=bc O;apply Vq ⟨c,u,h4,a2,I,h6,a6,R4.mono P.toCh,X,by rw[p.rs];exact L,Y,e8,λZ H7 τ7 T7 S7 R7 A7=>?_⟩;exact⟨Z,I,h6,a6,(F.trans p.UA).trans T7,R7,S7,A7,e9⟩
  ·rw[WM C]at j;cases j
def zZ(Y:∀f H l,A.at_ K f (upd H l (o l)) l a0)(hh:∃f p h r s t n y E,cA K f H σ p/\bM K f h H/\X p h=some (r,s,t)/\dM s g mt m r (kZ e p) t a0=some (n,y,E)/\∀l d v,cV f H d v->bM K d y v->¬d.has l->A.at_ K d v l E->Q (.ref l) v):
  k8 e (NQ K X) o (GA K g) (Dh K mt) (λl=>GW K A l m) σ H Q:=by
 have⟨f,p,h,r,s,t,n,y,E,R,S,e1,Z,k⟩:=hh;apply⟨f,p,h,r,s,t,R,S,e1,λJ a L N P It l hl=>?_⟩;have M:¬a.has l:=P.fresh hl;have F:Ch a L (a.keep l) (upd L l (o l)):=Ch.keep hl;apply Dz It F (((R.mono N.toCh).Bd e).mono F) (P.keep hl) (WI) (Y _ _ _) Z λw u U I O R2 A2=>?_;have⟨i,x⟩:=w;have C:x=l::a.rs:=I.rs;subst C;have c:∀b∈a.rs,b∈l::a.rs:=λb j=>WG _ j;have T:Ch ⟨i,l::a.rs⟩ u ⟨i,a.rs⟩ u:=Ch.free c;have q:∀b∈a.rs,b≠l:=λb j z=>M (.inr (z ▸ j));have G:cV a L ⟨i,a.rs⟩ u:=⟨(F.trans I.ch).trans T,rfl,λb j=>(I.res b (c b j) (q b j)).trans (aE (q b j))⟩;apply k l _ u (N.trans G) (O.free c) (λz=>?_) (A.mono A2 T rfl);rcases z with z |z
 ·exact(O.vY l WI).2 z
 ·exact M (.inr z)
end
def Uv{b:Type}(X:Cx)(a:Addr->Env->Sem Unit)(A:Ac b)(m:MK b):Prop:=∀l,L2.PM X (a l X.env) (GW X.K A l m)
def _root_.L2.PM.imp(h:L2.PM X a t)(i:∀b H Q,d b H Q->t b H Q):L2.PM X a d:=λc s b H Q I q=>h c s b H Q I (i b H Q q)
def Av{d:Type}(i:IM)(g:GM)(c:TM)(m:MK d):MK d:=λb h a=>(i b h).bind λp=>dM p.2.1 g c m p.1 b p.2.2 a
section
variable {α:Type} {X:Cx} {A:Ac α} {g:GM} {mt:TM} {m:MK α} {mi:IM} {e tg iter:Expr} {ifs:List Expr} {d:Nat} {p:Pos} {act:Addr->Env->Sem Unit}
def KI(y:Plain e)(n:(clausesOf e)[d]?=some ⟨tg,iter,ifs,0⟩)(ht:∀(c l:Addr)(env:Env),compTurn e d (.ref c) (.ref l) env=fA e d tg ifs (act l env) p (.ref c) (.ref l) env)(E:X.calm=true)(v:X.xe=λ_ _=>False)
  (z:SI X tg iter mi) (C:SG X tg g) (j:Nu X ifs mt) (hm:Uv X act A m) (w:∀x,foldedSetIterable iter X.env x=pure x:=by intro _;ac_nf):Uv X (λl env=>nv e d iter (.ref l) env) A (Av mi g mt m):=λl=>
 (Lk y n (λc=>ht c l X.env) E v z C j (hm l) w).imp λσ H Q u9=>by
  have⟨q,s,h,a,r,Y,Z,R,S,hl,F,I,k⟩:=u9;obtain⟨⟨t,u,G⟩,M,L⟩:=bc I;exact⟨q,s,h,t,u,G,R,S,M,λJ o H1 b P It=>Dz It (.refl _ _) (R.mono b.toCh) P (by rw[b.rs];exact hl) (A.mono F b.toCh (b.res l hl)) L λi T f N O R2 U=>k i T f (b.UA.trans N) O R2 U⟩
end
end Sm
namespace L2
open PyProof.Rows
theorem lM:∀(a:List α)(i:Nat)(x:α),a[i]?=some x->(x::a.eraseIdx i).Perm a
 |y::r,0,x,h=>by
  rw[AbE]at h;cases h;exact .refl _
 |y::r,i+1,x,h=>by
  rw[X2]at h;exact(List.Perm.swap y x _).trans ((lM r i x h).cons y)
theorem C8:∀(n:Nat)(c:List α)(s:Shared)(Q:List α->Shared->Prop),n=c.length->(∀g d,g.Perm c->Q g {s with drawn:=d})->wpAny M A (drawOrder n c) Q E s
 | 0,c,s,Q,e,h=>by
  have:c=[]:=Aa3 e.symm;subst this;exact WD (h [] s.drawn (.refl _))
 |n+1,[],s,Q,e,h=>by cases e
 |n+1,x::r,s,Q,e,h=>by
  unfold drawOrder;apply Wz (show wpAny M A (choose .order (x::r).length) _ E s fromλk p hΓ=>?_);unfold choose;rw[Sem.wp_choose];apply⟨by simp,?_⟩;have b:M.w.draws .order (s.drawn.get .order) % (x::r).length<(x::r).length:=Abg _ (by simp);generalize M.w.draws .order (s.drawn.get .order) % (x::r).length=i at b ⊢;have j:(x::r)[i]?=some ((x::r)[i]):=WK b;generalize (x::r)[i]=y at j;show Sem.wp M k (pure i) _ _ p _;apply(WD (M:=M) (A:=A) (E:=E) (a:=i) (s:={s with drawn:=s.drawn.bump .order}) ?_) k p hΓ;rw[j];have f:n=((x::r).eraseIdx i).length:=by rw[Abj b,<-e];rfl
  apply Wz (C8 n _ _ _ f λg d l=>WD ?_);exact h (y::g) d ((l.cons y).trans (lM _ _ _ j))
theorem DO(nx:Nat->Nat):∀(fuel k:Nat)(left:List α)(out:Array α),fuel=left.length->(pickOrder.go nx fuel k left out).toList.Perm (out.toList++left)
 | 0,k,left,out,e=>by
  have:left=[]:=Aa3 e.symm;subst this;unfold pickOrder.go;rw[XC]
 |fuel+1,k,left,out,e=>by
  unfold pickOrder.go;have a:nx k % left.length<left.length:=Abg _ ();have b:left[nx k % left.length]?=some (left[nx k % left.length]):=WK a;generalize left[nx k % left.length]=y at b;rw[b];dsimp only;apply(DO nx fuel (k+1) _ _ (by rw[Abj a];lia)).trans ?_;rw[Array.toList_push,Xo];exact(lM _ _ _ b).append_left _
def wg(nx:Nat->Nat)(a:Array α):(pickOrder nx a).toList.Perm a.toList:=by
 unfold pickOrder;have:=DO nx a.size 0 a.toList #[] (by simp)
 simpa using this
def tT{b:Type}(es:Array (b×Value)){a:List Nat}(hp:a.Perm (List.range es.size)):(a.filterMap λk=>(es[k]?).map (·.2)).Perm (es.toList.map (·.2)):=by
 apply(hp.filterMap _).trans (List.Perm.of_eq ?_);have:∀l:List (b×Value),(List.range l.length).filterMap (λk=>(l[k]?).map (·.2))=l.map (·.2):=by
  intro l;have d:(List.range l.length).filterMap (λk=>(l[k]?).map (·.2))=((List.range l.length).filterMap λk=>l[k]?).map (·.2):=by
   rw[List.map_filterMap]
  rw[d,List.filterMap_getElem?_range_length]
 have c:=this es.toList
 simpa using c
def entry_set_iter':entryFor table "set.__iter__"=some Builtin.«frozenset.__iter__»:=entryFor_alias (id':="frozenset.__iter__") (by ac_nf) rfl (by decide+kernel) (by ac_nf)
def dm:Slot "set_iterator" "__next__" "set_iterator.__next__":=.of (owner:="set_iterator") (n:="__next__") (by rw[AbG,AaN];ac_nf) (by decide+kernel) (by decide+kernel) (by decide+kernel) (by first |exact .inl (by decide+kernel) |exact .inr (by decide+kernel)) (by rw[isSubtype_type];ac_nf)
def kY:entryFor table "set_iterator.__next__"=some Builtin.«set_iterator.__next__»:=entryFor_of_fast (by ac_nf)
def nQ(a:Value):argsOk "set_iterator.__next__" ⟨[a],[]⟩:=by unfold argsOk;ac_nf
def wpAny_of_eq'(e:m=m')(h:wpAny M A m' Q E s):wpAny M A m Q E s:=e ▸ h
section
variable {P:Program} {w:World} {A:Around} {E:Value->Shared->Prop} {s:Shared} {a:Addr} {ks:List Str}
def yL(f:s.heap.get? J=some o)(hd:o.data=.fields fs)(g:k<fs.size)(h:∀d c,(∀b u,b≠J->s.heap.get? b=some u->d.get? b=some u)->d.get? J=some c->c.cls=o.cls->c.data=.fields (fs.setIfInBounds k x)->Q ⟨⟩ {s with heap:=d}):wpAny M A (setField (.ref J) k x) Q E s:=by
 apply wpAny_setField f hd g (h _ _ (λb u i e=>(YO _ _ (XW i)).trans e) (Yx _ f (Obj.isFreed_of_fields (Aab hd _))) (Obj.cls_mapFields ..) ?_);rw[Aab hd]
def EL(b:s.heap.get? a=some ob)(c:ob.data=.set es e t)(d:t.fits es.size=true)(ht:w.params.followText "set-order"=true)(h:Q (pickOrder (w.params.setOrder a e) es) s):wpAny (model P w) A (setWalk a) Q E s:=by
 unfold setWalk setsByText;apply Wz (Yp b c d ?_);dsimp only;apply Wz (Wz (YS (WD ?_)));rw[WH (show(model P w).w.params.followText "set-order"=true from ht)];exact Wz (YS (WD h))
def wA(b:s.heap.get? a=some ob)(c:ob.data=.set es f t)(d:t.fits es.size=true)(ht:w.params.followText "set-order"=true)(h:Q (((pickOrder (w.params.setOrder a f) es)[i]?).map λe=>(e.2,k)) s):wpAny (model P w) A (setNext a k i f) Q E s:=by
 unfold setNext setsByText;apply Wz (Yp b c d ?_);dsimp only;apply Wz (Wz (YS (WD ?_)));rw[WH (show(model P w).w.params.followText "set-order"=true from ht)];simp only[Yi,W8,↓reduceIte];exact Wz (EL b c d ht (WD h))
def xA{J:Addr}(hh:A.handled=none)(g:∀f,(∀b o,s.heap.get? b=some o->f.get? b=some o)->Q none {s with heap:=f}):
  wpAny (model P w) A.in1 (do let x<-newExc (.type "StopIteration") [];raiseNew x:Sem Fin) (λd c=>∃v,d=Fin.done (Flow.ret v)/\wpAny (model P w) A (pure (some v)) Q E c)
   (λe c=>wpAny (model P w) A (do let b<-isInstance e (.type "StopIteration");if b=true then pure none else throw e) Q E c) s:=by
 apply Wz ?_;simp only[newExc,newTuple];apply Wz (XO ?_ (by size_fits));apply Wz (m:=firstArgMember _ _) (Abw (a:=Value.none) (by first |rfl |(simp only[firstArgMember];rfl)) (XO ?_ (by size_fits)));simp only[raiseNew];apply Wz (wpAny_handled ?_);rw[show A.in1.handled=none from hh];apply Wz (WD (wpAny_throw ?_));apply Wz (YA (T:="StopIteration") (b:=true) (show Shared.TypeIs _ (.ref _) _ from⟨_,WZ _ rfl,rfl⟩) Zk ?_);exact WD (g _ λb o e=>WC _ (WC _ e))
end
def uC:splitId "set.__len__"=some ("set","__len__"):=by ac_nf
def sub_set_set:isSubtype (.type "set") (.type "set")=pure true:=by rw[isSubtype_type];ac_nf
def rO:typeLookup (.type "set") (Str.ofString "__len__")=pure (some (.builtin "set.__len__")):=F.slot_set_len.lookup
noncomputable def GD(a b:Str):Bool:=!ltCps b.cps.toList a.cps.toList
def iA:GD a b=true↔strKind.kle a.cps.toList b.cps.toList:=by
 unfold GD KeyOrd.kle;rw[ltCps_eq];simp
def wJ(a b c:Str)(e:GD a b=true)(d:GD b c=true):GD a c=true:=iA.mpr (KeyOrd.kle_trans (iA.mp e) (iA.mp d))
def FJ(a b:Str):(GD a b||GD b a)=true:=by
 rw[Yn]
 by_cases z:strKind.klt b.cps.toList a.cps.toList
 ·exact .inr (iA.mpr (KeyOrd.kle_of_klt z))
 ·exact .inl (iA.mpr (KeyOrd.kle_of_not_klt z))
def IV(a b:Str)(d:GD a b=true)(c:GD b a=true):a=b:=by
 have:=KeyOrd.kle_antisymm (iA.mp d) (iA.mp c);cases a;cases b;congr 1;exact ZJ.mp this
def iQ(ks:List Str):List Str:=ks.mergeSort GD
def lh(ks:List Str):(iQ ks).Perm ks:=List.mergeSort_perm _ _
def xD(ks:List Str):(iQ ks).Pairwise λa b=>GD a b=true:=AbB wJ FJ ks
theorem wc:∀(l:List Str)(p:Str),risingS p l=true->(p::l).Pairwise λa b=>GD a b=true
 |[],p,_=>by simp
 |x::r,p,h=>by
  have c:(!ltCps x.cps.toList p.cps.toList&&risingS x r)=true:=h;rw[W9]at c;have e:=wc r x c.2;apply Y0.mpr ⟨λy d=>?_,e⟩;rcases WV.mp d with rfl |d
  ·exact c.1
  ·exact wJ _ _ _ c.1 ((Y0.mp e).1 y d)
def G6(hp:ss.Perm ks)(h:sortedS ss=true):ss=iQ ks:=by
 apply Z8 (λa b _ _=>IV a b) ?_ (xD ks) (hp.trans (lh ks).symm)
 match ss,h with
 |[],_=>exact .nil
 |x::r,h=>exact wc r x h
def oK:Kj X (newList []) (λ_=>.lst []):=λa s b H Q E I h=>XO (h _ _ (I.PC (t':=s.toks) (its:=[]) (ys:=[]) .nil (Xg _)))
def NS(d:TE)(l:Addr):TK:=λb H N=>d b H λy c=>∃a,c l=some (.lst a)/\a.length<sizeLine/\N b (upd c l (.lst (a++[y])))
def Ll(r:PE B elt j):PM B (jv elt (.ref l) B.env) (NS j l):=λa s b H N I h=>by
 unfold jv;apply Wz (cQ (r a s b H _ I h) λy k t=>?_);have⟨g,v,u,n,i,q,p,o⟩:=t;apply Wz (Yd (wC (X:=B) _ k b v (.ref l) [g] (.ref l) [y] (λ_ x=>N b x) u rfl (.cons n .nil) ⟨_,i,g,rfl,rfl,q,p,o⟩) (λ_ m d=>?_) λ_ _ e=>e);have⟨_,w,f,_,c⟩:=d;exact WD ⟨_,_,f,c⟩
end L2
namespace Sm
open L2 PyProof.Rows
noncomputable def Q6:Ac (List D) where
 at_:=λK c H l a=>∃b,H l=some (.lst b)/\az K c H b a
 mono:=λ⟨b,e,r⟩ T q=>⟨b,q.trans e,r.mono T⟩
noncomputable def mL(e:EM):MK (List D):=λb h a=>(e b h).bind λp=>if a.length<sizeLine then some (b,p.2,a++[p.1])else none
theorem lQ.put{K:FR}(T:cV d H a H1)(hl:l∈d.rs):lQ l d H a (upd H1 l o):=by
 have c:l∈a.rs:=by rw[T.rs];exact hl
 exact⟨T.toCh.trans (Ch.put c),T.rs,λb e n=>(aE n).trans (T.res b e)⟩
def xE(v:SE X elt r):Uv X (λl env=>jv elt (.ref l) env) Q6 (mL r):=λl=>(Ll v).imp λm H N ⟨n,p,h,a,o,A,C,R,S,hl,⟨i,t,j⟩,e,s⟩=>by
 obtain⟨⟨y,z⟩,w,d⟩:=bc e;dsimp only at d
 by_cases g:a.length<sizeLine
 ·rw[WH g]at d;cases d;apply⟨n,p,h,y,_,R,S,w,λu H1 ⟨b,f,x,q⟩=>⟨i,(f.res l hl).trans t,by rw[j.length];exact g,?_⟩⟩;have c:l∈b.rs:=by rw[f.rs];exact hl
  have k:Ch b H1 b (upd H1 l (.lst (i++[u]))):=Ch.put c;exact s b _ m (lQ.put (K:=X.K) f hl) (x.put c) ((R.mono f.toCh).mono k) ⟨_,aQ,((j.mono f.toCh).snoc q).mono k⟩
 ·rw[WM g]at d;cases d
def bB.len{K:FR}{a:Ad}{H:Hp}:∀{us:List (Key×V)} {ks:List (Key×D)},bB K a H us ks->us.length=ks.length:=λr=>r.length
end Sm
namespace L2
open PyProof.Rows
def Inv.draw(I:Inv X pins σ H s)(d:Drawn):Inv X pins σ H {s with drawn:=d}:=⟨I.ok,I.os,I.bare,I.base,I.loc,I.cell,I.free,I.jq,I.pin,I.a9,I.len⟩
def EN{us:List Value}{b:List Str}(a:StrsAre us b):Vals (b.map V.str) us:=by
 induction a with
 |nil=>exact .nil
 |cons x t r c=>exact .cons ⟨t,rfl⟩ c
end L2
namespace Sm
open L2 PyProof.Rows
def Qf{b:Type}(a:List (Option Nat))(i:IM)(g:GM)(c:TM)(m:MK b)(e:b)(out:b->D):EM:=λd h=>(i d h).bind λp=>(dM p.2.1 g c m p.1 (kZ a d) p.2.2 e).map λq=>(out q.2.2,q.2.1)
section
variable {α:Type} {K:FR} {A:Ac α} {g:GM} {mt:TM} {m:MK α}
def Ov(u:∀b H l,A.at_ K b (upd H l (o l)) l a0)(c:∀b H l a,A.at_ K b H l a->¬b.has l->Rep K b H (.ref l) (out a))(hh:tM K (Qf e s g mt m a0 out) σ H Q):k8 e (NQ K s) o (GA K g) (Dh K mt) (λl=>GW K A l m) σ H Q:=by
 have⟨b,p,h,d,G,R,S,v,k⟩:=hh;obtain⟨⟨q,r,t⟩,z,y⟩:=bc v;obtain⟨⟨i,F,C⟩,x,w⟩:=dX y;cases w;exact zZ u ⟨b,p,h,q,r,t,i,_,C,R,S,z,x,λl f I T E n j=>k _ _ ⟨f,T,E,c _ _ _ _ j n⟩⟩
def HB{b:List (Option Nat)}{d:IM}{m:MK (List D)}{c:L2.St}{H:Hp}{Q:VK}(hh:tM K (Qf b d g mt m [] .lv) c H Q):k8 b (NQ K d) (λ_=>.lst []) (GA K g) (Dh K mt) (λl=>GW K Q6 l m) c H Q:=
 Ov (A:=Q6) (o:=λ_=>.lst []) (a0:=[]) (out:=.lv) (λf H l=>show ∃us,_ from⟨[],aQ,.nil⟩) (λf H l a h n=>by have⟨us,e,r⟩:=h;exact .lv e n r) hh
end
def K2{X:Cx}{i:Nat}{m:EM}{t:TE}{E:Ends}{a:L2.St}{H:Hp}(hh:GV X.K (aJ i m) E a H)(imp:∀a H Q,tM X.K m a H Q->t a H Q):GY t (wU i) E a H:=imp _ _ _ (HA hh)
section
variable {X:Cx} {k v tg iter elt tg2 iter2:Expr} {pos:Pos} {mk mv me:EM} {mt mt2:TM} {g g2:GM} {N':List Str} {caps:List (Option Nat)} {scope:Scope} {ifs ifs2:List Expr} {mi mi2:IM}
def Gj{ws:W}{g:GM}{c:TM}{e:EM}:∀(d:List D)(b:DS)(h:MH)(a:List D),a.length<=sizeLine->(dM ws g c (mL e) d b h a).map (λq=>(q.2.2,q.2.1))=(aX ws g c e d b h).bind λq=>if a.length+q.1.length<=sizeLine then some (a++q.1,q.2)else none:=by
 intro d
 induction d with
 |nil=>
  intro b h a f;unfold dM aX
  by_cases w:hZ ws h=true
  ·rw[WH w,WH w];show _=if a.length+0<=sizeLine then some (a++[],h)else none
   rw[WH (show a.length+0<=sizeLine from f),XC];rfl
  ·rw[WM w,WM w];rfl
 |cons x r i=>
  intro b h a f;unfold dM aX
  by_cases w:hZ ws h=true
  ·rw[WH w,WH w];cases g x b h with
   |none=>rfl
   |some q=>
    dsimp only[Option.bind_some];cases c q.1 q.2 with
    |none=>rfl
    |some t=>
     dsimp only[Option.bind_some]
     by_cases z:t.1=true
     ·rw[WH z,WH z];unfold mL;cases e q.1 t.2 with
      |none=>rfl
      |some y=>
       dsimp only[Option.bind_some]
       by_cases l:a.length<sizeLine
       ·rw[WH l,WT];apply(i _ _ _ (by rw[WR];exact l)).trans ?_;cases aX ws g c e r q.1 y.2 with
        |none=>rfl
        |some v=>
         dsimp only[Option.bind_some,Option.map_some];have j:(a++[y.1]).length+v.1.length=a.length+(y.1::v.1).length:=by simp only[WR,WW,XZ];lia
         rw[j,Xo];rfl
       ·rw[WM l];cases aX ws g c e r q.1 y.2 with
        |none=>rfl
        |some v=>
         exact(WM (λk=>l (WO (Nat.lt_add_of_pos_right (YH _)) k))).symm
     ·rw[WM z,WM z];exact i _ _ _ f
  ·rw[WM w,WM w];rfl
def AS(caps:List (Option Nat))(mi:IM)(g:GM)(mt:TM)(me:EM):Qf caps mi g mt (mL me) [] .lv=fz (cj caps mi g mt me):=by
 funext a h
 unfold Qf fz cj;cases mi a h with
 |none=>rfl
 |some p=>
  dsimp only[Option.bind_some];have k:=congrArg (Option.map λq:List D×MH=>(D.lv q.1,q.2)) (Gj (ws:=p.2.1) (g:=g) (c:=mt) (e:=me) p.1 (kZ caps a) p.2.2 [] (Xg _));rw[Option.map_map]at k;apply k.trans ?_;cases aX p.2.1 g mt me p.1 (kZ caps a) p.2.2 with
  |none=>rfl
  |some q=>
   show Option.map _ (if 0+q.1.length<=sizeLine then some ([]++q.1,q.2)else none)=Option.map _ (if q.1.length<=sizeLine then some q else none);rw[YZ];rfl
def cS(C:bN X N' caps scope)(j:X.calm=true)(f:SI X tg iter mi)(h:∀C a b c pl,SG (k5 X N' scope C a b c pl) tg g)(d:∀C a b c pl,Nu (k5 X N' scope C a b c pl) ifs mt)(i:∀C a b c pl,SE (k5 X N' scope C a b c pl) elt me)(e:∀x,foldedSetIterable iter X.env x=pure x:=by intro _;ac_nf):
  SE X (.ListComp elt [⟨tg,iter,ifs,0⟩] scope pos) (fz (cj caps mi g mt me)):=by
 rw[<-AS];exact(sT (g:=GA X.K g) (tc:=Dh X.K mt) (tm:=λl=>GW X.K Q6 l (mL me)) C j (iw ..) rfl (λm l env=>rC ..) oK f h d (λC a b c pl l=>xE (i C a b c pl) l) rfl e).imp λ_ _ _=>HB
def ie(r:X.N.Nodup)(h:X.N[i]?=some y)(j:X.env.scope.names.lookup y=some .local)(C:bN X N' caps scope)(q:X.calm=true)(n:SI X tg iter mi)(o:∀C a b c pl,SG (k5 X N' scope C a b c pl) tg g)(f:∀C a b c pl,Nu (k5 X N' scope C a b c pl) ifs mt)(p:∀C a b c pl,SE (k5 X N' scope C a b c pl) elt me)(e:swapsWith (.ListComp elt [⟨tg,iter,ifs,0⟩] scope pos) (some (.Name y py)) d.line X.env=pure true:=by ac_nf)(m:∀x,foldedSetIterable iter X.env x=pure x:=by intro _;ac_nf):
  SS X (.Assign [.Name y py] (.ListComp elt [⟨tg,iter,ifs,0⟩] scope pos) d) (aJ i (fz (cj caps mi g mt me))):=by
 rw[<-AS];exact(HS (g:=GA X.K g) (tc:=Dh X.K mt) (tm:=λl=>GW X.K Q6 l (mL me)) r h j C q (iw ..) rfl (λt l env=>rC ..) oK n o f (λC a b c pl l=>xE (p C a b c pl) l) (λ_=>rfl) e m).imp λE s H hh=>K2 hh λ_ _ _=>HB
def E6(C:bN X N' caps scope)(p:X.calm=true)(n:SI X tg iter mi)(o:∀C a b c pl,SG (k5 X N' scope C a b c pl) tg g)(f:∀C a b c pl,Nu (k5 X N' scope C a b c pl) ifs mt)
  (h:∀C a b c pl,SI (k5 X N' scope C a b c pl) tg2 iter2 mi2) (i:∀C a b c pl,SG (k5 X N' scope C a b c pl) tg2 g2) (d:∀C a b c pl,Nu (k5 X N' scope C a b c pl) ifs2 mt2)
  (he:∀C a b c pl,SE (k5 X N' scope C a b c pl) elt me) (m:∀x,foldedSetIterable iter X.env x=pure x:=by intro _;ac_nf) (e:∀env x,foldedSetIterable iter2 env x=pure x:=by intro _ _;ac_nf):
  SE X (.ListComp elt [⟨tg,iter,ifs,0⟩,⟨tg2,iter2,ifs2,0⟩] scope pos) (Qf caps mi g mt (Av mi2 g2 mt2 (mL me)) [] .lv):=
 (sT (g:=GA X.K g) (tc:=Dh X.K mt) (tm:=λl=>GW X.K Q6 l (Av mi2 g2 mt2 (mL me))) C p (iw ..) rfl (λj l env=>xt ..) oK n o f
  (λC a b c pl l=>KI (X:=k5 X N' scope C a b c pl) (iw ..) rfl (λj l env=>xr ..) rfl rfl (h C a b c pl) (i C a b c pl) (d C a b c pl) (xE (he C a b c pl)) (e _) l) rfl m).imp λ_ _ _=>
  HB
theorem wa{K:FR}{b:Ad}{H:Hp}:∀(a:List Str),(∀k∈a,PyData.strOk k=true)->az K b H (a.map V.str) (a.map D.str)
 |[],_=>.nil
 |x::r,h=>.cons (.str (h x WI)) (wa r λk c=>h k (WG _ c))
end
end Sm
namespace L2
open PyProof.Rows
section
variable {X:Cx} {e st:Expr} {te ts:TE} {pos p2:Pos}
end
end L2
namespace Sm
open L2 PyProof.Rows
section
variable {X:Cx} {e st a b c:Expr} {ma ms mb mc:EM} {pos p2:Pos}
abbrev ME:=DS->MH->Option (List (Key×D)×MH)
noncomputable def Ih:ME:=λ_ h=>some ([],h)
def dB(k v:EM)(r:ME):ME:=λd h=>(k d h).bind λp=>(v d p.2).bind λq=>(oU p.1).bind λf=>(r d q.2).map λz=>((f,q.1)::z.1,z.2)
inductive TQ(K:FR)(m:ME)(σ:L2.St)(H:Hp)(Q:List (V×V)->Hp->Prop):Prop where
 |mk (ρ δ h kvs h'):cA K ρ H σ δ->bM K ρ h H->(m δ h=some (kvs,h'))->(∀us ρ' H',cV ρ H ρ' H'->bM K ρ' h' H'->bB K ρ' H' us kvs->Q (us.map λkv=>(kV kv.1,kv.2)) H')->TQ K m σ H Q
def Wh(K:FR)(m:ME):L2.St->Hp->(List (V×V)->Hp->Prop)->Prop:=λd H Q=>TQ K m d H Q
def SP(X:Cx)(pos:Pos)(g:List (Option Expr))(d:List Expr)(m:ME):Prop:=∃f,QU X pos g d f/\∀h H Q,Wh X.K m h H Q->xx f h H Q
def BA:SP X pos [] [] Ih:=⟨[],Lg,λσ H Q u9=>by
 have⟨d,g,h,f,i,R,S,e,k⟩:=u9;cases e;exact k [] d H (.refl _ _) S .nil⟩
def cR(L:SE X F mk)(J:SE X s E)(hr:SP X pos ks t m):SP X pos (some F::ks) (s::t) (dB mk E m):=by
 have⟨w,N,M⟩:=hr;apply⟨_,HW L J N,λσ H Q u9=>?_⟩;have⟨q,i,h,G,h',R,S,P,k⟩:=u9;obtain⟨⟨x,n⟩,e1,e2⟩:=bc P;obtain⟨⟨y,l⟩,e3,e4⟩:=bc e2;have⟨I,Z,Y⟩:=bc e4;obtain⟨⟨r,hz⟩,U,T⟩:=dX Y;cases T;apply⟨q,i,h,x,n,R,S,e1,λv H1 ⟨g,j,S1,C⟩=>⟨g,i,n,y,l,R.mono j.toCh,S1,e3,λu H2 u9=>?_⟩⟩;have⟨f,p,S2,A⟩:=u9;apply M σ H2 _ ⟨f,i,l,r,_,(R.mono j.toCh).mono p.toCh,S2,U,λus d H3 o S3 z=>?_⟩;have O:=iB C Z;subst O;exact k ((I,u)::us) d H3 ((j.trans p).trans o) S3 (.cons (A.mono o.toCh) z)
def Nj(m:ME):EM:=λd h=>(m d h).bind λp=>if p.1.length<=15 then some (.dv (fc [] p.1),p.2)else none
def KQ(h:SP X pos keys vals m)(E:keys.all (·.isSome)=true)(hl:keys.length=vals.length)(U:keys≠[])(hp:∀j,QU X pos keys vals j->PE X (.Dict keys vals pos) (GX j)):SE X (.Dict keys vals pos) (Nj m):=by
 have⟨j,N,M⟩:=h;apply(hp j N).imp λσ H Q ⟨f,L,h,d,Y,R,S,O,k⟩ p l=>?_;obtain⟨⟨q,T⟩,P,t⟩:=bc O;dsimp only at t
 by_cases z:q.length<=15
 ·rw[WH z]at t;cases t;have F:Ch f H (f.keep p) (upd H p (.dK [])):=Ch.keep l;have C:¬f.has p:=S.fresh l;apply M σ _ _ ⟨f.keep p,L,h,q,_,R.mono F,S.keep l,P,λus v o u G A=>?_⟩;have x:o p=some (.dK []):=(u.res p WI).trans aQ;apply⟨x,us,rfl,by rw[A.len];exact z,?_⟩;have⟨g,w⟩:=v;have y:w=p::f.rs:=u.rs;subst y;have s:p∈(⟨g,p::f.rs⟩:Ad).rs:=WI;have i:∀b∈f.rs,b∈p::f.rs:=λb n=>WG _ n;have r:∀b∈f.rs,b≠p:=λb n z=>C (.inr (z ▸ n));have I:Ch ⟨g,p::f.rs⟩ o ⟨g,p::f.rs⟩ (upd o p (.dK (bA [] us))):=Ch.put s;have J:Ch ⟨g,p::f.rs⟩ (upd o p (.dK (bA [] us))) ⟨g,f.rs⟩ (upd o p (.dK (bA [] us))):=Ch.free i;apply k _ _ ⟨⟨g,f.rs⟩,⟨((F.trans u.toCh).trans I).trans J,rfl,λb n=>?_⟩,(G.put s).free i,.dv aQ (λz=>?_) ((bB.merge .nil A).mono (I.trans J))⟩
  ·show upd o p _ b=H b;rw[aE (r b n),u.res b (i b n)];exact aE (r b n)
  ·rcases z with z |z
   ·exact(G.vY p WI).2 z
   ·exact C (.inr z)
 ·rw[WM z]at t;cases t
end
end Sm
namespace L2
open PyProof.Rows
open HT in
def EU{t c:Addr}{a:Array Value}{j i:Value}{b e:Option Int}{Q:Value->Shared->Prop}(ht:IsTup s.heap t a)(k:s.heap.IsSliceOf c j i .none)(pl:IsPart j b)(l:IsPart i e)
  (hw:cC a.size 0 b=0/\cC a.size a.size e=a.size) (h:Q (.ref t) s):wpAny (model prog w) A (getItem (.ref t) (.ref c)) Q E s:=by
 have⟨os,d,f,m⟩:=id k;have g:s.TypeIs (.ref c) "slice":=⟨os,d,f⟩;unfold getItem
 try with_reducible apply Xn ?_
 first |apply Wz (WD ?_) |skip
 apply Wz (wpAny_sequenceKey ht.typeIs {} ?_);apply Wz (Xz (name:=Str.ofString "__getitem__") ht.typeIs X5 (XE X5 ht.typeIs entry_tuple_getitem ?_ (args_tuple_getitem _ _)));show wpAny _ _ (Builtin.Tuple.tupleItemsOf (.ref t) >>=_) _ _ s;apply Wz (tupleItemsOf_ ht (Wz (Zr g ?_)));rw[WH {}];apply Wz (gU k pl l ?_);show wpAny _ _ (if(((cC a.size 0 b:Nat):Int)==0&&(1:Int)==1&&(cC a.size a.size e-cC a.size 0 b)==a.size)=true then _ else _) _ _ s;rw[WH (by rw[hw.1,hw.2];simp)];unfold Builtin.Tuple.tupleIsExact;simp only[bind_assoc,pure_bind];apply Wz (Zr ht.typeIs ?_);rw[WH {}]
 first
  |exact Wz (Yq (WD ⟨_,rfl,WD h⟩))
  |exact Wz (Yq (Wz (WD (WD ⟨_,rfl,WD h⟩))))
def U5(K:FR):V->Option Int->Option Int->Hp->VK->Prop:=λx c d H Q=>∃a b,x=.ref a/\iJ K H a b/\(HT.cC b.length 0 c=0/\HT.cC b.length b.length d=b.length)/\Q (.ref a) H
def G7:QQ X (U5 X.K):=by
 intro d s l H x v n m p u o Q I f k pl g h;have⟨a,e,rfl,i,j,q⟩:=h;cases f;have⟨c,r,ht,t⟩:=I.tuple i;have b:c.toArray.size=e.length:=by rw[W7];exact r.length.symm
 exact⟨"tuple",_,X5.lookup,ht.typeIs,EU ht k pl g (by rw[b];exact j) ⟨.ref a,H,I,rfl,q⟩⟩
end L2
namespace Sm
open L2 PyProof.Rows
section
variable {X:Cx}
def yN(d:D)(a b:Option Int)(h:MH):Option (D×MH):=match d with
 |.tup xs=>if HT.cC xs.length 0 a=0/\HT.cC xs.length xs.length b=xs.length then some (.tup xs,h)else some (.tup (cutD xs a b),h)
 |d=>S8 d a b h
def g8(a:EM)(l u:PM):EM:=λb h=>(a b h).bind λp=>(l b p.2).bind λq=>(u b q.2).bind λr=>yN p.1 q.1 r.1 r.2
inductive Nv(K:FR)(x:V)(lo hi:Option Int)(H:Hp)(Q:VK):Prop where
 |mk (ρ h d z h'):bM K ρ h H->Rep K ρ H x d->(yN d lo hi h=some (z,h'))->(∀v H',dN K ρ H h' z v H'->Q v H')->Nv K x lo hi H Q
def U9(K:FR):V->Option Int->Option Int->Hp->VK->Prop:=λx a b H Q=>Nv K x a b H Q
def NX:QQ X (U9 X.K):=by
 intro a s g H x v j i e f l Q I m p pl o hh;have⟨q,h,d,z,r,S,rd,b,k⟩:=hh;cases d with
 |tup xs=>
  unfold yN at b;dsimp only at b
  by_cases c:HT.cC xs.length 0 e=0/\HT.cC xs.length xs.length f=xs.length
  ·rw[WH c]at b;cases b;have n:=rd;cases rd with |tup h0 t=>
   exact G7 a s g H _ v j i e f l Q I m p pl o ⟨_,_,rfl,h0.sq,by rw[t.length];exact c,k _ _ (.here S n)⟩
  ·rw[WM c]at b;exact MU a s g H x v j i e f l Q I m p pl o ⟨q,h,_,z,r,S,rd,by unfold S8;dsimp only;rw[WM c];exact b,k⟩
 |_=>exact MU a s g H x v j i e f l Q I m p pl o ⟨q,h,_,z,r,S,rd,b,k⟩
def He{a:Expr}{q r:Option Expr}{pos E:Pos}{o:EM}{n m:PM}(G:SE X a o)(hl:SP' X q n)(F:SP' X r m):SE X (.Subscript a (.Slice q r none E) pos) (g8 o n m):=
 (Ib NX G hl F).imp λσ H Q u9=>by
  have⟨A,g,h,d,I,R,S,e,k⟩:=u9;obtain⟨⟨x,y⟩,P,O⟩:=bc e;obtain⟨⟨l,t⟩,N,M⟩:=bc O;obtain⟨⟨u,s⟩,L,J⟩:=bc M;exact⟨A,g,h,x,y,R,S,P,λv H1 ⟨f,j,Y,C⟩=>⟨f,g,y,l,t,R.mono j.toCh,Y,N,λc H2 i U=>⟨c,g,t,u,s,(R.mono j.toCh).mono i.toCh,U,L,λb H3 z T=>
   ⟨b,s,x,d,I,T,C.mono (i.trans z).toCh,J,λw Z p=>k w Z (p.step (j.trans (i.trans z)))⟩⟩⟩⟩
noncomputable def o6:Fn:=λa h=>match a with
 |[.bl b]=>some (.int (if b then 1 else 0),h)
 |_=>none
def JD:gm X (.type "int") o6:=by
 intro b s g H j us Q I r hh;have⟨i,h,f,z,h',S,l,a,k⟩:=hh
 match f,l,a with
 |[],_,a=>exact cw a
 |_::_::_,_,a=>exact absurd a (by unfold o6;split <;> simp_all)
 |[d],l,a=>
  have⟨v,rfl,rd⟩:=rep1 l;cases rd <;> first |(exact cw a) |skip
  cases a;have⟨u,rfl,c⟩:=Vals.one r;cases c;exact call_int_bool ⟨.int _,H,I.kept (t':=s.toks+1) (h':=s.heap) λ_ _ e=>e,⟨_,rfl⟩,k _ _ (.here S (.int _))⟩
def jr(d e:D)(h:MH):Option (D×MH):=match d,e with
 |.str x,.int n=>if x.length<=1000/\0<=n/\n<=1000/\PyData.strOk (Txt.mul x n)=true then some (.str (Txt.mul x n),h)else none
 |d,e=>P8 d e h
def iy:qt X (binaryOp .Mult) jr:=by
 intro b s l H x y v u Q I i g hh;have⟨m,h,d,e,z,h',S,rd,j,a,k⟩:=hh;unfold jr at a
 split at a
 ·rename_i f n
  by_cases c:f.length<=1000/\0<=n/\n<=1000/\PyData.strOk (Txt.mul f n)=true
  ·rw[WH c]at a;cases a;cases rd;cases j;have⟨A,rfl⟩:=i;have⟨w,rfl⟩:=g;have⟨t,C,r,q⟩:=c;apply SB.mul ⟨?_,λ_ _=>?_,λ_ _=>?_⟩ λt' o=>⟨.str _,H,I.kept (t':=o) (h':=s.heap) λ_ _ e=>e,⟨t',rfl⟩,k _ _ (.here S (.str q))⟩
   ·rw[Xc (),Xc ()];rfl
   ·have p:(9007199254740991:Int)<=(2^63-1) / n:=by
     apply Int.le_ediv_of_mul_le () ?_;have:9007199254740991*n<=9007199254740991*1000:=Int.mul_le_mul_of_nonneg_left r {}
     lia
    lia
   ·have p:f.length*n.toNat<=1000*1000:=Abf t ();apply Xc ?_;have:=Yv
    lia
  ·rw[WM c]at a;cases a
 ·exact O7 b s l H x y v u Q I i g ⟨m,h,_,_,z,h',S,rd,j,a,k⟩
end
end Sm
namespace L2
open PyProof.Rows
section
variable {X:Cx} {e st:Expr} {te ts:TE} {pos p2:Pos}
end
end L2
namespace Sm
open L2 PyProof.Rows
section
variable {X:Cx} {e st:Expr} {ma ms:EM} {pos p2:Pos}
end
end Sm
namespace L2
open PyProof.Rows
open HT in
def JJ{t b:Addr}{e j:List Value}{Q:Value->Shared->Prop}(ht:IsTup s.heap t e.toArray)(q:IsTup s.heap b j.toArray)(p:e=[])(h:Q (.ref b) s):wpAny (model prog w) A (binaryOp .Add (.ref t) (.ref b)) Q E s:=by
 obtain⟨⟨r,dd,data,o⟩,k,l,n,hd⟩:=id ht;obtain⟨⟨m,g,i,f⟩,a,d,n2,c⟩:=id q;simp only at l hd d c;subst l hd d c;exact concat_meets ⟨_,k,rfl⟩ ⟨_,a,rfl⟩ Abo seq_tuple_add Aai Aad (Z5 _ _)
   (tuple_addW0 t b e.toArray j.toArray n n2 dd g o f (by simp[p])) ⟨k,a,h⟩
def Iu:qN X (binaryOp .Add) (λx y H Q=>∃a b c,x=.ref a/\y=.ref b/\iJ X.K H a []/\iJ X.K H b c/\Q (.ref b) H):=by
 intro d s o H x y v u Q I g f h;have⟨a,b,c,rfl,rfl,n,m,q⟩:=h;cases g;cases f;have⟨l,i,k,_⟩:=I.tuple n;have⟨e,p,j,_⟩:=I.tuple m;exact JJ k j (i.q5.mpr rfl) ⟨.ref b,H,I,rfl,q⟩
end L2
namespace Sm
open L2 PyProof.Rows
def aN(d e:D)(h:MH):Option (D×MH):=match d,e with
 |.tup [],.tup a=>some (.tup a,h)
 |d,e=>Cy d e h
def dS:qt X (binaryOp .Add) aN:=by
 intro a s g H x y v u Q I j i hh;have⟨l,h,d,e,z,p,S,rd,f,b,k⟩:=hh;unfold aN at b
 split at b
 ·cases b;have c:=f;cases rd with |tup o m=>cases f with |tup n q=>
  cases m;exact Iu a s g H _ _ v u Q I j i ⟨_,_,_,rfl,rfl,o.sq,n.sq,k _ _ (.here S c)⟩
 ·exact Pb a s g H _ _ v u Q I j i ⟨l,h,_,_,z,p,S,rd,f,b,k⟩
noncomputable def F5:Fn:=λa h=>match a with
 |[.int i,.int j]=>some (.int (if j<i then j else i),h)
 |_=>none
noncomputable def vz:Fn:=λa h=>match a with
 |[.int i,.int j]=>some (.int (if j > i then j else i),h)
 |_=>none
def Qj(g:X.calm=true):gm X (.builtin "min") F5:=by
 intro b s c H m us Q I r hh;have⟨j,h,i,z,n,S,l,a,k⟩:=hh
 match i,l,a with
 |[],_,a=>exact cw a
 |[_],_,a=>exact absurd a (by unfold F5;split <;> simp_all)
 |_::_::_::_,_,a=>exact absurd a (by unfold F5;split <;> simp_all)
 |[d,e],l,a=>
  have⟨v,w,rfl,rd,f⟩:=rep2 l;cases rd <;> first |(exact cw a) |skip
  cases f <;> first |(exact cw a) |skip
  cases a;exact Gm g b s c H _ us Q I r ⟨_,_,rfl,k _ _ (.here S (.int _))⟩
def Qk(g:X.calm=true):gm X (.builtin "max") vz:=by
 intro b s c H m us Q I r hh;have⟨j,h,i,z,n,S,l,a,k⟩:=hh
 match i,l,a with
 |[],_,a=>exact cw a
 |[_],_,a=>exact absurd a (by unfold vz;split <;> simp_all)
 |_::_::_::_,_,a=>exact absurd a (by unfold vz;split <;> simp_all)
 |[d,e],l,a=>
  have⟨v,w,rfl,rd,f⟩:=rep2 l;cases rd <;> first |(exact cw a) |skip
  cases f <;> first |(exact cw a) |skip
  cases a;exact Gn g b s c H _ us Q I r ⟨_,_,rfl,k _ _ (.here S (.int _))⟩
def Sx:Gx:=λd c h=>(cg d h).bind λb=>match c with
 |[k]=>(oU k).map λa=>((dE b a).getD .bg,h)
 |[k,x]=>(oU k).map λa=>((dE b a).getD x,h)
 |_=>none
def Px(C:X.A.units+1<cLine):GH X "dict.get" (rM X.K Sx):=by
 intro w s U H x xs v us Q I M rs hh;have⟨Y,h,d,R,z,h',S,rd,l,O,k⟩:=hh;have⟨N,P,b⟩:=bc O;have⟨a,ws,rfl,E,lk⟩:=iC S rd P;obtain rfl:v=Value.ref a:=M
 match R,l,b with
 |[],_,b=>exact cw b
 |[y],l,b=>
  have⟨f,r,q⟩:=dX b;cases q;have⟨F,rfl,g⟩:=rep1 l;have⟨u,rfl,m⟩:=Vals.one rs;have p:=iB g r;subst p;apply Qi C I (om.k E) m λG L t n=>⟨_,H,t,n,k _ _ ?_⟩;rcases lk.val f with⟨e,c⟩ |⟨T,J,e,c,o⟩
  ·rw[e,c];exact .here S .bg
  ·rw[e,c];exact .here S o
 |[y,x0],l,b=>
  have⟨f,r,q⟩:=dX b;cases q;have⟨F,Z,rfl,g,i⟩:=rep2 l;have⟨u,u2,rfl,m,j⟩:=Vals.two rs;have p:=iB g r;subst p;apply Qh C I (om.k E) m j λG L t n=>⟨_,H,t,n,k _ _ ?_⟩;rcases lk.val f with⟨e,c⟩ |⟨T,J,e,c,o⟩
  ·rw[e,c];exact .here S i
  ·rw[e,c];exact .here S o
 |_::_::_::_,_,b=>exact absurd b (by simp)
end Sm
namespace L2
open PyProof.Rows
section
variable {X:Cx} {a b:Expr} {rest:List Expr} {pos:Pos} {ta tb:TE}
end
end L2
namespace Sm
open L2 PyProof.Rows
section
variable {X:Cx} {a b:Expr} {pos:Pos} {ma mb:EM}
end
end Sm
namespace L2
open PyProof.Rows
end L2
namespace Sm
open L2 PyProof.Rows
def QB:bootBuiltins "min"=some (.builtin "min"):=by decide+kernel
def QC:bootBuiltins "max"=some (.builtin "max"):=by decide+kernel
section
variable {X:Cx} {g:GM} {mt:TM} {ma:EM}
end
end Sm
namespace L2
open PyProof.Rows
theorem vN:∀{a:List Str} {us:List Value},Vals (a.map V.str) us->StrsAre us a
 |[],_,.nil=>.nil
 |x::r,_,.cons q l=>by have⟨t,rfl⟩:=q;exact .cons x t (vN l)
def CN:eW X (.builtin "sorted") (λg H Q=>∃a c,g=[.ref a]/\eV X.K H a (c.map V.str)/\c.length<64/\∀l,H l=none->Q (.ref l) (upd H l (.lst ((iQ c).map V.str)))):=by
 intro i s A H g us Q I r h;have⟨a,c,rfl,t,w,q⟩:=h;have⟨u,rfl,m⟩:=vals1 r;cases m;have⟨d,rv,p,C⟩:=I.list t;have v:=vN rv;have j:d.length=c.length:=by have:=rv.length;rw[WA]at this;exact this.symm
 apply sorted_strs p.isList v () λout k z y x=>?_;have:=G6 y x;subst this;have hl:s.heap.objs.size<=s.heap.objs.size+1:=Yy _;have⟨e,n⟩:=sortedAll_at s.heap d out;have f:((iQ c).map V.str).length<=sizeLine:=by rw[WA,(lh c).length_eq,Yv];lia
 apply⟨.ref (s.heap.objs.size+1),_,I.laid (t':=s.toks) (o:=.lst ((iQ c).map V.str)) (λb o q=>sortedAll_old q) hl ⟨f,out.toList,e,EN z,?_⟩,rfl,q _ (I.a9.fresh hl)⟩;rw[n]
end L2
namespace Sm
open L2 PyProof.Rows
noncomputable def tK:List D->Option (List Int)
 |[]=>some []
 |.int i::r=>(tK r).map λa=>i::a
 |_=>none
theorem AF:∀{a:List D} {ns:List Int},tK a=some ns->a=ns.map D.int
 |[],_,e=>by cases e;rfl
 |d::r,ns,e=>by
  cases d <;> first |(exact cw e) |skip
  have⟨f,c,b⟩:=dX (show(tK r).map _=some ns from e);cases b;rw[AF c];rfl
theorem wO:∀(ns:List Int),tK (ns.map D.int)=some ns
 |[]=>rfl
 |n::r=>by show(tK (r.map D.int)).map _=_;rw[wO r];rfl
def BU{K:FR}{c:Ad}{H:Hp}:∀{b:List V} {ns:List Int},az K c H b (ns.map D.int)->b=ns.map V.int:=by
 intro b ns
 induction ns generalizing b with
 |nil=>intro a;cases a;rfl
 |cons n r d=>intro a;cases a with |cons q l=>cases q;rw[d l];rfl
noncomputable def rH:List D->Option (List Str)
 |[]=>some []
 |.str i::r=>(rH r).map λa=>i::a
 |_=>none
theorem zE:∀{a:List D} {ns:List Str},rH a=some ns->a=ns.map D.str
 |[],_,e=>by cases e;rfl
 |d::r,ns,e=>by
  cases d <;> first |(exact cw e) |skip
  have⟨f,c,b⟩:=dX (show(rH r).map _=some ns from e);cases b;rw[zE c];rfl
theorem vO:∀(ns:List Str),rH (ns.map D.str)=some ns
 |[]=>rfl
 |n::r=>by show(rH (r.map D.str)).map _=_;rw[vO r];rfl
theorem so{K:FR}{c:Ad}{H:Hp}:∀{b:List V} {ns:List Str},az K c H b (ns.map D.str)->b=ns.map V.str/\∀k∈ns,PyData.strOk k=true
 |_,[],.nil=>⟨rfl,λ_ h=>(nomatch h)⟩
 |_,n::r,.cons q l=>by
  cases q with
  |str h=>
   have⟨e,f⟩:=so l;apply⟨by rw[e];rfl,λk a=>?_⟩;rcases WV.mp a with rfl |a
   ·exact h
   ·exact f k a
def Jj:Fn:=λb h=>match b with
 |[d]=>(dY d h).bind λa=>(rH a).bind λns=>if ns.length<64 then some (.lv ((iQ ns).map D.str),h)else none
 |_=>none
def JB:gm X (.builtin "sorted") Jj:=by
 intro e s i H A us Q I r hh;have⟨w,h,u,z,E,S,l,b,k⟩:=hh
 match u,l,b with
 |[],_,b=>exact cw b
 |_::_::_,_,b=>exact cw b
 |[d],l,b=>
  have⟨v,rfl,rd⟩:=rep1 l;have⟨y,t,q⟩:=bc b;have⟨ns,p,g⟩:=bc q
  by_cases c:ns.length<64
  ·rw[WH c]at g;cases g;have⟨a,C,rfl,n,j⟩:=dz S rd t;have:=zE p;subst this;have⟨o,f⟩:=so j;subst o;apply CN e s i H _ us Q I r ⟨a,ns,rfl,eV.of n,c,λl hl=>k _ _ (.lv S (wa _ λx m=>f x ((lh ns).mem_iff.mp m)) hl)⟩
  ·rw[WM c]at g;cases g
section
variable {α:Type} {K:FR} {A:Ac α} {l:Addr} {g:GM} {mt:TM} {m:MK α}
mutual
theorem Rep.calm(f:∀a,j.has a->k.has a){v:V}{d:D}(r:Rep K k H v d)(c:gu 0 d=true):Rep K j H v d:=by
 cases r with
 |bg=>exact .bg
 |bl b=>exact .bl b
 |int i=>exact .int i
 |str h=>exact .str h
 |ty n=>exact .ty n
 |tup h l=>exact .tup (h.elim (λ⟨a,n⟩=>.inl ⟨a,λz=>n (f _ z)⟩) .inr) (az.calm f l c)
 |lv h n l=>exact .lv h (λz=>n (f _ z)) (az.calm f l c)
 |ro h l=>exact .ro (h.elim (λ⟨a,n⟩=>.inl ⟨a,λz=>n (f _ z)⟩) .inr) (az.calm f l c)
 |dv h n l=>exact .dv h (λz=>n (f _ z)) (bB.calm f l c)
 |ob e=>simp[gu]at c
theorem az.calm(f:∀a,b.has a->h.has a){e:List V}{d:List D}(r:az K h H e d)(c:dh 0 d=true):az K b H e d:=by
 cases r with
 |nil=>exact .nil
 |cons r l=>have c:=Xb.mp c;exact .cons (Rep.calm f r c.1) (az.calm f l c.2)
theorem bB.calm(f:∀a,b.has a->h.has a){e:List (Key×V)}{d:List (Key×D)}(r:bB K h H e d)(c:Mo 0 d=true):bB K b H e d:=by
 cases r with
 |nil=>exact .nil
 |cons r l=>have c:=Xb.mp c;exact .cons (Rep.calm f r c.1) (bB.calm f l c.2)
end
end
section
variable {X:Cx} {k v tg iter:Expr} {pos:Pos} {mk mv:EM} {mt:TM} {g:GM} {N':List Str} {caps:List (Option Nat)} {scope:Scope} {ifs:List Expr} {mi:IM}
end
def w5:bootBuiltins "sorted"=some (.builtin "sorted"):=by decide+kernel
end Sm
namespace L2
open PyProof.Rows
def iJ.off{K:FR}{H:Hp}{a d:Addr}{b:List V}{o:HO}(h:iJ K H a b)(hd:H d=none):iJ K (upd H d o) a b:=by
 rcases h with h |h
 ·rcases h with h |⟨u,h⟩
  ·exact .inl (.inl (by rw[aE (aO h hd)];exact h))
  ·exact .inl (.inr ⟨u,by rw[aE (aO h hd)];exact h⟩)
 ·exact .inr h
end L2
namespace Sm
open L2 PyProof.Rows
end Sm
namespace L2
open PyProof.Rows
end L2
namespace Sm
open L2 PyProof.Rows
noncomputable def Mb(d e:D)(h:MH):Option (D×MH):=match d,e with
 |.tup xs,.tup []=>some (.bl xs.isEmpty,h)
 |_,_=>none
theorem zT{K:FR}{c:Ad}{H:Hp}:∀{a:List V} {b:List D},az K c H a b->a.length=b.length
 |_,_,.nil=>rfl
 |_,_,.cons _ l=>by rw[WW,WW,zT l]
def Qd(F:X.A.units+64<cLine)(I:L2.Inv X pins σ H s)(m:L2.RelV x v)(l:L2.RelV y u)(rd:Rep X.K k H x (.tup xs))(n:Rep X.K k H y (.tup [])):
  (∀Q:Value->Shared->Prop,Q (.bool xs.isEmpty) s->wpAny (model X.prog X.w) X.A (compareOp .Eq v u) Q X.xe s)/\∀Q:Value->Shared->Prop,Q (.bool (!xs.isEmpty)) s->wpAny (model X.prog X.w) X.A (compareOp .NotEq v u) Q X.xe s:=by
 cases rd with
 |@tup a E _ h0 t=>
  cases n with
  |@tup b ws _ C o=>
   cases m;cases l;have⟨c,rv,p,_⟩:=I.tuple h0.sq;have⟨g,f,q,_⟩:=I.tuple C.sq;have n1:c.length=xs.length:=by rw[<-zT t];exact rv.length.symm
   have n2:g=[]:=by
    cases o;exact AbC.mp (by have:=f.length;simpa using this.symm)
   subst n2;have i:((List.range (min c.toArray.size ([]:List Value).toArray.size)).all (λ_=>true)&&c.toArray.size==([]:List Value).toArray.size)=xs.isEmpty:=by
    cases xs with
    |nil=>
     have:=AbC.mp n1;subst this;rfl
    |cons x r=>
     rw[W7,n1];simp
   have d:X.A.units<cLine:=by lia
   apply⟨λQ z=>PySem.SeqAt.eq_tupleAt (e:=λ_=>true) p q d (λj _ h=>absurd h (by simp)) (by rw[i];exact z),λQ z=>PySem.SeqAt.RcNeAt.tuples (e:=λ_=>true) p q d (λj _ h=>absurd h (by simp)) _ _ _ Q (by rw[i];exact z)⟩
def O9(i:X.A.units+64<cLine):qt X (compareOp .Eq) Mb:=by
 intro b s j H x y v u Q I f c hh;have⟨l,h,d,e,z,m,S,rd,g,a,k⟩:=hh;unfold Mb at a
 split at a
 ·cases a;exact(Qd i I f c rd g).1 _ ⟨.bl _,H,I,rfl,k _ _ (.here S (.bl _))⟩
 ·cases a
end Sm
namespace Hd
open PySem.W PyProof.Rows L2 Sm
noncomputable def LU(_:Obj):Bool:=true
def LO(h:Heap)(a:Addr):Option (Addr×Obj):=match h.get? a with
 |some o=>if LU o then some (a,o)else none
 |none=>none
def aL(h:Heap):Frag:=(List.range h.objs.size).filterMap (LO h)
theorem oQ(h:Heap)(a:Addr):∀l:List Addr,(l.filterMap (LO h)).lookup a=if a∈l then(LO h a).map (·.2)else none
 |[]=>rfl
 |b::r=>by
  have c:=oQ h a r
  by_cases d:a=b
  ·subst d;rw[WH WI];rw[Ym];cases e:LO h a with
   |none=>
    dsimp only;rw[c,e]
    split <;> rfl
   |some p=>
    have hp:p.1=a:=by
     unfold LO at e
     split at e
     ·split at e
      ·cases e;rfl
      ·cases e
     ·cases e
    have⟨g,i⟩:=p;dsimp only at hp;subst hp;simp
  ·have hm:(a∈b::r)↔a∈r:=by simp[d]
   rw[Ym];cases e:LO h b with
   |none=>dsimp only;rw[c];simp only[hm]
   |some p=>
    have hp:p.1=b:=by
     unfold LO at e
     split at e
     ·split at e
      ·cases e;rfl
      ·cases e
     ·cases e
    have⟨g,i⟩:=p;dsimp only at hp;subst hp;have f:(a==g)=false:=by simpa using d
    rw[XJ,f];dsimp only;rw[c];simp only[hm]
def jV(e:h.get? a=some o)(f:LU o=true):(aL h).lookup a=some o:=by
 unfold aL;rw[oQ,WH]
 ·unfold LO;rw[e];dsimp only;rw[WH f];rfl
 ·rw[XM];exact WX e
def LP(h:Heap):(aL h).In h:=λa o e=>by
 unfold aL at e;rw[oQ]at e
 split at e
 ·unfold LO at e;cases g:h.get? a with
  |none=>rw[g]at e;cases e
  |some b=>
   rw[g]at e;dsimp only at e
   split at e
   ·cases e;rfl
   ·cases e
 ·cases e
noncomputable def posOf(s:Stmt):Pos:=match s with
 |.FunctionDef _ _ _ _ _ _ _ _ _ p=>p
 |_=>⟨0,0,0,0⟩
def sN(n:Str)(s:Stmt):DefRec:=⟨n,nI s,gD s,ah s,posOf s⟩
def Mk(r:h.CodeRec cd q):codeIn (aL h) cd q=true:=by
 have⟨c,o,a,t,rfl,g,d,e⟩:=r;have f:LU o=true:=rfl;unfold codeIn;dsimp only;rw[jV g f];have⟨j,i,k,b⟩:=o;dsimp only at d;subst d;dsimp only;have⟨l⟩:=a;cases l with
 |nil=>cases e
 |cons x l=>cases l with
  |nil=>cases e
  |cons y r=>cases y <;> first |(cases e;simp;done) |(cases e;done)
def Ng{q:Program}{b:List Str}{i:ExcName->Option Value}{mg t:Str->Option Value}{h:Heap}(T:Top q b i mg t h){n:Str}{st:Stmt}(e:(recsOf q).find? (λe=>e.name==n)=some (sN n st)):
  ∃f u,mg n=some (.ref f)/\CZ (aL h) n n st f u:=by
 have hm:sN n st∈recsOf q:=List.mem_of_find?_eq_some e;have⟨a,o,s,j,k,m,g,d,c⟩:=T.fn _ hm;have f:LU o=true:=rfl;have lk:=jV g f;have kp:keepIn (aL h) (.ref a)=true:=by
  unfold keepIn;dsimp only;rw[lk];have⟨r,p,v,l⟩:=o;dsimp only at d;subst d;rfl
 have⟨r,p,v,l⟩:=o;dsimp only at d;subst d;exact⟨a,_,m,⟨r,p,.none,k,s,_,j,_,l,rfl,lk,Mk c⟩,kp⟩
def _root_.L2.CZ.one{K:Frag}{x a:Str}{st:Stmt}{f:Addr}{g:FuncData}{p:Str}(F:CZ K x a st f g)
  (h:∀(kV b d:Value)(e:Option Addr)(c ct:Value)(u:Value),bindArgs (PySem.W.fnOf x a (nI st) (gD st) (ah st) .none kV b d e c ct) ⟨[u],[]⟩=pure [(p,u)]) (s:Shared) (u:Value):BindsTo s g ⟨[u],[]⟩ [(p,u)]:=by
 have⟨l,k,kV,b,d,e,c,ct,i,rfl,lk,j⟩:=F.ex;exact .of_eq (h kV b d e c ct u)
def P2{l:OpenLaw}{q:Program}{c:List Str}{C:(Str->Option Value)->Heap->Prop}{A:World->Heap->Prop}{d:DefRec}{k:Nat}(hn:l.most=some 63)(r:d.params.defaults=[])(hr:fh k callerA)
  (F:∀(w:World)(s₀:Shared)(mg p:Str->Option Value)(h:Heap),Ground q c [] C w s₀ mg p h->A w h->∃(v:Addr)(t:FuncData),mg d.name=some (.ref v)/\(∀(s:Shared)(u:Value),BindsTo s t ⟨[u],[]⟩ [("_law_script",u)])/\
   ∀base:Heap,(aL h).In base->base.Ns mainGlobals mg->gf l.prog w (aL h) mg base xm k v t ["_law_script"] (spT (aL h))):
  WalkO q c C A l.row.toRowW d [] (λf x=>PySem.call f x):=by
 apply Att.Bf hn r λw s₀ y mg p v o P S O a x ns G Y Q hd I n m j i E=>?_;have⟨N,t,e,J,M⟩:=F w s₀ mg p _ G Y;rw[e]at n;cases n;exact IW (LP _) G.T.g G.T.b G.T.builtins G.T.nolimit E m j (WL i {}) hr M J (λH R L=>⟨a,ns,rfl,L,i,λ_=>rfl⟩) λ_ _ _ z=>z
noncomputable def freeOk(q:Program)(a b:List Str):Bool:=b.all λx=>!startupNames.contains x&&!(looseW q a).contains x&&!((recsOf q).map (·.name)).contains x&&!((litsOf q).map (·.1)).contains x&&!((clssOf q (looseW q a)).map (·.name)).contains x
def b6(T:Top q (looseW q loose) a mg c h)(e:freeOk q loose xs=true)(b:x∈xs):mg x=none:=by
 have:=Yt.mp e x b;simp only[W9,Bool.not_eq_true',List.contains_eq_mem,Abv]at this;exact T.free x this.1.1.1.1 this.1.1.1.2 this.1.1.2 this.1.2 this.2
end Hd
namespace Sm
open L2
noncomputable def SD(f:Expr->Option D):List Expr->Option (List D)
 |[]=>some []
 |e::es=>(f e).bind λd=>(SD f es).bind λa=>some (d::a)
def kD:Nat->Expr->Option D
 | 0,_=>none
 |n+1,e=>match e with
  |.Constant .none _ _=>some .bg
  |.Constant (.bool b) _ _=>some (.bl b)
  |.Constant (.int i) _ _=>some (.int i)
  |.Constant (.str x) _ _=>if PyData.strOk x then some (.str x)else none
  |.UnaryOp .USub (.Constant (.int i) _ _) _=>some (.int (-i))
  |.Tuple es _ _=>(SD (kD n) es).bind λa=>if a.length<=1000 then some (.tup a)else none
  |.List es _=>(SD (kD n) es).bind λa=>if a.length<=1000 then some (.lv a)else none
  |.Dict [] [] _=>some (.dv [])
  |_=>none
noncomputable def aK(a:List D):AM:=λ_ h=>some (a,h)
def TC(a:List D):kA (aK a) a.length:=λb h c d e=>by cases e;rfl
section
variable {X:Cx}
def G1(h:kD n e=some d)(es:List Expr):starEach (e::es) X.env=(false,eval e X.env)::starEach es X.env:=by
 cases n with
 |zero=>exact cw h
 |succ n=>cases e <;> first |rfl |(exfalso;exact(nomatch h))
theorem xR(c:∀{e:Expr} {d:D},f e=some d->SE X e (eK d))(b:∀{e:Expr} {d:D},f e=some d->∀es:List Expr,starEach (e::es) X.env=(false,eval e X.env)::starEach es X.env):
  ∀{es:List Expr} {a:List D},SD f es=some a->SA X es (aK a)
 |[],a,h=>by cases h;exact ar
 |e::es,a,h=>by
  unfold SD at h;have⟨d,g,h⟩:=bc h;have⟨r,i,h⟩:=bc h;cases h;exact(aa (c g) (xR c b i) (b g es):SA X _ (af (eK d) (aK r)))
theorem du:∀(n:Nat) {e:Expr} {d:D},kD n e=some d->SE X e (eK d)
 | 0,_,_,h=>by cases h
 |n+1,e,d,h=>by
  cases e <;> first |(exact cw h) |skip
  case Constant c _ _=>
   cases c <;> first |(exact cw h) |skip
   case none=>cases h;exact BG
   case bool=>cases h;exact MW
   case int=>cases h;exact bt
   case str x=>
    have h:(if PyData.strOk x then some (D.str x)else none)=some d:=h
    by_cases f:PyData.strOk x=true
    ·rw[WH f]at h;cases h;exact bJ f
    ·rw[WM f]at h;cases h
  case UnaryOp o e _=>
   cases o <;> first |(exact cw h) |skip
   cases e <;> first |(exact cw h) |skip
   rename_i c _ _;cases c <;> first |(exact cw h) |skip
   cases h;exact(MV GO bt:SE X _ (jw dG (eK _)))
  case Tuple es _ _=>
   have⟨b,g,a⟩:=bc h
   by_cases hl:b.length<=1000
   ·rw[WH hl]at a;cases a;exact(c7 (xR (du n) G1 g) (TC b) (WL hl {}):SE X _ (aj aA (aK b)))
   ·rw[WM hl]at a;cases a
  case List es _=>
   have⟨b,g,a⟩:=bc h
   by_cases hl:b.length<=1000
   ·rw[WH hl]at a;cases a;exact(rp.lv (fU (xR (du n) G1 g) (TC b) (WL hl {})):SE X _ (fz (aK b)))
   ·rw[WM hl]at a;cases a
  case Dict ks i _=>
   cases ks <;> first |(exact cw h) |skip
   cases i <;> first |(exact cw h) |skip
   cases h;exact RM
end
end Sm
namespace L2
open PyProof.Rows
noncomputable def kB(ns:List Int):List Int:=ns.mergeSort λa b=>decide (a<=b)
def ig(ns:List Int):(kB ns).Perm ns:=List.mergeSort_perm _ _
def xC(ns:List Int):(kB ns).Pairwise (·<=·):=by
 have:=AbB (le:=λa b:Int=>decide (a<=b)) (λa b c e d=>by simp at e d ⊢;lia) (λa b=>by simp;lia) ns;exact this.imp λh=>by simpa using h
def G5(hp:ss.Perm ns)(h:ss.Pairwise (·<=·)):ss=kB ns:=
 Z8 (λa b _ _ d c=>Int.le_antisymm d c) h (xC ns) (hp.trans (ig ns).symm)
def CO:eW X (.builtin "sorted") (λg H Q=>∃a c,g=[.ref a]/\eV X.K H a (c.map V.int)/\c.length<64/\∀l,H l=none->Q (.ref l) (upd H l (.lst ((kB c).map V.int)))):=by
 intro i s A H g us Q I r h;have⟨a,c,rfl,t,w,q⟩:=h;have⟨u,rfl,m⟩:=vals1 r;cases m;have⟨d,rv,p,C⟩:=I.list t;have v:=intsAre_of rv;have j:d.length=c.length:=by have:=rv.length;rw[WA]at this;exact this.symm
 apply sorted_ints p.isList v () λout k z y x=>?_;have:=G5 y x;subst this;have hl:s.heap.objs.size<=s.heap.objs.size+1:=Yy _;have⟨e,n⟩:=sortedAll_at s.heap d out;have f:((kB c).map V.int).length<=sizeLine:=by rw[WA,(ig c).length_eq,Yv];lia
 apply⟨.ref (s.heap.objs.size+1),_,I.laid (t':=s.toks) (o:=.lst ((kB c).map V.int)) (λb o q=>sortedAll_old q) hl ⟨f,out.toList,e,ox z,?_⟩,rfl,q _ (I.a9.fresh hl)⟩;rw[n]
end L2
namespace Sm
open L2 PyProof.Rows
def Jk:Fn:=λb h=>match b with
 |[d]=>(dY d h).bind λa=>(tK a).bind λns=>if ns.length<64 then some (.lv ((kB ns).map D.int),h)else none
 |_=>none
theorem repL_ints'{K:FR}{a:Ad}{H:Hp}:∀(ns:List Int),az K a H (ns.map V.int) (ns.map D.int)
 |[]=>.nil
 |n::r=>.cons (.int n) (repL_ints' r)
def JC:gm X (.builtin "sorted") Jk:=by
 intro e s g H u us Q I r hh;have⟨q,h,p,z,x,S,l,b,k⟩:=hh
 match p,l,b with
 |[],_,b=>exact cw b
 |_::_::_,_,b=>exact cw b
 |[d],l,b=>
  have⟨v,rfl,rd⟩:=rep1 l;have⟨t,o,n⟩:=bc b;have⟨ns,m,f⟩:=bc n
  by_cases c:ns.length<64
  ·rw[WH c]at f;cases f;have⟨a,w,rfl,j,i⟩:=dz S rd o;have:=AF m;subst this;have:=BU i;subst this;exact CO e s g H _ us Q I r ⟨a,ns,rfl,eV.of j,c,λl hl=>k _ _ (.lv S (repL_ints' _) hl)⟩
  ·rw[WM c]at f;cases f
def tY(m:ME):EM:=λa h=>(m a h).bind λp=>if p.1.length<=15 then some (.ob p.2.length,p.2++[.dct (fc [] p.1)])else none
def zK(h:SP X pos keys vals m)(T:keys.all (·.isSome)=true)(hl:keys.length=vals.length)(h0:keys≠[])(hp:∀l,QU X pos keys vals l->PE X (.Dict keys vals pos) (GX l)):SE X (.Dict keys vals pos) (tY m):=by
 have⟨l,h1,h2⟩:=h;apply(hp l h1).imp λσ H Q ⟨j,Z,h,d,h',R,S,ee,k⟩ p s=>?_;obtain⟨⟨y,E⟩,i,g⟩:=bc ee;dsimp only at g
 by_cases z:y.length<=15
 ·rw[WH z]at g;cases g;have U:Ch j H (j.keep p) (upd H p (.dK [])):=Ch.keep s;have nl:¬j.has p:=S.fresh s;apply h2 σ _ _ ⟨j.keep p,Z,h,y,_,R.mono U,S.keep s,i,λus I G F t P=>?_⟩;have L:G p=some (.dK []):=(F.res p WI).trans aQ;apply⟨L,us,rfl,by rw[P.len];exact z,?_⟩;have⟨c,J⟩:=I;have O:J=p::j.rs:=F.rs;subst O;have N:p∈(⟨c,p::j.rs⟩:Ad).rs:=WI;have w:p∉c:=(t.vY p N).2;have q:∀b∈j.rs,b≠p:=λb f z=>nl (.inr (z ▸ f));generalize C:upd G p (.dK (bA [] us))=Y;have r:∀b,b≠p->Y b=G b:=λb f=>by rw[<-C,aE f]
  have u:Ch ⟨c,p::j.rs⟩ G ⟨c++[p],j.rs⟩ Y:=by
   apply⟨λn a e=>?_,λb o v eb=>⟨λz=>?_,?_⟩⟩
   ·show(c++[p])[n]?=_;rw[W0 (WB.mp e).1];exact e
   ·rcases z with z |z
    ·rcases Xw.mp z with z |z
     ·exact v (.inl z)
     ·exact v (.inr (by rw[WU.mp z];exact WI))
    ·exact v (.inr (WG _ z))
   ·rw[r b (λz=>v (.inr (by rw[z];exact WI)))];exact eb
  apply k _ _ ⟨⟨c++[p],j.rs⟩,⟨(U.trans F.toCh).trans u,rfl,λb f=>?_⟩,?_,.ob (by show(c++[p])[E.length]?=_;rw[<-t.len];simp)⟩
  ·rw[r b (q b f),F.res b (WG _ f)];exact aE (q b f)
  ·apply⟨by show(c++[p]).length=_;simp;exact t.len,?_,λn a x i g=>?_,λb f=>?_⟩
   ·show(c++[p]).Nodup;rw[Z4];exact⟨t.nd,by simp,λa E b f z=>w (by rw[<-WU.mp f,<-z];exact E)⟩
   ·have i:(c++[p])[n]?=some a:=i;have A:c.length=E.length:=t.len
    by_cases hn:n<c.length
    ·rw[W0 hn]at i;rw[W0 ()]at g;exact(t.at_ n a x i g).mono u (r a λz=>w (z ▸ WE i))
    ·have l1:=(WB.mp i).1;simp at l1;have M:n=c.length:=by lia
     subst M;rw[W4 (WJ _)]at i;rw[W4 (),A]at g;simp at i g;subst i;subst g;exact⟨bA [] us,by rw[<-C];exact aQ,(bB.merge .nil P).mono u⟩
   ·obtain⟨⟨o,eo⟩,v⟩:=t.vY b (WG _ f);apply⟨⟨o,by rw[r b (q b f)];exact eo⟩,λz=>?_⟩;rcases Xw.mp z with z |z
    ·exact v z
    ·exact q b f (WU.mp z)
 ·rw[WM z]at g;cases g
def L6(d e:D)(h:MH):Option (D×MH):=match e with
 |.int n=>(dY d h).bind λa=>if 0<=n/\n<=1000/\a.length<=1000 then some (.lv (List.replicate n.toNat a).flatten,h)else none
 |_=>none
theorem az.rep{K:FR}{a:Ad}{H:Hp}{b:List V}{c:List D}(h:az K a H b c):∀k:Nat,az K a H (List.replicate k b).flatten (List.replicate k c).flatten
 | 0=>.nil
 |k+1=>by
  rw[YF,YF,Y8,Y8];exact h.append (az.rep h k)
def Il:qt X (binaryOp .Mult) L6:=by
 intro b s m H x y v u Q I q p hh;have⟨A,h,d,e,z,E,S,rd,r,j,k⟩:=hh;cases e <;> first |(exact cw j) |skip
 rename_i n;have⟨g,w,f⟩:=bc (show(dY d h).bind _=_ from j)
 by_cases c:0<=n/\n<=1000/\g.length<=1000
 ·rw[WH c]at f;cases f;have⟨a,o,rfl,t,i⟩:=dz S rd w;cases r;have C:g.length*n.toNat<=1000*1000:=Abf c.2.2 ();exact Pf b s m H _ _ v u Q I q p ⟨a,n,o,rfl,rfl,t,by lia,by lia,by rw[i.length,show sizeLine=16777216 from rfl];lia,λl hl=>k _ _ (.lv S (i.rep _) hl)⟩
 ·rw[WM c]at f;cases f
end Sm
namespace L2
open PyProof.Rows
theorem vJ:∀(us:List Value)(o:Nat),(∀(j:Nat) v,us[j]?=some v->∃t,v=.int ((o:Int)+j) t)->Vals ((List.range' o us.length).map λ(k:Nat)=>V.int k) us
 |[],_,_=>.nil
 |u::r,o,h=>by
  rw[WW,List.range'_succ,WN];have⟨t,e⟩:=h 0 u rfl;apply .cons ⟨t,by rw[e];simp⟩ (vJ r (o+1) λj v a=>?_);have⟨t,e⟩:=h (j+1) v (by simpa using a);exact⟨t,by rw[e];congr 1;lia⟩
def Fu(U:X.calm=true)(C:Gl X "list")(z:X.mg "list"=none)(A:Gl X "range")(y:X.mg "range"=none)(m:bootBuiltins "list"=some (.type "list"))(Y:PA X [a] M)(S:starEach [a] X.env=[(false,eval a X.env)]):
  PE X (.Call (.Name "list" p) [.Call (.Name "range" R) [a] [] d] [] pos) (λw H Q=>M w H λF x=>∃j:Int,F=[.int j]/\0<=j/\j<=1000/\∀l,x l=none->Q (.ref l) (upd x l (.lst ((List.range j.toNat).map λ(k:Nat)=>V.int k)))):=by
 intro f s w H Q I h;apply YT (fZ I C z m ?_);apply XH ?_ rfl rfl;show wpAny _ _ (spliced ((false,eval (.Call (.Name "range" R) [a] [] d) X.env)::backTo pos (starEach [] X.env))) _ _ s;apply Aa4 ?_;apply YT (fZ I A y boot_range (XH (cQ (Y d f s w H _ I h) λus s1 u9=>?_) S rfl));have⟨F,x,J,O,P⟩:=u9;have⟨j,e,j0,j1,q⟩:=P;subst e;cases O with
 |cons r N=>
  cases N;have⟨t,rfl⟩:=r;apply call_range_1 ?_;have G:Inv X f w x {s1 with heap:=s1.heap.push {cls:=.type "range",data:=.fields #[.int 0 s1.toks,.int j t,.int 1 (s1.toks+1)]},toks:=s1.toks+1+1}:=J.kept λb o e=>WC _ e;apply Abe ?_;apply call_list_range (n:=j.toNat) (J.ok.hd U) (IsRange.new ..) (small_one () () () ()) (by rw[rangeSize_one];split <;> lia) () λh' L c Z T E g=>?_;have u:c.toList.length=j.toNat:=by rw[YW];exact g.1
  have m:Vals ((List.range j.toNat).map λ(k:Nat)=>V.int k) c.toList:=by
   have:=vJ c.toList 0 λi v m=>by
    have⟨t,e⟩:=g.2 i v (by simpa using m);exact⟨t,by rw[e];congr 1;simp⟩
   rw[u]at this;rw[List.range_eq_range'];exact this
  apply⟨.ref _,_,G.laid (t':=L) (o:=.lst ((List.range j.toNat).map λ(k:Nat)=>V.int k)) T (WJ _) ⟨by rw[WA,W3,Yv];lia,c.toList,Z,m,?_⟩,rfl,q _ (G.a9.fresh (WJ _))⟩;rw[E]
end L2
namespace Sm
open L2 PyProof.Rows
noncomputable def QL(m:AM):AM:=λa h=>(m a h).bind λp=>match p.1 with
 |[.int j]=>if 0<=j/\j<=1000 then some ((List.range j.toNat).map λ(k:Nat)=>D.int k,p.2)else none
 |_=>none
theorem sr{K:FR}{a:Ad}{H:Hp}:∀l:List Nat,az K a H (l.map λ(k:Nat)=>V.int k) (l.map λ(k:Nat)=>D.int k)
 |[]=>.nil
 |n::r=>.cons (.int n) (sr r)
def E2(w:X.calm=true)(n:Gl X "list")(g:X.mg "list"=none)(i:Gl X "range")(f:X.mg "range"=none)(t:bootBuiltins "list"=some (.type "list"))(x:SA X [a] m)(u:starEach [a] X.env=[(false,eval a X.env)]:=by ac_nf):
  rp X (.Call (.Name "list" p) [.Call (.Name "range" G) [a] [] o] [] pos) (QL m):=(Fu w n g i f t x u).imp λσ H Q ⟨q,r,h,ds,J,R,S,e,k⟩=>by
 obtain⟨⟨E,I⟩,y,b⟩:=bc e;dsimp only at b
 split at b
 ·rename_i j
  split at b
  ·rename_i c;cases b;apply⟨q,r,h,_,_,R,S,y,λF d C z A s=>?_⟩;have⟨v,rfl,rd⟩:=rep1 s;cases rd;exact⟨j,rfl,c.1,c.2,λl hl=>k d C l _ z A hl (sr _)⟩
  ·cases b
 ·cases b
def QM(e d:EM):AM:=λa h=>(e a h).bind λp=>(d a p.2).bind λq=>(dY p.1 q.2).bind λc=>(dY q.1 q.2).bind λb=>if c.length+b.length<=sizeLine then some (c++b,q.2)else none
def N6(I:SE X a F)(G:SE X b E):rp X (.BinOp a .Add b pos) (QM F E):=(M1 Iv I G).imp λσ H Q ⟨z,j,h,ds,h',R,S,e,k⟩=>by
 obtain⟨⟨x,o⟩,T,P⟩:=bc e;obtain⟨⟨y,M⟩,s,O⟩:=bc P;have⟨xs,r,N⟩:=bc O;have⟨Z,q,g⟩:=bc N;dsimp only at s r q
 split at g
 ·rename_i c;cases g;apply⟨z,j,h,x,o,R,S,T,λv H1 ⟨f,w,U,C⟩=>⟨f,j,o,y,M,R.mono w.toCh,U,s,λu Y u9=>?_⟩⟩;have⟨d,t,i,A⟩:=u9;have⟨a,l,rfl,L,n⟩:=dz i (C.mono t.toCh) r;have⟨b,us,rfl,J,m⟩:=dz i A q;exact⟨a,b,l,us,rfl,rfl,L,J,by rw[n.length,m.length];exact c,λp hp=>k d Y p (l++us) (w.trans t) i hp (n.append m)⟩
 ·cases g
end Sm
namespace Sm
open L2
theorem sQ:∀cs:List Int,gX (cs.map D.int)=some (cs.map PyData.int)
 |[]=>rfl
 |c::r=>by simp only[WN,gX,je,sQ r,WT,Xq]
theorem lN:∀cs:List Int,PyData.depthAll (cs.map PyData.int)=0
 |[]=>rfl
 |c::r=>by simp only[WN,PyData.depthAll,lN r,PyData.depth];rfl
def F4{h:MH}{c:Nat}{cs:List Int}(a:h[c]?=some (.lst (cs.map D.int))):g7 (.ob c) (.lv []) h=some (.bl (!cs.isEmpty),h):=by
 simp only[g7,Ju,cg,a,Er,uZ,sQ,je,gX,Xq,WT,PyData.depth,lN];cases cs <;> rfl
def jt(hn:h[n]?=some (.lst xs))(e:fI xs i=some d):ax (.ob n) (.int i) h=some (d,h):=by
 simp only[ax,cg,hn,cq,WT,e,Xq]
def Ek(hn:h[n]?=some (.lst xs)):cz [.ob n] h=some (.int xs.length,h):=by
 simp only[cz,cg,hn,cq,Xq]
def yO(hn:h[n]?=some (.lst xs))(e:vq xs.length i=some p):vy (.ob n) (.int i) d h=some (h.set n (.lst (xs.set p d))):=by
 simp only[vy,hn,e,Xq]
def J3(cs:List Int)(i:Int)(b:0<=i)(c:i<cs.length):∃z,fI (cs.map D.int) i=some (.int z):=by
 have a:i.toNat<cs.length:=by lia
 apply⟨cs[i.toNat]'a,?_⟩;have e:((i.toNat:Nat):Int)=i:=ZR b;have q:fI (cs.map D.int) ((i.toNat:Nat):Int)=some (D.int (cs[i.toNat]'a)):=ke (by rw[WY,WK a];rfl);rw[e]at q;exact q
def JZ(b:0<=i)(c:i<xs.length):∃v,fI xs i=some v/\v∈xs:=by
 have a:i.toNat<xs.length:=by lia
 have e:((i.toNat:Nat):Int)=i:=ZR b;have q:fI xs ((i.toNat:Nat):Int)=some (xs[i.toNat]'a):=ke (WK a);rw[e]at q;exact⟨_,q,ZG a⟩
end Sm
namespace Sm
def Rn{b:Type}(o:Option b)(Q:b->Prop):Prop:=∃a,o=some a/\Q a
def rv(e:o=some a)(q:Q a):Rn o Q:=⟨a,e,q⟩
def Rn.imp(r:Rn o Q)(f:∀a,Q a->b a):Rn o b:=let⟨a,e,q⟩:=r;⟨a,e,f a q⟩
def aW(r:Rn o λa=>Rn (f a) Q):Rn (o.bind f) Q:=by
 have⟨a,e,b,c,q⟩:=r;exact⟨b,by rw[e];exact c,q⟩
def Fc(r:Rn o λa=>Q (f a)):Rn (o.map f) Q:=by
 have⟨a,e,q⟩:=r;exact⟨f a,by rw[e];rfl,q⟩
def gz(e:a[i]?=some (some d))(q:Q (d,h)):Rn (aM i a h) Q:=⟨(d,h),by unfold aM;rw[e];rfl,q⟩
def Q1(q:Q (d,h)):Rn (eK d a h) Q:=⟨_,rfl,q⟩
def x4(r:Rn (a c h) λp=>Rn (b c p.2) λq=>Rn (f p.1 q.1 q.2) Q):Rn (ag f a b c h) Q:=aW (r.imp λ_ r=>aW r)
def U1(r:Rn (a b h) λp=>Rn (f p.1 p.2) Q):Rn (jw f a b h) Q:=aW r
def DC(q:Q ([],h)):Rn (aV a h) Q:=⟨_,rfl,q⟩
def iu(r:Rn (a b h) λp=>Rn (m b p.2) λq=>Q (p.1::q.1,q.2)):Rn (af a m b h) Q:=aW (r.imp λ_ r=>aW (r.imp λ_ q=>⟨_,rfl,q⟩))
def K3(r:Rn (m a h) λp=>Rn (f p.1 p.2) Q):Rn (aj f m a h) Q:=aW r
def U4(r:Rn (t d h) λp=>(p.1=true->Rn (a d p.2) Q)/\(p.1=false->Rn (b d p.2) Q)):Rn (Gd t a b d h) Q:=aW (r.imp λp u9=>by
 have⟨f,e⟩:=u9;have⟨c,h⟩:=p;cases c with
 |true=>exact f rfl
 |false=>exact e rfl)
def HK(r:Rn (a b h) λp=>∃c,p.1=.bl c/\Q (c,p.2)):Rn (ao a b h) Q:=aW (r.imp λp ⟨c,e,q⟩=>⟨(c,p.2),by rw[e],q⟩)
def Ox(r:Rn (a b h) λp=>∃c,EV p.1 p.2=some c/\Q (c,p.2)):Rn (lZ a b h) Q:=aW (r.imp λp ⟨c,e,q⟩=>⟨(c,p.2),by rw[e];rfl,q⟩)
def Oy(r:Rn (t a h) λp=>Q (!p.1,p.2)):Rn (Sm.zC t a h) Q:=Fc r
def Oz(r:Rn (a d h) λp=>(p.1=true->Rn (b d p.2) Q)/\(p.1=false->Q (false,p.2))):Rn (Sm.ib a b d h) Q:=aW (r.imp λp u9=>by
 have⟨f,e⟩:=u9;have⟨c,h⟩:=p;cases c with
 |true=>exact f rfl
 |false=>exact⟨_,rfl,e rfl⟩)
def RQ(r:Rn (a d h) λp=>(p.1=true->Q (true,p.2))/\(p.1=false->Rn (b d p.2) Q)):Rn (Sm.Dg a b d h) Q:=aW (r.imp λp u9=>by
 have⟨f,e⟩:=u9;have⟨c,h⟩:=p;cases c with
 |true=>exact⟨_,rfl,f rfl⟩
 |false=>exact e rfl)
def R6(r:Rn (a d h) λp=>∃c,p.1=.bl c/\(c=true->Rn (b d p.2) Q)/\(c=false->Q (.bl false,p.2))):Rn (yV a b d h) Q:=aW (r.imp λp u9=>by
 have⟨c,e,g,f⟩:=u9;rw[e];cases c with
 |true=>exact g rfl
 |false=>exact⟨_,rfl,f rfl⟩)
def RW(r:Rn (a b h) λp=>∃c,p.1=.bl c/\Q (.bl (!c),p.2)):Rn (Qe a b h) Q:=aW (r.imp λp d=>by have⟨c,e,q⟩:=d;exact⟨_,by rw[e],q⟩)
def U3(r:Rn (m a h) λp=>Q (.lv p.1,p.2)):Rn (fz m a h) Q:=Fc r
def U2(r:Rn (m a h) λp=>Q (.ob p.2.length,p.2++[.lst p.1])):Rn (CB m a h) Q:=Fc r
def OC(r:Rn (m c h) λp=>∃d a b,p.1=[d]/\cq d p.2=some (a,b)/\Q (a,p.2)):Rn (Kf m c h) Q:=aW (r.imp λp ⟨d,a,b,e,f,q⟩=>⟨(a,p.2),by rw[e];dsimp only;rw[f];rfl,q⟩)
def RS(q:Q (none,h)):Rn (wu a h) Q:=⟨_,rfl,q⟩
def RU(r:Rn (a b h) λp=>∃i,p.1=.int i/\Q (some i,p.2)):Rn (wx a b h) Q:=aW (r.imp λp d=>by have⟨c,e,q⟩:=d;exact⟨_,by rw[e],q⟩)
abbrev SQ:=Fl×DS×MH->Prop
def OA(q:Q (.nx,a,h)):Rn (bV a h) Q:=⟨_,rfl,q⟩
def OB(q:Q (.bk,a,h)):Rn (Og a h) Q:=⟨_,rfl,q⟩
def i0(b:SM)(Q:SQ):SQ:=λr=>match r.1 with
 |.nx=>Rn (b r.2.1 r.2.2) Q
 |_=>Q r
def jb(r:Rn (a e h) (i0 b Q)):Rn (ai a b e h) Q:=aW (r.imp λp q=>by
 have⟨f,c,g⟩:=p;cases f with
 |nx=>exact q
 |bk=>exact⟨_,rfl,q⟩
 |ct=>exact⟨_,rfl,q⟩
 |rt d=>exact⟨_,rfl,q⟩)
def HD(r:Rn (e a h) λp=>Q (.nx,a.set i (some p.1),p.2)):Rn (aJ i e a h) Q:=aW (r.imp λ_ q=>⟨_,rfl,q⟩)
def MZ(r:Rn (e a h) λp=>Rn (g p.1 a p.2) λq=>Q (.nx,q.1,q.2)):Rn (fC e g a h) Q:=aW (r.imp λ_ r=>aW (r.imp λ_ q=>⟨_,rfl,q⟩))
def HH(r:Rn (e a h) λp=>Q (.nx,a,p.2)):Rn (b8 e a h) Q:=aW (r.imp λ_ q=>⟨_,rfl,q⟩)
def HE(r:Rn (e a h) λp=>Q (.rt p.1,a,p.2)):Rn (aP e a h) Q:=aW (r.imp λ_ q=>⟨_,rfl,q⟩)
def DA(r:Rn (t d h) λp=>(p.1=true->Rn (a d p.2) Q)/\(p.1=false->Rn (b d p.2) Q)):Rn (eS t a b d h) Q:=aW (r.imp λp u9=>by
 have⟨f,e⟩:=u9;have⟨c,h⟩:=p;cases c with
 |true=>exact f rfl
 |false=>exact e rfl)
def RV(r:Rn (m c h) λp=>∃a b,p.1=[a,b]/\Q (.nx,(c.set i (some a)).set j (some b),p.2)):Rn (BM i j m c h) Q:=aW (r.imp λp d=>by have⟨a,b,e,q⟩:=d;exact⟨_,by rw[e],q⟩)
def Fi(q:Q (a.set i (some d),h)):Rn (gN i d a h) Q:=⟨_,rfl,q⟩
def OG(r:Rn (o a h) λp=>Rn (i a p.2) λq=>Rn (vy p.1 q.1 v q.2) λb=>Q (a,b)):Rn (Sm.vt o i v a h) Q:=aW (r.imp λ_ r=>aW (r.imp λ_ r=>Fc r))
def OF(hn:xs.length=n)(r:Rn (u xs a h) Q):Rn (gT n u (.tup xs) a h) Q:=by
 unfold gT;dsimp only;rw[WH hn];exact r
def gW(r:Rn (g d a h) λp=>Rn (u xs p.1 p.2) Q):Rn (ak g u (d::xs) a h) Q:=aW r
def x5(q:Q (a,h)):Rn (bE [] a h) Q:=⟨_,rfl,q⟩
def mN(Q:D×MH->Prop):SQ:=λr=>match r.1 with
 |.rt d=>Q (d,r.2.2)
 |.nx=>Q (.bg,r.2.2)
 |_=>False
def Vh(q:Q (d,h)):mN Q (.rt d,a,h):=q
def Vi(q:Q (.bg,h)):mN Q (.nx,a,h):=q
def By(r:Rn (b a h) Q):i0 b Q (.nx,a,h):=r
def UB(q:Q (.rt d,a,h)):i0 b Q (.rt d,a,h):=q
def UC(q:Q (.bk,a,h)):i0 b Q (.bk,a,h):=q
def Az(I:DS->MH->Prop)(Q:SQ):SQ:=λz=>match z.1 with
 |.nx=>I z.2.1 z.2.2
 |.ct=>I z.2.1 z.2.2
 |.bk=>Q (.nx,z.2.1,z.2.2)
 |.rt d=>Q (.rt d,z.2.1,z.2.2)
def Vn(q:I a h):Az I Q (.nx,a,h):=q
def Vo(q:Q (.nx,a,h)):Az I Q (.bk,a,h):=q
def Vm(q:Q (.rt d,a,h)):Az I Q (.rt d,a,h):=q
def bj(r:Rn (b (entry len ds) h) (mN Q)):Rn (gr len b ds h) Q:=aW (r.imp λp q=>by
 have⟨f,a,c⟩:=p;cases f with
 |nx=>exact⟨_,rfl,q⟩
 |rt d=>exact⟨_,rfl,q⟩
 |bk=>exact q.elim
 |ct=>exact q.elim)
def RZ(r:Rn (i a h) λp=>Rn (nE p.2.1 g b p.1 a p.2.2) Q):Rn (gV i g b a h) Q:=aW r
theorem cO:∀{c:List D} {a:DS} {h:MH} (I:Nat->DS->MH->Prop),I 0 a h->(∀i a h,i<=c.length->I i a h->hZ ws h=true)->
  (∀i x a h,c[i]?=some x->I i a h->Rn (g x a h) λq=>Rn (b q.1 q.2) (Az (I (i+1)) Q))->(∀a h,I c.length a h->Q (.nx,a,h))->Rn (nE ws g b c a h) Q
 |[],a,h,I,h0,k,_,l=>by
  unfold nE;rw[WH (k 0 a h (WJ _) h0)];exact⟨_,rfl,l a h h0⟩
 |x::c,a,h,I,h0,k,ht,l=>by
  unfold nE;rw[WH (k 0 a h (Xg _) h0)];have⟨q,r,z,p,j⟩:=ht 0 x a h rfl h0;rw[r];show Rn ((b q.1 q.2).bind _) Q;rw[p];have⟨f,e,m⟩:=z;have next:I 1 e m->Rn (nE ws g b c e m) Q:=λo=>cO (λi=>I (i+1)) o (λi a h hl=>k (i+1) a h (Yh hl)) (λi x a h n=>ht (i+1) x a h (by simpa using n)) l
  cases f with
  |nx=>exact next j
  |ct=>exact next j
  |bk=>exact⟨_,rfl,j⟩
  |rt d=>exact⟨_,rfl,j⟩
def dW(r:Rn (e c h) λp=>∃a b,cq p.1 p.2=some (a,b)/\Q (a,b,p.2)):Rn (fe e c h) Q:=aW (r.imp λp ⟨a,b,e,q⟩=>⟨(a,b,p.2),by rw[e];rfl,q⟩)
def eZ(r:Rn (m a h) λp=>∃j:Int,p.1=[.int j]/\-(2^62)<=j/\j<2^62/\Q ((List.range j.toNat).map λ(k:Nat)=>D.int (k:Int),[],p.2)):Rn (jn m a h) Q:=aW (r.imp λp u9=>by
 have⟨j,e,c,b,q⟩:=u9;rw[e];dsimp only;rw[WH ⟨c,b⟩];exact⟨_,rfl,q⟩)
def OD(r:Rn (m g h) λp=>∃d e c b f a,p.1=[d,e]/\cq d p.2=some (c,f)/\cq e p.2=some (b,a)/\Q (oq c b,f++a,p.2)):Rn (P1 m g h) Q:=
 aW (r.imp λp i=>by have⟨d,e,c,b,f,a,l,k,j,q⟩:=i;exact⟨_,by rw[l];dsimp only;rw[k];dsimp only[Option.bind_some];rw[j];rfl,q⟩)
def mS(r:Rn (m c h) λp=>∃d a b,p.1=[d]/\cq d p.2=some (a,b)/\Q (kX 0 a,b,p.2)):Rn (tN m c h) Q:=
 aW (r.imp λp e=>by have⟨d,a,b,g,f,q⟩:=e;exact⟨_,by rw[g];dsimp only;rw[f];rfl,q⟩)
def OH(r:Rn (i b h) λp=>Rn (aX p.2.1 g c e p.1 (kZ a b) p.2.2) λq=>q.1.length<=sizeLine/\Q q):Rn (cj a i g c e b h) Q:=
 aW (r.imp λp r=>aW (r.imp λq ⟨d,f⟩=>⟨q,by rw[WH d],f⟩))
theorem x8(b:hZ ws h=true)(f:D->Option D)(J:DS->Prop):∀{xs:List D} {a:DS},J a->
  (∀x∈xs,∀a,J a->Rn (g x a h) λq=>q.2=h/\Rn (c q.1 h) λt=>t.2=h/\J q.1/\(t.1=true->∃y,f x=some y/\Rn (e q.1 h) λp=>p=(y,h))/\(t.1=false->f x=none))->
  aX ws g c e xs a h=some (xs.filterMap f,h)
 |[],a,_,_=>by unfold aX;rw[WH b];rfl
 |x::xs,a,n,ht=>by
  unfold aX;rw[WH b];obtain⟨⟨l,w⟩,s,rfl,⟨t,v⟩,k,rfl,u,i,d⟩:=ht x WI a n;rw[s];dsimp only[Option.bind_some]at k i d ⊢;rw[k];dsimp only[Option.bind_some];have j:=x8 b f J u (xs:=xs) λy m=>ht y (WG _ m);cases t with
  |true=>
   have⟨y,r,p,o,rfl⟩:=i rfl;rw[WH rfl,o];dsimp only[Option.bind_some];rw[j,Ym,r];rfl
  |false=>
   rw[WM (by simp),j,Ym,d rfl]
def HN(h:k∉a.map (·.1)):putD a k v=a++[(k,v)]:=by
 unfold putD;rw[WM];intro z;have⟨p,hp,e⟩:=Zh.mp z;exact h (Xe.mpr ⟨p,hp,XR e⟩)
def Ma(hd:cg d h=some a)(b:dE a (.inr x)=some v):ax d (.str x) h=some (v,h):=by
 simp only[ax,hd,oU,WT,b,Xq]
end Sm
namespace Sm
def Ow(q:Q (d,h))(e:a[i]?=some (some d):=by with_unfolding_all rfl):Rn (aM i a h) Q:=gz e q
def RY(r:Rn (u xs a h) Q)(hn:xs.length=n:=by with_unfolding_all rfl):Rn (gT n u (.tup xs) a h) Q:=OF hn r
end Sm
namespace Sm
open L2
def DB(hh:Rn (k a h) λp=>Rn (v a p.2) λq=>∃b,oU p.1=some b/\Rn (r a q.2) λz=>Q ((b,q.1)::z.1,z.2)):Rn (dB k v r a h) Q:=
 aW (hh.imp λp x=>aW (x.imp λq u9=>by have⟨b,c,y⟩:=u9;rw[c];exact Fc y))
def BY(hh:Rn (a b h) λp=>Rn (l b p.2) λq=>Rn (u b q.2) λr=>Rn (yN p.1 q.1 r.1 r.2) Q):Rn (g8 a l u b h) Q:=aW (hh.imp λ_ x=>aW (x.imp λ_ y=>aW y))
def Rb(q:Q (.tup ds,h)):Rn (aA ds h) Q:=⟨_,rfl,q⟩
def Rg(q:Q (.int (-a),h)):Rn (dG (.int a) h) Q:=⟨_,rfl,q⟩
def w_add(q:Q (.int (a+b),h)):Rn (aN (.int a) (.int b) h) Q:=⟨_,rfl,q⟩
def w_sub(q:Q (.int (a-b),h)):Rn (yM (.int a) (.int b) h) Q:=⟨_,rfl,q⟩
def w_lt(q:Q (.bl (decide (a<b)),h)):Rn (Nh (.int a) (.int b) h) Q:=⟨_,rfl,q⟩
def Ux(q:Q (.bl (decide (b<a)),h)):Rn (F7 (.int a) (.int b) h) Q:=⟨_,rfl,q⟩
def Uy(q:Q (.bl (decide (b<=a)),h)):Rn (Q5 (.int a) (.int b) h) Q:=⟨_,rfl,q⟩
def Rm(q:Q (.bl (a==b),h)):Rn (bx (.int a) (.int b) h) Q:=⟨_,rfl,q⟩
def Rh(q:Q (.bl (!(a==b)),h)):Rn (g7 (.int a) (.int b) h) Q:=⟨_,rfl,q⟩
def Rl(q:Q (.bl (x==y),h)):Rn (bx (.str x) (.str y) h) Q:=⟨_,rfl,q⟩
def Rk(q:Q (d,h)):Rn (ax (.tup (d::r)) (.int 0) h) Q:=⟨_,by
 show((fI (d::r) 0).map λz=>(z,h))=_;have:fI (d::r) 0=some d:=by unfold fI;rw[show vq (d::r).length 0=some 0 by unfold vq;simp;try lia];rfl
 rw[this];rfl,q⟩
def Rj(q:Q (e,h)):Rn (ax (.tup (d::e::r)) (.int 1) h) Q:=⟨_,by
 show((fI (d::e::r) 1).map λz=>(z,h))=_;have:fI (d::e::r) 1=some e:=by unfold fI;rw[show vq (d::e::r).length 1=some 1 by unfold vq;simp;try lia];rfl
 rw[this];rfl,q⟩
def Ri(q:Q (f,h)):Rn (ax (.tup (d::e::f::r)) (.int 2) h) Q:=⟨_,by
 show((fI (d::e::f::r) 2).map λz=>(z,h))=_;have:fI (d::e::f::r) 2=some f:=by unfold fI;rw[show vq (d::e::f::r).length 2=some 2 by unfold vq;simp;try lia];rfl
 rw[this];rfl,q⟩
def NC(q:Q (.int r.length,h)):Rn (cz [.tup r] h) Q:=⟨_,rfl,q⟩
def ND(q:Q (.int r.length,h)):Rn (cz [.lv r] h) Q:=⟨_,rfl,q⟩
inductive uw{α β:Type}(R:α->β->Prop):List α->List β->Prop where
 |nil:uw R [] []
 |cons {x y xs ys}:R x y->uw R xs ys->uw R (x::xs) (y::ys)
theorem uw.length{c:List α}{b:List β}(a:uw R c b):b.length=c.length:=by
 induction a with
 |nil=>rfl
 |cons _ t d=>rw[WW,WW,d]
def uw.right{c:List α}{b:List β}(a:uw R c b):∀y∈b,∃x∈c,R x y:=by
 induction a with
 |nil=>exactλ_ h=>(nomatch h)
 |cons r t d=>
  intro y h;rcases WV.mp h with rfl |h
  ·exact⟨_,WI,r⟩
  ·have⟨x,e,r⟩:=d y h;exact⟨x,WG _ e,r⟩
theorem mT(R:D->D->Prop):∀{xs:List D} {δ:DS} {h:MH} (J:Nat->DS->MH->Prop),J 0 δ h->(∀i δ h,i<=xs.length->J i δ h->hZ ws h=true)->
  (∀i x δ h,xs[i]?=some x->J i δ h->Rn (g x δ h) λq=>Rn (e q.1 q.2) λy=>R x y.1/\J (i+1) q.1 y.2)->Rn (aX ws g bI e xs δ h) λp=>uw R xs p.1/\∃b,J xs.length b p.2
 |[],δ,h,J,c,d,_=>by
  unfold aX;rw[WH (d 0 δ h (WJ _) c)];exact⟨_,rfl,.nil,δ,c⟩
 |x::xs,δ,h,J,c,d,ht=>by
  unfold aX;rw[WH (d 0 δ h (Xg _) c)];obtain⟨⟨k,o⟩,t,⟨y,v⟩,f,r,j⟩:=ht 0 x δ h rfl c;dsimp only at f r j;obtain⟨⟨l,n⟩,s,a,b,u⟩:=mT R (xs:=xs) (λi=>J (i+1)) j (λi δ h hl=>d (i+1) δ h (Yh hl)) λi y δ h m=>ht (i+1) y δ h (by simpa using m);apply⟨(y::l,n),?_,.cons r a,b,u⟩;rw[t];dsimp only[Option.bind_some];show((some (true,o)).bind _)=_;dsimp only[Option.bind_some];rw[WH rfl,f];dsimp only[Option.bind_some];rw[s];rfl
theorem qV(R:D->D->Prop):∀{xs:List D} {δ:DS} {h:MH} (J:Nat->DS->MH->Prop),J 0 δ h->(∀i δ h,i<=xs.length->J i δ h->hZ ws h=true)->
  (∀i x δ h,xs[i]?=some x->J i δ h->Rn (g x δ h) λq=>Rn (c q.1 q.2) λt=>(t.1=true->Rn (e q.1 t.2) λy=>R x y.1/\J (i+1) q.1 y.2)/\(t.1=false->J (i+1) q.1 t.2))->Rn (aX ws g c e xs δ h) λp=>p.1.length<=xs.length/\(∀y∈p.1,∃x∈xs,R x y)/\∃b,J xs.length b p.2
 |[],δ,h,J,f,j,_=>by
  unfold aX;rw[WH (j 0 δ h (WJ _) f)];exact⟨_,rfl,WJ _,λ_ z=>(nomatch z),δ,f⟩
 |x::xs,δ,h,J,f,j,ht=>by
  unfold aX;rw[WH (j 0 δ h (Xg _) f)];obtain⟨⟨E,N⟩,I,⟨t,M⟩,C,A,w⟩:=ht 0 x δ h rfl f;dsimp only at C A w;rw[I];dsimp only[Option.bind_some];rw[C];dsimp only[Option.bind_some];have next:=λ{b:DS} {G:MH} (k:J 1 b G)=>qV R (xs:=xs) (λi=>J (i+1)) k (λi δ h hl=>j (i+1) δ h (Yh hl)) λi y δ h F=>ht (i+1) y δ h (by simpa using F)
  cases t with
  |true=>
   obtain⟨⟨y,L⟩,H,r,k⟩:=A rfl;dsimp only at r k;obtain⟨⟨m,o⟩,s,l,a,b,v⟩:=next k
   apply⟨(y::m,o),?_,Yh l,λz d=>?_,b,v⟩
   ·rw[WH rfl,H];dsimp only[Option.bind_some];rw[s];rfl
   ·rcases WV.mp d with rfl |d
    ·exact⟨x,WI,r⟩
    ·have⟨u,n,r⟩:=a z d;exact⟨u,WG _ n,r⟩
  |false=>
   obtain⟨⟨m,o⟩,s,l,a,b,v⟩:=next (w rfl)
   apply⟨(m,o),?_,Xp l,λz d=>?_,b,v⟩
   ·rw[WM {},s]
   ·have⟨u,n,r⟩:=a z d;exact⟨u,WG _ n,r⟩
def Te(r:Rn (e a h) λp=>Rn (b (a.set i (some p.1)) p.2) Q):Rn (ai (aJ i e) b a h) Q:=jb (HD (r.imp λ_ q=>By q))
def Tn(r:Rn (e a h) λp=>Rn (g p.1 a p.2) λq=>Rn (b q.1 q.2) Q):Rn (ai (fC e g) b a h) Q:=jb (MZ (r.imp λ_ q=>q.imp λ_ q=>By q))
def Qy(r:Rn (e a h) λp=>Rn (b a p.2) Q):Rn (ai (b8 e) b a h) Q:=jb (HH (r.imp λ_ q=>By q))
def Wu(r:Rn (m a h) λq=>Q (d::q.1,q.2))(e:a[i]?=some (some d):=by with_unfolding_all rfl):Rn (af (aM i) m a h) Q:=iu (gz e r)
def Wv(r:Rn (m a h) λq=>Q (d::q.1,q.2)):Rn (af (eK d) m a h) Q:=iu (Q1 r)
def VG(r:Rn (f [d] h) Q)(e:a[i]?=some (some d):=by with_unfolding_all rfl):Rn (aj f (af (aM i) aV) a h) Q:=K3 (iu (gz e (DC r)))
def VF(r:Rn (f [d,c] h) Q)(e:a[i]?=some (some d):=by with_unfolding_all rfl)(b:a[j]?=some (some c):=by with_unfolding_all rfl):Rn (aj f (af (aM i) (af (aM j) aV)) a h) Q:=K3 (iu (gz e (iu (gz b (DC r)))))
def VE(r:Rn (f [d,l,c] h) Q)(e:a[i]?=some (some d):=by with_unfolding_all rfl)(g:a[j]?=some (some l):=by with_unfolding_all rfl)(b:a[k]?=some (some c):=by with_unfolding_all rfl):Rn (aj f (af (aM i) (af (aM j) (af (aM k) aV))) a h) Q:=K3 (iu (gz e (iu (gz g (iu (gz b (DC r)))))))
def Tg(r:Rn (f d c h) Q)(e:a[i]?=some (some d):=by with_unfolding_all rfl):Rn (ag f (aM i) (eK c) a h) Q:=x4 (gz e (Q1 r))
def Tf(r:Rn (f d c h) Q)(e:a[i]?=some (some d):=by with_unfolding_all rfl)(b:a[j]?=some (some c):=by with_unfolding_all rfl):Rn (ag f (aM i) (aM j) a h) Q:=x4 (gz e (gz b r))
def VC(r:Rn (b a h) λq=>Rn (f d q.1 q.2) Q)(e:a[i]?=some (some d):=by with_unfolding_all rfl):Rn (ag f (aM i) b a h) Q:=x4 (gz e r)
def VD(r:Rn (a b h) λq=>Rn (f q.1 c q.2) Q):Rn (ag f a (eK c) b h) Q:=x4 (r.imp λ_ r=>Q1 r)
def Tj(q:Q ((c.set i (some a)).set j (some b),h)):Rn (gT 2 (ak (gN i) (ak (gN j) bE)) (.tup [a,b]) c h) Q:=OF rfl (gW (Fi (gW (Fi (x5 q)))))
def Th(q:Q (((d.set i (some a)).set j (some b)).set k (some c),h)):Rn (gT 3 (ak (gN i) (ak (gN j) (ak (gN k) bE))) (.tup [a,b,c]) d h) Q:=OF rfl (gW (Fi (gW (Fi (gW (Fi (x5 q)))))))
def Qv(q:Q (.rt d,a,h))(e:a[i]?=some (some d):=by with_unfolding_all rfl):Rn (aP (aM i) a h) Q:=HE (gz e q)
def Qw(q:Q (.rt d,a,h)):Rn (aP (eK d) a h) Q:=HE (Q1 q)
end Sm
namespace L2
open PyProof.Rows
abbrev Vl:Hp:=λ_=>none
structure Tab(P:Program)(w:World)(K:FR)(mg:Str->Option Value)(nm:Str)(tb:List (Str×List Int)):Prop where
 ex:∃(a:Addr)(o:Obj)(es:Array DictEntry)(ep:Nat)(kvs:List (Str×Value)),mg nm=some (.ref a)/\K.lookup a=some o/\o.ExactDict/\o.data=.dict es ep/\(a==sysModules)=false/\KeysOf (strKind P w) es/\Pairs (strKind P w) es.toList kvs/\(kvs.map (·.1)).Nodup/\
  Sm.uw (λ(x:Str×List Int)(y:Str×Value)=>x.1=y.1/\∃(t:Addr)(u:Obj)(its:Array Value)(n:Nat),y.2=.ref t/\K.lookup t=some u/\u.cls=.type "tuple"/\u.dict=none/\u.data=.seq its n/\its.size<=sizeLine/\IntsAre its.toList x.2) tb kvs
def EX{K:FR}:∀{f:List (Str×List Int)} {c:List (Str×Value)},Sm.uw (λ(x:Str×List Int)(y:Str×Value)=>x.1=y.1/\∃(t:Addr)(u:Obj)(d:Array Value)(n:Nat),y.2=.ref t/\K.lookup t=some u/\u.cls=.type "tuple"/\u.dict=none/\u.data=.seq d n/\d.size<=sizeLine/\IntsAre d.toList x.2) f c->∀x:Str,
  (∀i,f.lookup x=some i->∃t,valueAt c x=some (.ref t)/\∀H,iJ K H t (i.map V.int))/\(valueAt c x).isSome=(f.lookup x).isSome:=by
 intro f c h
 induction h with
 |nil=>exactλx=>⟨λi e=>(nomatch e),rfl⟩
 |@cons p q f c r l w=>
  intro x;have⟨a,g⟩:=p;have⟨b,v⟩:=q;have⟨s,t,u,d,n,o,G,F,E,C,A,m⟩:=r;dsimp only at s o m;subst s;subst o
  by_cases k:x=a
  ·subst k;have j:valueAt ((x,Value.ref t)::c) x=some (.ref t):=by unfold valueAt;simp
   have hl:((x,g)::f).lookup x=some g:=by simp
   apply⟨λi e=>?_,by rw[j,hl];rfl⟩;rw[hl]at e;cases e;exact⟨t,j,λH=>.inr ⟨u,d,n,G,F,C,A,ox m,E⟩⟩
  ·have j:valueAt ((a,Value.ref t)::c) x=valueAt c x:=by
    unfold valueAt;rw[List.find?_cons_of_neg (by simpa using λz=>k z.symm)]
   have hl:((a,g)::f).lookup x=f.lookup x:=by
    rw[XJ,show(x==a)=false by simpa using k]
   rw[j,hl];exact w x
def Tab.dict(T:Tab X.prog X.w X.K X.mg nm c)(I:Inv X pins σ H s):∃(a:Addr)(b:List (Str×Value)),X.mg nm=some (.ref a)/\(a==sysModules)=false/\s.heap.DictOf (strKind X.prog X.w) a b/\∀x:Str,
  (∀d,c.lookup x=some d->∃t,valueAt b x=some (.ref t)/\∀H,iJ X.K H t (d.map V.int))/\(valueAt b x).isSome=(c.lookup x).isSome:=by
 have⟨a,o,es,n,b,m,l,k,j,i,h,g,f,e⟩:=T.ex;exact⟨a,b,m,i,⟨o,es,n,I.wL a o l,k,j,h,g,f⟩,EX e⟩
def OY(T:Tab X.prog X.w X.K X.mg nm r)(F:Gl X nm)(E:PE X i o)(C:MI i)(hd:(nm==("__debug__":Str))=false):
  PE X (.Subscript (.Name nm p) i pos) (λg H Q=>o g H λy L=>∃x f,y=.str x/\r.lookup x=some f/\∀t,iJ X.K Vl t (f.map V.int)->Q (.ref t) L):=by
 intro b s g H Q I h;have⟨a,z,hm,A,dd,N⟩:=T.dict I;apply KG ZY.lookup C (D1 I F hm (cQ (E b s g H _ I h) λM s2 u9=>?_) hd);have⟨y,J,n,v,x,f,G,l,q⟩:=u9;subst G;have⟨t,rfl⟩:=v;have⟨O,k,c,m,d,j⟩:=T.dict n;rw[hm]at c;cases c;have⟨u,e,sq⟩:=(j x).1 f l;exact⟨d.typeIs,wpAny_getItem_of (by show Value.isStrOf x (.str x t)=true;unfold Value.isStrOf;simp) d.mapOf e ⟨.ref u,J,n.tok _,rfl,q u (sq _)⟩⟩
end L2
namespace Sm
open L2 PyProof.Rows
noncomputable def P7(a:List (Str×List Int))(d:D)(h:MH):Option (D×MH):=match d with
 |.str x=>(a.lookup x).map λb=>(.tup (b.map D.int),h)
 |_=>none
def N8(T:Tab X.prog X.w X.K X.mg nm j)(o:SE X i m)(q:Gl X nm:=by unfold Gl;ac_nf)(n:MI i:=by unfold MI;intro _ _;ac_nf)(hd:(nm==("__debug__":Str))=false:=by ac_nf):SE X (.Subscript (.Name nm p) i pos) (jw (P7 j) m):=
 (OY T q o n hd).imp λσ H Q ⟨f,g,h,d,E,R,S,e,k⟩=>by
  obtain⟨⟨x,r⟩,z,a⟩:=bc e;dsimp only at a;apply⟨f,g,h,x,r,R,S,z,λv H1 u9=>?_⟩;have⟨b,A,C,l⟩:=u9;unfold P7 at a
  split at a
  ·rename_i y;have⟨c,u,s⟩:=dX a;cases s;cases l;exact⟨_,c,rfl,u,λt sq=>k _ _ ⟨b,A,C,.tup (.inr sq) (repL_ints' c)⟩⟩
  ·cases a
end Sm
namespace Hd
open PySem.W PyProof.Rows L2 Sm
abbrev Sub(h h':Heap):Prop:=∀b o,h.get? b=some o->h'.get? b=some o
def BO(k:Sub h b)(x:rowAt h e=some r):rowAt b e=some r:=by
 unfold rowAt at x ⊢
 split at x
 ·split at x
  ·split at x
   ·rename_i u a;rw[k _ _ a];exact x
   ·cases x
  ·cases x
 ·cases x
theorem pP(k:Sub h a):∀{es:List DictEntry} {r:List (Str×Int×List Int)},lj h es=some r->lj a es=some r
 |[],_,x=>x
 |e::es,r,x=>by
  unfold lj at x ⊢;have⟨y,c,x⟩:=Aaf.mp x;have⟨d,b,x⟩:=XD.mp x;rw[BO k c,pP k b];exact congrArg some x
def Bx(k:Sub h c)(x:tabAt h nm=some r):tabAt c nm=some r:=by
 have f:∀v,h.nsMap mainGlobals nm=some v->c.nsMap mainGlobals nm=some v:=λv e=>by
  unfold Heap.nsMap at e ⊢
  split at e
  ·rename_i o b;rw[k _ _ b];exact e
  ·cases e
 unfold tabAt at x ⊢
 split at x
 ·rename_i a i;rw[f _ i];dsimp only
  split at x
  ·cases x
  ·rename_i d;rw[WM d]
   split at x
   ·rename_i o b;rw[k _ _ b];dsimp only
    split at x
    ·rename_i g;rw[WH g]
     split at x
     ·exact pP k x
     ·cases x
    ·cases x
   ·cases x
 ·cases x
theorem AE:∀{b:List Value} {a:List Int},D5 b=some a->IntsAre b a
 |[],_,e=>by cases e;exact .nil
 |v::r,a,e=>by
  cases v <;> first |(exact cw e) |skip
  have⟨f,d,c⟩:=XD.mp (show(D5 r).map _=some a from e);subst c;exact .cons _ _ (AE d)
def Ba(h:Ew v t=true):v=.type t:=by
 unfold Ew at h
 split at h
 ·rw[XR h]
 ·cases h
theorem se:∀{es:List DictEntry} {d:List (Str×List Int)},lj h es=some (d.map λx=>(x.1,hashStr w x.1,x.2))->
  ∃b:List (Str×Value),(∀e∈es,∃k,(PySem.strKind P w).is k e.key=true/\e.hash=(PySem.strKind P w).hash k)/\Pairs (PySem.strKind P w) es b/\b.map (·.1)=d.map (·.1)/\
   uw (λ(x:Str×List Int)(y:Str×Value)=>x.1=y.1/\∃(t:Addr)(u:Obj)(c:Array Value)(n:Nat),y.2=.ref t/\(aL h).lookup t=some u/\u.cls=.type "tuple"/\u.dict=none/\u.data=.seq c n/\c.size<=sizeLine/\IntsAre c.toList x.2) d b
 |[],d,x=>by
  have p:d=[]:=by
   have:=Option.some.inj x;exact List.map_eq_nil_iff.mp this.symm
  subst p;exact⟨[],λ_ z=>(nomatch z),.nil,rfl,.nil⟩
 |e::es,d,x=>by
  unfold lj at x;have⟨y,a,x⟩:=Aaf.mp x;have⟨O,M,x⟩:=XD.mp x;cases d with
  |nil=>cases x
  |cons q d=>
   rw[WN]at x;have⟨rfl,rfl⟩:=List.cons.inj x;have⟨b,G,F,E,C⟩:=se (P:=P) M;unfold rowAt at a
   split at a
   ·rename_i l m A
    split at a
    ·rename_i t r
     split at a
     ·rename_i u s
      split at a
      ·rename_i i;rw[W9]at i
       split at a
       ·rename_i c n hd
        split at a
        ·rename_i v;have⟨o,L,j⟩:=XD.mp a;have J:l=q.1:=congrArg (·.1) j;have I:e.hash=hashStr w q.1:=congrArg (·.2.1) j;have H:o=q.2:=congrArg (·.2.2) j;have g:(PySem.strKind P w).is q.1 e.key=true:=by rw[A,J];show Value.isStrOf q.1 (.str q.1 m)=true;unfold Value.isStrOf;simp
         apply⟨(q.1,.ref t)::b,λN f=>?_,.cons g r F,by rw[WN,WN,E],.cons ⟨rfl,t,u,c,n,rfl,jV s rfl,Ba i.1,by simpa using i.2,hd,WL v {},by rw[<-H];exact AE L⟩ C⟩;rcases WV.mp f with rfl |f
         ·exact⟨q.1,g,I⟩
         ·exact G N f
        ·cases a
       ·cases a
      ·cases a
     ·cases a
    ·cases a
   ·cases a
def tab_of(x:tabAt h nm=some (d.map λx=>(x.1,hashStr w x.1,x.2)))(g:h.Ns mainGlobals mg)(nd:(d.map (·.1)).Nodup):Tab P w (aL h) mg nm d:=by
 unfold tabAt at x
 split at x
 ·rename_i a k
  split at x
  ·cases x
  ·rename_i f
   split at x
   ·rename_i o i
    split at x
    ·rename_i b;rw[W9,W9]at b
     split at x
     ·rename_i es s hd;have⟨c,p,n,m,l⟩:=se (P:=P) x;have hm:mg nm=some (.ref a):=by
       have⟨t,q,r,g1,g2,_,g3⟩:=g;rw[<-g3 nm,<-k];unfold Heap.nsMap;rw[g1];dsimp only;rw[g2]
      exact⟨a,o,es,s,c,hm,jV i rfl,⟨Ba b.1.1,by simpa using b.1.2,XR b.2⟩,hd,by simpa using f,λe j=>p e (Yz.mpr j),n,by rw[m];exact nd,l⟩
     ·cases x
    ·cases x
   ·cases x
 ·cases x
end Hd
namespace L2
open PyProof.Rows
end L2
namespace Sm
open L2 PyProof.Rows
end Sm
namespace Sb
open L2 PyProof.Rows
open Builtin.SmallTypes (nextOf ownedTupleIsFree ownedTupleHandOut)
abbrev lR(h:Heap)(z T U:Addr)(t:Addr)(f:Bool):Prop:=
 h.get? z=some {cls:=.type "zip",dict:=none,data:=.fields #[rawInt t,.bool f,.bool false,.ref T,.ref U],slots:=#[]}
def alive(b:s.heap.get? a=some o)(h:Q (some o) s):wpAny (model P w) A (loadIfAlive a) Q E s:=by
 have c:Q (s.heap.get? a) s:=by rw[b];exact h
 exactλ_ _ _=>c
def seen(d:lR s.heap z T U t f)(k:∀a,lR a z T U t true->Heap.SameBut z s.heap a->C false {s with heap:=a}):
  wpAny (model P w) A (if(Value.bool f !=Value.bool true)=true then do setField (.ref z) 1 (.bool true);pure false else pure false) C E s:=by
 cases f with
 |true=>rw[WM {}];exact WD (k s.heap d (Heap.SameBut.refl ..))
 |false=>
  rw[WH {}];apply Wz (wpAny_setField_rec d (by simp) λa b c=>WD (k a ?_ c));exact b
def Ku (D:Zp z T U p q l m) (u:lR s.heap z T U t f) (ht:s.heap.get? t=some Y) (M:IsPair s.heap T (.ref p) (.ref q)) (X:At b s.heap p l i) (S:At c s.heap q m i) (hl:Of b s.heap l xs) (hm:Of c s.heap m N) (R:xs[i]?=some x) (O:N[i]?=some y) (k:∀r,lR r z T U t true->At b r p l (i+1)->At c r q m (i+1)->IsPair r s.heap.objs.size x y->r.objs.size=s.heap.objs.size+1->
   (∀a o,a≠z->a≠p->a≠q->s.heap.get? a=some o->r.get? a=some o)->Q (some (.ref s.heap.objs.size)) {s with heap:=r}):wpAny (model P w) A (pyNext (.ref z)) Q E s:=by
 have ty:s.TypeIs (.ref z) "zip":=⟨_,u,rfl⟩;unfold pyNext;apply Wz (Zd (Xz (name:=Str.ofString "__next__") ty YV (XE YV ty Aau ?_ (Aan _))));show wpAny _ _ (field (.ref z) 2 >>=_) _ _ _;apply Wz (Xs u rfl (x:=.bool false) rfl ?_);show wpAny _ _ (field (.ref z) 3 >>=_) _ _ _;apply Wz (Xs u rfl (x:=.ref T) rfl (Wz (XT M rfl ?_)));show wpAny _ _ (ownedTupleIsFree (.ref z) >>=_) _ _ _;apply Wz ?_;unfold ownedTupleIsFree;apply Wz (Xs u rfl (x:=rawInt t) rfl ?_);show wpAny _ _ (loadIfAlive ((t:Int).toNat) >>=_) _ _ _;rw[Xd];apply Wz (alive ht ?_);simp only[Option.isNone_some,W8,X6];apply Wz (Xs u rfl (x:=.bool f) rfl ?_);apply seen u λI C d=>?_;simp only[W8,X6];have J:IsPair I T (.ref p) (.ref q):=d.extBut _ _ D.Tz M;apply Wz ?_;rw[<-Y2];simp only[ZO,AaA];apply Wz (Wz (Xn ?_));show wpAny _ _ (nextOf (.ref p) >>=_) _ _ _;apply Wz (tu (X.up λo e=>d.extBut _ o D.pz e) (hl.up λo e=>d.extBut _ o D.lz e) R λL H h=>WD ?_);apply WD ?_;apply Wz (Wz (Xn ?_));show wpAny _ _ (nextOf (.ref q) >>=_) _ _ _;apply Wz (tu (S.up λo e=>h.extBut _ o D.pq.symm (d.extBut _ o D.qz e)) (hm.up λo e=>h.extBut _ o D.mp (d.extBut _ o D.mz e)) O λg F j=>WD ?_);apply WD ?_;apply WD ?_;dsimp only;apply Wz (Z9 ?_ (hsz:=by show 2<=sizeLine;rw[Yv];lia));have sz:g.objs.size=s.heap.objs.size:=by rw[j.1,h.1,d.1]
 have v:lR g z T U t true:=j.extBut _ _ D.qz.symm (h.extBut _ _ D.pz.symm C);have n:∀a o,a≠z->a≠p->a≠q->s.heap.get? a=some o->g.get? a=some o:=λa o a1 a3 a4 e=>j.extBut _ _ a4 (h.extBut _ _ a3 (d.extBut _ _ a1 e));have G:At b g p l (i+1):=H.up λo e=>j.extBut _ o D.pq e;apply WD ⟨_,rfl,WD ?_⟩;show Q (some (.ref g.objs.size)) _;rw[sz];apply k (g.push {cls:=.type "tuple",data:=.seq #[x,y]}) (WC _ v) (G.up λo e=>WC _ e) (F.up λo e=>WC _ e) ?_ (by rw[XI,sz]) λa o a1 a3 a4 e=>WC _ (n a o a1 a3 a4 e);rw[<-sz];exact WZ _ rfl
def zu(hh:A.handled=none)(D:Zp z T U p q l m)(n:lR s.heap z T U t f)(ht:s.heap.get? t=some S)(N:IsPair s.heap T (.ref p) (.ref q))(J:At b s.heap p l i)(O:At c s.heap q m i)(hl:Of b s.heap l xs)(hm:Of c s.heap m F)(M:xs[i]?=none\/F[i]?=none)(k:∀L,(∀a o,a≠z->a≠p->a≠q->s.heap.get? a=some o->L.get? a=some o)->Q none {s with heap:=L}):wpAny (model P w) A (pyNext (.ref z)) Q E s:=by
 have ty:s.TypeIs (.ref z) "zip":=⟨_,n,rfl⟩;unfold pyNext;apply Wz (Zd (Xz (name:=Str.ofString "__next__") ty YV (XE YV ty Aau ?_ (Aan _))));show wpAny _ _ (field (.ref z) 2 >>=_) _ _ _;apply Wz (Xs n rfl (x:=.bool false) rfl ?_);show wpAny _ _ (field (.ref z) 3 >>=_) _ _ _;apply Wz (Xs n rfl (x:=.ref T) rfl (Wz (XT N rfl ?_)));show wpAny _ _ (ownedTupleIsFree (.ref z) >>=_) _ _ _;apply Wz ?_;unfold ownedTupleIsFree;apply Wz (Xs n rfl (x:=rawInt t) rfl ?_);show wpAny _ _ (loadIfAlive ((t:Int).toNat) >>=_) _ _ _;rw[Xd];apply Wz (alive ht ?_);simp only[Option.isNone_some,W8,X6];apply Wz (Xs n rfl (x:=.bool f) rfl ?_);apply seen n λI C d=>?_;simp only[W8,X6];apply Wz ?_;rw[<-Y2];simp only[ZO,AaA];apply Wz (Wz (Xn ?_));show wpAny _ _ (nextOf (.ref p) >>=_) _ _ _;cases ex:xs[i]? with
 |none=>
  apply Wz (Ap hh (J.up λo e=>d.extBut _ o D.pz e) (hl.up λo e=>d.extBut _ o D.lz e) ex λv e g u9=>?_);have⟨y,h,j⟩:=u9;apply Wz (YA (T:="StopIteration") (b:=true) ⟨y,h,j⟩ Zk (WD (k _ λa o a1 a3 _ r=>g _ _ a3 (d.extBut _ _ a1 r))))
 |some x=>
  have R:F[i]?=none:=by rcases M with r |r;rw[ex]at r;cases r;exact r
  apply Wz (tu (J.up λo e=>d.extBut _ o D.pz e) (hl.up λo e=>d.extBut _ o D.lz e) ex λv G g=>WD ?_);apply WD ?_;apply Wz (Wz (Xn ?_));show wpAny _ _ (nextOf (.ref q) >>=_) _ _ _;apply Wz (Ap hh (O.up λo e=>g.extBut _ o D.pq.symm (d.extBut _ o D.qz e)) (hm.up λo e=>g.extBut _ o D.mp (d.extBut _ o D.mz e)) R λH e u u9=>?_);have⟨y,h,j⟩:=u9;apply Wz (YA (T:="StopIteration") (b:=true) ⟨y,h,j⟩ Zk (WD (k _ λa o a1 a3 a4 r=>u _ _ a4 (g.extBut _ _ a3 (d.extBut _ _ a1 r)))))
structure MA(b c:Bool)(lo:Nat)(z T U p q l m:Addr)(i:Nat)(h:Heap):Prop where
 U0:IsZip h z T U .none\/∃t f ot,lR h z T U t f/\h.get? t=some ot/\lo<=t
 T_:IsPair h T (.ref p) (.ref q)
 U_:∃u v,IsPair h U u v
 p_:At b h p l i
 q_:At c h q m i
def D9{a:Nat}{t d:Addr}(h:a<=t)(hd:d<a):t≠d:=λe=>absurd (WO hd h) (by rw[e];exact X3 _)
def MA.but{g:Nat}{z T U p q l m d:Addr}{i:Nat}{h n:Heap}(x:MA b c g z T U p q l m i h)(hd:∀t∈[z,T,U,p,q],t≠d)(hl:d<g)(k:∀a o,a≠d->h.get? a=some o->n.get? a=some o):MA b c g z T U p q l m i n:=
 ⟨x.U0.imp (λy=>k _ _ (hd z (by simp)) y) λ⟨t,f,r,w,s,j⟩=>⟨t,f,r,k _ _ (hd z (by simp)) w,k _ _ (D9 j hl) s,j⟩,k _ _ (hd T (by simp)) x.T_,let⟨u,v,e⟩:=x.U_;⟨u,v,k _ _ (hd U (by simp)) e⟩,x.p_.up λo e=>k _ o (hd p (by simp)) e,x.q_.up λo e=>k _ o (hd q (by simp)) e⟩
def MA.next{h:Nat}{z T U p q l m:Addr}{i:Nat}{I H:Array Value}{x y:Value}{Q:Option Value->Shared->Prop}(D:Zp z T U p q l m)(st:MA b c h z T U p q l m i s.heap)(j:z<h/\U<h/\p<h/\q<h)(Y:h<=s.heap.objs.size)
  (hl:Of b s.heap l I) (hm:Of c s.heap m H) (L:I[i]?=some x) (J:H[i]?=some y)
  (k:∀g,MA b c h z T U p q l m (i+1) g->IsPair g s.heap.objs.size x y->g.objs.size=s.heap.objs.size+1->
   (∀a o,a≠z->a≠U->a≠p->a≠q->s.heap.get? a=some o->g.get? a=some o)->Q (some (.ref s.heap.objs.size)) {s with heap:=g}):wpAny (model P w) A (pyNext (.ref z)) Q E s:=by
 obtain⟨hr,r,⟨u,v,M⟩,O,N⟩:=st;rcases hr with F |⟨t,f,R,F,ht,d⟩
 ·apply zw D F r M O N hl hm L J λg a1 a2 a3 a4 C G n=>?_;exact k g ⟨.inr ⟨_,false,_,a1,C,Y⟩,n _ _ D.Tz D.TU D.Tp D.Tq r,⟨_,_,a2⟩,a3,a4⟩ C G n
 ·apply Ku D F ht r O N hl hm L J λg a1 a3 a4 C G n=>?_;exact k g ⟨.inr ⟨t,true,R,a1,n _ _ (D9 d j.1) (D9 d j.2.2.1) (D9 d j.2.2.2) ht,d⟩,n _ _ D.Tz D.Tp D.Tq r,⟨u,v,n _ _ D.Uz D.Up D.Uq M⟩,a3,a4⟩ C G λa o n1 _ X S e=>n a o n1 X S e
def MA.done{G:Nat}{z T U p q l m:Addr}{i:Nat}{j h:Array Value}{Q:Option Value->Shared->Prop}(hh:A.handled=none)(D:Zp z T U p q l m)(st:MA b c G z T U p q l m i s.heap)
  (hl:Of b s.heap l j) (hm:Of c s.heap m h) (n:j[i]?=none\/h[i]?=none)
  (k:∀d,(∀a o,a≠z->a≠U->a≠p->a≠q->s.heap.get? a=some o->d.get? a=some o)->Q none {s with heap:=d}):wpAny (model P w) A (pyNext (.ref z)) Q E s:=by
 obtain⟨hr,r,⟨u,v,I⟩,y,x⟩:=st;rcases hr with g |⟨t,f,L,g,ht,H⟩
 ·exact C0 hh D g r I y x hl hm n k
 ·exact zu hh D g ht r y x hl hm n λd a=>k d λJ o n1 _ F C e=>a J o n1 F C e
end Sb
namespace PySem
def kq:typeLookup (.type "zip") "__getattr__"=pure none:=by rw[AbG,AaN];ac_nf
def gv:entryFor table "zip.__getattribute__"=some Builtin.«object.__getattribute__»:=
 entryFor_alias (id':="object.__getattribute__") (by ac_nf) (by decide+kernel) (by decide+kernel) (by ac_nf)
def fL(a:Addr)(fs:Array Value)(i:Array (Option Value))(name:Str)(u:Tok)(f:typeLookup (.type "zip") name=pure none)(b:(["__module__","__name__","__qualname__","__doc__","__annotations__"]:List Str).contains name=false)(e:name.length+100<=sizeLine:=by size_fits):
  Meets (Builtin.«object.__getattribute__» ⟨[.ref a,.str name u],[]⟩) (λA R s=>s.heap.get? a=some {cls:=.type "zip",dict:=none,data:=.fields fs,slots:=i}/\raisesAttr (.ref a) name A R s):=
 Meets.of_wp λprog w A R s c=>by
  have⟨hp,g,d,h,os⟩:=s;have⟨j,c⟩:=c;have k:(⟨hp,g,d,h,os⟩:Shared).TypeIs (.ref a) "zip":=⟨_,j,rfl⟩;unfold Builtin.«object.__getattribute__»
  repeat(any_goals (first |assumption |wp_step))
  simp only[b,W8,X6]
  repeat(any_goals (first |assumption |wp_step))
  exact wpAny_raiseAttrError c.1 c.2 (attrMsg_fits (by decide+kernel) e)
end PySem
namespace L2
open PyProof.Rows
def AB:typeLookup (.type "zip") "keys"=pure none:=by rw[AbG,AaN];ac_nf
def LA(k:s.heap.get? a=some {cls:=.type "zip",dict:=none,data:=.fields fs,slots:=#[]})(p:A.handled=none)(h:∀i j,(∀b o,s.heap.get? b=some o->i.get? b=some o)->Q none {s with heap:=i,toks:=j}):
  wpAny (model prog w) A (getAttr? (.ref a) "keys") Q E s:=by
 have⟨hp,g,d,j,os⟩:=s;have l:∀c,(⟨hp,g,d,c,os⟩:Shared).TypeIs (.ref a) "zip":=λ_=>⟨_,k,rfl⟩;have x:=sub_AttributeError;have v:=Aat.lookup;have u:=Aat.bind (.ref a);have t:=kq;unfold getAttr? getAttrBy? getAttrBy
 repeat(any_goals (first |assumption |exact l _ |((with_reducible show wpAny _ _ (call (Value.builtin "zip.__getattribute__") _ _) _ _ _);apply Aaa Aat (l _) gv (F.args_zip_getattribute_2 _ _) (fL a fs #[] "keys" _ AB (by decide+kernel) {}) ⟨k,p,λi c e f=>?_⟩) |wp_step))
 have⟨r,q,m⟩:=f.there;have n:∀c,(⟨i,g,d,c,os⟩:Shared).TypeIs (.ref e) "AttributeError":=λ_=>⟨_,m,rfl⟩;show wpAny _ _ (getattributeRaised _ _ _ _ _ _ _) _ _ _;unfold getattributeRaised
 repeat(any_goals (first |assumption |exact n _ |wp_step))
 exact h _ _ f.keeps
def Inv.vK{a:List (Addr×Obj)}{h:St}{H:Hp}{s:Shared}{h':Heap}{t':Nat}{fp:List Addr}(I:Inv X a h H s)(k:∀b o,b∉fp->s.heap.get? b=some o->h'.get? b=some o)(g:∀b∈fp,gd X a H b):Inv X a h H {s with heap:=h',toks:=t'}:=by
 have f:∀b u,H b=some u->b∉fp:=λb u e z=>by rw[(g b z).1]at e;cases e
 apply I.step (g':=s.gens) (d':=s.drawn) (ch:=fp) (λb j=>?_) (λb o _ _ d e _=>k b o d e) (λb o _ _ d e _=>⟨o.slots,k b o d e⟩) (λ_ _ _ _ n=>n)
  (λb o d e=>⟨o,k b o d e⟩) (λ_ _ e=>e) (λ_ _ _ e=>e) (λb y e=>⟨#[],by rw[e];simp⟩) (λm hm=>?_) (λb u e=>?_) I.bare
 ·have⟨_,w,_,t,p,l⟩:=g b j;exact⟨t,w,p,l⟩
 ·have⟨o,es,x,i,r⟩:=hm;exact⟨o,es,x,k _ o (λz=>(g _ z).2.1 rfl) i,r⟩
 ·apply(I.a9 b u e).xB (λc v d q=>k c v ?_ q) (λ_ q=>q) λ_ _ q=>q;rcases d with z |z
  ·rw[z];exact f b u e
  ·exact f c _ z
def eV.off{K:FR}{H:Hp}{a d:Addr}{b:List V}{o:HO}(h:eV K H a b)(hd:H d=none):eV K (upd H d o) a b:=by
 rcases h with h |h
 ·rcases h with h |⟨u,h⟩
  ·exact .inl (.inl (by rw[aE (aO h hd)];exact h))
  ·exact .inl (.inr ⟨u,by rw[aE (aO h hd)];exact h⟩)
 ·exact .inr h
end L2
namespace L2
open PyProof.Rows Sb
theorem kz.off{b:Bool}{K:FR}{H:Hp}{a d:Addr}{c:List V}{o:HO}(h:kz b K H a c)(hd:H d=none):kz b K (upd H d o) a c:=by
 cases b with
 |true=>exact eV.off (show eV K H a c from h) hd
 |false=>exact iJ.off (show iJ K H a c from h) hd
structure QR(xs ys:List V)(kvs:List (Key×V)):Prop where
 len:kvs.length=min xs.length ys.length
 at_:∀(i:Nat) kv,kvs[i]?=some kv->xs[i]?=some (kV kv.1)/\ys[i]?=some kv.2
def CH{A:Around}{f:List (Addr×Obj)}{σ:St}{H:Hp}{b c:Bool}{z T U p q l m d:Addr}{lo:Nat}{M L:List V}{kvs:List (Key×V)}{R:Result->Shared->Prop}(hA:A.handled=none)(D:Zp z T U p q l m)(hl:kz b X.K H l M)(hm:kz c X.K H m L)(hr:QR M L kvs)(hk:kvs.length<=1000000)(hd:H d=none)
  (hlo:z<lo/\U<lo/\p<lo/\q<lo) (hdl:d<lo) (F:∀t∈[z,T,U,p,q],t≠d) (hf:∀t∈[z,U,p,q],gd X f H t)
  (h:∀s',Inv X f σ (upd H d (.dK (bA [] kvs))) s'->R (.ok (.ret .none)) s'):∀(n i:Nat)(s:Shared),kvs.length-i=n->i<=kvs.length->lo<=s.heap.objs.size->MA b c lo z T U p q l m i s.heap->Inv X f σ (upd H d (.dK (bA [] (kvs.take i)))) s->
   codeAny (model X.prog X.w) A (.builtin "dict.update.loop" ⟨[.ref d,.ref z,rawInt i,.none],[]⟩) R s:=by
 have hsz:sizeLine≥1000001:=by decide
 have E:∀o,∀t∈[z,U,p,q],gd X f (upd H d o) t:=λo t ht=>by
  have⟨h0,h1⟩:=hf t ht;apply⟨?_,h1⟩;rw[aE (F t (by simp at ht ⊢;rcases ht with rfl |rfl |rfl |rfl <;> simp))];exact h0
 intro n
 induction n with
 |zero=>
  intro i s hn hi r st I;have ei:i=kvs.length:=by lia
  apply X4 iW ?_;rw[XF dR _];have⟨Z,rv,pl⟩:=Sb.kz.of I (L2.kz.off hl hd (o:=.dK (bA [] (kvs.take i))));have⟨Y,k,Q⟩:=Sb.kz.of I (L2.kz.off hm hd (o:=.dK (bA [] (kvs.take i))));have e1:=rv.length;have e2:=k.length;have e3:=hr.len;show wpAny _ _ (pyNext (.ref z) >>=_) _ _ s;apply Wz (st.done hA D pl Q ?_ λh' up=>?_)
  ·rcases Nat.le_total M.length L.length with y |y
   ·left;simp;lia
   ·right;simp;lia
  show wpAny _ _ (Builtin.Dict.addKeywords d [] >>=λ_=>ret .none) _ _ _;have J:=I.vK (t':=s.toks) (h':=h') (fp:=[z,U,p,q]) (λb o g e=>up b o (λy=>g (by simp[y])) (λy=>g (by simp[y])) (λy=>g (by simp[y])) (λy=>g (by simp[y])) e) (E _);apply Wz (WD (WD ?_));rw[ei,X1]at J;exact h _ J
 |succ n ih=>
  intro i s hn hi r st I;have v:i<kvs.length:=by lia
  apply X4 iW ?_;rw[XF dR _];have⟨Z,rv,pl⟩:=Sb.kz.of I (L2.kz.off hl hd (o:=.dK (bA [] (kvs.take i))));have⟨Y,k,Q⟩:=Sb.kz.of I (L2.kz.off hm hd (o:=.dK (bA [] (kvs.take i))));have u:kvs[i]?=some (kvs[i]'v):=WK _;generalize kvs[i]'v=j at u;have⟨hxi,hyi⟩:=hr.at_ i j u;have⟨S,hku,rk⟩:=rv.get hxi;have⟨N,hvu,P⟩:=k.get hyi;show wpAny _ _ (pyNext (.ref z) >>=_) _ _ s;apply Wz (st.next D hlo r pl Q (x:=S) (y:=N) (by simpa using hku) (by simpa using hvu) λh' O pt sz up=>?_);have J:=I.vK (t':=s.toks) (h':=h') (fp:=[z,U,p,q]) (λb o g e=>up b o (λy=>g (by simp[y])) (λy=>g (by simp[y])) (λy=>g (by simp[y])) (λy=>g (by simp[y])) e) (E _);dsimp only;apply Wz (Xn ?_);apply Wz (wpAny_tryCatch ?_);unfold Builtin.Dict.pairItems;apply Wz (Zr (T:="tuple") ⟨_,pt,rfl⟩ ?_);rw[WH {}];apply Wz (XT pt rfl (WD ?_));show wpAny _ _ (holding [S,N] (dictSet d S N)) _ _ _;apply Xn ?_;have ed:upd H d (.dK (bA [] (kvs.take i))) d=some (.dK (bA [] (kvs.take i))):=aQ;have⟨zz,hdm,vs,C,dd⟩:=AU J.a9 ed;have hz3:vs.length<=sizeLine:=by rw[<-C.length];exact zz
  unfold dictSet;apply Xn (Wz ((bo X.prog X.w).pyHash (kW rk) ?_));apply wpAny_dictSetHashed_pairs (hsz:=hz3) (kW rk) dd λh2 G hs=>?_;have he:∃q,h2.get? d=some q:=let⟨q,_,_,hq,_⟩:=G;⟨q,hq⟩;have e2:putK (bA [] (kvs.take i)) j.1 j.2=bA [] (kvs.take (i+1)):=by
   rw[ZA,u,<-As];rfl
  have hl2:(putK (bA [] (kvs.take i)) j.1 j.2).length<=sizeLine:=by
   rw[e2];have:=gK (kvs.take (i+1)) [];rw[Xm]at this;simp only[XZ]at this
   lia
  have I2:=kd (t':=s.toks+1) J (by rw[ed];exact True.intro) hs he (CG (H':=upd (upd H d (.dK (bA [] (kvs.take i)))) d (.dK (putK (bA [] (kvs.take i)) j.1 j.2))) hl2 hdm (C.put j.1 P) G);rw[Kx,e2]at I2;have hc:((i:Int)+1)=((i+1:Nat):Int):=by push_cast;rfl
  rw[hc];apply WD ⟨YD dR _,ih (i+1) _ (by clear he hi;lia) v ?_ ?_ I2⟩
  ·show lo<=h2.objs.size;have:h2.objs.size=h'.objs.size:=hs.1;rw[this,sz];exact Xp r
  ·exact O.but F hdl λa o na e=>hs.extBut _ _ na e
def B4{a z:Expr}{ta:TA}{p pos p2 k:Pos}(hc:X.calm=true)(R:Gl X "dict")(P:X.mg "dict"=none)(hv:bootBuiltins "dict"=some (.type "dict"))(hg:Gl X "zip")(hm:X.mg "zip"=none)(ha:PA X [a,z] ta)
  (hs:starEach [a,z] X.env=[(false,eval a X.env),(false,eval z X.env)]) (E:starEach [z] X.env=[(false,eval z X.env)]):
  PE X (.Call (.Name "dict" p) [.Call (.Name "zip" p2) [a,z] [] k] [] pos) (λσ H Q=>ta σ H λZ x=>∃l m b c O M kvs,Z=[.ref l,.ref m]/\kz b X.K x l O/\kz c X.K x m M/\QR O M kvs/\kvs.length<=1000000/\∀q,x q=none->Q (.ref q) (upd x q (.dK (bA [] kvs)))):=by
 intro i s σ H Q I h;apply YT (fZ I R P hv ?_);apply XH ?_ rfl rfl;show wpAny _ _ (spliced ((false,eval (.Call (.Name "zip" p2) [a,z] [] k) X.env)::backTo pos (starEach [] X.env))) _ _ s;apply Aa4 ?_;apply YT (fZ I hg hm Sb.boot_zip (XH (cQ (ha k i s σ H _ I h) λus s1 ⟨Z,x,L,r1,q1⟩=>?_) (by rw[hs,E]) (by rw[E];rfl)));have⟨l,m,b,c,O,M,kvs,e,hq,G,hr,hk,q⟩:=q1;subst e;have⟨u,v,rfl,ru,C⟩:=Vals.two r1;obtain rfl:u=Value.ref l:=ru;obtain rfl:v=Value.ref m:=C;have⟨its,rv,hO⟩:=hq.of L;have⟨its',C,J⟩:=G.of L;apply zv hO J λg a1 a2 a3 a4 a5 a6 a7=>?_;have Y:L2.Inv X i σ x {s1 with heap:=g}:=L.kept (t':=s1.toks) a7;have S:∀d,s1.heap.objs.size<=d->gd X i x d:=λd hd=>L.vw hd (L.a9.fresh hd);have ll:l<s1.heap.objs.size:=by have⟨o,n,e,_⟩:=hO.data;exact WX e
 have lm:m<s1.heap.objs.size:=by have⟨o,n,e,_⟩:=J.data;exact WX e
 have D:Zp (s1.heap.objs.size+4) (s1.heap.objs.size+2) (s1.heap.objs.size+3) s1.heap.objs.size (s1.heap.objs.size+1) l m:=MP _ _ _ ll lm;have hA:X.A.handled=none:=I.ok.hd hc;apply Abe ?_;generalize hn:s1.heap.objs.size=N at*;apply callType_codes (Q₁:=λobj y=>obj=.ref g.objs.size/\y={s1 with heap:=g.push {cls:=.type "dict",data:=.dict #[]}}) F.kt_called_dict (F.kt_typeCall_dict_1 _) F.entry_dict_init (kt_code_dict_new _ ⟨rfl,rfl⟩) ?_;rintro obj y ⟨rfl,rfl⟩;have hd:x g.objs.size=none:=Y.fresh;have r:(g.push {cls:=.type "dict",data:=.dict #[]}).DictOf (bo X.prog X.w) g.objs.size []:=Heap.DictOf.new g;have I3:Inv X i σ (upd x g.objs.size (.dK [])) {s1 with heap:=g.push {cls:=.type "dict",data:=.dict #[]}}:=Y.laid (t':=s1.toks) (λ_ _ q=>WC _ q) (WJ _) (t4 g Y.big);apply⟨r.typeIs,F.args_dict_init_2 _ _,?_⟩;unfold Builtin.«dict.__init__»;apply Wz ?_;unfold Builtin.Dict.selfAndRest;apply Wz (wpAny_notOrdered_dict r.typeIs ?_);show wpAny _ _ (pure (g.objs.size,[Value.ref (N+4)])) _ _ _;apply WD ?_;show wpAny _ _ (Builtin.Dict.updateFrom "dict.__init__" g.objs.size (.ref (N+4)) [] .none) _ _ _;unfold Builtin.Dict.updateFrom;have b1:IsZip (g.push {cls:=.type "dict",data:=.dict #[]}) (N+4) (N+2) (N+3) .none:=WC _ a1;apply Wz (Zr (T:="zip") ⟨_,b1,rfl⟩ ?_);rw[WH {}];apply Wz (LA b1 (by exact hA) λU tk keep=>?_);have I4:=I3.kept (t':=tk) keep;have j:∀a o,g.get? a=some o->U.get? a=some o:=λa o e=>keep a o (WC _ e);simp only[Option.isNone_none,Ze];apply Wz (Yq (Wz (wpAny_pyIter_zip (f0:=.none) (j _ _ a1) ?_)));have f:g.objs.size<U.objs.size:=by have⟨o,_,_,e,_⟩:=r;exact WX (keep _ _ e)
 apply WD ⟨YD dR _,?_⟩;apply CH (X:=X) (σ:=σ) (H:=x) (kvs:=kvs) (lo:=U.objs.size) (by exact hA) D hq G hr hk hd ⟨?_,?_,?_,?_⟩ f (λt ht=>?_) (λt ht=>?_) (λs' I'=>⟨rfl,⟨.ref _,_,I',rfl,q _ hd⟩⟩) kvs.length 0 _ () (Xg _) (WJ _) ⟨.inl (j _ _ a1),j _ _ a2,⟨_,_,j _ _ a3⟩,a4.up λo e=>j _ o e,a5.up λo e=>j _ o e⟩ I4
 ·exact WO (WX a1) (XN f)
 ·exact WO (WX a3) (XN f)
 ·exact WO a4.lt (XN f)
 ·exact WO a5.lt (XN f)
 ·simp at ht;rw[a6];rcases ht with rfl |rfl |rfl |rfl |rfl <;> (apply Xa ?_;lia)
 ·apply S t ?_;simp at ht;rcases ht with rfl |rfl |rfl |rfl <;> lia
end L2
namespace Sm
open L2 PyProof.Rows Sb
def vT:List D->List D->Option (List (Key×D))
 |x::r,y::s=>(oU x).bind λk=>(vT r s).map λa=>(k,y)::a
 |_,_=>some []
def CD(m:AM):EM:=λb h=>(m b h).bind λp=>match p.1 with
 |[d,e]=>(cq d p.2).bind λf=>(cq e p.2).bind λc=>(vT f.1 c.1).bind λa=>if a.length<=1000000 then some (.dv (fc [] a),p.2)else none
 |_=>none
def KL{K:FR}{j:Ad}{H:Hp}:∀{d:List V} {g:List D} {us:List V} {f:List D} {h:List (Key×D)},az K j H d g->az K j H us f->vT g f=some h->∃c,QR d us c/\bB K j H c h:=by
 intro d
 induction d with
 |nil=>intro g us f h a _ e;cases a;cases e;exact⟨[],⟨by simp,λi k z=>by simp at z⟩,.nil⟩
 |cons v d t=>
  intro g us f h a b e;cases a with |cons n r=>
  cases b with
  |nil=>cases e;exact⟨[],⟨by simp,λi k z=>by simp at z⟩,.nil⟩
  |@cons u us _ _ m p=>
  have⟨s,C,A⟩:=bc e;have⟨q,y,x⟩:=dX A;subst x;have⟨c,l,o⟩:=t r p y;have w:=iB n C;subst w;apply⟨(s,u)::c,⟨by simp[l.len,Nat.succ_min_succ],λi k z=>?_⟩,.cons m o⟩;cases i with
  |zero=>cases z;exact⟨rfl,rfl⟩
  |succ i=>exact l.at_ i k (by simpa using z)
def Hh{a b:Expr}{m:AM}{p pos i f:Pos}(U:X.calm=true)(t:Gl X "dict")(s:X.mg "dict"=none)(N:bootBuiltins "dict"=some (.type "dict"))(T:Gl X "zip")(hm:X.mg "zip"=none)(Y:SA X [a,b] m)(hl:kA m 2)
  (O:starEach [a,b] X.env=[(false,eval a X.env),(false,eval b X.env)]:=by ac_nf) (r:starEach [b] X.env=[(false,eval b X.env)]:=by ac_nf):
  SE X (.Call (.Name "dict" p) [.Call (.Name "zip" i) [a,b] [] f] [] pos) (CD m):=(B4 U t s N T hm Y O r).imp λσ H Q E=>by
 have⟨A,C,h,d0,h',R,S,e,k⟩:=E;obtain⟨⟨ds,Z⟩,y,e2⟩:=bc e;apply⟨A,C,h,ds,Z,R,S,y,λvs z H1 T1 u G=>?_⟩;have⟨d,d',rfl⟩:=PF (hl _ _ _ _ y);obtain⟨⟨xs,w⟩,e3,e4⟩:=bc e2;obtain⟨⟨ys,w'⟩,e5,e6⟩:=bc e4;have⟨J,x,g⟩:=bc e6;dsimp only at x g
 by_cases c:J.length<=1000000
 ·rw[WH c]at g;cases g;have⟨v,v',rfl,rd,n⟩:=rep2 G;obtain⟨a,rfl,⟨us,q,l⟩,st⟩:=ij u rd e3;obtain⟨a',rfl,⟨j,I,M⟩,F⟩:=ij u n e5;have⟨o,L,i⟩:=KL l M x;exact⟨a,a',tH d,tH d',us,j,o,rfl,q.Dm,I.Dm,L,by rw[i.len];exact c,λq P=>k _ _ (dN.step T1 (.dv u (bB.merge .nil i) P))⟩
 ·rw[WM c]at g;cases g
end Sm
namespace Sb
open L2 PyProof.Rows
variable {P:Program} {w:World} {A:Around} {E:Value->Shared->Prop} {s:Shared} {b c:Bool}
end Sb
namespace Sb
open L2 PyProof.Rows
variable {P:Program} {w:World} {A:Around} {E:Value->Shared->Prop} {s:Shared} {b c:Bool}
end Sb
namespace L2
open PyProof.Rows Sb
end L2
namespace Sm
open L2 PyProof.Rows Sb
end Sm
namespace PySem
end PySem
namespace L2
open PyProof.Rows
end L2
namespace Sm
open L2 PyProof.Rows
end Sm
namespace L2
open PyProof.Rows
def eN(a:Array Nat):Prop:=∀i j (b:i<a.size) (hj:j<a.size),i<j->a[i]<a[j]
theorem ud(c:Array Nat)(j:Nat)(k:eN c):∀(fuel b a:Nat),a-b<=fuel->b<=a->a<=c.size->(∀i (h:i<c.size),i<b->c[i]<j)->(∀i (h:i<c.size),a<=i->j<=c[i])->
  SetTable.below.go c j fuel b a<=c.size/\(∀i (h:i<c.size),i<SetTable.below.go c j fuel b a->c[i]<j)/\(∀i (h:i<c.size),SetTable.below.go c j fuel b a<=i->j<=c[i])
 | 0,b,a,hf,hl,g,m,l=>by
  have:b=a:=Aao hl (AbU (Nat.le_zero.mp hf));subst this;unfold SetTable.below.go;exact⟨g,m,l⟩
 |fuel+1,b,a,hf,hl,g,m,l=>by
  unfold SetTable.below.go
  by_cases d:b<a
  ·rw[WH d];dsimp only;have o:b<=(b+a) / 2:=(Nat.le_div_iff_mul_le {}).mpr ();have n:(b+a) / 2<a:=(Nat.div_lt_iff_lt_mul {}).mpr ();have hm:=WO n g;have p:c.getD ((b+a) / 2) j=c[(b+a) / 2]:=by simp[Array.getD,hm]
   rw[p]
   by_cases f:c[(b+a) / 2]<j
   ·rw[WH f];apply ud c j k fuel _ _ (XS (WO (Nat.sub_lt_sub_left d (Nat.lt_succ_of_le o)) hf)) n g (λi h e=>?_) l;rcases Zz i ((b+a) / 2)with q |q
    ·exact ZT (k i _ h hm q) f
    ·have:i=(b+a) / 2:=Aao (XS e) q;subst this;exact f
   ·rw[WM f];apply ud c j k fuel _ _ (XS (WO (Nat.sub_lt_sub_right o n) hf)) o (XN hm) m (λi h e=>?_);rcases Zz ((b+a) / 2) i with q |q
    ·exact WL (XA f) (XN (k _ i hm h q))
    ·have:i=(b+a) / 2:=Aao q e;subst this;exact XA f
  ·rw[WM d];have:b=a:=by lia
   subst this;exact⟨g,m,l⟩
def iF(a:Array Nat)(j:Nat)(b:eN a):SetTable.below a j<=a.size/\(∀i (h:i<a.size),i<SetTable.below a j->a[i]<j)/\(∀i (h:i<a.size),SetTable.below a j<=i->j<=a[i]):=
 ud a j b _ _ _ (by simp) (Xg _) (WJ _) (λi h z=>absurd z (XB _)) (λi h z=>absurd (WO h z) (X3 _))
def hV(c:eN xs)(h:xs[i]?=some j):SetTable.below xs j=i:=by
 have⟨a,e⟩:=Zc.mp h;have b:=iF xs j c;rcases AaT (SetTable.below xs j) i with q |q |q
 ·have f:=b.2.2 (SetTable.below xs j) (by clear b;lia) (WJ _);have d:=c _ i (ZT q a) a q
  lia
 ·exact q
 ·have:=b.2.1 i a q
  lia
def vR{t:SetTable}{i j:Nat}(a:eN t.place)(h:t.place[i]?=some j):t.slot j=.live i:=by
 unfold SetTable.slot;rw[hV a h];dsimp only;rw[WH (by rw[h];simp)]
def BC{t:SetTable}{j:Nat}(hd:t.dummies=#[])(h:j∉t.place.toList):t.slot j=.empty:=by
 unfold SetTable.slot;dsimp only;rw[WM (by
  intro z;have z:=eq_of_beq z;exact h (by rw[Yz];exact Aar z)),hd]
 rfl
noncomputable def road(t:SetTable)(h:Int):Nat->SetTable.Probe
 | 0=>t.probeStart h
 |n+1=>t.advance (road t h n)
theorem vZ(e:t.mask=a.mask)(h:Int):∀n,road t h n=road a h n
 | 0=>by show t.probeStart h=a.probeStart h;unfold SetTable.probeStart;rw[e]
 |n+1=>by
  show t.advance (road t h n)=a.advance (road a h n);rw[vZ e h n];unfold SetTable.advance;rw[e]
theorem sj(t:SetTable)(h:Int):∀n,(road t h n).dummy=none
 | 0=>rfl
 |n+1=>by
  have:=sj t h n;show(t.advance (road t h n)).dummy=none;unfold SetTable.advance
  split
  ·exact this
  ·exact this
theorem sm(hm:t.mask=7)(h:Int):∀n,(road t h n).more=0/\(road t h n).j=(road t h n).i/\(road t h n).i<8/\(road t h n).perturb=SetTable.bits h / 32^n
 | 0=>by
  show(t.probeStart h).more=0/\_;unfold road SetTable.probeStart SetTable.runEnd;rw[hm];dsimp only;apply⟨by rw[WM ()];simp,rfl,Abg _ (YH _),by simp⟩
 |n+1=>by
  have⟨b,d,c,a⟩:=sm hm h n;show(t.advance (road t h n)).more=0/\(t.advance (road t h n)).j=(t.advance (road t h n)).i/\(t.advance (road t h n)).i<8/\(t.advance (road t h n)).perturb=_;unfold SetTable.advance SetTable.leap SetTable.runEnd;rw[hm,b,WM {}];dsimp only;apply⟨by rw[WM (by simp)];simp,rfl,Abg _ (YH _),?_⟩;rw[a,Nat.div_div_eq_div_mul,Nat.pow_succ]
def BP(hm:t.mask=7)(h:Int)(n:Nat):(road t h (n+1)).i=((road t h n).i*5+1+(road t h n).perturb / 32) % 8:=by
 have⟨a,d,c,b⟩:=sm hm h n;show(t.advance (road t h n)).i=_;unfold SetTable.advance SetTable.leap;rw[hm,a,WM {}]
def Mv(h:Int):SetTable.bits h<32^13:=by
 unfold SetTable.bits;have:h % (2^64:Int)<2^64:=Yu _ {};have a:0<=h % (2^64:Int):=Yg _ {}
 lia
noncomputable def Wq(i:Nat):Nat:=(i*5+1) % 8
def LL:Nat->Nat->Nat
 | 0,i=>i
 |n+1,i=>Wq (LL n i)
theorem sk(hm:t.mask=7)(h:Int):∀k,(road t h (13+k)).j=LL k (road t h 13).j
 | 0=>rfl
 |k+1=>by
  have a:=sk hm h k;rw[(sm hm h _).2.1]at a;rw[(sm hm h _).2.1,show 13+(k+1)=(13+k)+1 from rfl,BP hm h (13+k),(sm hm h _).2.2.2];have b:SetTable.bits h / 32^(13+k) / 32=0:=by
   have:SetTable.bits h / 32^(13+k)=0:=by
    apply Nat.div_eq_of_lt (WO (Mv h) ?_);exact Ab0 (YH _) (by simp)
   rw[this]
  rw[b,a];rfl
def LM:∀i:_root_.Fin 8,∀j:_root_.Fin 8,∃k:_root_.Fin 8,LL k.1 i.1=j.1:=by decide
def lcg_all'(i j:Nat)(b:i<8)(hj:j<8):∃k,k<8/\LL k i=j:=by
 have⟨k,a⟩:=LM ⟨i,b⟩ ⟨j,hj⟩;exact⟨k.1,k.2,a⟩
def Fb(hm:t.mask=7)(h:Int)(j:Nat)(hj:j<8):∃n,n<21/\(road t h n).j=j:=by
 have a:(road t h 13).j<8:=by rw[(sm hm h 13).2.1];exact(sm hm h 13).2.2.1
 have hl:=sk hm h;revert a hl;generalize (road t h 13).j=r;intro a hl;have⟨k,b,c⟩:=lcg_all' r j a hj;exact⟨13+k,by exact Yb b _,(hl k).trans c⟩
theorem tq [DecidableEq W]:∀(l a:List W),l.Nodup->(∀x∈l,x∈a)->l.length<=a.length
 |[],a,_,_=>Xg _
 |x::l,a,hn,d=>by
  have hn:=Y3.mp hn;have c:=d x (.head _);have:=tq l (a.erase x) hn.2 λy b=>by
   have:y≠x:=λe=>hn.1 (e ▸ b);exact(List.mem_erase_of_ne this).mpr (d y (.tail _ b))
  rw[List.length_erase_of_mem c]at this;have f:0<a.length:=AbN c;exact Xj this (Nat.sub_lt f Nat.one_pos)
def BQ(hm:t.mask=7)(h:Int)(d:t.place.size<8):∃n,n<21/\(road t h n).j∉t.place.toList:=by
 have:∃j,j<8/\j∉t.place.toList:=by
  apply Yo;intro z;have a:List.range 8 ⊆ t.place.toList:=λj hj=>by
   apply Yo;intro q;exact z ⟨j,XM.mp hj,q⟩
  have:=tq (List.range 8) t.place.toList Aa0 a;simp at this
  lia
 have⟨j,hj,hn⟩:=this;have⟨n,c,b⟩:=Fb hm h j hj;exact⟨n,c,by rw[b];exact hn⟩
theorem Jh [DecidablePred p]:∀{n:Nat},p n->∃m,m<=n/\p m/\∀i,i<m->¬p i
 | 0,h=>⟨0,WJ _,h,λi a=>absurd a (XB _)⟩
 |n+1,h=>by
  by_cases q:∃i,i<=n/\p i
  ·have⟨i,a,hp⟩:=q;have:∀k,k<=n->p k->∃m,m<=k/\p m/\∀i,i<m->¬p i:=by
    intro k
    induction k using Nat.strongRecOn with
    |_ k f=>
     intro j b
     by_cases e:∃i,i<k/\p i
     ·have⟨i,a,hp⟩:=e;have⟨m,g,d,c⟩:=f i a () hp;exact⟨m,by lia,d,c⟩
     ·exact⟨k,WJ _,b,λi a hp=>e ⟨i,a,hp⟩⟩
   have⟨m,g,d,c⟩:=this i a hp;exact⟨m,by lia,d,c⟩
  ·exact⟨n+1,WJ _,h,λi a hp=>q ⟨i,by exact XS a,hp⟩⟩
theorem Ab{t:SetTable}(n:eN t.place)(hd:t.dummies=#[])(a:Nat->Int)(h:Int){N:Nat}(u:(road t h N).j∉t.place.toList):∀(fuel m:Nat),m<=N->N-m<fuel->(∀i,i<N->(road t h i).j∈t.place.toList)->
  (SetTable.probe.go t a h fuel (road t h m)=some (.empty (road t h N).j none)/\(∀c i,m<=c->c<N->t.place[i]?=some (road t h c).j->a i≠h))\/
  ∃c i,m<=c/\c<N/\t.place[i]?=some (road t h c).j/\a i=h/\(∀k i,m<=k->k<c->t.place[i]?=some (road t h k).j->a i≠h)/\SetTable.probe.go t a h fuel (road t h m)=some (.candidate (road t h c).j i (road t h (c+1)))
 | 0,m,hm,hf,hl=>absurd hf (XB _)
 |fuel+1,m,hm,hf,hl=>by
  unfold SetTable.probe.go
  by_cases e:m=N
  ·subst e;rw[BC hd u];apply .inl ⟨?_,λc i g f=>absurd f (Aaj.mpr g)⟩;rw[sj]
  ·have d:m<N:=by lia
   have⟨i,x,w⟩:=Ab2 (Yz.mp (hl m d));have o:t.place[i]?=some (road t h m).j:=by rw[Xl x,w]
   rw[vR n o];dsimp only;have l:∀b,t.place[b]?=some (road t h m).j->b=i:=λb E=>(hV n E).symm.trans (hV n o)
   by_cases hh:a i=h
   ·apply .inr ⟨m,i,WJ _,d,o,hh,λk b g f=>absurd f (Aaj.mpr g),?_⟩;rw[WH (by rw[hh];simp)];rfl
   ·rw[WM (by simpa using hh)];show _\/_;rcases Ab n hd a h u fuel (m+1) d (WO (Nat.sub_lt_sub_left d (XQ m)) (XS hf)) hl with⟨g,f⟩ |⟨c,v,g,f,C,A,z,y⟩
    ·apply .inl ⟨g,λc b s r hp=>?_⟩;rcases Nat.eq_or_lt_of_le s with q |q
     ·subst q;rw[l b hp];exact hh
     ·exact f c b q r hp
    ·apply .inr ⟨c,v,by exact XN g,f,C,A,λk b s p hp=>?_,y⟩;rcases Nat.eq_or_lt_of_le s with q |q
     ·subst q;rw[l b hp];exact hh
     ·exact z k b q p hp
end L2
namespace L2
open PyProof.Rows PySem.SeqAt
def qX:∀(n:Nat) {d e:PyData},cb n d=true->cb n e=true->PyData.eqv d e=true->d=e:=by
 intro n
 induction n with
 |zero=>
  intro d e hd i h;cases d <;> cases e <;> simp_all [cb,PyData.eqv]
 |succ n j=>
  have hl:∀(b a:List PyData),b.all (cb n)=true->a.all (cb n)=true->PyData.eqvAll b a=true->b=a:=by
   intro b
   induction b with
   |nil=>intro a _ _ h;cases a with |nil=>rfl |cons _ _=>simp[PyData.eqvAll]at h
   |cons x b c=>
    intro a g f h;cases a with
    |nil=>simp[PyData.eqvAll]at h
    |cons y a=>
     rw[Y5,W9]at g f;rw[PyData.eqvAll,W9]at h;rw[j g.1 f.1 h.1,c a g.2 f.2 h.2]
  intro d e hd i h;cases d <;> cases e <;> first
   |(simp_all [cb,PyData.eqv];done)
   |(rename_i b a;rw[PyData.eqv]at h;rw[hl b a hd i h])
def qY:∀(n:Nat) {d:PyData},cb n d=true->d.canLay0=true/\d.depth<=n:=by
 intro n
 induction n with
 |zero=>
  intro d hd;cases d <;> simp_all [cb,PyData.canLay0,PyData.depth]
 |succ n e=>
  have hl:∀(a:List PyData),a.all (cb n)=true->PyData.canLayAll0 a=true/\PyData.depthAll a<=n:=by
   intro a
   induction a with
   |nil=>intro _;exact⟨by simp[PyData.canLayAll0],by simp[PyData.depthAll]⟩
   |cons x a c=>
    intro b;rw[Y5,W9]at b;have⟨a1,a2⟩:=e b.1;have⟨f,g⟩:=c b.2;apply⟨by rw[PyData.canLayAll0,a1,f];rfl,?_⟩;rw[PyData.depthAll];clear b;lia
  intro d hd;cases d <;> first
   |(simp_all [cb,PyData.canLay0,PyData.depth];done)
   |(rename_i a;have⟨a1,a2⟩:=hl a hd;apply⟨(by rw[PyData.canLay0];exact a1),?_⟩;rw[PyData.depth];lia)
noncomputable def Qg:Nat->PyData->Nat
 |n+1,.tuple xs=>(xs.map (Qg n)).sum+1
 |_,_=>1
def tO:∀(n:Nat) {A:Around} {s:Shared} {d:PyData} {v:Value} {as:List Addr} {Q:Int->Shared->Prop},A.units+n<cLine->cb n d=true->Reads s.heap v d as->Q (fv w n d) {s with toks:=s.toks+Qg n d}->
  wpAny (model P w) A (pyHash v) Q E s:=by
 have j:∀(n:Nat) {A:Around} {s:Shared} {d:PyData} {v:Value} {as:List Addr} {Q:Int->Shared->Prop},(∀c,d≠.tuple c)->cb n d=true->Reads s.heap v d as->Q (fv w n d) {s with toks:=s.toks+Qg n d}->wpAny (model P w) A (pyHash v) Q E s:=by
  intro n A s d v as Q f hp hr h;cases hr with
  |int i t=>exact(bo P w).pyHash (k:=.inl i) (p7 P w i t) (by cases n <;> exact h)
  |str x t=>exact(bo P w).pyHash (k:=.inr x) (p6 P w x t) (by cases n <;> exact h)
  |tuple=>exact absurd rfl (f _)
  |none=>cases n <;> simp[cb]at hp
  |bool=>cases n <;> simp[cb]at hp
  |list=>cases n <;> simp[cb]at hp
  |dict=>cases n <;> simp[cb]at hp
 intro n
 induction n with
 |zero=>
  intro A s d v as Q J hp hr h;exact j 0 (λc e=>by subst e;simp[cb]at hp) hp hr h
 |succ n I=>
  intro A s d v as Q J hp hr h
  by_cases f:∀c,d≠.tuple c
  ·exact j (n+1) f hp hr h
  ·have:∃c,d=.tuple c:=Yo λz=>f λc e=>z ⟨c,e⟩;have⟨c,rfl⟩:=this;cases hr with
   |@tuple a o N m _ _ H L hd r=>
    have y:s.TypeIs (.ref a) "tuple":=⟨o,H,L⟩;have p:c.all (cb n)=true:=hp;unfold pyHash
    first |unfold pyHashByItsType |skip
    first |apply Wz (wpAny_cRoomFor_or (.inr ()) ?_) |skip
    apply Wz (Za y ZM.lookup ?_);show wpAny _ _ (if(some (Value.builtin "tuple.__hash__")==some Value.none)=true then _ else _) Q E s;rw[WM (by rw[beq_builtin_none];exact Xi)];apply Wz (Za y ZM.lookup ?_);show wpAny _ _ (callSpecialIfBoundUnlessNone? (.ref a) "__hash__" _ >>=_) Q E s;apply Wz (wpAny_callSpecialIfBoundUnlessNone?_slot y ZM (XE ZM y F.entry_tuple_hash ?_ (F.args_tuple_hash_1 _)));show wpAny _ _ (Builtin.Tuple.tupleItemsOf (.ref a) >>=_) _ _ s;apply Wz (wpAny_tupleItemsOf H hd ?_);apply Wz ?_;rw[<-Y2];apply Zs _
     (λg (b:Array Int) C=>∃done left l,c=done++left/\ReadsAll s.heap g left l/\b.toList=done.map (fv w n)/\C={s with toks:=s.toks+(done.map (Qg n)).sum})
     _ ?_ ?_ _ _ ⟨[],c,_,rfl,r,rfl,rfl⟩
    ·rintro x g b C ⟨done,left,l,e,hl,u,rfl⟩;cases hl with
     |@cons _ _ d1 ds bs cs M q=>
      have G:cb n d1=true:=by
       rw[Yt]at p;exact p d1 (by rw[e];simp)
      apply Wz (I (A:=A.in1) (s:={s with toks:=s.toks+(done.map (Qg n)).sum}) (by rw[ZS];lia) G M ?_)
      first
       |exact WD ⟨done++[d1],ds,_,by rw[e];simp,q,by simp[u],by simp[ZK]⟩
       |exact Wz (WD (WD ⟨done++[d1],ds,_,by rw[e];simp,q,by simp[u],by simp[ZK]⟩))
    ·rintro b C ⟨done,left,l,e,hl,u,rfl⟩;cases hl;rw[XC]at e;subst e;show wpAny _ _ (retInt (Builtin.Tuple.tupleHashOf b.toList)) _ _ _;rw[u];apply wpAny_ret_mkInt ?_;show wpAny _ _ (if(decide (-(2:Int)^63<=Builtin.Tuple.tupleHashOf (c.map (fv w n)))&&decide (Builtin.Tuple.tupleHashOf (c.map (fv w n))<2^63))=true then _ else _) Q E _;unfold fv reduceHash Qg at h
     by_cases hr:(decide (-(2:Int)^63<=Builtin.Tuple.tupleHashOf (c.map (fv w n)))&&decide (Builtin.Tuple.tupleHashOf (c.map (fv w n))<2^63))=true
     ·rw[WH hr];rw[WH hr]at h;exact WD (by simpa [ZK] using h)
     ·rw[WM hr];rw[WM hr]at h;exact Wz (Yq (WD (by simpa [ZK] using h)))
def wR:∀(n:Nat) {A:Around} {s:Shared} {d:PyData} {v:Value} {as:List Addr} {Q:Int->Shared->Prop},A.units+n<cLine->cb n d=true->Reads s.heap v d as->(∀k,Q (fv w n d) {s with toks:=s.toks+k})->
  wpAny (model P w) A (pyHash v) Q E s:=
 λn _ _ _ _ _ _ a p r h=>tO n a p r (h _)
def AR(n:Nat)(i:A.units+n<cLine)(c:cb n d=true)(b:cb n e=true)(rd:Reads s.heap u d as)(a:Reads s.heap v e bs)(h:Q (PyData.eqv d e) s):
  wpAny (model P w) A (eqBool u v) Q E s:=by
 have g:=qY n c;have f:=qY n b;apply eqBoolOverData P w A E s u v d e as bs Q rd a g.1 f.1 ?_ h;have:min d.depth e.depth<=d.depth:=ZN _ _
 lia
def jc:∀(n:Nat) {A:Around} {s:Shared} {d:PyData} {v:Value} {as:List Addr} {Q:Bool->Shared->Prop},cb n d=true->Reads s.heap v d as->Q true s->∀m,n<=m->wpAny (model P w) A (eqIsQuiet m v) Q E s:=by
 intro n
 induction n with
 |zero=>
  intro A s d v as Q hp hr h m hm;have:carriedByValue v=true:=by cases hr <;> first |rfl |simp[cb]at hp
  rw[Abd _ this];exact WD h
 |succ n y=>
  intro A s d v as Q hp hr h m hm;cases hr with
  |@tuple a o u k xs _ p z hd e=>
   obtain⟨m,rfl⟩:∃x,m=x+1:=⟨m-1,by lia⟩;have q:s.TypeIs (.ref a) "tuple":=⟨o,p,z⟩;have j:xs.all (cb n)=true:=hp;unfold eqIsQuiet;apply Wz (Za q F.slot_tuple_eq.lookup ?_);show wpAny _ _ (isInstance (.ref a) (.type "tuple") >>=_) _ _ s;apply Wz (YA q isSubtype_tuple_tuple ?_);simp only[Yc,W8,X6];apply Wz (XT p hd ?_);apply Wz ?_;show wpAny _ _ (forIn u _ _) _ _ s;rw[<-Y2];apply Zs _ (λb r g=>r.1=none/\g=s/\∃l f,ReadsAll s.heap b l f/\l.all (cb n)=true) _ ?_ ?_ _ _ ⟨rfl,rfl,xs,_,e,j⟩
   ·rintro v b r g ⟨hr,rfl,l,f,hl,c⟩;cases hl with
    |cons G C=>
     rw[Y5,W9]at c;apply Wz (y c.1 G ?_ m ());simp only[Yc,W8,X6];exact WD ⟨rfl,rfl,_,_,C,c.2⟩
   ·rintro⟨I,H⟩ g ⟨hr,rfl,_⟩;simp only at hr;subst hr;exact WD h
  |int i t=>rw[Abd _ rfl];exact WD h
  |str i t=>rw[Abd _ rfl];exact WD h
  |none=>simp[cb]at hp
  |bool=>simp[cb]at hp
  |list=>simp[cb]at hp
  |dict=>simp[cb]at hp
def gM(n:Nat)(h:carriedByValue v=true):ofAClassStatement n v=pure false:=by
 cases v with
 |ref a=>simp[carriedByValue]at h
 |_=>first |rfl |simp[ofAClassStatement] |(unfold ofAClassStatement;rfl)
def qh:∀(n:Nat) {A:Around} {s:Shared} {d:PyData} {v:Value} {as:List Addr} {Q:Bool->Shared->Prop},cb n d=true->Reads s.heap v d as->Q false s->∀m,n<=m->wpAny (model P w) A (ofAClassStatement m v) Q E s:=by
 intro n
 induction n with
 |zero=>
  intro A s d v as Q hp hr h m hm;have:carriedByValue v=true:=by cases hr <;> first |rfl |simp[cb]at hp
  rw[gM _ this];exact WD h
 |succ n x=>
  intro A s d v as Q hp hr h m hm;cases hr with
  |@tuple a o q k xs _ p y hd e=>
   obtain⟨m,rfl⟩:∃u,m=u+1:=⟨m-1,by lia⟩;have z:s.TypeIs (.ref a) "tuple":=⟨o,p,y⟩;have j:xs.all (cb n)=true:=hp;unfold ofAClassStatement;apply Wz (Zr z ?_);dsimp only;apply Wz ?_;apply WD ?_;simp only[Yc,W8,X6];apply Wz (XT p hd ?_);dsimp only;apply Wz ?_;show wpAny _ _ (forIn q _ _) _ _ s;rw[<-Y2];apply Zs _ (λb r g=>r.1=none/\g=s/\∃l f,ReadsAll s.heap b l f/\l.all (cb n)=true) _ ?_ ?_ _ _ ⟨rfl,rfl,xs,_,e,j⟩
   ·rintro v b r g ⟨hr,rfl,l,f,hl,c⟩;cases hl with
    |cons F C=>
     rw[Y5,W9]at c;apply Wz (x c.1 F ?_ m ());simp only[Yc,W8,X6];exact WD ⟨rfl,rfl,_,_,C,c.2⟩
   ·rintro⟨H,G⟩ g ⟨hr,rfl,_⟩;simp only at hr;subst hr;exact WD h
  |int i t=>rw[gM _ rfl];exact WD h
  |str i t=>rw[gM _ rfl];exact WD h
  |none=>simp[cb]at hp
  |bool=>simp[cb]at hp
  |list=>simp[cb]at hp
  |dict=>simp[cb]at hp
def FX:∀(n:Nat) {A:Around} {s:Shared} {d:PyData} {v:Value} {as:List Addr} {Q:Bool->Shared->Prop},cb n d=true->Reads s.heap v d as->(∀b,Q b s)->∀m,wpAny (model P w) A (hashByValue m v) Q E s:=by
 intro n
 induction n with
 |zero=>
  intro A s d v as Q hp hr h m;cases hr with
  |int i t=>rw[ZQ m (x:=.int i t) rfl];exact WD (h _)
  |str i t=>rw[ZQ m (x:=.str i t) rfl];exact WD (h _)
  |none=>simp[cb]at hp
  |bool=>simp[cb]at hp
  |list=>simp[cb]at hp
  |dict=>simp[cb]at hp
  |tuple=>simp[cb]at hp
 |succ n y=>
  intro A s d v as Q hp hr h m;cases hr with
  |@tuple a o u k xs _ q z hd f=>
   have C:s.TypeIs (.ref a) "tuple":=⟨o,q,z⟩;have l:xs.all (cb n)=true:=hp;cases m with
   |zero=>unfold hashByValue;exact WD (h _)
   |succ m=>
    unfold hashByValue;apply Wz (Za C ZM.lookup ?_);dsimp only;apply Wz (XT q hd ?_);apply Wz ?_;show wpAny _ _ (forIn u _ _) _ _ s;rw[<-Y2];apply Zs _ (λc r j=>r.1=none/\j=s/\∃p g,ReadsAll s.heap c p g/\p.all (cb n)=true) _ ?_ ?_ _ _ ⟨rfl,rfl,xs,_,f,l⟩
    ·rintro v c r j ⟨hr,rfl,p,g,hl,e⟩;cases hl with
     |cons G F=>
      rw[Y5,W9]at e;apply Wz (y e.1 G (λb=>?_) m);cases b with
      |true=>
       simp only[Yc,W8,X6];exact WD ⟨rfl,rfl,_,_,F,e.2⟩
      |false=>
       simp only[Bool.not_false,Ze];exact WD (WD (h _))
    ·rintro⟨I,H⟩ j ⟨hr,rfl,_⟩;simp only at hr;subst hr;exact WD (h _)
  |int i t=>rw[ZQ m (x:=.int i t) rfl];exact WD (h _)
  |str i t=>rw[ZQ m (x:=.str i t) rfl];exact WD (h _)
  |none=>simp[cb]at hp
  |bool=>simp[cb]at hp
  |list=>simp[cb]at hp
  |dict=>simp[cb]at hp
structure nS(es:Array (Int×Value))(t:SetTable):Prop where
 mask:t.mask=7
 S9:t.dummies=#[]
 Oo:eN t.place
 sz:t.place.size=es.size
 le:es.size<=4
 reach:∀(i j:Nat)(e:Int×Value),t.place[i]?=some j->es[i]?=some e->∃n,(road t e.1 n).j=j/\∀m,m<n->(road t e.1 m).j∈t.place.toList
def Nz(w:World)(h:Heap)(n:Nat)(e:Int×Value)(d:PyData):Prop:=cb n d=true/\(∃as,Reads h e.2 d as)/\e.1=fv w n d/\∃a,e.2=.ref a
def ur(w:World)(h:Heap)(n:Nat)(es:Array (Int×Value))(a:List PyData):Prop:=a.length=es.size/\∀(i:Nat)(e:Int×Value)(d:PyData),es[i]?=some e->a[i]?=some d->Nz w h n e d
def ur.at{w:World}{h:Heap}{n:Nat}{es:Array (Int×Value)}{a:List PyData}(E:ur w h n es a){i:Nat}{e:Int×Value}(b:es[i]?=some e):∃d,a[i]?=some d/\Nz w h n e d:=by
 have c:i<es.size:=(Zc.mp b).1;have hd:a[i]?=some (a[i]'(by rw[E.1];exact c)):=WK _;exact⟨_,hd,E.2 i e _ b hd⟩
theorem nS.fits(T:nS es t):t.fits es.size=true:=by
 unfold SetTable.fits SetTable.fill;rw[T.sz,T.S9,T.mask];have:=T.le;simp;exact WL this {}
def nS.F0(T:nS es t)(h:Int):∃N,N<21/\(road t h N).j∉t.place.toList/\∀i,i<N->(road t h i).j∈t.place.toList:=by
 have⟨n,f,e⟩:=BQ T.mask h (by rw[T.sz];have:=T.le;exact Xj this {});have⟨m,c,b,a⟩:=Jh (p:=λi=>(road t h i).j∉t.place.toList) e;exact⟨m,by exact Xj c f,b,λi d=>Yo (a i d)⟩
def Hb(hn:n<=8)(i:cb n l=true)(g:Reads s.heap x l as):∀(c:List Value),(∀y∈c,∃d as,cb n d=true/\Reads s.heap y d as)->∀{Q:Bool->Shared->Prop},Q false s->wpAny (model P w) A (searchCouldBeSeen x c) Q E s:=by
 intro c f Q h;unfold searchCouldBeSeen;apply Wz ?_;apply Zs _ (λa r e=>r.1=none/\e=s/\∀y∈a,∃d as,cb n d=true/\Reads s.heap y d as) _ ?_ ?_ _ _ ⟨rfl,rfl,f⟩
 ·rintro y a r e ⟨hr,rfl,hl⟩;have⟨d,bs,j,rd⟩:=hl y (.head _);have b:=λz k=>hl z (.tail _ k);dsimp only
  split
  all_goals
   split
   ·exact WD ⟨rfl,rfl,b⟩
   ·apply Wz (jc n i g ?_ 8 hn);simp only[Yc,W8,X6];apply Wz (jc n j rd ?_ 8 hn);simp only[Yc,W8,X6];apply Wz (qh n i g ?_ 8 hn);simp only[W8,X6];apply Wz (qh n j rd ?_ 8 hn);simp only[W8,X6];exact WD ⟨rfl,rfl,b⟩
 ·rintro⟨o,m⟩ e ⟨hr,rfl,_⟩;simp only at hr;subst hr;exact WD h
def BF{a b:Addr}{ob:Obj}{es:Array (Int×Value)}{ep:Nat}{t:SetTable}{n:Nat}{ds:List PyData}{u:PyData}{as:List Addr}{h:Int}{N:Nat}{Q:SetFound->Shared->Prop}
  (M:s.heap.get? a=some ob) (hdt:ob.data=.set es ep t) (T:nS es t) (L:ur w s.heap n es ds) (hn:n<=8) (hu:A.units+n<cLine) (px:cb n u=true) (rx:Reads s.heap (.ref b) u as) (hh:h=fv w n u)
  (hN:(road t h N).j∉t.place.toList) (hl:∀i,i<N->(road t h i).j∈t.place.toList) (hN21:N<21)
  (hit:u∈ds->Q (.there none) s) (I:u∉ds->Q (.free (road t h N).j false) s):
  ∀(k g m:Nat)(l:Option SetTable.Probe),N-m=k->m<=N->N-m<g->l.getD (t.probeStart h)=road t h m->(∀(c i:Nat)(d:PyData),c<m->t.place[i]?=some (road t h c).j->ds[i]?=some d->d≠u)->
   wpAny (model P w) A (setSearchFrom a (.ref b) h true g l) Q E s:=by
 intro k
 induction k using Nat.strongRecOn with
 |_ k ih=>
  intro g m l hk hm hf hst U;obtain⟨g,rfl⟩:∃f,g=f+1:=⟨g-1,by lia⟩;unfold setSearchFrom;apply Wz (Yp M hdt T.fits ?_);dsimp only;have hgw:t.gaveWay=false:=by unfold SetTable.gaveWay;rw[T.mask];rfl
  rw[hgw];simp only[W8,X6];rw[hst];generalize F:(λ(i:Nat)=>((es[i]?.map λ(e:Int×Value)=>e.1).getD 0:Int))=hashAt;have G:N-m<10*SetTable.turns t.mask:=by unfold SetTable.turns;rw[T.mask];lia
  have hpr:=Ab T.Oo T.S9 hashAt h hN (10*SetTable.turns t.mask) m hm G hl;have at_:∀i j,t.place[i]?=some j->∃e,es[i]?=some e:=λi j hj=>by
   have:i<es.size:=by rw[<-T.sz];exact(Zc.mp hj).1
   exact⟨es[i],Xl this⟩
  have Y:∀i e,es[i]?=some e->hashAt i=e.1:=λi e r=>by rw[<-F];simp[r]
  rcases hpr with⟨p1,p2⟩ |⟨c,i,c1,c2,c3,c4,c5,c6⟩
  ·have hp:t.probe hashAt h (road t h m)=some (.empty (road t h N).j none):=p1;subst F
   erw [hp]
   dsimp only;apply WD (I λO=>?_);have⟨i,X⟩:=XU.mp O;have S:i<es.size:=by rw[<-L.1];exact(WB.mp X).1
   have r:=Xl (xs:=es) S;have⟨hp1,hr1,Z,_⟩:=L.2 i _ u r X;have hpl:i<t.place.size:=by rw[T.sz];exact S
   have hj:=Xl (xs:=t.place) hpl;have⟨H,r1,r2⟩:=T.reach i _ _ hj r;rw[Z,<-hh]at r1 r2;have hn0:H<N:=by
    rcases AaT H N with q |q |q
    ·exact q
    ·subst q;exact absurd (by rw[r1];simp) hN
    ·exact absurd (r2 N q) hN
   rcases Zz H m with q |q
   ·exact U H i u q (by rw[r1];exact hj) X rfl
   ·exact p2 H i q hn0 (by rw[r1];exact hj) (by rw[Y i _ r,Z,hh])
  ·have hp:t.probe hashAt h (road t h m)=some (.candidate (road t h c).j i (road t h (c+1))):=c6;subst F
   erw [hp]
   dsimp only;obtain⟨⟨h',y⟩,r⟩:=at_ i _ c3
   obtain⟨dy,hdy,py,⟨bs,ry⟩,hhy,⟨ya,J⟩⟩:=L.at r;dsimp only at ry hhy J;subst J;have seen:∀{Q':Bool->Shared->Prop},Q' false s->wpAny (model P w) A (searchCouldBeSeen (.ref b) ((es.filter (·.1==h)).toList.map (·.2))) Q' E s:=λ{Q'} q=>by
    apply Hb hn px rx _ (λy hy=>?_) q;have⟨e,r,rfl⟩:=Xe.mp hy;have v:e∈es.toList:=by
     have:=Yz.mp r;exact Yz.mpr (Array.mem_filter.mp this).1
    have⟨i,X,hv⟩:=Ab2 (Yz.mp v);obtain⟨d,_,pd,⟨bs,rd⟩,_,_⟩:=L.at (i:=i) (e:=e) (by rw[Xl X,hv]);exact⟨d,bs,pd,rd⟩
   have go:wpAny (model P w) A (do
     let some (_,y):=es[i]? |unsupported "internal:set-entry"
     let equal<-holding [y] (eqBool y (.ref b));let(es',_,t')<-setState a
     if true&&equal then return .there none
     let some same:=t'.sameMemory t.moves t.mask |unsupported "set.changed-during-lookup:is-the-new-block-at-the-old-address"
     let x<-match (if same then t'.slot (road t h c).j else .empty)with
      |.live p=>match es'[p]? with
       |some (_,y')=>do pure (if<-isSame y' y then some p else none)
       |none=>pure none
      |_=>pure none
     match x with
     |none=>rule "set.search.anew";setSearchFrom a (.ref b) h true g none
     |some p=>if equal then return .there (some p)else setSearchFrom a (.ref b) h true g (some (road t h (c+1)))) Q E s:=by
    rw[r];dsimp only;apply Wz (Xn (AR n hu py px ry rx ?_));apply Wz (Yp M hdt T.fits ?_);dsimp only;cases hq:PyData.eqv dy u with
    |true=>
     rw[AaJ,WH rfl];apply WD (hit ?_);rw[<-qX n py px hq];exact WE hdy
    |false=>
     rw[AaJ,WM Xi];have hsm:t.sameMemory t.moves t.mask=some true:=by unfold SetTable.sameMemory;rw[WH (by simp)]
     rw[hsm];dsimp only;rw[WH rfl,vR T.Oo c3];dsimp only;rw[r];dsimp only;apply Wz (wpAny_isSame_ref_self (Wz (WD ?_)));rw[WH rfl];dsimp only;rw[WM Xi];apply ih (N-(c+1)) () g (c+1) _ rfl c2 () rfl λc' p d' hc' C o=>?_;have R:p<es.size:=by rw[<-L.1];exact(WB.mp o).1
     have v:=Xl (xs:=es) R;have⟨pd',_,hh',_⟩:=L.2 p _ d' v o;rcases Zz c' m with q |q
     ·exact U c' p d' q C o
     ·rcases Zz c' c with q2 |q2
      ·intro z;subst z;exact c5 c' p q q2 C (by rw[Y p _ v,hh',hh])
      ·have:c'=c:=by lia
       subst this;have:p=i:=(hV T.Oo C).symm.trans (hV T.Oo c3);subst this;intro z;rw[hdy]at o;injection o with o
       rw[o,z,eqv_refl u (qY n px).1]at hq;cases hq
   cases hled:t.led with
   |true=>
    simp only[Yc,W8,X6];exact go
   |false=>
    simp only[Bool.not_false,Ze];apply Wz (seen ?_);simp only[W8,X6];exact go
def tL(a:Array α)(p:Nat)(x:α)(hp:p<=a.size)(i:Nat):(SetTable.insertAt a p x)[i]?=if i<p then a[i]? else if i=p then some x else a[i-1]?:=by
 rw[<-Ys,SetTable.toList_insertAt]
 by_cases b:i<p
 ·rw[WH b,W0 (by simp;lia),List.getElem?_take,WH b,Ys]
 ·rw[WM b,W4 (by simp;lia)];have hl:(a.toList.take p).length=p:=by simp;lia
  rw[hl]
  by_cases c:i=p
  ·subst c;rw[WH rfl,Zg];rfl
  ·rw[WM c];have⟨k,rfl⟩:=Nat.le.dest (ZV (XA b) (XW c));have d:p+1+k-p=k+1:=by rw[ZK,Zx,AbM]
   rw[d,X2,List.getElem?_drop,Ys];congr 1;rw[Nat.succ_add];rfl
def eN.ins(s:eN xs)(hj:j∉xs.toList):eN (SetTable.insertAt xs (SetTable.below xs j) j):=by
 have⟨C,w,A⟩:=iF xs j s;have g:=tL xs (SetTable.below xs j) j C;generalize SetTable.below xs j=p at C w A g;intro i k G F t;have f:=g i;have c:=g k;rw[Xl G]at f;rw[Xl F]at c;have o:∀i (h:i<xs.size),p<=i->j<xs[i]:=λi h q=>by
  rcases Zz j xs[i]with z |z
  ·exact z
  ·have J:=A i h q;have E:xs[i]=j:=by lia
   have x:xs[i]∈xs.toList:=by simp
   rw[E]at x;exact absurd x hj
 have a:∀{i v:Nat},some v=xs[i]?->∃h:i<xs.size,v=xs[i]:=λ{i v} e=>by
  have⟨I,H⟩:=Zc.mp e.symm;exact⟨I,H.symm⟩
 by_cases r:i<p
 ·rw[WH r]at f;have⟨d,u⟩:=a f;rw[u]
  by_cases m:k<p
  ·rw[WH m]at c;have⟨b,n⟩:=a c;rw[n];exact s i k d b t
  ·rw[WM m]at c
   by_cases l:k=p
   ·rw[WH l]at c;injection c with c
    rw[c];exact w i d r
   ·rw[WM l]at c;have⟨b,n⟩:=a c;rw[n];exact ZT (w i d r) (o _ b (Aav (ZV (XA m) (XW l))))
 ·rw[WM r]at f;have m:¬k<p:=by lia
  have l:¬k=p:=by lia
  rw[WM m,WM l]at c;have⟨b,n⟩:=a c;rw[n]
  by_cases y:i=p
  ·rw[WH y]at f;injection f with f
   rw[f];exact o _ b (Aav (ZV (XA m) (XW l)))
  ·rw[WM y]at f;have⟨d,u⟩:=a f;rw[u];exact s _ _ d b (by clear l m;lia)
def LV(hp:p<=xs.size):k∈(SetTable.insertAt xs p j).toList↔k=j\/k∈xs.toList:=by
 rw[(AaD xs p j).mem_iff];simp[or_comm]
def nS.put(T:nS es t)(l:es.size<=3)(v:(road t h N).j∉t.place.toList)(hl:∀i,i<N->(road t h i).j∈t.place.toList)(ht:f.mask=t.mask/\f.dummies=t.dummies/\f.place=SetTable.insertAt t.place (SetTable.below t.place (road t h N).j) (road t h N).j):
  nS (SetTable.insertAt es (SetTable.below t.place (road t h N).j) (h,x)) f:=by
 have⟨q,u,d⟩:=ht;have p:=(iF t.place (road t h N).j T.Oo).1;have o:SetTable.below t.place (road t h N).j<=es.size:=by rw[<-T.sz];exact p
 have k:(SetTable.insertAt t.place (SetTable.below t.place (road t h N).j) (road t h N).j).size=t.place.size+1:=by
  have:=(AaD t.place (SetTable.below t.place (road t h N).j) (road t h N).j).length_eq
  simpa using this
 have c:(SetTable.insertAt es (SetTable.below t.place (road t h N).j) (h,x)).size=es.size+1:=by
  have:=(AaD es (SetTable.below t.place (road t h N).j) (h,x)).length_eq
  simpa using this
 have hr:∀g n,road f g n=road t g n:=λg n=>vZ q g n;apply⟨q.trans T.mask,u.trans T.S9,by rw[d];exact T.Oo.ins v,by rw[d,k,c,T.sz],by rw[c];exact Yh l,λi j e a b=>?_⟩;rw[d,tL _ _ _ p]at a;rw[tL _ _ _ o]at b;simp only[hr,d,LV p]
 by_cases s:i<SetTable.below t.place (road t h N).j
 ·rw[WH s]at a b;have⟨n,n1,n2⟩:=T.reach i j e a b;exact⟨n,n1,λm hm=>.inr (n2 m hm)⟩
 ·rw[WM s]at a b
  by_cases r:i=SetTable.below t.place (road t h N).j
  ·rw[WH r]at a b;injection a with a
   injection b with b
   subst a;subst b;exact⟨N,rfl,λm hm=>.inr (hl m hm)⟩
  ·rw[WM r]at a b;have⟨n,n1,n2⟩:=T.reach _ j e a b;exact⟨n,n1,λm hm=>.inr (n2 m hm)⟩
def sO(p:∀b o a m,h.get? b=some o->o.data=.seq a m->k.get? b=some o):∀(n:Nat) {d:PyData} {v:Value} {as:List Addr},cb n d=true->Reads h v d as->Reads k v d as:=by
 intro n
 induction n with
 |zero=>
  intro d v as hp hr;cases hr with
  |int i t=>exact .int i t
  |str x t=>exact .str x t
  |none=>simp[cb]at hp
  |bool=>simp[cb]at hp
  |list=>simp[cb]at hp
  |dict=>simp[cb]at hp
  |tuple=>simp[cb]at hp
 |succ n l=>
  have hl:∀(c:List PyData) {a:List Value} {as:List Addr},c.all (cb n)=true->ReadsAll h a c as->ReadsAll k a c as:=by
   intro c
   induction c with
   |nil=>intro a as _ hr;cases hr;exact .nil
   |cons d c e=>
    intro a as hp hr;rw[Y5,W9]at hp;cases hr with
    |cons g f=>exact .cons (l hp.1 g) (e hp.2 f)
  intro d v as hp hr;cases hr with
  |int i t=>exact .int i t
  |str x t=>exact .str x t
  |none=>simp[cb]at hp
  |bool=>simp[cb]at hp
  |list=>simp[cb]at hp
  |dict=>simp[cb]at hp
  |tuple g f j q=>exact .tuple (p _ _ _ _ g j) f j (hl _ hp q)
end L2
namespace Sm
open L2 PyProof.Rows
end Sm
namespace Hd
open PySem.W PyProof.Rows L2 Sm
end Hd
namespace L2
open PyProof.Rows
end L2
namespace Sm
open L2 PyProof.Rows
end Sm
namespace L2
open PyProof.Rows
theorem wX(hh:A.handled=none)(h:t≠it):∀(n i:Nat)(s:Shared)(Q:List Value->Shared->Prop),s.heap.IsListIter it t i->s.heap.IsList t items->i+n<=items.size->
  (∀j p,j.IsListIter it t (i+n)->j.IsList t items->Heap.ExtBut it s.heap j->Q ((items.toList.drop i).take n) {s with heap:=j,toks:=p})->wpAny (model P w) A (draw (.ref it) n) Q E s
 | 0,i,s,Q,hit,hl,_,m=>by
  show wpAny _ _ (pure []) Q E s;exact WD (by simpa using m s.heap s.toks hit hl (λb o _ e=>e))
 |n+1,i,s,Q,hit,ht,hle,m=>by
  have f:i<items.size:=by lia
  show wpAny _ _ (pyNext (.ref it) >>=_) Q E s;have W:=Walks.list (prog:=P) (w:=w) hh it t h items;apply Wz (W.item i s _ _ f ⟨hit,ht⟩ λv q p x st u=>?_);apply Wz (Xn (wX hh h n (i+1) _ _ st.1 st.2 () λg k a d c=>WD ?_));have hd:items.toList.drop i=items[i]::items.toList.drop (i+1):=by simp[Abn,f]
  have:=m g k (by rw[show i+(n+1)=i+1+n by lia];exact a) d (λb o r e=>c b o r (u b o (by simpa using r) e));rw[hd,List.take_succ_cons]at this;have l:v=items[i]:=by
   have:items[i]?=some v:=x;rw[Xl f]at this;injection this with this
   exact this.symm
  rw[l];exact this
def nP{p}(hh:A.handled=none)(ht:s.heap.IsList t items)(hn:(assignEach elts env).length=items.size)(d:(assignEach elts env).findIdx? (·.1)=none)(h:∀n r,Heap.ExtBut s.heap.objs.size s.heap n->wpAny (model P w) A (assignInOrder ((assignEach elts env).map (·.2)) items.toList) Q E {s with heap:=n,toks:=r}):
  wpAny (model P w) A (assign (.Tuple elts p pos) env (.ref t)) Q E s:=by
 rw[assign_Tuple];apply Wz (YQ ?_);unfold unpack;rw[hn,d];apply Wz (Xn ?_);have i:t≠s.heap.objs.size:=by have⟨o,v,_⟩:=ht;exact Xa (WX v)
 unfold unpackItems;apply Wz ?_;unfold notIterableAtAll;apply Wz (Za ht.typeIs F.slot_list_iter.lookup ?_);apply WD ?_;simp only[W8,X6];apply Wz (Xn (Zj ht ?_));apply Wz (Xn (wX hh i items.size 0 _ _ ⟨_,WZ _ rfl,rfl,rfl⟩ (ht.push _) () λl q a f c=>?_));have j:List.take items.size (List.drop 0 items.toList)=items.toList:=by
  rw[Abk];exact YJ (by simp)
 rw[j];rw[WM (by simp)];have W:=Walks.list (prog:=P) (w:=w) hh s.heap.objs.size t i items;rw[YZ]at a;apply Wz (Xn (W.done _ _ _ ⟨a,f⟩ λg k u=>?_));simp only[Option.isSome_none,W8,X6];exact WD (h g k λb o m e=>u b o (by simpa using m) (c b o m (WC _ e)))
def Vy(K:FR)(n:Nat)(t:Nt):TG:=λv c H Q=>∃a b,v=.ref a/\eV K H a b/\b.length=n/\t b c H Q
def OV(q:X.calm=true)(h:MG X es t)(hn:(assignEach es X.env).length=n:=by rfl)(g:(assignEach es X.env).findIdx? (·.1)=none:=by rfl):PG X (.Tuple es k pos) (Vy X.K n t):=by
 intro c s i H v u Q I r f;have⟨a,l,x,p,hl,f⟩:=f;subst x;cases r;have⟨d,rv,ht,z⟩:=I.list p;apply nP (items:=d.toArray) (I.ok.hd q) ht.isList (by simp[hn,<-hl,rv.length]) g λw j m=>?_;have y:Inv X c i H {s with heap:=w,toks:=j}:=I.kept (t':=j) λb o e=>m b o (Xa (WX e)) e;exact h c _ i H l _ Q y (by simpa using rv) f
end L2
namespace Sm
open L2 PyProof.Rows
def P4(n:Nat)(u:GI):GM:=λd b h=>(dY d h).bind λa=>if a.length=n then u a b h else none
def BD(o:X.calm=true)(h:Ub X es s)(hn:(assignEach es X.env).length=n:=by ac_nf)(f:(assignEach es X.env).findIdx? (·.1)=none:=by ac_nf):SG X (.Tuple es u pos) (P4 n s):=
 (OV o h hn f).imp λv σ H Q u9=>by
  have⟨i,j,h,d,c,q,R,S,r,e,k⟩:=u9;have⟨g,t,b⟩:=bc e;have⟨a,m,rfl,p,l⟩:=dz S r t
  by_cases z:g.length=n
  ·rw[WH z]at b;exact⟨a,m,rfl,eV.of p,by rw[l.length];exact z,i,j,h,g,c,q,R,S,l,b,k⟩
  ·rw[WM z]at b;cases b
end Sm
namespace L2
open PyProof.Rows
end L2
namespace Sm
open L2
end Sm
namespace Sm
open L2 PyProof.Rows
end Sm
namespace L2
open PyProof.Rows
end L2
namespace Sm
open L2 PyProof.Rows
def gn(d:Df X.prog X.w X.K X.mg X.base nm k j n F)(hr:fh c X.A)(i:SA X (e::es) m)(f:k<=c:=by decide)(hl:kA m n:=by repeat(first |exact aB |apply ae ?_))(g:Gl X nm:=by unfold Gl;ac_nf)(b:(nm==("__debug__":Str))=false:=by ac_nf)(h:starEach (e::es) X.env=(false,eval e X.env)::starEach es X.env:=by ac_nf)(a:(backTo pos (starEach es X.env)).any (·.1)=false:=by ac_nf):SE X (.Call (.Name nm p) (e::es) [] pos) (aj F m):=RN d hr f i hl g b h a
def Du{x:Str}{c:String}{p pos:Pos}{e:Expr}{es:List Expr}{f:Fn}{m:AM}(h:gm X (.builtin c) f)(hm:X.mg x=none)(d:bootBuiltins x=some (.builtin c))(i:SA X (e::es) m)(g:Gl X x:=by unfold Gl;ac_nf)(hn:x≠"__name__":=by decide)(b:(x==("__debug__":Str))=false:=by ac_nf)
  (he:starEach (e::es) X.env=(false,eval e X.env)::starEach es X.env:=by ac_nf) (a:(backTo pos (starEach es X.env)).any (·.1)=false:=by ac_nf):SE X (.Call (.Name x p) (e::es) [] pos) (aj f m):=Hj h g hm d i hn b he a
def GC{x:Str}{c:String}{p pos:Pos}{e:Expr}{es:List Expr}{f:Fn}{m:AM}(h:gm X (.type c) f)(hm:X.mg x=none)(d:bootBuiltins x=some (.type c))(i:SA X (e::es) m)(g:Gl X x:=by unfold Gl;ac_nf)(hn:x≠"__name__":=by decide)(b:(x==("__debug__":Str))=false:=by ac_nf)
  (he:starEach (e::es) X.env=(false,eval e X.env)::starEach es X.env:=by ac_nf) (a:(backTo pos (starEach es X.env)).any (·.1)=false:=by ac_nf):SE X (.Call (.Name x p) (e::es) [] pos) (aj f m):=Hi h g hm d i hn b he a
def Q0(hm:X.mg x=none)(a:bootBuiltins x=some (.type n))(b:Gl X x:=by unfold Gl;ac_nf)(hn:x≠"__name__":=by decide)(hd:(x==("__debug__":Str))=false:=by ac_nf):SE X (.Name x pos) (eK (.ty n)):=RH b hm a hn hd
def six(hr:fh k X.A)(g:SE X a d)(f:SE X b c)(e:iK b:=by unfold iK;intro _ _;ac_nf):SE X (.Subscript a b pos) (ag ax d c):=RK hr.units g f e
end Sm
namespace Hd
open PySem.W PyProof.Rows L2 Sm
def u0{P:List Value->Prop}(h:P [])(us:List Value)(hl:us.length=0):P us:=by cases us with |nil=>exact h |cons _ _=>cases hl
def u1{P:List Value->Prop}(h:∀a,P [a])(us:List Value)(hl:us.length=1):P us:=by
 cases us with
 |nil=>cases hl
 |cons a r=>exact u0 (P:=λr=>P (a::r)) (h a) r (Nat.succ.inj hl)
def u2{P:List Value->Prop}(h:∀a b,P [a,b])(us:List Value)(hl:us.length=2):P us:=by
 cases us with
 |nil=>cases hl
 |cons a r=>exact u1 (P:=λr=>P (a::r)) (h a) r (Nat.succ.inj hl)
def u3{P:List Value->Prop}(h:∀a b c,P [a,b,c])(us:List Value)(hl:us.length=3):P us:=by
 cases us with
 |nil=>cases hl
 |cons a r=>exact u2 (P:=λr=>P (a::r)) (h a) r (Nat.succ.inj hl)
def u4{P:List Value->Prop}(h:∀a b c d,P [a,b,c,d])(us:List Value)(hl:us.length=4):P us:=by
 cases us with
 |nil=>cases hl
 |cons a r=>exact u3 (P:=λr=>P (a::r)) (h a) r (Nat.succ.inj hl)
def u5{P:List Value->Prop}(h:∀a b c d e,P [a,b,c,d,e])(us:List Value)(hl:us.length=5):P us:=by
 cases us with
 |nil=>cases hl
 |cons a r=>exact u4 (P:=λr=>P (a::r)) (h a) r (Nat.succ.inj hl)
def u6{P:List Value->Prop}(h:∀a b c d e f,P [a,b,c,d,e,f])(us:List Value)(hl:us.length=6):P us:=by
 cases us with
 |nil=>cases hl
 |cons a r=>exact u5 (P:=λr=>P (a::r)) (h a) r (Nat.succ.inj hl)
def u7{P:List Value->Prop}(h:∀a b c d e f g,P [a,b,c,d,e,f,g])(us:List Value)(hl:us.length=7):P us:=by
 cases us with
 |nil=>cases hl
 |cons a r=>exact u6 (P:=λr=>P (a::r)) (h a) r (Nat.succ.inj hl)
def Sv{q:Program}{b:List Str}{c:ExcName->Option Value}{mg i:Str->Option Value}{h base:Heap}{P:Program}{w:World}(T:Top q b c mg i h){n:Str}{st:Stmt}(e:(recsOf q).find? (λe=>e.name==n)=some (sN n st)){d:List Str}{k N:Nat}{F:Fn}
  (g:∀{f:Addr} {a:FuncData},CZ (aL h) n n st f a->Binds (aL h) a d []) (ok:∀{f:Addr} {a:FuncData},CZ (aL h) n n st f a->keepIn (aL h) (.ref f)=true->Binds (aL h) a d []->mg n=some (.ref f)->gf P w (aL h) mg base xm k f a d (GB (aL h) N F)):Df P w (aL h) mg base n k d N F:=by
 have⟨f,a,m,G⟩:=Ng T e;exact⟨f,a,ok G G.kp (g G) m,G.kp,g G,m⟩
end Hd
namespace L2
open PyProof.Rows Builtin.Str
end L2
namespace L2
open PyProof.Rows
end L2
namespace Sm
open L2 PyProof.Rows Builtin.Str
end Sm
namespace L2
open PyProof.Rows
section
variable {X:Cx}
end
end L2
namespace Sm
open L2 PyProof.Rows
section
variable {X:Cx}
end
def wQ{h:Heap}{f:Value->Bool}{p:PyData}:∀{us:List Value} {a:List PyData} {as:List Addr},ReadsAll h us a as->(∀u d as,u∈us->Reads h u d as->d∈a->f u=PyData.eqv d p)->us.findIdx? f=a.findIdx? λb=>PyData.eqv b p:=by
 intro us
 induction us with
 |nil=>intro a as r _;cases r;rfl
 |cons v us e=>
  intro a as r c;cases r with |cons r l=>
  rw[AaQ,AaQ,c _ _ _ WI r WI,e l λu d as g hr hd=>c u d as (WG _ g) hr (WG _ hd)]
def jT:Gx:=λd c h=>match c with
 |[x]=>(dY d h).bind λa=>(uZ h x).bind λp=>(gX a).bind λbs=>if p.depth<=60/\PyData.depthAll bs<=60 then(bs.findIdx? λb=>PyData.eqv b p).map λj:Nat=>(D.int (Int.ofNat j),h)else none
 |_=>none
def wF{X:Cx}(hu:X.A.units+64<cLine):GH X "list.index" (rM X.K jT):=by
 intro G s σ H x xs v us Q I N rs hh;have⟨ρ,h,d,ds,z,h',S,rd,l,b,k⟩:=hh
 match ds,l,b with
 |[],_,b=>exact cw b
 |_::_::_,_,b=>exact cw b
 |[y],l,b=>
  have⟨ys,e1,e2⟩:=bc b;have⟨p,e3,e4⟩:=bc e2;have⟨bs,e5,i⟩:=bc e4
  by_cases w:p.depth<=60/\PyData.depthAll bs<=60
  ·rw[WH w]at i;have⟨j,e7,e8⟩:=dX i;cases e8;have⟨a,vs,rfl,ha,Y⟩:=dz S rd e1;obtain rfl:v=Value.ref a:=N;have⟨yv,rfl,M⟩:=rep1 l;have⟨u,rfl,O⟩:=Vals.one rs;have⟨T,c1⟩:=mR S M e3;have⟨R,t⟩:=Y.qT e5;have⟨as,P⟩:=T.reads I O;have⟨c,rv,pl,hz⟩:=I.list (.inl (.inl ha));have⟨bs',E⟩:=R.reads I rv;have hj:=(wQ (f:=Ep s.heap p) E λu d as _ hr hd=>o8 hr (cn t hd)).trans e7;have⟨j1,j2,Z⟩:=YR.mp hj;have q:∀y,y∈c.toArray->PySem.SeqAt.EqAt X.A.in1 s y u (Ep s.heap p y):=by
    intro y hy;have⟨d,C,hr,hd⟩:=jN E y (by simpa using hy);rw[o8 hr (cn t hd)];apply Zy d p _ s y u C as hr P (cn t hd) c1 ?_;have h1:=kc hd;have h2:min d.depth p.depth<=d.depth:=ZN _ _;show X.A.units+1+min d.depth p.depth<cLine;have h3:=w.2
    lia
   have⟨o,n,g,o1,L,J⟩:=pl;have⟨oc,od,U,os⟩:=o;dsimp only at o1 L J;subst o1 L J;have hz2:=rv.length;rw[Yv]at hz;apply Aaa Aac ⟨_,g,rfl⟩ PySem.F.entry_list_index (PySem.F.args_list_index_2 _ _)
    (PySem.SeqAt.list_indexAt a c.toArray n none os u (Ep s.heap p) j (by simpa using j1) () (by simpa using j2) (λm hm r=>by simpa using Z m r)) ⟨g,q,?_⟩
   exact⟨.int _,H,I.kept (t':=s.toks+1) λ_ _ e=>e,⟨_,rfl⟩,k _ _ (.here S (.int _))⟩
  ·rw[WM w]at i;cases i
def uB(l:Addr)(a:Array Value)(n:Nat)(dd:Option Addr)(C:Array (Option Value))(x:Value)(e:Value->Bool)(j:Nat)(hj:j<a.size)
  (hit:e a[j]=true) (u:∀m (hm:m<a.size),m<j->e a[m]=false):
  Meets (Builtin.«tuple.index» ⟨[.ref l,x],[]⟩)
   (λA R s=>s.heap.get? l=some {cls:=.type "tuple",dict:=dd,data:=.seq a n,slots:=C}/\(∀y,y∈a->PySem.SeqAt.EqAt A.in1 s y x (e y))/\R (.ok (.ret (.int j s.toks))) {s with toks:=s.toks+1}):=
 .of_wp λprog w A R s h=>by
  have⟨hp,g,d,z,os⟩:=s;have⟨hl,E,h⟩:=h
  wp_walk using wpAny_loadPart' hl
  change wpAny _ _ (forIn (m:=Sem) ({start:=0,stop:=min a.size a.size,step:=1,step_pos:=by decide}:Std.Legacy.Range) _ (λ(i:Nat)(_:Option Fin×Unit)=>match a[i]? with
   |some y=>do
    let b<-eqBool y x
    if b=true then do
     let r<-retInt (i:Int)
     pure (ForInStep.done (some r,⟨⟩))
    else pure (ForInStep.yield (none,⟨⟩))
   |_=>pure (ForInStep.yield (none,⟨⟩)))) _ _ _
  rw[Std.Legacy.Range.forIn_eq_forIn_range'];simp only[Std.Legacy.Range.size,AbK,AaO,Nat.div_one,Nat.min_self];apply Zs _ (λc _ p=>p=⟨hp,g,d,z,os⟩/\∃i,i<=j/\c=List.range' i (a.size-i)) _ ?_ ?_ _ _ ⟨rfl,0,Xg _,rfl⟩
  ·rintro i c b p ⟨rfl,o,v,hr⟩;have k:o<a.size:=by exact Xj v hj
   obtain⟨rfl,f⟩:i=o/\c=List.range' (o+1) (a.size-(o+1)):=by
    have e:a.size-o=(a.size-(o+1))+1:=by lia
    rw[e,List.range'_succ]at hr;injection hr with G F
    exact⟨G,F⟩
   rw[Xl k];apply Wz (E _ (Array.getElem_mem k) prog w _ _ ?_)
   by_cases q:i=j
   ·subst q;rw[hit]
    wp_walk
    exact⟨_,rfl,h⟩
   ·rw[u i k ()]
    wp_walk
    exact⟨rfl,i+1,by lia,f⟩
  ·rintro b p ⟨rfl,i,v,hr⟩;have t:=congrArg List.length hr;simp at t
   lia
def q9:Gx:=λd c h=>match d,c with
 |.tup a,[x]=>(uZ h x).bind λp=>(gX a).bind λbs=>if p.depth<=60/\PyData.depthAll bs<=60 then(bs.findIdx? λb=>PyData.eqv b p).map λj:Nat=>(D.int (Int.ofNat j),h)else none
 |_,_=>none
def FE{X:Cx}(hu:X.A.units+64<cLine):GH X "tuple.index" (rM X.K q9):=by
 intro G s σ H x xs v us Q I N rs hh;have⟨ρ,h,d,ds,z,h',S,rd,l,b,k⟩:=hh;cases rd <;> first |(exact cw b) |skip
 rename_i ys a vs ha Y
 match ds,l,b with
 |[],_,b=>exact cw b
 |_::_::_,_,b=>exact cw b
 |[y],l,b=>
  have⟨p,e3,e4⟩:=bc b;have⟨bs,e5,i⟩:=bc e4
  by_cases w:p.depth<=60/\PyData.depthAll bs<=60
  ·rw[WH w]at i;have⟨j,e7,e8⟩:=dX i;cases e8;have⟨yv,rfl,M⟩:=rep1 l;have⟨u,rfl,O⟩:=Vals.one rs;have⟨T,c1⟩:=mR S M e3;have⟨R,t⟩:=Y.qT e5;have⟨as,P⟩:=T.reads I O;cases N;have⟨c,rv,pl,hz⟩:=I.GR ha.sq;have⟨bs',E⟩:=R.reads I rv;have hj:=(wQ (f:=Ep s.heap p) E λu d as _ hr hd=>o8 hr (cn t hd)).trans e7;have⟨j1,j2,Z⟩:=YR.mp hj;have q:∀y,y∈c.toArray->PySem.SeqAt.EqAt X.A.in1 s y u (Ep s.heap p y):=by
    intro y hy;have⟨d,C,hr,hd⟩:=jN E y (by simpa using hy);rw[o8 hr (cn t hd)];apply Zy d p _ s y u C as hr P (cn t hd) c1 ?_;have h1:=kc hd;have h2:min d.depth p.depth<=d.depth:=ZN _ _;show X.A.units+1+min d.depth p.depth<cLine;have h3:=w.2
    lia
   obtain⟨o,g,o1,⟨n,J⟩,L⟩:=pl;have⟨oc,od,U,os⟩:=o;dsimp only at o1 L J;subst o1 L J;apply Aaa Abq ⟨_,g,rfl⟩ PySem.F.entry_tuple_index (PySem.F.args_tuple_index_2 _ _)
    (uB _ c.toArray n none os u (Ep s.heap p) j (by simpa using j1) (by simpa using j2) (λm hm r=>by simpa using Z m r)) ⟨g,q,?_⟩
   exact⟨.int _,H,I.kept (t':=s.toks+1) λ_ _ e=>e,⟨_,rfl⟩,k _ _ (.here S (.int _))⟩
  ·rw[WM w]at i;cases i
end Sm
namespace L2
open PyProof.Rows
def Wm(K:FR)(r:V->List V->Hp->VK->Prop)(e:TE)(t:TA):TE:=λc H Q=>e c H λx d=>(∃a b,x=.ref a/\iJ K d a b)/\t c d λb f=>r x b f Q
def Sg{X:Cx}{o e:Expr}{es:List Expr}{q:TE}{t:TA}{name:Str}{i b:Pos}{m:String}{r:V->List V->Hp->VK->Prop}(slot:Slot "tuple" name m)(p:typeOf (.builtin m)=pure (.type "method_descriptor"))(hm:GH X m r)(L:PE X o q)(M:PA X (e::es) t)
  (k:attributeBase o name X.env (eval o X.env)=eval o X.env)
  (l:((backTo b (starEach (e::es) X.env)).all (λx=>!x.1)&&(backToKw b (keywordEach [] X.env)).all (λx=>x.1.isSome)
   &&decide ((e::es).length+([]:List Keyword).length+(if([]:List Keyword).isEmpty then 0 else 1)<30))=true)
  (j:(i.endLine==b.line)=true) (J:starEach (e::es) X.env=(false,eval e X.env)::starEach es X.env) (f:(backTo b (starEach es X.env)).any (·.1)=false):
  PE X (.Call (.Attribute o name i) (e::es) [] b) (Wm X.K r q t):=by
 intro d s n H Q I h;apply wpAny_Call_method_late k l j rfl (cQ (L d s n H _ I h) λv s1 ⟨x,H1,w,A,⟨a,xs,ex,ty⟩,E⟩=>?_);subst ex;cases A;obtain⟨G,_,⟨ob,g,c,_,dd⟩,_⟩:=w.GR ty;apply⟨"tuple",m,PySem.F.plainAttrs_tuple,slot,p,⟨ob,g,c⟩,λa e=>by cases e;exact⟨ob,g,dd⟩,?_⟩;have u:=M b d s1 n H1 _ w E;rw[J]at u ⊢;apply AaE (by show(false||(backTo b (starEach es X.env)).any (·.1))=false;rw[f] <;> rfl) (Calls.evalArgs_plain ?_);exact cQ u λus s2 ⟨y,O,N,z,C⟩=>hm d s2 n O (.ref a) y (.ref a) us Q N rfl z C
end L2
namespace Sm
open L2 PyProof.Rows
noncomputable def PZ(d:D)(_:MH):Bool:=match d with
 |.tup _=>true
 |_=>false
def RI{X:Cx}{s:String}{name:Str}{o e:Expr}{es:List Expr}{g a:Pos}{f:Gx}{C:EM}{m:AM}(slot:Slot "tuple" name s)(t:typeOf (.builtin s)=pure (.type "method_descriptor"))(hm:GH X s (rM X.K f))(N:SE X o C)(u:SA X (e::es) m)
  (j:attributeBase o name X.env (eval o X.env)=eval o X.env:=by ac_nf)
  (l:((backTo a (starEach (e::es) X.env)).all (λx=>!x.1)&&(backToKw a (keywordEach [] X.env)).all (λx=>x.1.isSome)
   &&decide ((e::es).length+([]:List Keyword).length+(if([]:List Keyword).isEmpty then 0 else 1)<30))=true:=by ac_nf)
  (i:(g.endLine==a.line)=true:=by ac_nf) (M:starEach (e::es) X.env=(false,eval e X.env)::starEach es X.env:=by ac_nf) (b:(backTo a (starEach es X.env)).any (·.1)=false:=by ac_nf):
  SE X (.Call (.Attribute o name g) (e::es) [] a) (eM PZ f C m):=(Sg slot t hm N u j l i M b).imp λσ H Q u9=>by
 have⟨J,z,h,d,O,R,S,e,k⟩:=u9;obtain⟨⟨x,y⟩,U,n⟩:=bc e;dsimp only at n
 by_cases c:PZ x y=true
 ·rw[WH c]at n;obtain⟨⟨F,E⟩,T,P⟩:=bc n;apply⟨J,z,h,x,y,R,S,U,λv H1 ⟨r,I,Z,A⟩=>⟨?_,r,z,y,F,E,R.mono I,Z,T,λvs q H2 G Y L=>⟨q,E,x,F,d,O,Y,A.mono G,L,P,λw H3 p=>k w H3 (p.step (I.trans G))⟩⟩⟩;cases A <;> first |(cases c;done) |skip
  rename_i u _ _;exact⟨_,_,rfl,u.sq⟩
 ·rw[WM c]at n;cases n
end Sm
namespace L2
open PyProof.Rows
inductive CU(w:World)(h:Heap)(a:Addr)(es:Array (Int×Value))(ep:Nat)(t:SetTable)(vs:List Value)(i:Nat):Value->Prop where
 |drawn {T:Addr} {idx:List Nat} {o:Obj} {n:Nat} (ho:h.get? T=some o) (hcT:o.cls=.type "tuple") (hd:o.data=.seq (idx.map λ(k:Nat)=>rawInt (k:Int)).toArray n) (hp:idx.Perm (List.range es.size)) (hv:vs=idx.filterMap λk=>(es[k]?).map (·.2)):CU w h a es ep t vs i (.ref T)
 |text (ht:w.params.followText "set-order"=true) (hv:vs=(pickOrder (w.params.setOrder a ep) es).toList.map (·.2)):CU w h a es ep t vs i (.int 0 0)
 |led {slot:Nat} (ht:w.params.followText "set-order"=false) (hr:eN t.place) (hz:(!t.plain&&decide (es.size > 1))=false) (hl:t.led=true) (hs:slot=if i=0 then 0 else(t.place.getD (i-1) 0)+1) (hv:vs=es.toList.map (·.2)):CU w h a es ep t vs i (.int slot 0)
def Bl(w:World)(h:Heap)(J a:Addr)(es:Array (Int×Value))(b:Nat)(t:SetTable)(c:List Value)(i:Nat):Prop:=
 (∃ob,h.get? a=some ob/\ob.data=.set es b t)/\t.fits es.size=true/\∃o first,h.get? J=some o/\o.cls=.type "set_iterator"/\o.data=.fields #[first,.int i 0,.ref a,.int es.size 0,.int b 0]/\CU w h a es b t c i first
def CU.perm(x:CU w h a es j t c i f):c.Perm (es.toList.map (·.2)):=by
 cases x with
 |drawn g _ hd hp b=>subst b;exact tT es hp
 |text ht b=>subst b;exact(wg _ es).map _
 |led ht hr d hl e b=>subst b;exact .refl _
def jH(w:World)(h:Heap)(a:Addr)(es:Array (Int×Value)):Prop:=
 ∃o b t,h.get? a=some o/\o.ExactSet/\o.data=.set es b t/\es.size<scanBound/\t.fits es.size=true/\(t.led=!w.params.followText "set-order")/\(t.plain=true->eN t.place)
def oY{t:SetTable}{n:Nat}(h:t.fits n=true):t.place.size=n:=by
 unfold SetTable.fits at h;rw[W9,YM]at h;exact h.1
def below_at(g:eN xs)(j:i<=xs.size):SetTable.below xs (if i=0 then 0 else xs.getD (i-1) 0+1)=i:=by
 have⟨e,a,c⟩:=iF xs (if i=0 then 0 else xs.getD (i-1) 0+1) g;generalize SetTable.below xs (if i=0 then 0 else xs.getD (i-1) 0+1)=b at e a c
 by_cases z:i=0
 ·rw[WH z]at a;rcases Nat.eq_zero_or_pos b with q |q
  ·exact q.trans z.symm
  ·exact absurd (a 0 (WO q e) q) (XB _)
 ·rw[WM z]at a c;have f:i-1<i:=Nat.sub_lt (Nat.pos_of_ne_zero z) Nat.one_pos;have d:i-1<xs.size:=WO f j;have k:xs.getD (i-1) 0=xs[i-1]:=by
   rw[Aba,Xl d];rfl
  rw[k]at a c;rcases AaT b i with q |q |q
  ·exact absurd (c (i-1) d (Aav q)) (Nat.not_succ_le_self _)
  ·exact q
  ·have h:=WO q e;exact absurd (XS (a i h q)) (Nat.not_le_of_lt (g (i-1) i d h f))
def xU(h:xs.size<=1):eN xs:=λi j a hj z=>absurd (WO (Xj (Xg i) z) (XS (WO hj h))) (X3 0)
section
variable {P:Program} {w:World} {A:Around} {E:Value->Shared->Prop} {s:Shared} {a:Addr} {es:Array (Int×Value)}
def jH.type(h:jH w s.heap a es):s.TypeIs (.ref a) "set":=by have⟨o,_,_,e,x,_⟩:=h;exact⟨o,e,x.1⟩
def Kc(x:jH w s.heap a es)(h:∀i d J m t j,(∀b o,s.heap.get? b=some o->i.get? b=some o)->s.heap.objs.size<=J->j.Perm (es.toList.map (·.2))->Bl w i J a es m t j 0->Q (.ref J) {s with heap:=i,drawn:=d}):
  wpAny (model P w) A (pyIter (.ref a)) Q E s:=by
 have v:=x.type;have⟨ob,m,t,c,G,g,M,k,L,I⟩:=x;have out:∀(i:Heap)(d:Drawn)(J:Addr)(j:List Value) {f:Value},(∀b o,s.heap.get? b=some o->i.get? b=some o)->s.heap.objs.size<=J->(∃o,i.get? J=some o/\o.cls=.type "set_iterator"/\o.data=.fields #[f,.int 0 0,.ref a,.int es.size 0,.int m 0])->CU w i a es m t j 0 f->Q (.ref J) {s with heap:=i,drawn:=d}:=
  λi d J j f u H ⟨o,R,O,N⟩ r=>by
   have hp:=r.perm;exact h i d J m t j u H hp ⟨⟨ob,u _ _ c,g⟩,k,o,f,R,O,N,r⟩
 apply wpAny_pyIter_slot v F.slot_set_iter (XE F.slot_set_iter v entry_set_iter' ?_ (F.args_set_iter_1 _));unfold Builtin.«frozenset.__iter__» Builtin.Frozenset.slot0 slotArgs Builtin.Frozenset.sizeOf Builtin.Frozenset.addrOf;simp only[Aah,Yc,W8,↓reduceIte,bind_assoc,XZ,Yi,pure_bind];apply Wz (AaY c g k ?_);unfold setDrawn setsByText;simp only[bind_assoc];apply Wz (Yp c g k ?_);dsimp only;apply Wz (YS ?_);simp only[pure_bind];cases p:(!(model P w).w.params.followText "set-order"&&(!t.plain&&decide (es.size > 1)))with
 |true=>
  apply wpAny_of_eq' (WH p) ?_;apply Wz (C8 _ _ _ _ (by simp) λC d hp=>Wz (Z9 ?_ (by rw[WA,hp.length_eq,W3];exact Abb M)));have y:∀(o1:Obj) b o,s.heap.get? b=some o->(s.heap.push o1).get? b=some o:=λo1 b o e=>WC _ e;apply Wz (wpAny_setEpoch_of (y _ _ _ c) g k (Wz (XO (WD ⟨_,rfl,"set_iterator",_,⟨_,WZ _ rfl,rfl⟩,dm.lookup,?_⟩))));exact out _ d _ _ (λb o e=>WC _ (WC _ e)) (by rw[XI];exact Yy _) ⟨_,WZ _ rfl,rfl,rfl⟩ (.drawn (WC _ (WZ _ rfl)) rfl rfl hp rfl)
 |false=>
  apply wpAny_of_eq' (WM λz=>Bool.noConfusion (p.symm.trans z)) ?_;apply Wz (wpAny_setEpoch_of c g k (Wz (XO (WD ⟨_,rfl,"set_iterator",_,⟨_,WZ _ rfl,rfl⟩,dm.lookup,?_⟩))));have l:(!w.params.followText "set-order"&&(!t.plain&&decide (es.size > 1)))=false:=p;cases ht:w.params.followText "set-order" with
  |true=>exact out _ s.drawn _ _ (λb o e=>WC _ e) (WJ _) ⟨_,WZ _ rfl,rfl,rfl⟩ (.text ht rfl)
  |false=>
   have n:(!t.plain&&decide (es.size > 1))=false:=by
    rw[ht]at l;exact l
   have hr:eN t.place:=by
    cases q:t.plain with
    |true=>exact I q
    |false=>
     rw[q]at n;apply xU ?_;rw[oY k]
     simpa using n
   exact out _ s.drawn _ _ (λb o e=>WC _ e) (WJ _) ⟨_,WZ _ rfl,rfl,rfl⟩ (.led (slot:=0) ht hr n (by rw[L,ht];rfl) rfl rfl)
def Ao(b:s.heap.get? a=some ob)(c:ob.data=.set es g t)(f:t.fits es.size=true)(ht:w.params.followText "set-order"=false)(e:(!t.plain&&decide (es.size > 1))=false)(hl:t.led=true)(h:Q (match es[SetTable.below t.place k]?,t.place[SetTable.below t.place k]? with |some (_,x),some j=>some (x,j+1) |_,_=>none) s):wpAny (model P w) A (setNext a k i g) Q E s:=by
 unfold setNext setsByText;apply Wz (Yp b c f ?_);dsimp only;apply Wz (Wz (YS (WD ?_)));rw[WM (show ¬(model P w).w.params.followText "set-order"=true by rw[show(model P w).w.params.followText "set-order"=false from ht];simp)];have d:¬(!t.plain&&decide (es.size > 1))=true:=by rw[e];simp
 apply wpAny_of_eq' (WM d) ?_;apply Wz (wpAny_of_eq' (m':=pure (⟨⟩:Unit)) (WM (show ¬(!t.led&&!es.isEmpty)=true by rw[hl];simp)) (WD ?_));exact WD h
def Ka(hS:Bl w s.heap J a es ep t vs i)(Y:vs[i]?=some v)(p:J≠a)(h:∀I,(∀b o,b≠J->s.heap.get? b=some o->I.get? b=some o)->Bl w I J a es ep t vs (i+1)->Q (some v) {s with heap:=I}):wpAny (model P w) A (pyNext (.ref J)) Q E s:=by
 obtain⟨⟨ob,d,f⟩,L,o,first,S,hc,hd,wy⟩:=hS;have hT:s.TypeIs (.ref J) "set_iterator":=⟨o,S,hc⟩;unfold pyNext;apply Wz (Zd (Xz (name:=Str.ofString "__next__") hT dm (XE dm hT kY ?_ (nQ _))));unfold Builtin.«set_iterator.__next__» slotArgs;simp only[Aah,Yc,W8,↓reduceIte,bind_assoc,XZ,Yi,pure_bind];apply Wz (wpAny_fieldsOf S hd ?_);dsimp only;apply Wz (AaY d f L ?_);simp only[Yi,W8,↓reduceIte];cases wy with
 |@drawn T idx oT nT G hcT H hp c=>
  have hTJ:T≠J:=λz=>by subst z;rw[S]at G;cases G;rw[hd]at H;cases H
  apply Wz (m:=seqItems? (.ref T)) (XT G H ?_);dsimp only;have hlen:idx.length=es.size:=by rw[hp.length_eq,W3]
  have hall:∀k∈idx,∃e,es[k]?=some e:=λk y=>by
   have:k<es.size:=by have:=hp.mem_iff.mp y;simpa using this
   exact⟨_,Xl this⟩
  have Z:∀(l:List Nat)(i:Nat)(v:Value),(∀k∈l,∃e,es[k]?=some e)->(l.filterMap λk=>(es[k]?).map (·.2))[i]?=some v->∃k e,l[i]?=some k/\es[k]?=some e/\e.2=v:=by
   intro l
   induction l with
   |nil=>intro i v _ h;simp at h
   |cons k r ih=>
    intro i v ha h;have⟨e,he⟩:=ha k WI;rw[Ym,he]at h;dsimp only[Option.map]at h;cases i with
    |zero=>rw[AbE]at h;cases h;exact⟨k,e,rfl,he,rfl⟩
    |succ j=>
     rw[X2]at h;have⟨k',e',a1,a2,a3⟩:=ih j v (λx hx=>ha x (WG _ hx)) h;exact⟨k',e',by rw[X2];exact a1,a2,a3⟩
  rw[c]at Y;have⟨k,e,R,U,rfl⟩:=Z idx i v hall Y;have e3:((idx.map λ(k:Nat)=>rawInt (k:Int)).toArray)[(i:Int).toNat]?=some (rawInt (k:Int)):=by
   rw[Xd,AbW,WY,R];rfl
  rw[e3];show wpAny _ _ (setNextDrawn a (k:Int).toNat (ep:Int).toNat >>=_) _ _ s;rw[Xd,Xd];unfold setNextDrawn;simp only[bind_assoc];apply Wz (Yp d f L ?_);dsimp only;simp only[Yi,W8,↓reduceIte];rw[U];simp only[pure_bind];apply Wz (yL S hd (by simp) λI X y n F C=>WD ⟨_,rfl,WD (h I y ?_)⟩);exact⟨⟨ob,y _ _ (XW p) d,f⟩,L,X,.ref T,n,F.trans hc,C,.drawn (y _ _ hTJ G) hcT H hp (by rw[c])⟩
 |text ht c=>
  show wpAny _ _ (setNext a (0:Int).toNat (i:Int).toNat (ep:Int).toNat >>=_) _ _ s;rw[Xd,Xd];apply Wz (wA d f L ht ?_);have g:=Y;rw[c,WY]at g;have⟨e,R,U⟩:=XD.mp g;rw[Ys]at R;rw[R];dsimp only[Option.map];apply Wz (yL S hd (by simp) λh1 o1 q M O N=>Wz (yL M N (by simp) λI X y n F C=>WD ⟨_,rfl,WD ?_⟩));rw[U];apply h I (λb u hb z=>y b u hb (q b u hb z)) ⟨⟨ob,y _ _ (XW p) (q _ _ (XW p) d),f⟩,L,X,_,n,(F.trans O).trans hc,C,.text ht c⟩
 |@led slot ht hr hz hl hs c=>
  show wpAny _ _ (setNext a (slot:Int).toNat (i:Int).toNat (ep:Int).toNat >>=_) _ _ s;rw[Xd,Xd,Xd];have hlt:i<es.size:=by
   have:=(WB.mp Y).1;rw[c]at this
   simpa using this
  have hpz:=oY L;apply Wz (Ao d f L ht hz hl ?_);rw[hs,below_at hr (),Xl (show i<t.place.size by lia)];have g:=Y;rw[c,WY]at g;have⟨e,R,U⟩:=XD.mp g;rw[Ys]at R;have⟨eh,ev⟩:=e;rw[R];dsimp only at U ⊢;apply Wz (yL S hd (by simp) λh1 o1 q M O N=>Wz (yL M N (by simp) λI X y n F C=>WD ⟨_,rfl,WD ?_⟩));rw[U];apply h I (λb u hb z=>y b u hb (q b u hb z)) ⟨⟨ob,y _ _ (XW p) (q _ _ (XW p) d),f⟩,L,X,_,n,(F.trans O).trans hc,C,.led (slot:=t.place[i]+1) ht hr hz hl ?_ c⟩;rw[WM (Nat.succ_ne_zero i),AaO,Aba,Xl (show i<t.place.size by lia)];rfl
def Mz(hh:A.handled=none)(hS:Bl w s.heap J a es C t l l.length)(h:∀e,(∀b o,b≠J->s.heap.get? b=some o->e.get? b=some o)->Q none {s with heap:=e}):wpAny (model P w) A (pyNext (.ref J)) Q E s:=by
 obtain⟨⟨ob,f,i⟩,y,o,first,q,hc,hd,N⟩:=hS;have R:s.TypeIs (.ref J) "set_iterator":=⟨o,q,hc⟩;have d:l.length=es.size:=by have:=N.perm.length_eq;simpa using this
 unfold pyNext;apply Wz (Zd (Xz (name:=Str.ofString "__next__") R dm (XE dm R kY ?_ (nQ _))));unfold Builtin.«set_iterator.__next__» slotArgs;simp only[Aah,Yc,W8,↓reduceIte,bind_assoc,XZ,Yi,pure_bind];apply Wz (wpAny_fieldsOf q hd ?_);dsimp only;apply Wz (AaY f i y ?_);simp only[Yi,W8,↓reduceIte];cases N with
 |@drawn T idx oT nT G Y L hp n=>
  apply Wz (m:=seqItems? (.ref T)) (XT G L ?_);dsimp only;have e3:((idx.map λ(k:Nat)=>rawInt (k:Int)).toArray)[(l.length:Int).toNat]?=none:=by
   rw[Xd,AbW,WY,Xr (by rw[hp.length_eq,W3,d];exact WJ _)];rfl
  rw[e3];apply Wz (yL q hd (by simp) λh1 o1 I H Z M=>Wz (yL H M (by simp) λS O c p x v=>?_));exact xA (J:=J) hh λe r=>h e λb u j z=>r b u (c b u j (I b u j z))
 |text ht n=>
  show wpAny _ _ (setNext a (0:Int).toNat (l.length:Int).toNat (C:Int).toNat >>=_) _ _ s;rw[Xd,Xd];apply Wz (wA f i y ht ?_);have F:(pickOrder (w.params.setOrder a C) es).size=es.size:=by have:=(wg (w.params.setOrder a C) es).length_eq;simpa using this
  rw[AbQ (by rw[F,d];exact WJ _)];dsimp only[Option.map];apply Wz (yL q hd (by simp) λS O c p x v=>?_);exact xA (J:=J) hh λe r=>h e λb u j z=>r b u (c b u j z)
 |@led slot ht hr F hl U n=>
  show wpAny _ _ (setNext a (slot:Int).toNat (l.length:Int).toNat (C:Int).toNat >>=_) _ _ s;rw[Xd,Xd,Xd];apply Wz (Ao f i y ht F hl ?_);have X:=oY y;have g:es[SetTable.below t.place slot]?=none:=by
   rw[U,below_at hr ()];exact AbQ ()
  rw[g];dsimp only;apply Wz (yL q hd (by simp) λS O c p x v=>?_);exact xA (J:=J) hh λe r=>h e λb u j z=>r b u (c b u j z)
def Bl.off(x:Bl w h J a es I t p i)(G:h.get? S=some q)(C:q.cls=.type "list")(hj:S≠J)(F:S≠a)(k:∀b o,b≠S->h.get? b=some o->H.get? b=some o):Bl w H J a es I t p i:=by
 obtain⟨⟨ob,f,g⟩,y,o,first,v,l,hd,n⟩:=x;apply⟨⟨ob,k _ _ (XW F) f,g⟩,y,o,first,k _ _ (XW hj) v,l,hd,?_⟩;cases n with
 |@drawn T idx L M d e j hp c=>
  have m:T≠S:=λz=>by subst z;rw[G]at d;cases d;rw[C]at e;exact absurd e {}
  exact .drawn (k _ _ m d) e j hp c
 |text ht c=>exact .text ht c
 |led ht hr r hl u c=>exact .led ht hr r hl u c
def E4(hh:A.handled=none)(hj:S≠J)(T:S≠a)(C:J≠a)(Q:d.length<=sizeLine):
  ∀(m i:Nat)(s:Shared)(c:Nat),d.length-i=m->i<=d.length->Bl w s.heap J a es X t d i->s.heap.get? S=some {cls:=.type "list",dict:=none,data:=.seq (d.take i).toArray c,slots:=#[]}->
  (∀k v,(∀b o,b≠S->b≠J->s.heap.get? b=some o->k.get? b=some o)->k.get? S=some {cls:=.type "list",dict:=none,data:=.seq d.toArray v,slots:=#[]}->R (.ok (.ret (.ref S))) {s with heap:=k})->
  codeAny (model P w) A (.builtin "list.extend.loop" ⟨[.ref S,.ref J,.ref S],[]⟩) R s:=by
 intro m
 induction m with
 |zero=>
  intro i s c hm H st y M;have G:i=d.length:=Aao H (AbU hm);subst G;apply X4 F.entry_extend_loop ?_;rw[XF Z0 _];show wpAny _ A.in1 (pyNext (.ref J) >>=_) _ _ s;apply Wz (Mz (A:=A.in1) hh st λk x=>WD (M k c (λb o _ l e=>x b o l e) ?_));rw[X1]at y;exact x _ _ hj y
 |succ m O=>
  intro i s c hm H st y M;have n:i<d.length:=Nat.lt_of_sub_pos (hm ▸ YH m);have N:d[i]?=some d[i]:=WK n;apply X4 F.entry_extend_loop ?_;rw[XF Z0 _];show wpAny _ A.in1 (pyNext (.ref J) >>=_) _ _ s;apply Wz (Ka (A:=A.in1) st N C λu q z=>?_);have j:=q _ _ hj y;show wpAny _ A.in1 (updateSeq S (·.push d[i]) >>=_) _ _ _;have f:(d.take i).toArray.size=i:=by rw[W7,Xm];lia
  apply Wz (AbF (s:={s with heap:=u}) j rfl (WD ⟨YD Z0 _,?_⟩) (by rw[f];exact WL H Q) (by show((d.take i).toArray.push d[i]).size<=sizeLine+1;rw[Array.size_push,f];lia));have I:=Yx (Obj.mapSeq (·.push d[i])) j rfl;have p:∀b o,b≠S->u.get? b=some o->(u.update S (Obj.mapSeq (·.push d[i]))).get? b=some o:=λb o l e=>(YO _ _ (XW l)).trans e;have g:(d.take i).toArray.push d[i]=(d.take (i+1)).toArray:=by
   rw[ZA,N];simp
  have h:∃v,(u.update S (Obj.mapSeq (·.push d[i]))).get? S=some {cls:=.type "list",dict:=none,data:=.seq (d.take (i+1)).toArray v,slots:=#[]}:=by
   rw[<-g];exact⟨_,I⟩
  have⟨U,h⟩:=h;exact O (i+1) {s with heap:=u.update S (Obj.mapSeq (·.push d[i]))} U () n (z.off j rfl hj T p) h λk v x L=>M k v (λb o l r e=>x b o l r (p b o l (q b o r e))) L
def AX(hh:A.handled=none)(L:jH w s.heap a es)(h:∀I d n,s.heap.objs.size<=I.objs.size->(∀b o,s.heap.get? b=some o->I.get? b=some o)->n.Perm (es.toList.map (·.2))->Q n {s with heap:=I,drawn:=d}):wpAny (model P w) A (collect (.ref a)) Q E s:=by
 have hT:=L.type;have x:a<s.heap.objs.size:=by have⟨o,_,_,e,_⟩:=L;exact WX e
 have O:es.size<=sizeLine:=by have⟨_,_,_,_,_,_,Z,_⟩:=L;exact Abb Z
 unfold collect;apply Wz (wpAny_runValue (X4 F.entry_proto_collect ?_));rw[XF F.plain_proto_collect _];show wpAny _ A.in1 (newList [] >>=λl=>again (.builtin "list.__iadd__" ⟨[l,.ref a],[]⟩)) _ _ s;apply Wz (XO (WD ⟨YD F.plain_list_iadd _,X4 F.entry_list_iadd ?_⟩));rw[XF F.plain_list_iadd _];generalize v:({cls:=.type "list",data:=.seq ([]:List Value).toArray}:Obj)=i;have T:∀b o,s.heap.get? b=some o->(s.heap.push i).get? b=some o:=λb o e=>WC _ e;have u:jH w (s.heap.push i) a es:=by have⟨o,M,t,e,r⟩:=L;exact⟨o,M,t,T _ _ e,r⟩
 have q:s.heap.objs.size≠a:=(Xa x).symm;have R:(s.heap.push i).get? s.heap.objs.size=some i:=WZ _ (by rw[<-v];rfl);show wpAny _ A.in1 (Builtin.List.listExtendWith (.ref s.heap.objs.size) (.ref a) (.ref s.heap.objs.size)) _ _ {s with heap:=s.heap.push i};unfold Builtin.List.listExtendWith;apply Wz (Zr (s:={s with heap:=s.heap.push i}) (jH.type (s:={s with heap:=s.heap.push i}) u) ?_);have e1:Builtin.List.listSameRef (.ref s.heap.objs.size) (.ref a)=false:=by simp[Builtin.List.listSameRef,q]
 have e2:(Value.type "set"==Value.type "list")=false:=by decide
 have e3:(Value.type "set"==Value.type "tuple")=false:=by decide
 simp only[e1,e2,e3,AaK,W8,X6];apply Wz (Kc (s:={s with heap:=s.heap.push i}) u λm d J M t n N Y hp st=>?_);apply Wz (Xn ?_);have S:jH w m a es:=by have⟨o,M,t,e,r⟩:=u;exact⟨o,M,t,N _ _ e,r⟩
 have p:Shared.TypeIs {s with heap:=m,drawn:=d} (.ref a) "set":=jH.type (s:={s with heap:=m,drawn:=d}) S;unfold Builtin.List.listLengthHint;apply Wz (Za p rO ?_);dsimp only;rw[uC];dsimp only;apply Wz (YA p sub_set_set ?_);simp only[Yc,W8,X6];apply wpAny_of_eq' (WH (by decide+kernel)) ?_;apply Wz (Zr p (WD ?_));have f:m.get? s.heap.objs.size=some {cls:=.type "list",data:=.seq ([]:List Value).toArray}:=by rw[v];exact N _ _ R
 have g:s.heap.objs.size<J:=by
  have:=Y;rw[show(s.heap.push i).objs.size=s.heap.objs.size+1 from XI _ _]at this;exact this
 have y:n.length=es.size:=by have:=hp.length_eq;simpa using this
 apply wpAny_of_eq' (WH (by decide+kernel)) (Wz (Yq (Wz ?_)));show wpAny _ A.in1 (updateSeq s.heap.objs.size (·.push .none) >>=λ_=>updateSeq s.heap.objs.size (·.pop)) _ _ _;apply Wz (AbF (s:={s with heap:=m,drawn:=d}) f rfl ?_);have k:=Yx (Obj.mapSeq (·.push Value.none)) f rfl;apply AbF k rfl ?_;have C:=Yx (Obj.mapSeq (·.pop)) k rfl;have j:∀b o,b≠s.heap.objs.size->m.get? b=some o->((m.update s.heap.objs.size (Obj.mapSeq (·.push Value.none))).update s.heap.objs.size (Obj.mapSeq (·.pop))).get? b=some o:=
  λb o G e=>(YO _ _ (XW G)).trans ((YO _ _ (XW G)).trans e)
 have c:∃U,((m.update s.heap.objs.size (Obj.mapSeq (·.push Value.none))).update s.heap.objs.size (Obj.mapSeq (·.pop))).get? s.heap.objs.size=some {cls:=.type "list",dict:=none,data:=.seq (n.take 0).toArray U,slots:=#[]}:=⟨_,C⟩;have⟨c4,c⟩:=c;apply WD ⟨YD Z0 _,E4 (A:=A) hh (Xa g) q (λz=>?_) (by rw[y];exact O) n.length 0 _ c4 rfl (Xg _) (st.off f rfl (Xa g) q j) c λI U X H=>?_⟩
 ·rw[z]at g;exact Nat.lt_asymm g x
 ·show wpAny _ A (load s.heap.objs.size >>=_) _ _ _;apply Wz (wpAny_load H (WD ?_));apply h I d n (XN (WX H)) (λb o e=>?_) hp;have G:b≠s.heap.objs.size:=Xa (WX e);exact X b o G (Xa (ZT (WX e) g)) (j b o G (N b o (T b o e)))
end
end L2
namespace L2
open PyProof.Rows PySem.SeqAt
def vC{prog:Program}{w:World}{A:Around}{E:Value->Shared->Prop}{s:Shared}(a:Value){Q₁:Value->Shared->Prop}
  (h:Q₁ (.ref s.heap.objs.size) {s with heap:=s.heap.push {cls:=.type "set",dict:=none,data:=.set #[] 0 (.fresh 0 0 (!w.params.followText "set-order"))}}):
  codeAny (model prog w) A (.call (.builtin "set.__new__") ⟨[.type "set",a],[]⟩) (wants Q₁ E) s:=by
 apply AbH ?_;show wpAny _ A.in1 (do checkBuiltinCall "set.__new__" ⟨[.type "set",a],[]⟩;again (.builtin "set.__new__" ⟨[.type "set",a],[]⟩)) _ _ s;apply Wz (Abw (F.newCall_set_1 a) (WD ⟨YD F.plain_set_new _,X4 F.entry_set_new ?_⟩));rw[XF F.plain_set_new _];unfold Builtin.«set.__new__» Builtin.Frozenset.newClass;have b:=sub_set_self;have⟨hp,g,d,c,os⟩:=s;dsimp only
 wp_walk
 apply YS (WD ?_);dsimp only;simp only[newObj];apply Wz (wpAny_alloc (WD ?_));exact WD h
structure Kn(P:Program)(w:World)(A:Around)(h₀:Heap)(S:Addr)(items:Array Value)(J:Nat->Heap->Prop):Prop where
 frame:∀(i:Nat)(h h':Heap),(∀o,h.get? S=some o->h'.get? S=some o)->J i h->J i h'
 fresh:∀(h:Heap),h.get? S=some {cls:=.type "set",dict:=none,data:=.set #[] 0 (.fresh 0 0 (!w.params.followText "set-order"))}->J 0 h
 step:∀(i:Nat)(v:Value)(s:Shared)(E:Value->Shared->Prop)(Q:Bool->Shared->Prop),items[i]?=some v->J i s.heap->(∀b o,h₀.get? b=some o->s.heap.get? b=some o)->
  (∀r h' tk,s.toks<=tk->Heap.SameBut S s.heap h'->J (i+1) h'->Q r {s with heap:=h',toks:=tk})->wpAny (model P w) A (setAdd S v) Q E s
def E3{A:Around}{R:Result->Shared->Prop}{I:Addr}{U m:List Addr}{G:Array GenState->Array GenState->Prop}{a:Array Value}{St:Nat->Shared->Prop}{c:Heap}{S:Addr}{J:Nat->Heap->Prop}
  (W:WalksS P w A.in1 I U m G a.size (λi v=>a[i]?=some v) St) (x:S∉U) (D:Kn P w A.in1 c S a J) (E:∀b∈m,c.get? b=none) (L:c.get? S=none):
  ∀(k i:Nat)(s:Shared),a.size-i=k->i<=a.size->St i s->J i s.heap->(∀b o,c.get? b=some o->s.heap.get? b=some o)->
   (∀d,Moved (S::m) G s d->J a.size d.heap->R (.ok (.ret .none)) d)->
   codeAny (model P w) A (.builtin "set.update.loop" ⟨[.ref S,.ref I],[]⟩) R s:=by
 have u:S∉m:=λh=>x (W.sub _ h);have f:∀b∈m,b∈S::m:=λb l=>WG _ l;intro k
 induction k with
 |zero=>
  intro i s Y Z g Q T M;have H:i=a.size:=by lia
  subst H;apply X4 F.entry_set_update_loop ?_;rw[XF AaX _];show wpAny _ A.in1 (pyNext (.ref I) >>=_) _ _ s;apply Wz (W.done s _ _ g λd hm=>?_);show wpAny _ A.in1 (ret Value.none) _ _ d;exact WD (M d (hm.mono f) (D.frame _ _ _ (λo e=>hm.heap S o u e) Q))
 |succ k X=>
  intro i s Y Z g Q T M;have t:i<a.size:=by lia
  apply X4 F.entry_set_update_loop ?_;rw[XF AaX _];show wpAny _ A.in1 (pyNext (.ref I) >>=_) _ _ s;apply Wz (W.item i s _ _ t g λv d hP p hm=>?_);have O:=D.frame i s.heap d.heap (λo e=>hm.heap S o u e) Q;have z:∀b o,c.get? b=some o->d.heap.get? b=some o:=λb o e=>hm.heap b o (λl=>by rw[E b l]at e;cases e) (T b o e);show wpAny _ A.in1 (holding [v] (setAdd S v) >>=_) _ _ d;apply Wz (Xn (D.step i v d _ _ hP O z λr h' tk n j N=>?_));apply WD ⟨YD AaX _,X (i+1) _ () t (W.frame _ d _ _ p n λb l o e=>?_) N (λb o e=>?_) λC q y=>?_⟩
  ·rw[j.2 b (λh:b=S=>x (by rw[<-h];exact l))];exact e
  ·rw[j.2 b (λh:b=S=>by rw[h,L]at e;cases e)];exact z b o e
  ·apply M C (Moved.trans W.gtrans ((hm.mono f).then_heap n λb o l e=>?_) q) y;rw[j.2 b (λh:b=S=>l (by rw[h];exact WI))];exact e
set_option maxHeartbeats 3200000 in
def uc{l:Addr}{items:Array Value}{J:Nat->Heap->Prop}{Q:Value->Shared->Prop}
  (hh:A.handled=none) (hl:s.heap.IsList l items) (D:∀A':Around,A'.handled=none->A'.units<=A.units+8->Kn P w A' s.heap s.heap.objs.size items J)
  (h:∀(f:Heap)(L:Nat),J items.size f->(∀b o,b<s.heap.objs.size->s.heap.get? b=some o->f.get? b=some o)->Q (.ref s.heap.objs.size) {s with heap:=f,toks:=L}):
  wpAny (model P w) A (call (.type "set") [.ref l]) Q E s:=by
 have⟨c,tl,hmro⟩:=Zt.mro;have S:=Zt.made;have hsub:=Zt.sub;apply wpAny_call (AbH ?_);show wpAny _ _ (callAny (.type "set") _) _ _ _;apply WD ⟨Code.quiet_builtin _ (by decide+kernel),X4 F.entry_type_call ?_⟩;rw[Around.under_plain (weight_type_call_type "set" [.ref l] []) rfl];have h1:=Zt.notType;have h2:=Zt.canCreate;have hct:=F.typeCall_set_1 (.ref l)
 repeat(any_goals (first |assumption |wp_step))
 apply ZL (vC (.ref l) (E:=E) (Q₁:=λobj j=>∃led:Bool,led=(!w.params.followText "set-order")/\obj=.ref s.heap.objs.size/\j={s with heap:=s.heap.push {cls:=.type "set",dict:=none,data:=.set #[] 0 (.fresh 0 0 led)}}) ⟨_,rfl,rfl,rfl⟩) λr j hr=>?_;cases r with
 |error e=>exact hr
 |ok fl=>
  cases fl with
  |ret obj=>
   have⟨led,y,rfl,rfl⟩:=hr;have hS:(s.heap.push {cls:=.type "set",dict:=none,data:=.set #[] 0 (.fresh 0 0 led)}).get? s.heap.objs.size=some {cls:=.type "set",dict:=none,data:=.set #[] 0 (.fresh 0 0 led)}:=WZ _ rfl;have hT:Shared.TypeIs {s with heap:=s.heap.push {cls:=.type "set",dict:=none,data:=.set #[] 0 (.fresh 0 0 led)}} (.ref s.heap.objs.size) "set":=⟨_,hS,rfl⟩;have hli:=Zt.init.lookup;have hbi:=Zt.init.bind (.ref s.heap.objs.size)
   repeat(any_goals (first |assumption |wp_step))
   apply ZL (codeAny_call_builtin (R:=wants (λr i=>r=.none/\∃f L,i={s with heap:=f,toks:=L}/\J items.size f/\
     (∀b o,b<s.heap.objs.size->s.heap.get? b=some o->f.get? b=some o)) E) Zt.init.plain F.entry_set_init (check_set_init_1 hT ?_)) λt i d=>?_
   ·have⟨ol,v,I,nl,H⟩:=hl;have⟨ocls,k,O,g⟩:=ol;simp only at I H;subst I;subst H;have u:(s.heap.push {cls:=.type "set",dict:=none,data:=.set #[] 0 (.fresh 0 0 led)}).get? l=some {cls:=.type "list",dict:=k,data:=.seq items nl,slots:=g}:=WC _ v;have hsls:=F.sub_list_set;have hslf:=F.sub_list_frozenset;have hne:(Value.type "list"==Value.type "dict")=false:=by decide
    have C:(s.heap.push {cls:=.type "set",dict:=none,data:=.set #[] 0 (.fresh 0 0 led)}).IsList l items:=⟨_,u,rfl,nl,rfl⟩;unfold Builtin.«set.__init__» noKeywords Builtin.Frozenset.updateFrom;generalize Z:pyIter=PI
    wp_walk
    subst Z;apply Zj C ?_;apply Wz (wpAny_runValue ?_);have z:l<s.heap.objs.size:=WX v;have G:A.in1.in1.in1.handled=none:=by simp[hh]
    have x:l≠(s.heap.push {cls:=.type "set",dict:=none,data:=.set #[] 0 (.fresh 0 0 led)}).objs.size:=by
     rw[XI];exact Xa (AaU z)
    have Y:s.heap.objs.size∉[(s.heap.push {cls:=.type "set",dict:=none,data:=.set #[] 0 (.fresh 0 0 led)}).objs.size,l]:=by
     rw[XI];simp only[WV,WU,List.not_mem_nil,or_false,not_or];exact⟨Xa (XQ _),YI z⟩
    have a:∀b,s.heap.objs.size<=b->s.heap.get? b=none:=λb m=>by
     cases q:s.heap.get? b with
     |none=>rfl
     |some o=>exact absurd (WX q) (Aaj.mpr m)
    apply E3 ((Walks.list G _ l x items).toS) Y (D _ G (by simp only[ZS];lia)) (λb m=>?_) (a _ (WJ _)) (items.size-0) 0 _ () (Xg _)
     ⟨⟨_,WZ _ rfl,rfl,rfl⟩,(C.push _)⟩ ?hS0 ?hK ?hR
    ·rw[WU]at m;subst m;exact a _ (by rw[XI];lia)
    case hS0=>
     exact(D A hh ()).fresh _ (by rw[<-y];exact WC _ hS)
    case hK=>
     intro b o e;exact WC _ (WC _ e)
    case hR=>
     intro s' hm n;have⟨f,g',d',M,N⟩:=s';have eg:g'=s.gens:=hm.gens;have ed:d'=s.drawn:=hm.drawn;have eo:N=s.os:=hm.os;subst eg;subst ed;subst eo;show wpAny _ _ _ _ _ _;apply WD ?_;show wpAny _ _ (ret Value.none) _ _ _;apply WD ⟨rfl,f,M,rfl,n,λb o m e=>?_⟩;have X:b≠s.heap.objs.size:=Xa m;have U:b≠(s.heap.push {cls:=.type "set",dict:=none,data:=.set #[] 0 (.fresh 0 0 led)}).objs.size:=by
      rw[XI];exact Xa (AaU m)
     exact hm.heap b o (by simp only[WV,WU,List.not_mem_nil,or_false,not_or];exact⟨X,U⟩) (WC _ (WC _ e))
   ·cases t with
    |error e=>exact d
    |ok p=>
     cases p with
     |ret r=>
      have⟨rfl,f,L,rfl,n,T⟩:=d
      repeat(any_goals (first |assumption |wp_step))
      exact h _ _ n T
     |_=>exact d.elim
  |_=>exact hr.elim
end L2
namespace L2
open PyProof.Rows
section
variable {P:Program} {w:World} {A:Around} {E:Value->Shared->Prop} {s:Shared} {a:Addr} {ks:List Int}
end
end L2
namespace Sm
open L2 PyProof.Rows
end Sm
namespace L2
open PyProof.Rows
end L2
namespace Sm
open L2 PyProof.Rows
end Sm
namespace L2
open PyProof.Rows PySem.SeqAt
section
variable {P:Program} {w:World} {E:Value->Shared->Prop}
end
def eqv_refl:∀(n:Nat) {d:PyData},cb n d=true->PyData.eqv d d=true:=by
 intro n
 induction n with
 |zero=>intro d h;cases d <;> simp[cb]at h <;> simp[PyData.eqv]
 |succ n c=>
  intro d h;cases d <;> simp[cb]at h <;> simp[PyData.eqv]
  rename_i b;have:∀l:List PyData,(∀x∈l,cb n x=true)->PyData.eqvAll l l=true:=by
   intro l
   induction l with
   |nil=>intro _;simp[PyData.eqvAll]
   |cons x r a=>intro hl;simp[PyData.eqvAll,c (hl x (by simp)),a λy e=>hl y (by simp[e])]
  exact this b h
noncomputable local instance:DecidableEq PyData:=λa b=>Classical.propDecidable _
def Km(h:Heap)(k:PyData)(a:Addr):Prop:=cb 8 k=true/\∃as,Reads h (.ref a) k as
def x9(P:Program)(w:World):HeapKind P w PyData where
 is:=Km
 hash:=fv w 8
 draws:=Qg 8
 room:=λA=>A.units+8<cLine
 inj:=λ{h a x y} ⟨p,_,r⟩ ⟨_,_,c⟩=>Reads.unique x y _ _ _ (qY 8 p).1 r c
 keeps:=λ{h t k a d o es u} ⟨p,as,r⟩ j hd i=>⟨p,as,sO (λb n l m e q=>by
  by_cases z:b=d
  ·subst z;rw[j]at e;cases e;rw[hd]at q;cases q
  ·exact(i.2 b z).trans e) 8 p r⟩
 pyHash:=λf ⟨p,_,r⟩ h=>tO 8 f p r h
 eqBool:=λ{A E s x y a b Q} f ⟨p,_,r⟩ ⟨g,_,c⟩ h=>AR 8 f p g r c (by
  have:PyData.eqv x y=decide (x=y):=by
   by_cases z:x=y
   ·subst z;rw[eqv_refl 8 p,Xf rfl]
   ·rw[Xc z];cases q:PyData.eqv x y with
    |false=>rfl
    |true=>exact absurd (qX 8 p g q) z
  rw[this];exact h)
 quiet:=λ⟨p,_,r⟩ h=>jc 8 p r h 8 (WJ _)
end L2
namespace L2
open PyProof.Rows PySem.W
abbrev aq:=Str×Int
noncomputable def kl(a b:aq):Bool:=decide (a.1.cps.toList<b.1.cps.toList)||(decide (a.1=b.1)&&decide (a.2<b.2))
noncomputable def runK{b:Type}(lt:Nat->Nat->Bool):KasT b->b
 |.ret a=>a
 |.ask i j k=>runK lt (k (lt i j))
noncomputable def FU{a:Type}(n:Nat):KasT a->Bool
 |.ret _=>true
 |.ask i j k=>decide (i<n)&&decide (j<n)&&FU n (k true)&&FU n (k false)
theorem Ho{d:Type}{n:Nat}{c:Nat->Nat->(Bool->Shared->Prop)->Shared->Prop}{lt:Nat->Nat->Bool}{s:Shared}(e:∀i j C,i<n->j<n->C (lt i j) s->c i j C s){Q:d->Shared->Prop}:∀(t:KasT d),FU n t=true->Q (runK lt t) s->t.kasWp c Q s
 |.ret a,_,h=>h
 |.ask i j k,b,h=>by
  have b:(decide (i<n)&&decide (j<n)&&FU n (k true)&&FU n (k false))=true:=b;simp only[W9,Xy]at b;apply e i j _ b.1.1.1 b.1.1.2 ?_;apply Ho e (k (lt i j)) ?_ h;cases lt i j with
  |true=>exact b.1.2
  |false=>exact b.2
noncomputable def Gv(n:Nat):Nat->List (List Nat)
 | 0=>[[]]
 |k+1=>(Gv n k).flatMap λl=>(List.range n).map λx=>x::l
theorem Bg{n:Nat}:∀{l:List Nat},(∀x∈l,x<n)->l∈Gv n l.length
 |[],_=>WU.mpr rfl
 |x::r,h=>List.mem_flatMap.mpr ⟨r,Bg λy a=>h y (WG _ a),Xe.mpr ⟨x,XM.mpr (h x WI),rfl⟩⟩
def AH(n:Nat)(l:List Nat):Bool:=!decide l.Nodup||((runK (λi j=>decide (l.getD i 0<l.getD j 0)) (kas_sort n)).toList.map (λi=>l.getD i 0)==List.range n&&(runK (λi j=>decide (l.getD i 0<l.getD j 0)) (kas_sort n)).toList.isPerm (List.range n))
def good2:(Gv 2 2).all (AH 2)=true:=by decide+kernel
def good3:(Gv 3 3).all (AH 3)=true:=by decide+kernel
def SX:(Gv 4 4).all (AH 4)=true:=by decide+kernel
def I0:FU 2 (kas_sort 2)=true/\FU 3 (kas_sort 3)=true/\FU 4 (kas_sort 4)=true:=by decide+kernel
def yz(a:aq):kl a a=false:=by
 unfold kl;rw[Xc (List.lt_irrefl _),Xc (Int.lt_irrefl _),Abl];rfl
def yA{a b:aq}:kl a b=true↔a.1.cps.toList<b.1.cps.toList\/(a.1=b.1/\a.2<b.2):=by
 unfold kl;rw[Yn,W9,Zq,Zq,Zq]
def oO{a b c:aq}(h:kl a b=true)(g:kl b c=true):kl a c=true:=by
 rw[yA]at*;rcases h with h |⟨d,e⟩ <;> rcases g with g |⟨g1,g2⟩
 ·exact .inl (List.lt_trans h g)
 ·exact .inl (g1 ▸ h)
 ·exact .inl (d ▸ g)
 ·exact .inr ⟨d.trans g1,Int.lt_trans e g2⟩
def Bz{a b:Str}(h:a.cps.toList=b.cps.toList):a=b:=by
 have⟨a⟩:=a;have⟨b⟩:=b;have:=ZJ.mp h;exact congrArg _ this
def yx{a b:aq}(h:a≠b):kl a b=true\/kl b a=true:=by
 rw[yA,yA]
 by_cases d:a.1.cps.toList<b.1.cps.toList
 ·exact .inl (.inl d)
 by_cases c:b.1.cps.toList<a.1.cps.toList
 ·exact .inr (.inl c)
 have e:a.1=b.1:=Bz (List.le_antisymm (List.not_lt.mp c) (List.not_lt.mp d));rcases Int.lt_trichotomy a.2 b.2 with q |q |q
 ·exact .inl (.inr ⟨e,q⟩)
 ·exact absurd (Prod.ext e q) h
 ·exact .inr (.inr ⟨e.symm,q⟩)
def IJ{a b:aq}(h:kl a b=true)(g:kl b a=true):False:=by
 have:=oO h g;rw[yz]at this;cases this
def FT(k:aq):List aq->List aq
 |[]=>[k]
 |x::r=>if kl k x then k::x::r else x::FT k r
def i4:List aq->List aq
 |[]=>[]
 |k::r=>FT k (i4 r)
theorem oV(k:aq):∀l:List aq,(FT k l).Perm (k::l)
 |[]=>.refl _
 |x::r=>by
  unfold FT
  split
  ·exact .refl _
  ·exact((oV k r).cons x).trans (.swap ..)
theorem eY:∀l:List aq,(i4 l).Perm l
 |[]=>.refl _
 |k::r=>(oV k _).trans ((eY r).cons k)
theorem p8{k:aq}:∀{l:List aq},k∉l->l.Pairwise (λa b=>kl a b=true)->(FT k l).Pairwise λa b=>kl a b=true
 |[],_,_=>List.pairwise_singleton _ _
 |x::r,f,h=>by
  rw[Y0]at h;have e:k≠x:=λz=>f (z ▸ WI);unfold FT
  by_cases c:kl k x=true
  ·rw[WH c];apply Y0.mpr ⟨λy d=>?_,Y0.mpr h⟩;rcases WV.mp d with rfl |d
   ·exact c
   ·exact oO c (h.1 y d)
  ·rw[WM c];apply Y0.mpr ⟨λy d=>?_,p8 (λz=>f (WG _ z)) h.2⟩;rcases WV.mp ((oV k r).mem_iff.mp d)with rfl |d
   ·exact(yx e).resolve_left c
   ·exact h.1 y d
theorem i3:∀{l:List aq},l.Nodup->(i4 l).Pairwise λa b=>kl a b=true
 |[],_=>.nil
 |k::r,h=>by
  rw[Y3]at h;exact p8 (λz=>h.1 ((eY r).mem_iff.mp z)) (i3 h.2)
def Dl{ks l:List aq}(hp:l.Perm ks)(c:l.Pairwise λa b=>kl a b=true)(nd:ks.Nodup):l=i4 ks:=
 Z8 (λa b _ _ x y=>(IJ x y).elim) c (i3 nd) (hp.trans (eY ks).symm)
noncomputable def qM:aq:=(Str.ofString "",0)
def Ko(ks:List aq)(i:Nat):Nat:=(ks.filter λk=>kl k (ks.getD i qM)).length
theorem filter_le{a:Type}{p q:a->Bool}:∀{l:List a},(∀x∈l,p x=true->q x=true)->(l.filter p).length<=(l.filter q).length
 |[],_=>WJ _
 |x::r,h=>by
  have i:=filter_le (l:=r) λy b=>h y (WG _ b);have c:=h x WI;rw[ZH,ZH];cases hp:p x with
  |true=>rw[WH rfl,WH (c hp)];simp only[WW];exact Yh i
  |false=>
   rw[WM (by simp)]
   split
   ·simp only[WW];exact Xp i
   ·exact i
theorem filter_lt{b:Type}{p q:b->Bool}:∀{l:List b},(∀x∈l,p x=true->q x=true)->(∃y∈l,q y=true/\p y=false)->(l.filter p).length<(l.filter q).length
 |[],_,⟨_,h,_⟩=>by cases h
 |x::r,h,⟨y,a,d,c⟩=>by
  have hr:=λy a=>h y (WG x a);rw[ZH,ZH];rcases WV.mp a with rfl |a
  ·rw[c,WM (by simp),WH d,WW];have:=filter_le hr
   lia
  ·have i:=filter_lt hr ⟨y,a,d,c⟩;cases hp:p x with
   |true=>rw[WH rfl,WH (h x WI hp)];simp only[WW];exact Yh i
   |false=>
    rw[WM (by simp)]
    split
    ·simp only[WW];exact Xp i
    ·exact i
section
variable {ks:List aq} {i j:Nat}
def JY(a:i<ks.length):ks.getD i qM∈ks:=by
 rw[Yk,WK a];exact ZG a
def qS(a:i<ks.length)(h:kl (ks.getD i qM) (ks.getD j qM)=true):Ko ks i<Ko ks j:=
 filter_lt (λx _ q=>oO q h) ⟨_,JY a,h,yz _⟩
def RP(a:i<ks.length):Ko ks i<ks.length:=by
 have:=filter_lt (l:=ks) (p:=λk=>kl k (ks.getD i qM)) (q:=λ_=>true) (λ_ _ _=>rfl) ⟨_,JY a,rfl,yz _⟩;rw[List.filter_eq_self.mpr λ_ _=>rfl]at this;exact this
def Hv(a:i<ks.length)(hj:j<ks.length):decide (Ko ks i<Ko ks j)=kl (ks.getD i qM) (ks.getD j qM):=by
 cases c:kl (ks.getD i qM) (ks.getD j qM)with
 |true=>exact Xf (qS a c)
 |false=>
  apply Xc λz=>?_
  by_cases e:ks.getD i qM=ks.getD j qM
  ·unfold Ko at z;rw[e]at z;exact X3 _ z
  ·have:=(yx e).resolve_left (by rw[c];simp);have:=qS hj this
   lia
def getD_inj(nd:ks.Nodup)(a:i<ks.length)(hj:j<ks.length)(e:ks.getD i qM=ks.getD j qM):i=j:=by
 rw[Yk,Yk,WK a,WK hj]at e;exact(AaW a nd).mp (by rw[WK a,WK hj];exact congrArg some e)
def Om(nd:ks.Nodup)(b:i<ks.length)(hj:j<ks.length)(e:Ko ks i=Ko ks j):i=j:=by
 apply Yo λz=>?_;have a:ks.getD i qM≠ks.getD j qM:=λq=>z (getD_inj nd b hj q);rcases yx a with q |q
 ·have:=qS b q;lia
 ·have:=qS hj q;lia
end
def mM(ks:List aq):List Nat:=(List.range ks.length).map (Ko ks)
def xT{ks:List aq}{i:Nat}(a:i<ks.length):(mM ks).getD i 0=Ko ks i:=by
 unfold mM;rw[Yk,WY,YG a];rfl
theorem r8{c:Type}{n:Nat}{f g:Nat->Nat->Bool}(h:∀i j,i<n->j<n->f i j=g i j):∀t:KasT c,FU n t=true->runK f t=runK g t
 |.ret a,_=>rfl
 |.ask i j k,b=>by
  have b:(decide (i<n)&&decide (j<n)&&FU n (k true)&&FU n (k false))=true:=b;simp only[W9,Xy]at b;show runK f (k (f i j))=runK g (k (g i j));rw[h i j b.1.1.1 b.1.1.2];apply r8 h _ ?_;cases g i j with
  |true=>exact b.1.2
  |false=>exact b.2
def qC(ks:List aq):List Nat:=(runK (λi j=>kl (ks.getD i qM) (ks.getD j qM)) (kas_sort ks.length)).toList
def Pc{ks:List aq}(nd:ks.Nodup)(s:2<=ks.length)(r:ks.length<=4):(qC ks).map (λi=>ks.getD i qM)=i4 ks/\(∀i∈qC ks,i<ks.length)/\(qC ks).length=ks.length/\FU ks.length (kas_sort ks.length)=true:=by
 have hl:(mM ks).length=ks.length:=by unfold mM;rw[WA,W3]
 have hm:mM ks∈Gv ks.length ks.length:=by
  have:=Bg (n:=ks.length) (l:=mM ks) λx o=>by
   have⟨i,d,rfl⟩:=Xe.mp o;exact RP (XM.mp d)
  rw[hl]at this;exact this
 have yG:(mM ks).Nodup:=by
  unfold mM;rw[Abi,Z3];apply Abt (λ{a b} k f q z=>q (Om nd (XM.mp k) (XM.mp f) z)) Aa0
 have c:AH ks.length (mM ks)=true/\FU ks.length (kas_sort ks.length)=true:=by
  obtain e |e |e:ks.length=2\/ks.length=3\/ks.length=4:=by lia
  ·rw[e]at hm ⊢;exact⟨Yt.mp good2 _ hm,I0.1⟩
  ·rw[e]at hm ⊢;exact⟨Yt.mp good3 _ hm,I0.2.1⟩
  ·rw[e]at hm ⊢;exact⟨Yt.mp SX _ hm,I0.2.2⟩
 have g:=c.1;unfold AH at g;rw[Xf yG,Yc,Abu,W9]at g;have p:runK (λi j=>decide ((mM ks).getD i 0<(mM ks).getD j 0)) (kas_sort ks.length)=runK (λi j=>kl (ks.getD i qM) (ks.getD j qM)) (kas_sort ks.length):=
  r8 (n:=ks.length) (λi j d hj=>by rw[xT d,xT hj,Hv d hj]) _ c.2
 rw[p]at g;have g1:(qC ks).map (λi=>(mM ks).getD i 0)=List.range ks.length:=eq_of_beq g.1;have m:(qC ks).Perm (List.range ks.length):=List.isPerm_iff.mp g.2;have g2:∀i∈qC ks,i<ks.length:=λi d=>XM.mp (m.mem_iff.mp d);have g3:(qC ks).length=ks.length:=by have:=congrArg List.length g1;rw[WA,W3]at this;exact this
 have pw:(qC ks).Pairwise λa b=>(mM ks).getD a 0<(mM ks).getD b 0:=by
  have:=List.pairwise_lt_range (n:=ks.length);rw[<-g1,Z3]at this;exact this
 have pl:((qC ks).map λi=>ks.getD i qM).Pairwise λa b=>kl a b=true:=by
  rw[Z3];apply Abt (λ{a b} k f q=>?_) pw;rw[xT (g2 a k),xT (g2 b f)]at q;rw[<-Hv (g2 a k) (g2 b f)];exact Xf q
 apply⟨Dl ((m.map _).trans (.of_eq ?_)) pl nd,g2,g3,c.2⟩;apply ZC λi=>?_;rw[WY]
 by_cases h:i<ks.length
 ·rw[YG h,WK h,Xq,Yk,WK h];rfl
 ·rw[Xr (by simpa using h),Xr (by simpa using h)];rfl
def eO(h:Heap)(v:Value)(k:aq):Prop:=∃b o m t u,v=.ref b/\h.get? b=some o/\o.cls=.type "tuple"/\o.data=.seq #[.str k.1 t,.int k.2 u] m
abbrev gF(h:Heap):List Value->List aq->Prop:=Paired λv k=>eO h v k
section
variable {P:Program} {w:World} {A:Around} {E:Value->Shared->Prop} {s:Shared}
def LF{x y:Value}{k a:aq}{Q:Bool->Shared->Prop}(p:eO s.heap x k)(n:eO s.heap y a)(h:Q (kl k a) s):wpAny (model P w) A (keyLt' (tuples' true) x y) Q E s:=by
 have⟨b,o,m,t,u,rfl,r,_,q⟩:=p;have⟨F,v,C,l,j,rfl,i,_,g⟩:=n;apply kat_lt r q i g ?_;show KatLex P w A true _ Q [(Value.str k.1 t,Value.str a.1 l),(Value.int k.2 u,Value.int a.2 j)] 0 s;apply kat_cons (eqBool_str (kat_go (λc=>?_) λc=>?_))
 ·have f:k.1=a.1:=eq_of_beq c;have e:¬k.1.cps.toList<a.1.cps.toList:=by rw[f];exact List.lt_irrefl _
  apply kat_yes (kat_cons (wpAny_eqBool_int (kat_go (λd=>?_) λd=>?_)))
  ·have d1:k.2=a.2:=eq_of_beq d;apply kat_yes (kat_nil ?_);have:kl k a=false:=by unfold kl;rw[Xc e,d1,Xc (Int.lt_irrefl _),Abl];rfl
   rw[this]at h;exact h
  ·apply kat_no (kat_one _ _ (lt_int ?_));have:kl k a=decide (k.2<a.2):=by unfold kl;rw[Xc e,Xf f];rfl
   rw[this]at h;exact h
 ·have f:¬k.1=a.1:=λz=>by rw[z,YL]at c;cases c
  apply kat_no (kas_lt_str ?_);have:kl k a=decide (k.1.cps.toList<a.1.cps.toList):=by unfold kl;rw[Xc f,Bool.false_and,AaK]
  rw[this]at h;exact h
def eO.keep{h c:Heap}{v:Value}{k:aq}(x:eO h v k)(g:∀b o m a,h.get? b=some o->o.cls=.type "tuple"->o.data=.seq a m->c.get? b=some o):eO c v k:=
 by have⟨b,o,m,t,u,e,i,f,d⟩:=x;exact⟨b,o,m,t,u,e,g b o m _ i f d,f,d⟩
def gF.at_{h:Heap}{b:List Value}{ks:List aq}{i:Nat}(a:gF h b ks):i<ks.length->eO h (b.getD i Value.none) (ks.getD i qM):=by
 induction a generalizing i with
 |nil=>exactλz=>absurd z (XB _)
 |cons r t c=>cases i with
  |zero=>exactλ_=>r
  |succ i=>exactλd=>c (by simpa using d)
theorem gF.of_map{h:Heap}{b:List Value}{ks:List aq}(x:gF h b ks):∀{a:List Nat},(∀i∈a,i<ks.length)->gF h (a.map λi=>b.getD i Value.none) (a.map λi=>ks.getD i qM)
 |[],_=>.nil
 |i::r,c=>.cons (x.at_ (c i WI)) (gF.of_map x λj hj=>c j (WG _ hj))
def gF.rD{h:Heap}{c:List Value}{ks:List aq}(a:gF h c ks):∃fs,KatTups h c fs/\fs.length=c.length/\∀f∈fs,∃x t,f=Value.str x t:=by
 induction a with
 |nil=>exact⟨[],.nil,rfl,λ_ z=>(nomatch z)⟩
 |cons p r g=>
  have⟨b,o,m,t,u,e,q,n,l⟩:=p;have⟨fs,k,j,i⟩:=g;subst e;apply⟨_::fs,.cons q n l rfl k,by simp[j],λf d=>?_⟩;rcases WV.mp d with rfl |d
  ·exact⟨_,_,rfl⟩
  ·exact i f d
def BB{a:Addr}{vs:List Value}{ks:List aq}{n:Nat}{C:PySem.Fin->Shared->Prop}(F:s.heap.get? a=some (seqObj "list" vs.toArray n))(hp:gF s.heap vs ks)(nd:ks.Nodup)(h4:ks.length<=4)
  (fin:∀out:List Value,gF s.heap out (i4 ks)->(∀v∈out,v∈vs)->C (.done (.ret .none)) {s with heap:=sortedHeap s.heap a vs out.toArray}):
  wpAny (model P w) A (Builtin.«list.sort» ⟨[.ref a],[]⟩) C E s:=by
 have c:vs.length=ks.length:=hp.length;have hva:vs.toArray.size=vs.length:=by simp
 have M:a<s.heap.objs.size:=WX F;rw[list_sort_plain];apply Wz (listItems_at F rfl (Wz (listUpdate_at F rfl ?_)));obtain⟨U,d⟩:∃U,(s.heap.update a (Obj.mapSeq λ_=>#[])).get? a=some (seqObj "list" #[] U):=⟨_,get?_update_seq F λ_=>#[]⟩;apply Wz (seqEpoch_at d rfl (Wz (Z9 (Wz (wpAny_newList (Xn ?_))))));generalize hG:((s.heap.update a (Obj.mapSeq λ_=>#[])).push (seqObj "tuple" vs.toArray 0)).push (seqObj "list" #[] 0)=G;have g:G.get? a=some (seqObj "list" #[] U):=by
  rw[<-hG,Aam _ _ _ (by rw[size_push',Aas];lia),Aam _ _ _ (by rw[Aas];exact Xa M)];exact d
 have R:∀b o m y,s.heap.get? b=some o->o.cls=.type "tuple"->o.data=.seq y m->G.get? b=some o:=λb o m y e hc hd=>by
  have hb:=WX e;have L:b≠a:=λz=>by
   subst z;rw[F]at e;cases e;injection hc with z
   exact absurd z {}
  rw[<-hG,Aam _ _ _ (by rw[size_push',Aas];lia),Aam _ _ _ (by rw[Aas];exact Xa hb),Heap.get?_update_ne _ _ _ _ L];exact e
 show wpAny (model P w) A _ C E {s with heap:=G};dsimp only
 by_cases h:vs.toArray.size<2
 ·rw[WH h,WH h];apply Wz (WD ?_);rw[StateT.run_pure];apply Wz (WD ?_);dsimp only;apply Wz (seqEpoch_at g rfl (Wz (listUpdate_at g rfl ?_ (hsz2:=by rw[Array.size_map];show(pairsOf vs).size<=_;rw[pairsOf_size,Yv];clear h;lia))));simp only[Yi,W8,X6];apply WD ?_;have es:i4 ks=ks:=by
   match ks,c with
   |[],_=>rfl
   |[_],_=>rfl
   |_::_::_,z=>simp only[WW]at z;lia
  have:=fin vs (by rw[es];exact hp) λ_ z=>z;unfold sortedHeap at this;rw[hG]at this;have ev:(pairsOf vs).map (·.2)=vs.toArray:=by
   apply ZJ.mp;unfold pairsOf;simp;exact List.map_snd_zip (WJ _)
  rw[<-ev]at this;exact this
 ·have S:2<=vs.length:=by exact XA h
  rw[WM h,WM h];have l:gF G vs ks:=Paired.imp' (λv k x=>x.keep R) hp;have⟨fs,t1,t2,Z⟩:=l.rD;have⟨g1,g2,g3,g4⟩:=Pc nd (by clear h;lia) h4;apply Wz (kat_kind (s:={s with heap:=G}) t1 (by clear h c;lia) (T:=Value.type "str") (λv J=>?_) {} ?_)
  ·have⟨x,u,rfl⟩:=Z v J;exact .now
  rw[show(Value.type "str" !=Value.type "tuple")=true by decide];apply Wz (Yd (kat_run (s:={s with heap:=G}) (ks:=vs) (vs:=vs) (κ:=tuples' true) (Q:=λf t=>t={s with heap:=G}/\(arrOf f).map (·.2)=((qC ks).map λi=>vs.getD i Value.none).toArray/\failedOf f=none) rfl S () (G:=λp t=>t={s with heap:=G}/\p.toList=qC ks) (λp f t hps O I Y=>⟨Y.1,by rw[kat_snds rfl O,Y.2],I⟩) ?_) (λr t hq=>?_) λ_ _ e=>e)
  case refine_2=>
   obtain⟨⟨⟩,f⟩:=r;have⟨rfl,X,I⟩:=hq;dsimp only at X I ⊢;apply Wz (seqEpoch_at g rfl (Wz (listUpdate_at g rfl ?_ (hsz2:=by rw[X,Yv];simp;lia))));rw[I];simp only[Yi,W8,X6];apply WD ?_;have:=fin ((qC ks).map λi=>vs.getD i Value.none) (by rw[<-g1];exact hp.of_map g2) λv J=>by
    have⟨i,N,rfl⟩:=Xe.mp J;have H:i<vs.length:=by rw[c];exact g2 i N
    rw[Yk,WK H];exact ZG H
   unfold sortedHeap at this;rw[hG]at this;rw[X];exact this
  ·rw[c];apply Ho (n:=ks.length) (lt:=λi j=>kl (ks.getD i qM) (ks.getD j qM)) (λi j Q N hj q=>?_) _ g4 ⟨rfl,rfl⟩;exact LF (s:={s with heap:=G}) (l.at_ N) (l.at_ hj) q
end
end L2
namespace L2
open PyProof.Rows PySem.W PySem.SeqAt
noncomputable def gq(k:aq):PyData:=.tuple [.str k.1,.int k.2]
def oI{k:aq}(h:PyData.strOk k.1=true):cb 8 (gq k)=true:=by simp[gq,cb,h]
def Lf{k c:aq}(h:gq k=gq c):k=c:=by
 unfold gq at h;injection h with h
 injection h with b a
 injection b with b
 injection a with a
 injection a with a
 exact Prod.ext b a
def VX(w:World)(q:Addr×aq):Int×Value:=(fv w 8 (gq q.2),.ref q.1)
def qr(w:World)(h:Heap)(a:Addr)(c:List (Addr×aq)):Prop:=
 (c.map (·.2)).Nodup/\∃o es d t,∃b:List (Addr×aq),h.get? a=some o/\o.ExactSet/\o.data=.set es d t/\nS es t/\es.toList=b.map (VX w)/\b.Perm c/\(t.led=!w.params.followText "set-order")
noncomputable def addQ(a:List (Addr×aq))(b:Addr)(k:aq):List (Addr×aq):=if k∈a.map (·.2)then a else a++[(b,k)]
noncomputable def LX(a:List (Addr×aq))(p:Nat)(d:Addr×aq):List (Addr×aq):=a.take p++d::a.drop p
def FQ(a:List (Addr×aq))(p:Nat)(d:Addr×aq):(LX a p d).Perm (a++[d]):=by
 unfold LX;have b:(a.take p++d::a.drop p).Perm (d::(a.take p++a.drop p)):=List.perm_middle;rw[Aaq]at b;exact b.trans (List.perm_append_singleton d a).symm
def Q8(h:Heap)(a:List (Addr×aq)):Prop:=∀q∈a,PyData.strOk q.2.1=true/\∃as,Reads h (.ref q.1) (gq q.2) as
def Me{es:Array (Int×Value)}(e:es.toList=a.map (VX w))(hr:Q8 h a):ur w h 8 es (a.map λq=>gq q.2):=by
 apply⟨by rw[WA,<-YW,e,WA],λi x d b hd=>?_⟩;rw[<-Ys,e,WY]at b;rw[WY]at hd;cases c:a[i]? with
 |none=>rw[c]at hd;cases hd
 |some q=>
  rw[c]at b hd;cases b;cases hd;have hh:=hr q (WE c);exact⟨oI hh.1,hh.2,rfl,⟨_,rfl⟩⟩
section
variable {P:Program} {w:World} {A:Around} {E:Value->Shared->Prop} {s:Shared} {a:Addr}
def kM{b:Addr}{k:aq}{as:List Addr}{F:List (Addr×aq)}{Q:Bool->Shared->Prop}(hS:qr w s.heap a F)(hr:Q8 s.heap F)(hu:A.units+8<cLine)(ok:PyData.strOk k.1=true)(Z:Reads s.heap (.ref b) (gq k) as)(u:F.length<=3)(h:∀r Y,Heap.SameBut a s.heap Y->qr w Y a (addQ F b k)->Q r {s with heap:=Y}):wpAny (model P w) A (setAddHashed a (.ref b) (fv w 8 (gq k))) Q E s:=by
 have⟨nd,ob,es,ep,t,p,m,X,g,T,O,f,M⟩:=id hS;have L:ur w s.heap 8 es (p.map λq=>gq q.2):=Me O λq H=>hr q (f.mem_iff.mp H);have⟨N,N1,N2,N3⟩:=T.F0 (fv w 8 (gq k));have n:gq k∈(p.map λq=>gq q.2)↔k∈F.map (·.2):=by
  constructor
  ·intro z;have⟨q,H,e⟩:=Xe.mp z;exact Xe.mpr ⟨q,f.mem_iff.mp H,Lf e⟩
  ·intro z;have⟨q,H,e⟩:=Xe.mp z;exact Xe.mpr ⟨q,f.mem_iff.mpr H,by rw[e]⟩
 unfold setAddHashed setAddHashedIn;apply Xn (Wz (Yp m g T.fits ?_));dsimp only;rw[WM (by show ¬(byScan (Value.ref b) es=true);unfold byScan Value.scannable;simp)];apply Wz ?_;unfold setSearch;apply BF m g T L (WJ _) hu (oI ok) Z rfl N2 N3 N1 (λU=>?_) (λG=>?_) _ 100000 0 none rfl (Xg _) (WO N1 {}) rfl (λc i d hc=>absurd hc (XB _))
 ·dsimp only;apply WD ?_;apply h false s.heap (Heap.SameBut.refl a s.heap) ?_;unfold addQ;rw[WH (n.mp U)];exact hS
 ·dsimp only;have I:¬k∈F.map (·.2):=λz=>G (n.mpr z);apply Wz (Yp m g T.fits ?_);dsimp only;have J:es.size<=3:=by rw[<-L.1,WA,f.length_eq];exact u
  have v:(t.put (road t (fv w 8 (gq k)) N).j).1.dummies=t.dummies:=by
   unfold SetTable.put;dsimp only;rw[T.S9];rfl
  have C:∀(l:SetTable),l.mask=t.mask->l.dummies=t.dummies->l.place=SetTable.insertAt t.place (SetTable.below t.place (road t (fv w 8 (gq k)) N).j) (road t (fv w 8 (gq k)) N).j->l.led=t.led->
    wpAny (model P w) A (do
     storeSet a (SetTable.insertAt es (SetTable.below t.place (road t (fv w 8 (gq k)) N).j) (fv w 8 (gq k),.ref b)) l
     if(!false&&l.tooFull)=true then do
      setRelay a (SetTable.grown (es.size+1))
      pure true
     else pure true) Q E s:=λl m1 m2 m3 m4=>by
   have R:=T.put J (x:=.ref b) N2 N3 ⟨m1,m2,m3⟩;have hsz:=R.le;apply Wz (wpAny_storeSet_of m g ?_ (Abb (by unfold scanBound;lia)));have S:l.tooFull=false:=by
    unfold SetTable.tooFull SetTable.fill;have h1:=R.sz;rw[R.mask,R.S9];simp
    lia
   rw[S,WM (by simp)];apply WD (h true _ (AaZ s.heap a (Obj.putSet _ l)) ?_);have o:=Yx (Obj.putSet (SetTable.insertAt es (SetTable.below t.place (road t (fv w 8 (gq k)) N).j) (fv w 8 (gq k),.ref b)) l) m (by rw[putSet_of _ l g];rfl);rw[putSet_of _ l g]at o;unfold addQ;rw[WM I];apply⟨?_,_,_,_,_,LX p (SetTable.below t.place (road t (fv w 8 (gq k)) N).j) (b,k),o,X,rfl,R,?_,(FQ _ _ _).trans (f.append_right _),m4.trans M⟩
   ·rw[W6];apply Z4.mpr ⟨nd,by simp,λx hx y hy z=>?_⟩;rw[List.map_singleton,WU]at hy;subst hy;subst z;exact I hx
   ·rw[SetTable.toList_insertAt,O];unfold LX;rw[W6,WN,Abs,List.map_drop];rfl
  cases hpn:(t.put (road t (fv w 8 (gq k)) N).j).1.plain with
  |true=>
   rw[WH rfl];apply Wz (FX 8 (oI ok) Z (λbv=>?_) 8);cases bv with
   |true=>exact C _ rfl v rfl rfl
   |false=>exact C _ rfl v rfl rfl
  |false=>
   rw[WM Xi];apply Wz (WD ?_);exact C _ rfl v rfl rfl
def Le{b:Addr}{k:aq}{as:List Addr}{g:List (Addr×aq)}{Q:Value->Shared->Prop}(m:qr w s.heap a g)(hr:Q8 s.heap g)(q:A.units+64<cLine)(ok:PyData.strOk k.1=true)(l:Reads s.heap (.ref b) (gq k) as)(c:g.length<=3)(h:∀f t,Heap.SameBut a s.heap f->qr w f a (addQ g b k)->Q .none {s with heap:=f,toks:=t}):wpAny (model P w) A (call (.builtin "set.add") [.ref a,.ref b]) Q E s:=by
 have p:s.TypeIs (.ref a) "set":=by have⟨_,o,_,_,_,_,e,x,_⟩:=m;exact⟨o,e,x.1⟩
 have d:A.in1.units+8<cLine:=by show A.units+1+8<cLine;lia
 apply XE F.slot_set_add p F.entry_set_add ?_ (F.args_set_add_2 _ _);unfold Builtin.«set.add» Builtin.Frozenset.oneOther Builtin.Frozenset.addrOf setAdd;simp only[Aah,bind_assoc,pure_bind];apply Wz (Xn (Wz (wR 8 d (oI ok) l λj=>?_)));apply kM (s:={s with toks:=s.toks+j}) m hr d ok l c λr f n i=>?_;exact WD ⟨_,rfl,h f _ n i⟩
def Ia{d n:Type}{f:d->n}:∀{i g:List n},i.Perm g->∀{l:List d},g=l.map f->∃c:List d,c.Perm l/\i=c.map f:=by
 intro i g h
 induction h with
 |nil=>intro l e;exact⟨l,.refl _,e⟩
 |cons x _ G=>
  intro l e;cases l with
  |nil=>cases e
  |cons y l=>
   rw[WN]at e;injection e with m b
   have⟨c,p,q⟩:=G b;exact⟨y::c,p.cons y,by rw[WN,m,q]⟩
 |swap x y r=>
  intro l e
  match l,e with
  |[],e=>cases e
  |[_],e=>cases e
  |u::v::l,e=>
   rw[WN,WN]at e;injection e with m b
   injection b with b H
   exact⟨v::u::l,.swap ..,by rw[WN,WN,m,b,H]⟩
 |trans _ _ k j=>
  intro l e;have⟨I,z,o⟩:=j e;have⟨F,C,t⟩:=k o;exact⟨F,C.trans z,t⟩
def Fg{h:Heap}{l:List Value}{x:Str}{i:Int}{as:List Addr}(r:ReadsAll h l [.str x,.int i] as):∃t u,l=[.str x t,.int i u]:=by
 cases r with
 |cons e d=>
  cases d with
  |cons c b=>
   cases b;cases e with
   |str x t=>
    cases c with
    |int i u=>exact⟨t,u,rfl⟩
def Fv{h:Heap}{b:Addr}{k:aq}{as:List Addr}(r:Reads h (.ref b) (gq k) as):eO h (.ref b) k:=by
 unfold gq at r;cases r with
 |tuple g f d c=>
  have⟨t,u,e⟩:=Fg c;have i:=ZJ.mp (show _=(#[Value.str k.1 t,Value.int k.2 u]:Array Value).toList from e);subst i;exact⟨_,_,_,t,u,rfl,g,f,d⟩
def B5{h:Heap}{v:Value}{k f:aq}(x:eO h v k)(y:eO h v f):k=f:=by
 have⟨b,o,m,t,u,rfl,i,_,g⟩:=x;have⟨q,n,p,l,j,z,d,_,c⟩:=y;cases z;rw[i]at d;cases d;rw[g]at c;injection c with e _
 have:=congrArg Array.toList e;simp at this;exact Prod.ext this.1.1 this.2.1
def Ld{h:Heap}{d:List (Addr×aq)}(i:∀q∈d,eO h (.ref q.1) q.2){c:List Value}{ks:List aq}(a:gF h c ks):(∀v∈c,v∈d.map λq=>Value.ref q.1)->∃out:List (Addr×aq),c=out.map (λq=>Value.ref q.1)/\out.map (·.2)=ks/\∀q∈out,q∈d:=by
 induction a with
 |nil=>exactλ_=>⟨[],rfl,rfl,λ_ z=>(nomatch z)⟩
 |cons r t f=>
  intro hm;have⟨out,l,k,j⟩:=f λv g=>hm v (WG _ g);have⟨q,b,rfl⟩:=Xe.mp (hm _ WI);have:=B5 (i q b) r;subst this;apply⟨q::out,by rw[WN,l],by rw[WN,k],λx e=>?_⟩;rcases WV.mp e with rfl |e
  ·exact b
  ·exact j x e
theorem we{h:Heap}:∀{b:List (Addr×aq)},(∀q∈b,eO h (.ref q.1) q.2)->gF h (b.map λq=>Value.ref q.1) (b.map (·.2))
 |[],_=>.nil
 |q::r,c=>.cons (c q WI) (we λx d=>c x (WG _ d))
def zG{p:List (Addr×aq)}(hh:A.handled=none)(Z:qr w s.heap a p)(hr:Q8 s.heap p)(h4:p.length<=4){Q:Value->Shared->Prop}
  (h:∀L d l n (out:List (Addr×aq)),(∀b o,s.heap.get? b=some o->L.get? b=some o)->s.heap.objs.size<=l->L.get? l=some (seqObj "list" (out.map λq=>Value.ref q.1).toArray n)->out.map (·.2)=i4 (p.map (·.2))->(∀q∈out,q∈p)->Q (.ref l) {s with heap:=L,drawn:=d}):
  wpAny (model P w) A (call (.builtin "sorted") [.ref a]) Q E s:=by
 have⟨nd,o,es,ep,t,S,e,ex,dd,T,I,k,x⟩:=Z;apply Calls.call_function_entry kind_sorted plain_sorted entry_sorted (args_sorted1 _) ?_;unfold Builtin.«sorted»;apply Wz (m:=checkCount "sorted" 1 1 _) (WD ?_);apply Wz (AX (A:=A.in1) (es:=es) hh ⟨o,ep,t,e,ex,dd,by have:=T.le;unfold scanBound;exact Xj this {},T.fits,x,λ_=>T.Oo⟩ λg d vs C N hp=>?_);rw[I,YU]at hp;have⟨c,U,rfl⟩:=Ia (f:=λq:Addr×aq=>Value.ref q.1) hp rfl;have p3:=U.trans k;have r:(c.map (·.2)).Nodup:=(p3.map (·.2)).nodup_iff.mpr nd;have y:c.length<=4:=by rw[p3.length_eq];exact h4
 have M:i4 (c.map (·.2))=i4 (p.map (·.2)):=Dl ((eY _).trans (p3.map _)) (i3 r) nd;have G:∀q∈c,eO g (.ref q.1) q.2:=λq v=>by
  have⟨_,as,R⟩:=hr q (p3.mem_iff.mp v);exact(Fv R).keep λb o _ _ z _ _=>N b o z
 apply Wz (wpAny_newList ?_ (by rw[Yv,WA];exact WL y {}));generalize u:(c.map λq:Addr×aq=>Value.ref q.1)=vs;have J:(g.push (seqObj "list" vs.toArray 0)).get? g.objs.size=some (seqObj "list" vs.toArray 0):=WZ _ rfl;have j:∀q∈c,eO (g.push (seqObj "list" vs.toArray 0)) (.ref q.1) q.2:=λq v=>(G q v).keep λb o _ _ z _ _=>WC _ z;have F:gF (g.push (seqObj "list" vs.toArray 0)) vs (c.map (·.2)):=by subst u;exact we j
 show wpAny _ _ _ _ _ {s with heap:=g.push (seqObj "list" vs.toArray 0),drawn:=d};apply Wz (Xn (XE slot_list_sort ⟨_,J,rfl⟩ entry_list_sort (BB (s:={s with heap:=g.push (seqObj "list" vs.toArray 0),drawn:=d}) J F r (by rw[WA];exact y) λout g1 g2=>⟨_,rfl,?_⟩) (args_list_sort _)));have⟨i,rfl,Y,X⟩:=Ld j g1 (by rw[u];exact g2);have H:g.objs.size<(g.push (seqObj "list" vs.toArray 0)).objs.size:=by rw[XI];exact XQ _
 have⟨n,hn⟩:=sortedHeap_at (vs:=vs) (out:=(i.map λq:Addr×aq=>Value.ref q.1).toArray) J;apply WD ⟨_,rfl,h _ d _ n i (λb o e=>?_) C hn (Y.trans M) λq v=>p3.mem_iff.mp (X q v)⟩;have e:=N b o e;have O:=WX e;rw[sortedHeap_old (Xa O) (ZT O H)];exact WC _ e
end
noncomputable def Bp(w:World)(a:Addr)(b:List (Addr×aq)):HO:=.ext λh=>qr w h a b
def B1(x:qr w h a c):cp j f H h a (Bp w a c):=
 ⟨x,by have⟨_,o,_,_,_,_,e,_⟩:=x;exact⟨o,e⟩,λi g y k=>by have⟨q,o,es,d,t,b,e,r⟩:=y;exact⟨q,o,es,d,t,b,k o e,r⟩⟩
def Fw:Kj X (newSet (.type "set")) (λl=>Bp X.w l []):=λc s d H Q E I h=>by
 unfold newSet setsByText;apply Wz (Wz (YS (WD ?_)));dsimp only;apply XO (h _ s.toks (I.laid (a:=s.heap.objs.size) (t':=s.toks) (λ_ _ q=>WC _ q) (WJ _) (B1 ⟨.nil,_,#[],0,_,[],WZ _ rfl,⟨rfl,rfl,rfl⟩,rfl,?_⟩)));apply⟨⟨rfl,rfl,λi j b=>absurd b (XB _),rfl,Xg _,λi j e b=>?_⟩,rfl,.refl _,rfl⟩;exact absurd b (by simp[SetTable.fresh])
def MD(K:FR)(H:Hp)(q:Addr×aq):Prop:=PyData.strOk q.2.1=true/\CY K H (.ref q.1) (gq q.2)
def Hx(I:Inv X pins σ H s)(h:∀q∈b,MD X.K H q):Q8 s.heap b:=λq a=>⟨(h q a).1,(h q a).2.reads I rfl⟩
def NR(K:FR)(w:World)(e:TE)(l:Addr):TK:=λd H N=>e d H λx c=>∃a b k,c l=some (Bp w l a)/\x=.ref b/\MD K c (b,k)/\(∀q∈a,MD K c q)/\a.length<=3/\N d (upd c l (Bp w l (addQ a b k)))
def Lj{B:Cx}{f:Expr}{m:TE}{l:Addr}(t:B.A.units+64<cLine)(y:PE B f m):PM B (emitSet f (.ref l) B.env) (NR B.K B.w m l):=λa s j H N I h=>by
 unfold emitSet;apply Wz (cQ (y a s j H _ I h) λu G C=>?_);have⟨x,L,g,p,J,b,k,e,rfl,n,i,r,n1⟩:=C;cases p;apply Wz (YQ (Wz ?_));have⟨z,_,_⟩:=g.a9 l _ e;have⟨as,o⟩:=n.2.reads g rfl;apply Le z (Hx g i) t n.1 o r λE F v d=>WD ?_;have c:∃q,E.get? l=some q:=by have⟨_,q,_,_,_,_,i,_⟩:=d;exact⟨q,i⟩
 exact⟨j,_,kd g (by rw[e];exact True.intro) v c (B1 d),n1⟩
def ua{X:Cx}(y:X.calm=true):eW X (.builtin "sorted") (λf H Q=>∃a b,f=[.ref a]/\H a=some (Bp X.w a b)/\(∀q∈b,MD X.K H q)/\b.length<=4/\∀l (out:List (Addr×aq)),H l=none->out.map (·.2)=i4 (b.map (·.2))->(∀q∈out,q∈b)->Q (.ref l) (upd H l (.lst (out.map λq=>V.ref q.1)))):=by
 intro g s E H f us Q I r h;have⟨a,b,rfl,e,v,A,q⟩:=h;have⟨u,rfl,j⟩:=vals1 r;cases j;have⟨z,_,_⟩:=I.a9 a _ e;apply zG (I.ok.hd y) z (Hx I v) A λF d l n out k hl x i C=>?_;have c:out.length<=4:=by
  have:=congrArg List.length i;rw[(eY _).length_eq,WA,WA]at this
  lia
 have p:(out.map λq=>V.ref q.1).length<=sizeLine:=by rw[WA,Yv];exact WL c {}
 have t:∀out:List (Addr×aq),Vals (out.map λq=>V.ref q.1) (out.map λq=>Value.ref q.1):=λout=>by
  induction out with
  |nil=>exact .nil
  |cons q r m=>exact .cons rfl m
 exact⟨.ref l,_,(I.laid (t':=s.toks) (o:=.lst (out.map λq=>V.ref q.1)) k hl ⟨p,_,n,t out,x⟩).draw d,rfl,q l out (I.a9.fresh hl) i C⟩
end L2
namespace Sm
open L2 PyProof.Rows
noncomputable def HV:D->Option aq
 |.tup [.str x,.int i]=>some (x,i)
 |_=>none
noncomputable def dQ(k:aq):D:=.tup [.str k.1,.int k.2]
def DL{d:D}{k:aq}(e:HV d=some k):d=dQ k:=by
 unfold HV at e
 split at e
 ·cases e;rfl
 ·cases e
def BR{K:FR}{a:Ad}{H:Hp}{v:V}{k:aq}(r:Rep K a H v (dQ k)):∃b,v=.ref b/\MD K H (b,k):=by
 unfold dQ at r;have c:PyData.strOk k.1=true:=by
  cases r with
  |tup _ l=>cases l with
   |cons q _=>cases q with
    |str x=>exact x
 have:=r.qT (p:=gq k) rfl;cases r with
 |tup h l=>exact⟨_,rfl,c,this.1⟩
def TF(w:World):Ac (List aq) where
 at_:=λK c H l a=>∃b,H l=some (Bp w l b)/\a=b.map (·.2)/\∀q∈b,Rep K c H (.ref q.1) (dQ q.2)
 mono:=λ⟨b,e,r,k⟩ T q=>⟨b,q.trans e,r,λx d=>(k x d).mono T⟩
noncomputable def zm(ks:List aq)(k:aq):List aq:=if k∈ks then ks else ks++[k]
def mP(e:EM):MK (List aq):=λb h a=>(e b h).bind λp=>(HV p.1).bind λk=>if a.length<=3 then some (b,p.2,zm a k)else none
def qU{K:FR}{a:Ad}{H:Hp}{q:Addr×aq}(r:Rep K a H (.ref q.1) (dQ q.2)):MD K H q:=by
 have⟨b,e,h⟩:=BR r;cases e;exact h
def KH{X:Cx}{j:Expr}{r:EM}(L:X.A.units+64<cLine)(M:SE X j r):Uv X (λl env=>emitSet j (.ref l) env) (TF X.w) (mP r):=λl=>(Lj L M).imp λy H N G=>by
 obtain⟨C,F,h,a,E,Y,Z,R,S,hl,⟨o,J,s,a9⟩,e,I⟩:=G;obtain⟨⟨x,U⟩,Q,P⟩:=bc e;have⟨c,t,k⟩:=bc P;dsimp only at t k
 by_cases n:a.length<=3
 ·rw[WH n]at k;cases k;apply⟨C,F,h,x,_,R,S,Q,λu H1 u9=>?_⟩;have⟨d,m,T,p⟩:=u9;have:=DL t;subst this;have⟨b,rfl,O⟩:=BR p;have f:∀q∈o,Rep X.K d H1 (.ref q.1) (dQ q.2):=λq g=>(a9 q g).mono m.toCh;apply⟨o,b,c,(m.res l hl).trans J,rfl,O,λq g=>qU (f q g),by rw[s,WA]at n;exact n,?_⟩;have i:l∈d.rs:=by rw[m.rs];exact hl
  have v:Ch d H1 d (upd H1 l (Bp X.w l (addQ o b c))):=Ch.put i;apply I d _ y (lQ.put (K:=X.K) m hl) (T.put i) ((R.mono m.toCh).mono v) ⟨_,aQ,?_,λq g=>?_⟩
  ·unfold zm addQ;rw[s]
   split
   ·rfl
   ·rw[W6];rfl
  ·apply Rep.mono v ?_;unfold addQ at g
   split at g
   ·exact f q g
   ·rcases Xw.mp g with z |z
    ·exact f q z
    ·rw[WU]at z;subst z;exact p
 ·rw[WM n]at k;cases k
def CA(a:List (Option Nat))(i:IM)(g:GM)(c:TM)(m:MK (List aq)):EM:=λb h=>(i b h).bind λp=>(dM p.2.1 g c m p.1 (kZ a b) p.2.2 []).bind λq=>if q.2.2.length<=4 then some (.lv ((i4 q.2.2).map dQ),q.2.1)else none
theorem sx{K:FR}{b:Ad}{H:Hp}:∀{a:List (Addr×aq)},(∀q∈a,Rep K b H (.ref q.1) (dQ q.2))->az K b H (a.map λq=>V.ref q.1) ((a.map (·.2)).map dQ)
 |[],_=>.nil
 |q::r,h=>.cons (h q WI) (sx λx c=>h x (WG _ c))
def Hz{X:Cx}{c:List (Option Nat)}{t:IM}{g:GM}{s:TM}{m:MK (List aq)}{f:L2.St}{H:Hp}{Q:VK}(hh:tM X.K (CA c t g s m) f H Q):
  UL (λr H Q=>∃a b,r=[.ref a]/\H a=some (Bp X.w a b)/\(∀q∈b,MD X.K H q)/\b.length<=4/\∀l (out:List (Addr×aq)),H l=none->out.map (·.2)=i4 (b.map (·.2))->(∀q∈out,q∈b)->Q (.ref l) (upd H l (.lst (out.map λq=>V.ref q.1)))) (λf H Q=>k8 c (NQ X.K t) (λl=>Bp X.w l []) (GA X.K g) (Dh X.K s) (λl=>GW X.K (TF X.w) l m) f H λv e=>Q [v] e) f H Q:=by
 have⟨y,E,h,d,h',R,S,L,k⟩:=hh;obtain⟨⟨r,F,J⟩,P,O⟩:=bc L;obtain⟨⟨p,Z,z⟩,N,i⟩:=bc O;dsimp only at i
 by_cases j:z.length<=4
 ·rw[WH j]at i;cases i;show k8 c (NQ X.K t) (λl=>Bp X.w l []) (GA X.K g) (Dh X.K s) (λl=>GW X.K (TF X.w) l m) f H λv e=>∃a b,[v]=[V.ref a]/\e a=some (Bp X.w a b)/\(∀q∈b,MD X.K e q)/\b.length<=4/\∀l (out:List (Addr×aq)),e l=none->out.map (·.2)=i4 (b.map (·.2))->(∀q∈out,q∈b)->Q (.ref l) (upd e l (.lst (out.map λq=>V.ref q.1)));apply zZ (A:=TF X.w) (o:=λl=>Bp X.w l []) (a0:=[]) (λy H l=>⟨[],aQ,rfl,λk I=>(nomatch I)⟩) ⟨y,E,h,r,F,J,p,_,z,R,S,P,N,λl C H' T U n u9=>?_⟩;have⟨b,at',M,ok⟩:=u9;subst M;apply⟨l,b,rfl,at',λq u=>qU (ok q u),by rw[WA]at j;exact j,λY out x o1 G=>?_⟩;rw[<-o1]at k;exact k _ _ (dN.step T (dN.lv U (sx λq u=>ok q (G q u)) x))
 ·rw[WM j]at i;cases i
def E5{X:Cx}{k d j:Expr}{p pos e:Pos}{n:EM}{m:TM}{g:GM}{N':List Str}{caps:List (Option Nat)}{a:Scope}{h:List Expr}{s:IM}(C:bN X N' caps a)(t:X.calm=true)(r:Gl X "sorted")(o:X.mg "sorted"=none)(u:X.A.units+64<cLine)(y:SI X k d s)(z:∀C b c f pl,SG (k5 X N' a C b c f pl) k g)(q:∀C b c f pl,Nu (k5 X N' a C b c f pl) h m)(E:∀C b c f pl,SE (k5 X N' a C b c f pl) j n)(v:∀x,foldedSetIterable d X.env x=pure x:=by intro _;ac_nf):
  SE X (.Call (.Name "sorted" p) [.SetComp j [⟨k,d,h,0⟩] a e] [] pos) (CA caps s g m (mP n)):=by
 have i:=sT (g:=GA X.K g) (tc:=Dh X.K m) (tm:=λl=>GW X.K (TF X.w) l (mP n)) C t (Fo j [⟨k,d,h,0⟩] a e) rfl (λG l env=>ER ..) Fw y z q
  (λC b c f pl l=>KH (X:=k5 X N' a C b c f pl) u (E C b c f pl) l) rfl v
 exact(sU (ua t) r o (by decide+kernel) (qZ i ye)).imp λF H Q hh=>Hz hh
end Sm
namespace L2
open PyProof.Rows
noncomputable def MJ(a c:Int)(n:Nat):It:=⟨λi _=>i<n,λi H x b=>b=H/\x=.int (a+i*c),λi _=>n<=i⟩
def zA{P:Program}{w:World}{K:FR}{M:Expr}(d:Addr)(j c:Int)(n:Nat):Turn P w K M (MJ j c n) [d] d (λi h=>IsRangeIter h d (j+(i:Nat)*c) ((n:Int)-(i:Nat)) c) where
 mem:=by simp
 obj:=λi h st b f=>by
  have e:b=d:=by simpa using f
  subst e;exact⟨_,st,λv z=>by
   have L:Data.fields _=Data.cell v:=z;cases L⟩
 keep:=λi h m st k=>k d (by simp) _ st
 item:=by
  intro X u p x r i a s G H E I l st q;subst u p x;have⟨f0,F,Q,C,A,y⟩:=l d (by simp);have W:=Walks.range (prog:=X.prog) (w:=X.w) (I.ok.hd r) d j c n;apply W.item i s _ _ q st λv m J O g N=>?_;have⟨t,rfl⟩:=O;have S:Inv X a G H {s with heap:=m,toks:=J}:=I.turned (λb o f e=>N b o (by simpa using f) e) f0 F C A y;exact⟨_,rfl,D8 (s:={s with heap:=m,toks:=J}) (n:="range_iterator") g rfl rfl {} ⟨.int (j+i*c),H,S,⟨t,rfl⟩,⟨rfl,rfl⟩,g,λb f=>(l b f).1⟩⟩
 done:=by
  intro X u p x r i a s G H E I l st q;subst u p x;have⟨f0,F,Q,C,A,y⟩:=l d (by simp);exact wpAny_pyNext_range_end (I.ok.hd r) st (by have:n<=i:=q;lia) λm R=>⟨rfl,I.turned (t':=s.toks) (λb o f e=>R b o f e) f0 F C A y⟩
 self:=λ_ _ _ _ _ st h=>wpAny_pyIter_rangeiter st h
def Kp(i j c:Int):Prop:=(-1000000<=i/\i<=1000000)/\(-1000000<=j/\j<=1000000)/\0<c/\c<=1000
instance:Decidable (Kp i j c):=by unfold Kp;exact inferInstance
def size_pos(h:Kp i j c):0<=Builtin.Range.rangeSize i j c/\Builtin.Range.rangeSize i j c<=2000000:=by
 have⟨g,f,d,e⟩:=h;unfold Builtin.Range.rangeSize;rw[WH d]
 split
 ·have:=Int.ediv_nonneg (a:=j-i-1) (b:=c) () ();have:=Int.ediv_le_self (a:=j-i-1) c ()
  lia
 ·lia
def Fh{d:List (Addr×Obj)}{g:St}{H:Hp}{s:Shared}{R:It->Hp->Prop}{E:Value->Shared->Prop}{a f c:Int}{t u v:Tok}{h:Nat}(I:Inv X d g H s)(j:Kp a f c)
  (q:R (MJ a c (Builtin.Range.rangeSize a f c).toNat) H):wpAny (model X.prog X.w) X.A (pyIter (.ref s.heap.objs.size)) (VN X d g p R) E {s with heap:=s.heap.push {cls:=.type "range",data:=.fields #[.int a t,.int f u,.int c v]},toks:=h}:=by
 have k:=size_pos j;apply wpAny_pyIter_range (IsRange.new ..) ?_ ?_
 ·have⟨g1,g2,g3,g4⟩:=j;unfold Builtin.Range.small;simp only[Builtin.Range.rangeFitsLong,W9,Yn,Xy,YM,show c > 0 from g3,Ze];apply⟨⟨⟨⟨⟨?_,?_⟩,?_,?_⟩,?_,?_⟩,?_,?_⟩,.inr ⟨?_,?_⟩⟩ <;> lia
 have i:Inv X d g H {s with heap:=s.heap.push {cls:=.type "range",data:=.fields #[.int a t,.int f u,.int c v]},toks:=h}:=I.kept λb o e=>WC _ e;apply⟨(s.heap.push {cls:=.type "range",data:=.fields #[.int a t,.int f u,.int c v]}).objs.size,[(s.heap.push {cls:=.type "range",data:=.fields #[.int a t,.int f u,.int c v]}).objs.size],_,_,H,rfl,
  i.kept (t':=h) λb o e=>WC _ e,zA _ a c (Builtin.Range.rangeSize a f c).toNat,?_,λb l=>?_,q⟩
 ·have n:a+((0:Nat):Int)*c=a:=by simp
  have m:(((Builtin.Range.rangeSize a f c).toNat:Nat):Int)-((0:Nat):Int)=Builtin.Range.rangeSize a f c:=by lia
  show IsRangeIter _ _ (a+((0:Nat):Int)*c) ((((Builtin.Range.rangeSize a f c).toNat:Nat):Int)-((0:Nat):Int)) c;rw[n,m];exact WZ _ rfl
 ·have e:b=(s.heap.push {cls:=.type "range",data:=.fields #[.int a t,.int f u,.int c v]}).objs.size:=by simpa using l
  subst e;exact i.vw (WJ _) (i.a9.fresh (WJ _))
def SJ(d:TA):TI:=λa H R=>d a H λb e=>∃i j c:Int,b=[.int i,.int j,.int c]/\Kp i j c/\R (MJ i c (Builtin.Range.rangeSize i j c).toNat) e
def Fs{X:Cx}{u a b c:Expr}{p pos:Pos}{n:TA}(A:Gl X "range")(hm:X.mg "range"=none)(C:PA X [a,b,c] n)(z:starEach [a,b,c] X.env=[(false,eval a X.env),(false,eval b X.env),(false,eval c X.env)]:=by rfl)(k:starEach [b,c] X.env=[(false,eval b X.env),(false,eval c X.env)]:=by rfl):
  PI X u (.Call (.Name "range" p) [a,b,c] [] pos) (SJ n):=by
 intro g s o H R I h;apply Call_ (fZ I A hm boot_range (XH (cQ (C pos g s o H _ I h) λus s1 ⟨F,H1,E,w,y⟩=>?_) (by rw[z,k]) (by rw[k];rfl)));have⟨i,j,d,e,m,q⟩:=y;subst e;cases w with
 |cons r f=>
  cases f with
  |cons x f=>
   cases f with
   |cons l f=>
    cases f;have⟨t,rfl⟩:=r;have⟨G,rfl⟩:=x;have⟨v,rfl⟩:=l;apply call_range_3 (by have:=m.2.2.1;lia) (Fh E m q) (.inl ?_);have⟨g1,g2,g3,g4⟩:=m;exact PyProof.noPylong_small ()
end L2
namespace Sm
open L2 PyProof.Rows
noncomputable def LY(m:AM):IM:=λa h=>(m a h).bind λp=>match p.1 with
 |[.int i,.int j,.int c]=>if Kp i j c then some ((List.range (Builtin.Range.rangeSize i j c).toNat).map λ(k:Nat)=>D.int (i+(k:Int)*c),[],p.2)else none
 |_=>none
def LR{K:FR}{ρ:Ad}{H:Hp}(b c:Int)(n:Nat):QW K (MJ b c n) ρ H [] ((List.range n).map λ(k:Nat)=>D.int (b+(k:Int)*c)):=by
 apply yE λd m r T S o=>⟨(List.range n).map λ(k:Nat)=>V.int (b+(k:Int)*c),?_,λi f=>?_,λi v e=>?_⟩
 ·have:=jM (K:=K) (ρ:=d) (H:=m) ((List.range n).map λ(k:Nat)=>b+(k:Int)*c);rw[YU,YU]at this;exact this
 ·rw[WA,W3]at f;exact f
 ·rw[WY]at e;have⟨j,l,h⟩:=dX e;have⟨a,g⟩:=WB.mp l;rw[W3]at a;rw[AaP]at g;subst g;subst h;exact⟨a,λu s ⟨p,q⟩=>⟨p,q⟩⟩
def E1{X:Cx}{t a b c:Expr}{p pos:Pos}{m:AM}(y:Gl X "range")(hm:X.mg "range"=none)(A:SA X [a,b,c] m)(w:starEach [a,b,c] X.env=[(false,eval a X.env),(false,eval b X.env),(false,eval c X.env)]:=by ac_nf)(o:starEach [b,c] X.env=[(false,eval b X.env),(false,eval c X.env)]:=by ac_nf)(hl:kA m 3):
  SI X t (.Call (.Name "range" p) [a,b,c] [] pos) (LY m):=
 (Fs y hm A w o).imp λσ H Q ⟨q,s,h,xs,ws,L,R,S,e,k⟩=>by
  obtain⟨⟨x,C⟩,E,f⟩:=bc e;apply⟨q,s,h,x,C,R,S,E,λJ g I F G u=>?_⟩;dsimp only at f
  split at f
  ·rename_i _ i j d
   by_cases z:Kp i j d
   ·rw[WH z]at f;cases f;apply⟨i,j,d,?_,z,k _ g I F G (LR i d _)⟩;cases u with
    |cons r l=>cases l with
     |cons v l=>cases l with
      |cons n l=>cases l;cases r;cases v;cases n;rfl
   ·rw[WM z]at f;cases f
  ·cases f
end Sm
namespace L2
open PyProof.Rows PySem.SeqAt
def hW(b:List (Addr×aq)):List (Addr×aq):=b.foldl (λa p=>addQ a p.1 p.2) []
def ug(a:List (Addr×aq))(p:Addr×aq):hW (a++[p])=addQ (hW a) p.1 p.2:=by unfold hW;rw[List.foldl_append];rfl
theorem lP{ps:List (Addr×aq)}:∀(i:Nat),(hW (ps.take i)).length<=i/\∀q∈hW (ps.take i),q∈ps
 | 0=>⟨WJ _,λ_ z=>(nomatch z)⟩
 |i+1=>by
  have⟨c,b⟩:=lP (ps:=ps) i;cases e:ps[i]? with
  |none=>
   have hl:ps.length<=i:=X9.mp e;rw[YJ (Xp hl)];rw[YJ hl]at c b;exact⟨Xp c,b⟩
  |some p=>
   rw[Z2,e,Zu,ug];unfold addQ
   split
   ·exact⟨Xp c,b⟩
   ·apply⟨by rw[WR];simpa using c,λq a=>?_⟩;rcases Xw.mp a with a |a
    ·exact b q a
    ·rw[WU]at a;subst a;exact WE e
def Ke{P:Program}{w:World}{A:Around}{c:Heap}{S:Addr}{a:Array Value}{ps:List (Addr×aq)}(y:A.units+8<cLine)(I:∀(i:Nat)(v:Value),a[i]?=some v->∃p,ps[i]?=some p/\v=.ref p.1)(hr:Q8 c ps)(R:ps.length<=4):
  Kn P w A c S a (λi h=>qr w h S (hW (ps.take i))) where
 frame:=λi h z k=>by
  rintro⟨n,o,es,M,t,d,e,r⟩;exact⟨n,o,es,M,t,d,k o e,r⟩
 fresh:=λh e=>by
  rw[List.take_zero];apply⟨Abh,_,#[],0,_,[],e,⟨rfl,rfl,rfl⟩,rfl,?_⟩;apply⟨⟨rfl,rfl,λi j g=>absurd g (XB _),rfl,Xg _,λi j e g=>?_⟩,rfl,.refl _,rfl⟩;exact absurd g (by simp[SetTable.fresh])
 step:=λi v s E Q G L keep h=>by
  have⟨p,hp,rfl⟩:=I i v G;have J:i<ps.length:=(WB.mp hp).1;have⟨O,F⟩:=lP (ps:=ps) i;have rd:∀q∈ps,PyData.strOk q.2.1=true/\∃as,Reads s.heap (.ref q.1) (gq q.2) as:=λq f=>by
   have⟨x,as,C⟩:=hr q f;exact⟨x,as,sO (λb o N m e _=>keep b o e) 8 (oI x) C⟩
  have⟨ok,as,u⟩:=rd p (WE hp);unfold setAdd;apply Xn (Wz (wR 8 y (oI ok) u λj=>?_));apply kM (s:={s with toks:=s.toks+j}) L (λq f=>rd q (F q f)) y ok u () λr z H l=>?_;apply h r z (s.toks+j) (Xh _ _) H ?_;rw[Z2,hp,Zu,ug];exact l
def Gk{X:Cx}(J:X.calm=true)(O:X.A.units+64<cLine):eW X (.type "set") (λm H Q=>∃(a:Addr)(ps:List (Addr×aq)),m=[.ref a]/\eV X.K H a (ps.map λq=>V.ref q.1)/\(∀q∈ps,MD X.K H q)/\ps.length<=4/\∀l,H l=none->Q (.ref l) (upd H l (Bp X.w l (hW ps)))):=by
 intro n s M H m us Q I r h;have⟨a,ps,rfl,F,hr,L,q⟩:=h;have⟨u,rfl,y⟩:=vals1 r;cases y;have⟨d,rv,pt,N⟩:=I.list F;have c:=rv.length;rw[WA]at c;apply uc (items:=d.toArray) (I.ok.hd J) pt.isList (λS _ P=>Ke (ps:=ps) () (λi v C=>?_) (Hx I hr) L) λR t p k=>?_
 ·have f:d[i]?=some v:=by simpa using C
  have G:i<ps.length:=by rw[c];exact(WB.mp f).1
  have j:ps[i]?=some ps[i]:=WK G;have⟨u,g,z⟩:=Vals.get rv (x:=.ref ps[i].1) (i:=i) (by rw[WY,j];rfl);rw[f]at g;cases g;cases z;exact⟨_,j,rfl⟩
 ·have E:d.toArray.size=ps.length:=by rw[c];rfl
  rw[E,X1]at p;exact⟨.ref _,_,I.laid (t':=t) (o:=Bp X.w s.heap.objs.size (hW ps)) (λb o e=>k b o (WX e) e) (WJ _) (B1 p),rfl,q _ I.fresh⟩
end L2
namespace Sm
open L2 PyProof.Rows
def Fj:List D->Option (List aq)
 |[]=>some []
 |d::r=>(HV d).bind λk=>(Fj r).map λks=>k::ks
def EI(ks:List aq):List aq:=ks.foldl zm []
def j9(m:EM):EM:=λa h=>(m a h).bind λp=>(dY p.1 p.2).bind λb=>(Fj b).bind λks=>if ks.length<=4 then some (.lv ((i4 (EI ks)).map dQ),p.2)else none
theorem DK{K:FR}{d:Ad}{H:Hp}:∀{g:List V} {f:List D} {ks:List aq},az K d H g f->Fj f=some ks->∃a:List (Addr×aq),g=a.map (λq=>V.ref q.1)/\a.map (·.2)=ks/\∀q∈a,Rep K d H (.ref q.1) (dQ q.2)
 |_,_,_,.nil,e=>by cases e;exact⟨[],rfl,rfl,λ_ z=>(nomatch z)⟩
 |_,_,_,.cons r l,e=>by
  have⟨k,o,n⟩:=bc e;have⟨ks,m,rfl⟩:=dX n;have⟨a,j,i,h⟩:=DK l m;have:=DL o;subst this;have⟨b,rfl,p⟩:=BR r;apply⟨(b,k)::a,by rw[j];rfl,by rw[<-i];rfl,λq c=>?_⟩;rcases WV.mp c with rfl |c
  ·exact r
  ·exact h q c
def Gw(a:List (Addr×aq)):(hW a).map (·.2)=EI (a.map (·.2)):=by
 have:∀(a b:List (Addr×aq)),(a.foldl (λc p=>addQ c p.1 p.2) b).map (·.2)=(a.map (·.2)).foldl zm (b.map (·.2)):=by
  intro a
  induction a with
  |nil=>intro b;rfl
  |cons p a d=>
   intro b;rw[Y4,d,WN,Y4];congr 1;unfold addQ zm
   split
   ·rfl
   ·rw[W6];rfl
 exact this a []
def zJ{p G pos f:Pos}(z:X.calm=true)(hr:fh k X.A)(x:Gl X "sorted")(s:X.mg "sorted"=none)(u:Gl X "set")(r:X.mg "set"=none)(N:SE X e J)(y:starEach [e] X.env=(false,eval e X.env)::starEach [] X.env:=by ac_nf):
  SE X (.Call (.Name "sorted" p) [.Call (.Name "set" G) [e] [] f] [] pos) (j9 J):=
 (sU (ua z) x s (by decide+kernel) (qZ (oJ (Gk z hr.units) u r (by decide+kernel) (qZ N ye y) {} {} y) ye)).imp λσ H Q u9=>by
  have⟨C,E,h,d,h',R,S,T,k⟩:=u9;obtain⟨⟨d1,P⟩,e1,e2⟩:=bc T;have⟨ys,Z,Y⟩:=bc e2;have⟨ks,U,i⟩:=bc Y
  by_cases c:ks.length<=4
  ·rw[WH c]at i;cases i;apply⟨C,E,h,d1,P,R,S,e1,λv H1 u9=>?_⟩;have⟨m,T1,j,F⟩:=u9;have⟨a,vs,rfl,O,L⟩:=dz j F Z;have⟨ps,rfl,rfl,hp⟩:=DK L U;rw[WA]at c;apply⟨a,ps,rfl,eV.of O,λq b=>qU (hp q b),c,λl hl=>?_⟩;have T2:=T1.trans (cV.laid (o:=Bp X.w l (hW ps)) j hl);have⟨M,n⟩:=lP (ps:=ps) ps.length;rw[X1]at M n;have g:∀q∈hW ps,Rep X.K m (upd H1 l (Bp X.w l (hW ps))) (.ref q.1) (dQ q.2):=λq b=>(hp q (n q b)).mono (cV.laid j hl).toCh;apply⟨l,hW ps,rfl,aQ,λq b=>qU (g q b),by lia,λn out t o1 I=>?_⟩;rw[Gw]at o1;rw[<-o1]at k;exact k _ _ (dN.step T2 (dN.lv (j.laid hl) (sx λq b=>g q (I q b)) t))
  ·rw[WM c]at i;cases i
end Sm
namespace Sm
open L2 PyProof.Rows PySem.SeqAt
noncomputable local instance:DecidableEq PyData:=λa b=>Classical.propDecidable _
def zr(k:PyData)(d:D):Bool:=match je d with
 |some p=>PyData.eqv p k
 |none=>false
def gS(a:List (D×D))(k:PyData):Option D:=(a.find? λb=>zr k b.1).map (·.2)
def lC(a:List (D×D))(k:PyData)(e v:D):List (D×D):=
 if(a.any λb=>zr k b.1)=true then a.map (λb=>if zr k b.1=true then(b.1,v)else b)else a++[(e,v)]
def Cq(d:D):Option PyData:=match d with
 |.tup xs=>(je (.tup xs)).bind λp=>if cb 8 p=true then some p else none
 |_=>none
def yT(hp:cb 8 p=true)(a:cb 8 k=true):PyData.eqv p k=decide (p=k):=by
 by_cases z:p=k
 ·subst z;rw[eqv_refl 8 hp,Xf rfl]
 ·rw[Xc z];cases q:PyData.eqv p k with
  |false=>rfl
  |true=>exact absurd (qX 8 hp a q) z
inductive R3(K:FR)(ρ:Ad)(H:Hp):List (Addr×V)->List (PyData×Addr×Value)->List (D×D)->Prop where
 |nil:R3 K ρ H [] [] []
 |cons {b:Addr} {v:V} {u:Value} {p:PyData} {d e:D} {us:List (Addr×V)} {ys:List (PyData×Addr×Value)} {kvs:List (D×D)}:
  Rep K ρ H (.ref b) d->Rep K ρ H v e->RelV v u->je d=some p->cb 8 p=true->R3 K ρ H us ys kvs->R3 K ρ H ((b,v)::us) ((p,b,u)::ys) ((d,e)::kvs)
section
variable {K:FR} {ρ ρ':Ad} {H H':Hp}
theorem R3.of:∀{us:List (Addr×V)} {g:List (PyData×Addr×Value)} {f:List (D×D)},az K ρ H (us.map λu=>V.ref u.1) (f.map (·.1))->az K ρ H (us.map (·.2)) (f.map (·.2))->gX (f.map (·.1))=some (g.map (·.1))->
  (g.map (·.1)).all (cb 8)=true->Paired (λ(u:Addr×V)(y:PyData×Addr×Value)=>u.1=y.2.1/\RelV u.2 y.2.2) us g->R3 K ρ H us g f
 |us,g,[],a,b,c,d,e=>by
  cases us with
  |cons _ _=>cases a
  |nil=>cases e;exact .nil
 |us,g,(d,e)::f,a,b,c,al,pr=>by
  cases us with
  |nil=>cases a
  |cons u us=>
   have⟨x,w⟩:=u;cases pr with
   |@cons _ y _ g h t=>
    have⟨s,v,r⟩:=y;have⟨j,i⟩:=h;dsimp only at j i;subst j;cases a with
    |cons a1 a2=>
     cases b with
     |cons q o=>
      have⟨p,n,m⟩:=bc (show(je d).bind (λa=>(gX (f.map (·.1))).map λb=>a::b)=_ from c);have⟨z,l,k⟩:=dX m;rw[WN]at k;have⟨rfl,rfl⟩:=List.cons.inj k;rw[WN,Y5,W9]at al;exact .cons a1 q i n al.1 (R3.of a2 o l al.2 t)
theorem R3.mono(S:Ch ρ H ρ' H'){us:List (Addr×V)}{h:List (PyData×Addr×Value)}{g:List (D×D)}(r:R3 K ρ H us h g):R3 K ρ' H' us h g:=by
 induction r with
 |nil=>exact .nil
 |cons a b c d e f i=>exact .cons (a.mono S) (b.mono S) c d e i
theorem R3.parts:∀{us:List (Addr×V)} {h:List (PyData×Addr×Value)} {g:List (D×D)},R3 K ρ H us h g->az K ρ H (us.map λu=>V.ref u.1) (g.map (·.1))/\az K ρ H (us.map (·.2)) (g.map (·.2))/\gX (g.map (·.1))=some (h.map (·.1))/\
  (h.map (·.1)).all (cb 8)=true/\Paired (λ(u:Addr×V)(y:PyData×Addr×Value)=>u.1=y.2.1/\RelV u.2 y.2.2) us h/\us.length=g.length/\h.length=g.length
 |_,_,_,.nil=>⟨.nil,.nil,rfl,rfl,.nil,rfl,rfl⟩
 |_,_,_,.cons a b c d e f=>by
  have⟨o,n,m,l,k,j,i⟩:=f.parts;apply⟨.cons a o,.cons b n,?_,?_,.cons ⟨rfl,c⟩ k,congrArg Nat.succ j,congrArg Nat.succ i⟩
  ·rw[WN,WN,gX,d,WT,m];rfl
  ·rw[WN,Y5,e,l];rfl
theorem R3.reads{X:Cx}{g:List (Addr×Obj)}{k:L2.St}{s:Shared}(I:Inv X g k H s){us:List (Addr×V)}{j:List (PyData×Addr×Value)}{h:List (D×D)}(r:R3 X.K ρ H us j h):∀y∈j,Km s.heap y.1 y.2.1:=by
 induction r with
 |nil=>exactλ_ z=>(nomatch z)
 |cons a b c d e f l=>
  intro y i;rcases WV.mp i with rfl |i
  ·exact⟨e,CY.reads I (a.qT d).1 rfl⟩
  ·exact l y i
theorem R3.val{k:PyData}(c:cb 8 k=true):∀{us:List (Addr×V)} {ys:List (PyData×Addr×Value)} {kvs:List (D×D)},R3 K ρ H us ys kvs->(atKey ys k=none/\gS kvs k=none)\/∃p d v,atKey ys k=some p/\gS kvs k=some d/\RelV v p.2/\Rep K ρ H v d
 |_,_,_,.nil=>.inl ⟨rfl,rfl⟩
 |_,_,_,.cons (b:=b) (v:=v) (u:=u) (p:=p) (d:=d) (e:=e) (us:=us) (ys:=ys) (kvs:=kvs) n m l j i f=>by
  have a:zr k d=decide (p=k):=by unfold zr;rw[j];exact yT i c
  by_cases z:p=k
  ·apply .inr ⟨(b,u),e,v,?_,?_,l,m⟩
   ·unfold atKey;rw[X0,Xf z];rfl
   ·unfold gS;rw[X0,a,Xf z];rfl
  ·have h:atKey ((p,b,u)::ys) k=atKey ys k:=by unfold atKey;rw[X0,Xc z]
   have g:gS ((d,e)::kvs) k=gS kvs k:=by unfold gS;rw[X0,a,Xc z]
   rw[h,g];exact f.val c
theorem R3.old{k:PyData}(r:cb 8 k=true){x:V}{c:Value}{w:D}(o:RelV x c)(g:Rep K ρ H x w):∀{us:List (Addr×V)} {n:List (PyData×Addr×Value)} {h:List (D×D)},R3 K ρ H us n h->∃a,R3 K ρ H a (n.map (putAt k c)) (h.map λi=>if zr k i.1=true then(i.1,w)else i)
 |_,_,_,.nil=>⟨[],.nil⟩
 |_,_,_,.cons (b:=b) (v:=v) (u:=u) (p:=p) (d:=d) (e:=e) t A y m l f=>by
  have q:zr k d=decide (p=k):=by unfold zr;rw[m];exact yT l r
  have⟨a,s⟩:=f.old r o g
  by_cases z:p=k
  ·apply⟨(b,x)::a,?_⟩;have j:putAt k c (p,b,u)=(p,b,c):=by simp[putAt,z]
   rw[WN,WN,j,q,Xf z,WH rfl];exact .cons t g o m l s
  ·apply⟨(b,v)::a,?_⟩;have j:putAt k c (p,b,u)=(p,b,u):=by simp[putAt,z]
   rw[WN,WN,j,q,Xc z,WM Xi];exact .cons t A y m l s
def R3.app{us j:List (Addr×V)}{l i:List (PyData×Addr×Value)}{k h:List (D×D)}(g:R3 K ρ H j i h):R3 K ρ H us l k->R3 K ρ H (us++j) (l++i) (k++h):=λf=>by
 induction f with
 |nil=>exact g
 |cons a b c d e f m=>exact .cons a b c d e m
theorem R3.any{k:PyData}(a:cb 8 k=true):∀{us:List (Addr×V)} {ys:List (PyData×Addr×Value)} {kvs:List (D×D)},R3 K ρ H us ys kvs->(kvs.any λc=>zr k c.1)=(atKey ys k).isSome
 |_,_,_,.nil=>rfl
 |_,_,_,.cons (b:=b) (v:=v) (u:=u) (p:=p) (d:=d) (e:=e) (us:=us) (ys:=ys) (kvs:=kvs) m l j i h f=>by
  have g:zr k d=decide (p=k):=by unfold zr;rw[i];exact yT h a
  rw[Yw,g,f.any a];unfold atKey;rw[X0]
  by_cases z:p=k
  ·rw[Xf z];rfl
  ·rw[Xc z];rfl
def R3.put{k:PyData}(h:cb 8 k=true){b:Addr}{x:V}{i:Value}{d w:D}(l:Rep K ρ H (.ref b) d)(m:je d=some k)(j:RelV x i)(a:Rep K ρ H x w){us:List (Addr×V)}{e:List (PyData×Addr×Value)}{c:List (D×D)}(f:R3 K ρ H us e c):
  ∃g,R3 K ρ H g (storedH e k b i) (lC c k d w):=by
 unfold storedH lC;rw[f.any h]
 by_cases z:(atKey e k).isSome=true
 ·rw[WH z,WH z];exact f.old h j a
 ·rw[WM z,WM z];exact⟨_,R3.app (.cons l a j m h .nil) f⟩
end
def Jy{X:Cx}{b:List (Addr×Obj)}{i:L2.St}{H:Hp}{s:Shared}{g:Ad}{a:Addr}{c:List (D×D)}(I:Inv X b i H s)(x:Bq X.K g H a (.dcH c)):
  ∃us d h,H a=some (.Kr (pA a us h))/\R3 X.K g H us d c/\s.heap.DictOfH (x9 X.prog X.w) a d/\(a==sysModules)=false/\us.length<=sizeLine:=by
 have⟨us,h,e,k,j,p⟩:=x;obtain⟨⟨z,m,hp,nd,d,l,rfl,o,es,u,t,r,q,n⟩,_⟩:=I.a9 a _ e;have f:=R3.of k j p hp l;exact⟨us,d,_,e,f,⟨o,es,u,t,r,q,n,f.reads I,nd⟩,m,z⟩
def rf(e:Cq d=some k):je d=some k/\cb 8 k=true/\∃b,d=.tup b:=by
 unfold Cq at e
 split at e
 ·have⟨p,c,a⟩:=bc e
  split at a
  ·rename_i z;cases a;exact⟨c,z,_,rfl⟩
  ·cases a
 ·cases e
noncomputable def vA(d:D)(h:MH):Option (List (D×D)):=match d with
 |.ob n=>match h[n]? with
  |some (.dcH a)=>some a
  |_=>none
 |_=>none
def rj{K:FR}{c:Ad}{H:Hp}{h:MH}{v:V}{d:D}{b:List (D×D)}(S:bM K c h H)(r:Rep K c H v d)(e:vA d h=some b):∃n a,d=.ob n/\h[n]?=some (.dcH b)/\v=.ref a/\c.ob[n]?=some a/\Bq K c H a (.dcH b):=by
 unfold vA at e
 split at e
 ·split at e
  ·rename_i q;cases e;cases r with
   |ob hn=>exact⟨_,_,rfl,q,rfl,hn,S.at_ _ _ _ hn q⟩
  ·cases e
 ·cases e
def AN(d e:D)(h:MH):Option (D×MH):=(vA d h).bind λa=>(Cq e).bind λk=>(gS a k).map λz=>(z,h)
def Ax:Gx:=λd b h=>(vA d h).bind λa=>match b with
 |[e,x]=>(Cq e).map λk=>((gS a k).getD x,h)
 |_=>none
def wV(o i v:D)(h:MH):Option MH:=match o with
 |.ob n=>match h[n]? with
  |some (.dcH a)=>(Cq i).bind λk=>if a.length<sizeLine then some (h.set n (.dcH (lC a k i v)))else none
  |_=>none
 |_=>none
def wN(d:D)(h:MH):Bool:=(vA d h).isSome
section
variable {X:Cx}
def Co{a:List (Addr×Obj)}{c:L2.St}{H:Hp}{s:Shared}{d:Ad}{y:V}{u:Value}{e:D}{k:PyData}(I:Inv X a c H s)(g:Rep X.K d H y e)(f:RelV y u)(h:Cq e=some k):∃b,y=.ref b/\u=.ref b/\Km s.heap k b:=by
 have⟨j,i,m,rfl⟩:=rf h;cases g with
 |@tup b n ds ht l=>
  obtain rfl:u=Value.ref b:=f;exact⟨b,rfl,rfl,i,CY.reads I ((Rep.tup ht l).qT j).1 rfl⟩
def PY(hu:X.A.units+64<cLine):Q9 X (rS X.K AN):=by
 intro i j m s P H x y v u Q I C t hh L;have⟨R,h,d,e,z,h',S,rd,E,c,k⟩:=hh;have⟨F,O,c⟩:=bc c;have⟨Z,q,c⟩:=bc c;have⟨T,g,c⟩:=dX c;cases c;have⟨n,a,rfl,hn,rfl,ha,ob⟩:=rj S rd O;obtain rfl:v=Value.ref a:=C;have⟨us,U,Y,ea,f,dd,J,hz⟩:=Jy I ob;have⟨b,rfl,rfl,G⟩:=Co I E t q;rcases f.val (rf q).2.1 with⟨o,l⟩ |⟨p,d',r,o,l,N,M⟩
 ·rw[l]at g;cases g
 ·rw[l]at g;cases g;exact tail_any dd.typeIs ZY.lookup (wpAny_getItem_heap (knd:=x9 X.prog X.w) (show X.A.in1.units+8<cLine by rw[ZS];lia) G dd o ⟨r,H,I.tok _,N,k _ _ (.here S M)⟩) L
def Hf(hr:fh n X.A)(g:SE X a d)(f:SE X b c)(e:iK b:=by unfold iK;intro _ _;ac_nf):SE X (.Subscript a b pos) (ag AN d c):=(M3 (PY hr.units) g f e).imp λ_ _ _=>zY
def LD(hu:X.A.units+64<cLine):GH X "dict.get" (rM X.K Ax):=by
 intro o s Z H x xs v us Q I G rs hh;have⟨ρ,h,d,Y,z,h',S,rd,l,R,k⟩:=hh;have⟨M,U,c⟩:=bc R;have⟨n,a,rfl,hn,rfl,ha,ob⟩:=rj S rd U;obtain rfl:v=Value.ref a:=G;have⟨E,r,ps,ea,f,dd,i,hz⟩:=Jy I ob
 match Y,l,c with
 |[],_,c=>cases c
 |[_],_,c=>cases c
 |_::_::_::_,_,c=>exact absurd c (by simp)
 |[dy,dx],l,c=>
  have⟨y,t,rfl,F,e⟩:=rep2 l;have⟨L,q,T⟩:=dX c;cases T;have⟨u,u2,rfl,J,g⟩:=Vals.two rs;have⟨b,rfl,rfl,N⟩:=Co I F J q;apply AaC Yr dd.typeIs YY (Aae _ _ _) (meetsH_dict_get_default (x9 X.prog X.w) a b i u2) ⟨show X.A.in1.units+8<cLine by rw[ZS];lia,L,r,N,dd,?_⟩;rcases f.val (rf q).2.1 with⟨m,j⟩ |⟨p,d',C,m,j,P,O⟩
  ·rw[m];apply⟨t,H,I.tok _,g,k _ _ ?_⟩;rw[j];exact .here S e
  ·rw[m];apply⟨C,H,I.tok _,P,k _ _ ?_⟩;rw[j];exact .here S O
def NK{K:FR}{b:Ad}{H:Hp}{h:MH}{v:V}{d:D}(S:bM K b h H)(r:Rep K b H v d)(e:wN d h=true):MR K "dict" v H:=by
 have⟨c,i⟩:=Zn.mp e;have⟨n,a,rfl,hn,rfl,k,us,j,ob,_⟩:=rj S r i;exact .inr (.inr (.inl ⟨rfl,.inr (.inr ⟨_,ob,λw h ⟨_,_,_,_,_,_,_,o,_,_,g,f,_⟩=>⟨o,g,f⟩⟩)⟩))
inductive Ki(K:FR)(o i v:V)(H:Hp)(Q:Hp->Prop):Prop where
 |mk (ρ h a b c h'):bM K ρ h H->Rep K ρ H o a->Rep K ρ H i b->Rep K ρ H v c->(wV a b c h=some h')->(∀ρ' H',cV ρ H ρ' H'->bM K ρ' h' H'->Q H')->Ki K o i v H Q
def R9(K:FR):V->V->V->Hp->(Hp->Prop)->Prop:=λo i v H Q=>Ki K o i v H Q
def Ea(o i:EM):GM:=λv a h=>(o a h).bind λp=>(i a p.2).bind λq=>(wV p.1 q.1 v q.2).map λb=>(a,b)
def _root_.L2.pA.stays{a:Addr}{us:List (Addr×V)}{c:List PyData}{w:World}{h:Heap}(x:pA a us c w h):(∃o,h.get? a=some o)/\∀b d:Heap,pA a us c w b->(∀o,b.get? a=some o->d.get? a=some o)->pA a us c w d:=by
 have⟨_,_,_,_,_,_,_,o,_,_,b,_⟩:=x;exact⟨⟨o,b⟩,λ_ _ ⟨p,n,m,l,g,j,i,o,es,q,f,e⟩ k=>⟨p,n,m,l,g,j,i,o,es,q,k _ f,e⟩⟩
def Lb(hu:X.A.units+64<cLine):MF X (R9 X.K):=by
 intro J s σ H o i v ov iv u Q I ro U rv hh;have⟨t,h,d,e,c,h',S,rd,G,Y,g,k⟩:=hh;cases d <;> first |(cases g;done) |skip
 rename_i n;unfold wV at g;dsimp only at g;cases q:h[n]? with
 |none=>rw[q]at g;cases g
 |some w=>
  rw[q]at g;cases w with
  |lst _=>cases g
  |dct _=>cases g
  |dcH l=>
   dsimp only at g;have⟨r,P,g⟩:=bc g
   by_cases z:l.length<sizeLine
   ·rw[WH z]at g;cases g;have⟨n',a,C,hn,rfl,N,ob⟩:=rj S rd (show vA (.ob n) h=some l by unfold vA;dsimp only;rw[q]);cases C;obtain rfl:ov=Value.ref a:=ro;have⟨us,x,ps,ea,f,dd,y,hz⟩:=Jy I ob;have⟨b,rfl,rfl,Z⟩:=Co I G U P;have⟨ek,hk,R,rfl⟩:=rf P;have⟨j,O⟩:=f.put hk G ek rv Y;have hl:=f.parts;have m:=O.parts;apply wpAny_setItem_heap (knd:=x9 X.prog X.w) (hsz:=by have:=hl.2.2.2.2.2.2;clear hl;lia) (show X.A.in1.units+8<cLine by rw[ZS];lia) Z dd λh2 F hs=>?_;have⟨L,es,ep,M,g2,g3,g4,g5,g6⟩:=F;have T:cV t H t (upd H a (.Kr (pA a j ((storedH x r b u).map (·.1))))):=cV.wrote S (WE N);have p:(lC l r (.tup R) c).length<=sizeLine:=by
     unfold lC
     split
     ·rw[WA];exact XN z
     ·rw[WR];simp;exact z
    have new:pA a j ((storedH x r b u).map (·.1)) X.w h2:=⟨by rw[m.2.2.2.2.2.1];exact p,y,m.2.2.2.1,g6,_,m.2.2.2.2.1,rfl,L,es,ep,M,g2,g3,g4⟩;apply⟨_,kd (ob:=.Kr (pA a j ((storedH x r b u).map (·.1)))) I (by rw[ea];exact True.intro) hs ⟨L,M⟩ ⟨new,L2.pA.stays new⟩,k t _ T (S.wrote N ?_)⟩;have E:=(O.mono T.toCh).parts;exact⟨j,_,aQ,E.1,E.2.1,E.2.2.1⟩
   ·rw[WM z]at g;cases g
def Dt (hr:fh n X.A) (C:SE X o mo) (E:SE X i z) (F:∀v,assign (.Subscript o i pos) X.env v=(do
   let ov<-holding [v] (eval o X.env);let a<-holding [v,ov] (eval i X.env)
   standAt pos
   holding [v,ov,a] (setItem ov a v)
   release [v,ov,a] []):=by intro _;ac_nf):SG X (.Subscript o i pos) (Ea mo z):=
 (HZ C E (Lb hr.units) F).imp λv σ H Q u9=>by
  have⟨s,l,h,d,t,Z,R,S,r,e,k⟩:=u9;obtain⟨⟨x,p⟩,N,M⟩:=bc e;obtain⟨⟨y,m⟩,L,J⟩:=bc M;have⟨Y,I,G⟩:=dX J;cases G;exact⟨s,l,h,x,p,R,S,N,λov H1 ⟨j,c,T,w⟩=>⟨j,l,p,y,m,R.mono c,T,L,λa H2 ⟨g,b,P,u⟩=>
   ⟨g,m,x,y,d,_,P,w.mono b,u,r.mono (c.trans b).toCh,I,λf U q O=>k f U σ (c.trans (b.trans q)) O (R.mono (c.trans (b.trans q)).toCh)⟩⟩⟩
noncomputable def Mf:EM:=λ_ h=>some (.ob h.length,h++[.dcH []])
def Hg:SE X (.Dict [] [] pos) Mf:=by
 rintro pins s σ H Q I ⟨b,c,h,d,f,R,S,e,k⟩;cases e;have hp:H s.heap.objs.size=none:=I.a9.fresh (WJ _);have new:pA s.heap.objs.size [] [] X.w (s.heap.push {cls:=.type "dict",data:=.dict #[]}):=by
  apply⟨Xg _,?_,rfl,Abh,[],.nil,rfl,_,#[],0,WZ _ rfl,⟨rfl,rfl,rfl⟩,rfl,rfl⟩;have:=I.big;simp;exact YI this
 apply wpAny_Dict_empty ⟨.ref s.heap.objs.size,_,I.laid (a:=s.heap.objs.size) (o:=.Kr (pA s.heap.objs.size [] [])) (t':=s.toks) (λ_ _ q=>WC _ q) (WJ _) ⟨new,L2.pA.stays new⟩,rfl,k _ _ ?_⟩;exact⟨b.more _,cV.made S hp,S.made hp ⟨[],[],aQ,.nil,.nil,rfl⟩,.ob (show(b.ob++[s.heap.objs.size])[h.length]?=_ by rw[<-S.len,W4 (WJ _)];simp)⟩
end
end Sm
namespace Sm
open L2 PyProof.Rows
abbrev v0:EM:=aM 0
abbrev v1:EM:=aM 1
abbrev v2:EM:=aM 2
abbrev v3:EM:=aM 3
abbrev v4:EM:=aM 4
abbrev v5:EM:=aM 5
abbrev v6:EM:=aM 6
abbrev v7:EM:=aM 7
abbrev v8:EM:=aM 8
abbrev v9:EM:=aM 9
abbrev v10:EM:=aM 10
abbrev v11:EM:=aM 11
abbrev EO:EM:=aM 12
abbrev Kw:EM:=aM 13
abbrev Uj:EM:=aM 14
abbrev Ro:EM:=aM 15
abbrev ki(i:Int):EM:=eK (.int i)
abbrev ks(x:Str):EM:=eK (.str x)
abbrev a1(x:EM):AM:=af x aV
abbrev a2(x y:EM):AM:=af x (af y aV)
abbrev a3(x y z:EM):AM:=af x (af y (af z aV))
abbrev a4(x y z u:EM):AM:=af x (af y (af z (af u aV)))
section
variable {P:Program} {w:World} {K:FR} {mg:Str->Option Value} {base:Heap} {x qual:Str} {st:Stmt} {f:Addr} {fd:FuncData} {N ps:List Str} {k:Nat}
def ay(F:CZ K x qual st f fd)(b:aw N ps (ah st))(d:∀(a:Value)(A:Around)(outer:List Env)(s:Shared)(H:Hp)(E:XK),fh k (A.deeper (envOfC qual (ah st) s.heap.objs.size f a))->N.Nodup->Kt (AW xm P w K mg base N qual (ah st) f a A outer s H E).Q2 (gD st) body):
  gf P w K mg base xm (k+1) f fd ps (GB K ps.length (gr N.length body)):=P6 F b λc A o s H E hr=>d c A o s H E hr b.nd
end
def RE{c:CmpOp}(g:qt X (compareOp c) f)(i:SE X a e)(h:SE X b d)(hm:behindInMarks c b=false:=by first |exact oN _ |ac_nf):ST X (.Compare a [c] [b] pos) (ao (ag f e d)):=oz g i h hm
def RG{c:CmpOp}(g:qt X (compareOp c) f)(i:SE X a e)(h:SE X b d)(hm:behindInMarks c b=false:=by first |exact oN _ |ac_nf):SE X (.Compare a [c] [b] pos) (ag f e d):=Oa g i h hm
def US{a}(h:SA X es aV):SE X (.Tuple es a pos) (aj aA aV):=c7 h aB
def UR{a}(h:SA X es (af m0 aV)):SE X (.Tuple es a pos) (aj aA (af m0 aV)):=c7 h (ae aB)
def UQ{a}(h:SA X es (af m0 (af b aV))):SE X (.Tuple es a pos) (aj aA (af m0 (af b aV))):=c7 h (ae (ae aB))
def UP{a}(h:SA X es (af m0 (af c (af b aV)))):SE X (.Tuple es a pos) (aj aA (af m0 (af c (af b aV)))):=c7 h (ae (ae (ae aB)))
def UO{a}(h:SA X es (af m0 (af f (af e (af d (af c (af b aV))))))):SE X (.Tuple es a pos) (aj aA (af m0 (af f (af e (af d (af c (af b aV))))))):=c7 h (ae (ae (ae (ae (ae (ae aB))))))
def UX(h:SA X es aV):rp X (.List es pos) aV:=fU h aB
def UW(h:SA X es (af m0 aV)):rp X (.List es pos) (af m0 aV):=fU h (ae aB)
def UU(h:SA X es (af m0 (af a aV))):rp X (.List es pos) (af m0 (af a aV)):=fU h (ae (ae aB))
def UT(h:SA X es (af m0 (af g (af f (af e (af d (af c (af b (af a aV))))))))):rp X (.List es pos) (af m0 (af g (af f (af e (af d (af c (af b (af a aV)))))))):=fU h (ae (ae (ae (ae (ae (ae (ae (ae aB))))))))
end Sm
namespace Hd
open PySem.W PyProof.Rows L2 Sm
def aU{q:Program}{a:List Str}{c:ExcName->Option Value}{mg g:Str->Option Value}{h base:Heap}{P:Program}{w:World}(T:Top q a c mg g h){n:Str}{st:Stmt}(e:(recsOf q).find? (λe=>e.name==n)=some (sN n st)){d:List Str}{k N:Nat}{F:Fn}
  (ok:∀{f:Addr} {b:FuncData},CZ (aL h) n n st f b->keepIn (aL h) (.ref f)=true->Binds (aL h) b d []->mg n=some (.ref f)->gf P w (aL h) mg base xm k f b d (GB (aL h) N F)) (i:∀{f:Addr} {b:FuncData},CZ (aL h) n n st f b->Binds (aL h) b d []:=by walk_at "b"):Df P w (aL h) mg base n k d N F:=Sv T e i ok
end Hd
end
namespace Pg
open PySem Sm L2
abbrev Term:=Str×Int
abbrev Lock:=Str×Term
inductive Row where
 |say (w:Str)
 |call (d:Str) (ts:List Term)
 |within (l:Lock) (b:List Row)
 |all (ls:List Lock) (b:List Row)
 |ask (l:Lock) (b e:List Row)
 |vF (s t:Term) (a b c:List Row)
 |either (a b:List Row)
 |again (a:List Row)
noncomputable def aS(t:Term):D:=.tup [.str t.1,.int t.2]
def aD(l:Lock):D:=.tup [.str l.1,aS l.2]
mutual
noncomputable def aH:Row->D
 |.say w=>.tup [.str "say",.str w]
 |.call d f=>.tup [.str "call",.str d,.tup (f.map aS)]
 |.within l b=>.tup [.str "within",aD l,.tup (cH b)]
 |.all ls b=>.tup [.str "all",.tup (ls.map aD),.tup (cH b)]
 |.ask l b e=>.tup [.str "ask",aD l,.tup (cH b),.tup (cH e)]
 |.vF s t a b c=>.tup [.str "by",aS s,aS t,.tup (cH a),.tup (cH b),.tup (cH c)]
 |.either a b=>.tup [.str "either",.tup (cH a),.tup (cH b)]
 |.again a=>.tup [.str "again",.tup (cH a)]
noncomputable def cH:List Row->List D
 |[]=>[]
 |r::rs=>aH r::cH rs
end
theorem fY:∀l:List Row,cH l=l.map aH
 |[]=>by simp[cH]
 |r::rs=>by simp[cH,fY rs]
mutual
noncomputable def cnt:Row->Nat
 |.say _=>1
 |.call _ _=>1
 |.within _ b=>1+aY b
 |.all _ b=>1+aY b
 |.ask _ b e=>1+aY b+aY e
 |.vF _ _ a b c=>1+aY a+aY b+aY c
 |.either a b=>1+aY a+aY b
 |.again a=>1+aY a
noncomputable def aY:List Row->Nat
 |[]=>0
 |r::rs=>cnt r+aY rs
end
theorem AY:∀a b:List Row,aY (a++b)=aY a+aY b
 |[],b=>by simp[aY]
 |r::a,b=>by simp[aY,AY a b];lia
structure Wd where
 names:List Str
 au:List Str
 params:List (List Str)
def fb(a:List Str)(t:Term):Prop:=(t.1=Str.ofString ""\/t.1∈a)/\-99<=t.2/\t.2<=99
def fE(W:Wd)(a:List Str)(l:Lock):Prop:=l.1∈W.names/\fb a l.2
mutual
def bh(W:Wd)(f:List Str):Nat->Row->Prop
 |_,.say w=>w∈W.names++W.au
 |_,.call d g=>(∃(j:Nat)(h:List Str),W.au[j]?=some d/\W.params[j]?=some h/\g.length=h.length)/\∀t∈g,fb f t
 |n,.within l b=>fE W f l/\n<5/\b.length<=12/\bK W f (n+1) b
 |n,.all ls b=>(2<=ls.length/\ls.length<=4/\ls.Nodup/\∀l∈ls,fE W f l)/\n<5/\b.length<=12/\bK W f (n+1) b
 |n,.ask l b e=>fE W f l/\n<5/\b.length<=12/\e.length<=12/\bK W f (n+1) b/\bK W f (n+1) e
 |n,.vF s t a b c=>fb f s/\fb f t/\n<5/\a.length<=12/\b.length<=12/\c.length<=12/\bK W f (n+1) a/\bK W f (n+1) b/\bK W f (n+1) c
 |n,.either a b=>n<5/\a.length<=12/\b.length<=12/\bK W f (n+1) a/\bK W f (n+1) b
 |n,.again a=>n<5/\a.length<=12/\bK W f (n+1) a
def bK(W:Wd)(a:List Str):Nat->List Row->Prop
 |_,[]=>True
 |n,r::rs=>bh W a n r/\bK W a n rs
end
theorem wz{W:Wd}{c:List Str}{n:Nat}:∀{a b:List Row},bK W c n a->bK W c n b->bK W c n (a++b)
 |[],b,_,h=>h
 |r::a,b,h,d=>by
  unfold bK at h;show bK W c n (r::(a++b));unfold bK;exact⟨h.1,wz h.2 d⟩
theorem oM{W:Wd}{c:List Str}{n:Nat}:∀{a:List Row},bK W c n a->∀r∈a,bh W c n r
 |[],_,_,z=>by cases z
 |r::a,h,x,b=>by
  unfold bK at h;rcases WV.mp b with rfl |b
  ·exact h.1
  ·exact oM h.2 x b
end Pg
set_option hygiene false in
local macro_rules | `(tactic| ac_rfl) => do {let t <- (("|Sm.sv _|Sm.bt|Sm.ar|Sm.aa ? ?|Sm.ab ? ?|Sm.aF ?|Sm.br ?|Sm.sset _ @ ?|Sm.cB ? ? ?|Sm.cu|Sm.six hr ? ?|Sm.gn @ hr ?|Sm.bJ|Sm.BG|Sm.MW|Sm.UQ ?|Sm.UR ?|Sm.UP ?|Sm.US ?|Sm.stp4 ?|Sm.stp5 ?|Sm.UO ?|Sm.RE ? ? ?|Sm.b7 ? ? ?|Sm.dS|Sm.Iq hr.units|Sm.Ip hr.units|Sm.Sk|Sm.Sl|Sm.os_le|Sm.M7|Sm.O8|Sm.Lw|Sm.M6 hr.units|Sm.Io hr.units|Sm.Ik|Sm.sY|Sm.MV Sm.GO ?|Sm.He ? ? ?|Sm.Dq|Sm.Dn ?|Sm.eX ? ?|Sm.rN rfl ?|Sm.cZ ? ?|Sm.jK|Sm.sgn _ @|Sm.Du Sm.Ql B.Tu Sm.QD ?|Sm.GC Sm.dJ B.dU Sm.cI ?|Sm.rK ?|Sm.G2 ?|Sm.RL ? ? ?|Sm.jJ ?|Sm.xH Sm.iZ PySem.F.plainAttrs_list PySem.F.slot_list_append PySem.F.type_list_append Sm.gY ? ?|Sm.RJ Sm.iZ PySem.F.plainAttrs_list PySem.F.slot_list_pop PySem.F.type_list_pop Sm.Pw ?|Sm.rp.lv ?|Sm.rp.ob ?|Sm.UX ?|Sm.UW ?|Sm.UU ?|Sm.sfl3 ?|Sm.sfl4 ?|Sm.sfl5 ?|Sm.sfl6 ?|Sm.sfl7 ?|Sm.UT ?|Sm.xy ? ?|Sm.MS ? ?|Sm.qQ ?|Sm.NW ?|Sm.cX PassesOwn.never rfl ? ? ?|Sm.fB ?|Sm.NZ|Sm.Du Sm.Qk~rfl B.Tt Sm.QC ?|Sm.Du Sm.Qj~rfl B.Ts Sm.QB ?|Sm.GC Sm.JD B.JX Sm.CP ?|Sm.Du Sm.Qo B.Tx Sm.QG ?|Sm.RG ? ? ?|Sm.SW.st ?".splitOn "|").drop 1).toArray.mapM (λl => do {let x <- (l.splitOn " ").toArray.mapM (λz => if z == "?" then `(?_) else if z == "_" then `(_) else if z == "@" then `(‹_›) else(let y := (z.splitOn "~").toArray.map (λw => (Lean.mkIdent w.toName : Lean.TSyntax `term));pure (Lean.Syntax.mkApp y[0]! (y.extract 1 y.size))));`(Lean.Parser.Tactic.tacticSeq| refine $(Lean.Syntax.mkApp x[0]! (x.extract 1 x.size)) <;> ac_rfl)});`(tactic| with_reducible first $[| $t]*)}
local macro_rules | `(tactic| walk_at "v") => `(tactic|(conv => arg 2;whnf))
local macro_rules | `(tactic| walk_at "u") => `(tactic|(walk_at "v";ac_rfl))
namespace Mi
open PySem L2 Sm PySem.Spec PyProof.Rows
local macro_rules | `(tactic| walk_at "b") => `(tactic| first | exactλF => F.binds λ_ _ _ _ _ _ => Hd.u1 (λ_ => rfl) | exactλF => F.binds λ_ _ _ _ _ _ => Hd.u2 (λ_ _ => rfl) | exactλF => F.binds λ_ _ _ _ _ _ => Hd.u3 (λ_ _ _ => rfl) | exactλF => F.binds λ_ _ _ _ _ _ => Hd.u4 (λ_ _ _ _ => rfl) | exactλF => F.binds λ_ _ _ _ _ _ => Hd.u5 (λ_ _ _ _ _ => rfl) | exactλF => F.binds λ_ _ _ _ _ _ => Hd.u6 (λ_ _ _ _ _ _ => rfl) | exactλF => F.binds λ_ _ _ _ _ _ => Hd.u7 (λ_ _ _ _ _ _ _ => rfl))
structure Bs(P:Program)(w:World)(K:FR)(mg:Str->Option Value):Prop where
 Tx:mg "abs"=none
 Tw:mg "all"=none
 Tv:mg "any"=none
 QJ:mg "bool"=none
 QI:mg "dict"=none
 fw:mg "enumerate"=none
 JX:mg "int"=none
 dA:mg "isinstance"=none
 Tu:mg "len"=none
 JW:mg "list"=none
 Tt:mg "max"=none
 Ts:mg "min"=none
 cG:mg "range"=none
 Tr:mg "set"=none
 nN:mg "sorted"=none
 Nq:mg "str"=none
 dU:mg "tuple"=none
 Np:mg "zip"=none
 Kg:Tab P w K mg "SHAPES" jI
abbrev Rc(x:Str)(s:Stmt):Prop:=(recsOf view).find? (λe=>e.name==x)=some (Hd.sN x s)
abbrev mJ:Stmt:=top 20
abbrev nq:List Str:=["_law_script"]
def uN:aw ["_law_script"] nq (ah mJ):=by walk_at "s"
def sL:Rc "_law_drawn" mJ:=by ac_nf
def fR:Fn:=gr 1
  (aP (CB (a3 (ki 0) (CB (Kf (a1 (g8 v0 wu (wx (ki 63)))))) (ki 0))))
abbrev pL:Stmt:=top 21
abbrev pY:List Str:=["_law_state"]
def il:aw ["_law_state","_law_cells","_law_tour","_law_cell","_law_mixed"] pY (ah pL):=by walk_at "s"
def uV:Rc "_law_load" pL:=by ac_nf
def jF:Fn:=gr 5
  (ai (aJ 1 (ag ax v0 (ki 1)))
  (ai (aJ 2 (ag ax v0 (ki 2)))
  (ai (fC (ag aN v2 (ki 1)) (vt v0 (ki 2)))
  (ai (aJ 3 (ki 0))
  (ai (eS (ao (ag g7 v1 (fz aV))) (aJ 3 (ag ax v1 (ag tU v2 (aj cz (a1 v1))))) bV)
  (eS (ib (ao (ag Nh v2 (aj cz (a1 v1)))) (ao (ag Q5 (aj Qb (a1 v3)) (ag L7 (ki 10) (ki 18))))) (fC (aj Qb (a1 v3)) (vt v0 (ki 0))) (ai (aJ 4 (ag tU (ag jr (ag aN (ag aN (ag tU v3 (ki 2305843009213693951)) (ag jr (ag jr (ki 7919) v2) v2)) (ki 11)) (ki 48271)) (ki 2305843009213693951)))
  (ai (aJ 4 (ag tU (ag jr v4 v4) (ki 2305843009213693921)))
  (fC (ag aN (ag tU (ag aN (ag aN (ag jr v4 (ki 69621)) v2) (ki 104729)) (ki 2305843009213693951)) (ag L7 (ki 10) (ki 9))) (vt v0 (ki 0)))))))))))
abbrev pI:Stmt:=top 22
abbrev pV:List Str:=["_law_state","_law_many"]
def xO:aw ["_law_state","_law_many","_law_found"] pV (ah pI):=by walk_at "s"
def uS:Rc "_law_next" pI:=by ac_nf
def aI:Fn:=gr 3
  (ai (eS (ao (ag Nh (ag ax v0 (ki 0)) v1)) (b8 (aj jF (a1 v0))) bV)
  (ai (aJ 2 (ag tU (ag ax v0 (ki 0)) v1))
  (ai (fC (ag Jn (ag ax v0 (ki 0)) v1) (vt v0 (ki 0)))
  (aP v2))))
abbrev vX:Stmt:=top 23
abbrev wt:List Str:=["_law_state","_law_some"]
def BL:aw ["_law_state","_law_some"] wt (ah vX):=by walk_at "s"
def zX:Rc "_law_of" vX:=by ac_nf
def aG:Fn:=gr 2
  (aP (ag ax v1 (aj aI (a2 v0 (aj cz (a1 v1))))))
abbrev mC:Stmt:=top 24
abbrev mZ:List Str:=["_law_state","_law_many"]
def kC:aw ["_law_state","_law_many","_law_letters","_law_stem","_law_k","_law_at","_law_first","_law_stride"] mZ (ah mC):=by walk_at "s"
def sE:Rc "_law_words" mC:=by ac_nf
def eQ:Fn:=gr 8
  (ai (aJ 2 (ks "abcdefghijklmnopqrstuvwxyz"))
  (ai (aJ 3 (ks ""))
  (ai (gV (jn (a1 (aj aG (a2 v0 (eK (.lv [.int 0,.int 1,.int 1,.int 2,.int 3,.int 6])))))) (gN 4) (aJ 3 (ag aN v3 (ag ax v2 (aj aI (a2 v0 (ki 26)))))))
  (ai (aJ 5 (aj aI (a2 v0 (ag aN (aj cz (a1 v3)) (ki 1)))))
  (ai (aJ 6 (aj aI (a2 v0 (ki 26))))
  (ai (aJ 7 (aj aG (a2 v0 (eK (.lv [.int 1,.int 3,.int 5,.int 7,.int 9,.int 11])))))
  (aP (fz (cj [none,some 5,some 6,some 2,some 3,some 7] (jn (a1 v1)) (gN 0) bI (ag aN (ag aN (g8 v4 wu (wx v1)) (ag ax v3 (ag tU (ag aN v2 (ag jr v5 v0)) (ki 26)))) (g8 v4 (wx v1) wu)))))))))))
abbrev mB:Stmt:=top 25
abbrev mY:List Str:=["_law_state","_law_most","_law_odd"]
def cL:aw ["_law_state","_law_most","_law_odd","_law_names","_law_deeds","_law_params","_law_many","_law_floors"] mY (ah mB):=by walk_at "s"
def sD:Rc "_law_world" mB:=by ac_nf
def iM:Fn:=gr 8
  (ai (aJ 3 (aj eQ (a2 v0 (aj aG (a2 v0 (eK (.lv [.int 1,.int 2,.int 2,.int 3,.int 4,.int 6])))))))
  (ai (aJ 4 (aj eQ (a2 v0 (aj aG (a2 v0 (eK (.lv [.int 1,.int 1,.int 2,.int 2,.int 3,.int 4,.int 6])))))))
  (ai (aJ 5 (aj eQ (a2 v0 (ki 3))))
  (ai (aJ 6 (fz (cj [none,some 0] (fe v4) (gN 0) bI (aj aG (a2 v1 (eK (.lv [.int 0,.int 1,.int 1,.int 2,.int 2,.int 3])))))))
  (ai (aJ 7 (aj Jk (a1 (fz (cj [none,some 3,some 0] (fe v4) (gN 0) bI (aj aI (a2 v2 (aj cz (a1 v1)))))))))
  (ai (aJ 5 (fz (cj [none,some 5] (fe v6) (gN 0) bI (g8 v1 wu (wx v0)))))
  (aP (tY (dB (ks "names") v3 (dB (ks "deeds") v4 (dB (ks "params") v5 (dB (ks "floors") v7 (dB (ks "left") v1 (dB (ks "odd") v2 Ih))))))))))))))
abbrev kI:Stmt:=top 26
abbrev kP:List Str:=["_law_state","_law_world_here"]
def rT:aw ["_law_state","_law_world_here"] kP (ah kI):=by walk_at "s"
def qy:Rc "_law_is_odd" kI:=by ac_nf
def dP:Fn:=gr 2
  (aP (yV (ag F7 (ag ax v1 (ks "odd")) (ki 0)) (ag bx (aj aI (a2 v0 (ag ax v1 (ks "odd")))) (ki 0))))
abbrev pG:Stmt:=top 27
abbrev pU:List Str:=["_law_state","_law_params"]
def xM:aw ["_law_state","_law_params","_law_far"] pU (ah pG):=by walk_at "s"
def uR:Rc "_law_term" pG:=by ac_nf
def bT:Fn:=gr 3
  (ai (aJ 2 (ag yM (aj aI (a2 v0 (ki 81))) (ki 40)))
  (ai (eS (ib (ao (ag F7 (aj cz (a1 v1)) (ki 0))) (ao (ag F7 (aj aI (a2 v0 (ki 5))) (ki 0)))) (aP (aj aA (a2 (aj aG (a2 v0 v1)) (aj aG (a2 v0 (fz (af (ki 0) (af (ki 0) (af (ki 0) (af (ki 0) (af (ki 1) (a4 (ki 1) (jw dG (ki 1)) (ki 2) v2)))))))))))) bV)
  (aP (aj aA (a2 (ks "") (aj aG (a2 v0 (fz (af (ki 0) (af (ki 0) (af (ki 1) (af (ki 1) (a4 (ki 2) (ki 3) (jw dG (ki 1)) v2)))))))))))))
abbrev pO:Stmt:=top 29
abbrev p5:List Str:=["_law_state","_law_world_here","_law_deed","_law_top"]
def fJ:aw ["_law_state","_law_world_here","_law_deed","_law_top","_law_some","_law_other","_law_terms"] p5 (ah pO):=by walk_at "s"
def uY:Rc "_law_call" pO:=by ac_nf
def gG:Fn:=gr 7
  (ai (aJ 4 (fz (cj [none,some 2,some 3,some 1] (jn (a1 (aj cz (a1 (ag ax v1 (ks "deeds")))))) (gN 0) (ib (ao (ag F7 (ag ax (ag ax v3 (ks "floors")) v0) v2)) (ao (ag Q5 v0 v1))) v0)))
  (ai (eS (lZ (aj dP (a2 v0 v1))) (aJ 4 (fz (QL (a1 (aj cz (a1 (ag ax v1 (ks "deeds")))))))) bV)
  (ai (eS (ao (ag bx v4 (fz aV))) (aP (aj aA (a2 (ks "say") (ag ax (ag ax v1 (ks "deeds")) v2)))) bV)
  (ai (aJ 5 (aj aG (a2 v0 v4)))
  (ai (aJ 6 (fz (cj [none,some 2,some 0,some 1] (fe (ag ax (ag ax v1 (ks "params")) v5)) (gN 0) bI (aj bT (a2 v2 (ag ax (ag ax v3 (ks "params")) v1))))))
  (aP (aj aA (a3 (ks "call") (ag ax (ag ax v1 (ks "deeds")) v5) (aj bw (a1 v6))))))))))
abbrev pK:Stmt:=top 28
abbrev pX:List Str:=["_law_state","_law_world_here","_law_deed","_law_top","_law_held_here"]
def mn:aw ["_law_state","_law_world_here","_law_deed","_law_top","_law_held_here","_law_low","_law_at","_law_name","_law_same_here","_law_word","_law_more"] pX (ah pK):=by walk_at "s"
def uU:Rc "_law_lock" pK:=by ac_nf
def fy:Fn:=gr 11
  (ai (aJ 5 (aj vz (a2 v3 (ag ax (ag ax v1 (ks "floors")) v2))))
  (ai (eS (ao (ag bx v5 (aj cz (a1 (ag ax v1 (ks "names")))))) (aP (aj aA (a2 (eK .bg) (eK .bg)))) bV)
  (ai (aJ 6 (ag aN v5 (aj aI (a2 v0 (ag yM (aj cz (a1 (ag ax v1 (ks "names")))) v5)))))
  (ai (eS (lZ (aj dP (a2 v0 v1))) (aJ 6 (aj aI (a2 v0 (aj cz (a1 (ag ax v1 (ks "names"))))))) bV)
  (ai (aJ 7 (ag ax (ag ax v1 (ks "names")) v6))
  (ai (aJ 8 (fz (cj [none,some 7] (fe v4) (gN 0) (ao (ag bx (ag ax v0 (ki 0)) v1)) (ag ax v0 (ki 1)))))
  (ai (eS (ib (ao (ag g7 v8 (fz aV))) (zC (lZ (aj dP (a2 v0 v1))))) (ai (fC (ag ax v8 (jw dG (ki 1))) (gT 2 (ak (gN 9) (ak (gN 10) bE))))
  (aP (aj aA (a2 v6 (aj aA (a2 v7 (aj aA (a2 v9 (aj F5 (a2 (ki 99) (ag aN (ag aN v10 (ki 1)) (aj aI (a2 v0 (ki 2)))))))))))))) bV)
  (aP (aj aA (a2 v6 (aj aA (a2 v7 (aj bT (a2 v0 (ag ax (ag ax v1 (ks "params")) v2)))))))))))))))
abbrev rZ:Stmt:=top 33
abbrev lE:List Str:=["_law_state","_law_world_here","_law_deed","_law_deep","_law_top","_law_held_here","_law_most"]
def zO:aw ["_law_state","_law_world_here","_law_deed","_law_deep","_law_top","_law_held_here","_law_most","_law_rows","_law_k"] lE (ah rZ):=by walk_at "s"
def mQ:Rc "_law_lot" rZ:=by ac_nf
abbrev rY:Stmt:=top 32
abbrev lD:List Str:=["_law_state","_law_world_here","_law_deed","_law_deep","_law_top","_law_held_here"]
def c8:aw ["_law_state","_law_world_here","_law_deed","_law_deep","_law_top","_law_held_here","_law_way","_law_one","_law_other","_law_lots_here","_law_sort"] lD (ah rY):=by walk_at "s"
def mO:Rc "_law_row" rY:=by ac_nf
abbrev kH:Stmt:=top 31
abbrev gJ:List Str:=["_law_state","_law_world_here","_law_deed","_law_deep","_law_top","_law_held_here","_law_way"]
def c9:aw ["_law_state","_law_world_here","_law_deed","_law_deep","_law_top","_law_held_here","_law_way","_law_at","_law_lock_here","_law_some","_law_high","_law_turn","_law_low","_law_other","_law_lot_here"] gJ (ah kH):=by walk_at "s"
def iU:Rc "_law_locked" kH:=by ac_nf
abbrev iT:Stmt:=top 30
abbrev fD:List Str:=["_law_state","_law_world_here","_law_deed","_law_deep","_law_top","_law_held_here"]
def dw:aw ["_law_state","_law_world_here","_law_deed","_law_deep","_law_top","_law_held_here","_law_low","_law_name","_law_one","_law_other","_law_lots_here","_law_first","_law_second","_law_inner"] fD (ah iT):=by walk_at "s"
def gy:Rc "_law_two_ways" iT:=by ac_nf
mutual
noncomputable def bG:Nat->Fn
 | 0=>λ_ _=>none
 |n+1=>LB 9
  (ai (aJ 7 (CB aV))
  (ai (gV (jn (a1 (aj aI (a2 v0 (ag aN (aj aG (a2 v0 (ag aN (ag L6 (fz (a1 v6)) (ki 15)) (fz (a1 (ki 12)))))) (ki 1)))))) (gN 8) (eS (ao (ag F7 (ag ax v1 (ks "left")) (ki 0))) (ai (fC (ag yM (ag ax v1 (ks "left")) (ki 1)) (vt v1 (ks "left")))
  (b8 (eM bL bu v7 (a1 (aj (gh n) (af v0 (af v1 (a4 v2 v3 v4 v5)))))))) bV))
  (aP (aj bw (a1 v7)))))
noncomputable def gh:Nat->Fn
 | 0=>λ_ _=>none
 |n+1=>gr 11
  (ai (aJ 6 (aj aI (a2 v0 (ki 16))))
  (ai (eS (Dg (ao (ag Nh v6 (ki 2))) (ib (ao (ag bx v3 (ki 5))) (ao (ag Nh v6 (ki 11))))) (aP (aj aA (a2 (ks "say") (aj aG (a2 v0 (ag aN (ag ax v1 (ks "names")) (ag ax v1 (ks "deeds")))))))) bV)
  (ai (eS (Dg (ao (ag F7 v6 (ki 12))) (ao (ag bx v3 (ki 5)))) (aP (aj gG (a4 v0 v1 v2 v4))) bV)
  (ai (eS (ib (ao (ag bx v6 (ki 12))) (ib (ao (ag Nh v3 (ki 3))) (ao (ag F7 (ag ax v1 (ks "left")) (ki 5))))) (aP (aj (cJ n) (af v0 (af v1 (a4 v2 v3 v4 v5))))) bV)
  (ai (eS (Dg (ao (ag bx v6 (ki 11))) (ao (ag bx v6 (ki 12)))) (ai (BM 7 8 (a2 (aj bT (a2 v0 (ag ax (ag ax v1 (ks "params")) v2))) (aj bT (a2 v0 (ag ax (ag ax v1 (ks "params")) v2)))))
  (ai (aJ 9 (fz (cj [none,some 2,some 3,some 5,some 0,some 4,some 1] (jn (a1 (ki 3))) (gN 0) bI (aj (bG n) (af v4 (af v6 (af v1 (a4 (ag aN v2 (ki 1)) v5 v3 (ki 2)))))))))
  (aP (ag aN (aj aA (a3 (ks "by") v7 v8)) (aj bw (a1 v9)))))) bV)
  (ai (eS (ao (ag bx v6 (ki 10))) (ai (aJ 9 (fz (cj [none,some 2,some 3,some 5,some 0,some 4,some 1] (jn (a1 (ki 2))) (gN 0) bI (aj (bG n) (af v4 (af v6 (af v1 (a4 (ag aN v2 (ki 1)) v5 v3 (ki 2)))))))))
  (aP (ag aN (aj aA (a1 (ks "either"))) (aj bw (a1 v9))))) bV)
  (ai (eS (ao (ag bx v6 (ki 9))) (aP (aj aA (a2 (ks "again") (aj (bG n) (af v0 (af v1 (af v2 (a4 (ag aN v3 (ki 1)) v4 v5 (ki 2))))))))) bV)
  (ai (aJ 10 (aj aG (a2 v0 (eK (.lv [.str "within",.str "within",.str "within",.str "within",.str "ask",.str "all"])))))
  (aP (aj (dO n) (af v0 (af v1 (af v2 (a4 v3 v4 v5 v10))))))))))))))
noncomputable def dO:Nat->Fn
 | 0=>λ_ _=>none
 |n+1=>LB 15
  (ai (fC (aj fy (af v0 (a4 v1 v2 v4 v5))) (gT 2 (ak (gN 7) (ak (gN 8) bE))))
  (ai (eS (ao (ag tW v7 (eK .bg))) (aP (aj aA (a2 (ks "say") (ag ax (ag ax v1 (ks "deeds")) v2)))) bV)
  (ai (eS (ao (ag bx v6 (ks "all"))) (ai (BM 9 10 (a2 (CB (a1 v8)) v7))
  (ai (gV (jn (a1 (aj aG (a2 v0 (eK (.lv [.int 1,.int 1,.int 2,.int 3])))))) (gN 11) (ai (fC (aj fy (af v0 (a4 v1 v2 v4 v5))) (gT 2 (ak (gN 12) (ak (gN 13) bE))))
  (ai (aJ 10 (aj vz (a2 v10 EO)))
  (aJ 9 (CB (QM v9 (ag L6 (fz (a1 Kw)) (aj o6 (a1 (ag lL Kw v9))))))))))
  (ai (eS (ao (ag bx (aj cz (a1 v9)) (ki 1))) (b8 (eM bL bu v9 (a1 (aj aA (a2 (ag ax v8 (ki 0)) (aj aA (a2 (ag ax (ag ax v8 (ki 1)) (ki 0)) (ag yM (ag aN (ag ax (ag ax v8 (ki 1)) (ki 1)) (ki 1)) (ag jr (ki 2) (aj o6 (a1 (ag F7 (ag ax (ag ax v8 (ki 1)) (ki 1)) (ki 90))))))))))))) bV)
  (ai (aJ 10 (ag aN v10 (aj o6 (a1 (ag bx (ag ax v1 (ks "odd")) (ki 0))))))
  (aP (aj aA (a3 (ks "all") (aj bw (a1 v9)) (aj (bG n) (af v0 (af v1 (af v2 (a4 (ag aN v3 (ki 1)) (aj vz (a2 v4 v10)) (ag aN v5 v9) (ki 3))))))))))))) bV)
  (ai (aJ 14 (aj (bG n) (af v0 (af v1 (af v2 (a4 (ag aN v3 (ki 1)) (aj vz (a2 v4 v7)) (ag aN v5 (fz (a1 v8))) (ki 3)))))))
  (ai (eS (ao (ag bx v6 (ks "ask"))) (aP (aj aA (a4 (ks "ask") v8 Uj (aj (bG n) (af v0 (af v1 (af v2 (a4 (ag aN v3 (ki 1)) v4 v5 (ki 2))))))))) bV)
  (aP (aj aA (a3 (ks "within") v8 Uj))))))))
noncomputable def cJ:Nat->Fn
 | 0=>λ_ _=>none
 |n+1=>LB 14
  (ai (aJ 6 (aj vz (a2 v4 (ag ax (ag ax v1 (ks "floors")) v2))))
  (ai (eS (ao (ag bx v6 (aj cz (a1 (ag ax v1 (ks "names")))))) (aP (aj aA (a2 (ks "say") (ag ax (ag ax v1 (ks "deeds")) v2)))) bV)
  (ai (eS (ao (ag g7 (fz (cj [none,some 6,some 1] (fe v5) (gN 0) (ao (ag bx (ag ax v0 (ki 0)) (ag ax (ag ax v2 (ks "names")) v1))) v0)) (fz aV))) (aP (aj aA (a2 (ks "say") (ag ax (ag ax v1 (ks "deeds")) v2)))) bV)
  (ai (aJ 7 (ag ax (ag ax v1 (ks "names")) v6))
  (ai (fC (ag yM (ag ax v1 (ks "left")) (ki 5)) (vt v1 (ks "left")))
  (ai (BM 8 9 (a2 (aj bT (a2 v0 (ag ax (ag ax v1 (ks "params")) v2))) (aj bT (a2 v0 (ag ax (ag ax v1 (ks "params")) v2)))))
  (ai (aJ 10 (CB aV))
  (ai (gV (fe (fz (a2 (aj aA (a2 v8 v9)) (aj aA (a2 v9 v8))))) (gT 2 (ak (gN 11) (ak (gN 12) bE))) (ai (aJ 13 (aj (bG n) (af v0 (af v1 (af v2 (a4 (ag aN v3 (ki 3)) v6 (ag aN v5 (fz (a2 (aj aA (a2 v7 v11)) (aj aA (a2 v7 EO))))) (ki 2)))))))
  (b8 (eM bL bu v10 (a1 (aj aA (a1 (aj aA (a3 (ks "within") (aj aA (a2 v7 v11)) (aj aA (a1 (aj aA (a3 (ks "within") (aj aA (a2 v7 EO)) Kw)))))))))))))
  (aP (aj aA (af (ks "by") (af v8 (a4 v9 (ag ax v10 (ki 0)) (aj aA (a1 (aj aA (a3 (ks "within") (aj aA (a2 v7 v8)) (aj aA aV))))) (ag ax v10 (ki 1)))))))))))))))
end
abbrev i8:Stmt:=top 34
abbrev ji:List Str:=["_law_state","_law_most","_law_odd"]
def iS:aw ["_law_state","_law_most","_law_odd","_law_world_here","_law_deeds","_law_k","_law_deed","_law_rows"] ji (ah i8):=by walk_at "s"
def oG:Rc "_law_program" i8:=by ac_nf
def gj:Fn:=LB 8
  (ai (aJ 3 (aj iM (a3 v0 v1 v2)))
  (ai (aJ 4 (CB aV))
  (ai (gV (tN (a1 (ag ax v3 (ks "deeds")))) (gT 2 (ak (gN 5) (ak (gN 6) bE))) (ai (aJ 7 (aj (bG 20) (af v0 (af v3 (af v5 (a4 (ki 1) (jw dG (ki 1)) (fz aV) (aj aG (a2 v0 (eK (.lv [.int 1,.int 2,.int 3,.int 4,.int 12]))))))))))
  (b8 (eM bL bu v4 (a1 (aj aA (a3 v6 (aj bw (a1 (ag ax (ag ax v3 (ks "params")) v5))) v7)))))))
  (aP (aj aA (a2 (aj bw (a1 (aj Jj (a1 (ag ax v3 (ks "names")))))) (aj bw (a1 v4))))))))
abbrev pE:Stmt:=top 35
abbrev pS:List Str:=["_law_state","_law_program_here","_law_most"]
def xJ:aw ["_law_state","_law_program_here","_law_most","_law_town_here","_law_k","_law_deed","_law_params","_law_rows","_law_far"] pS (ah pE):=by walk_at "s"
def uP:Rc "_law_town" pE:=by ac_nf
def jD:Fn:=LB 9
  (ai (aJ 3 (CB aV))
  (ai (gV (jn (a1 (ag aN (ki 1) (aj aI (a2 v0 v2))))) (gN 4) (ai (fC (aj aG (a2 v0 (ag ax v1 (ki 1)))) (gT 3 (ak (gN 5) (ak (gN 6) (ak (gN 7) bE)))))
  (ai (aJ 8 (ag yM (aj aI (a2 v0 (ki 199))) (ki 99)))
  (b8 (eM bL bu v3 (a1 (aj aA (a2 v5 (aj bw (a1 (fz (cj [none,some 8,some 0] (fe v6) (gN 0) bI (aj aG (a2 v2 (fz (af (jw dG (ki 2)) (af (jw dG (ki 1)) (af (ki 0) (af (ki 0) (af (ki 1) (a4 (ki 1) (ki 2) (ki 3) v1)))))))))))))))))))))
  (aP (aj bw (a1 v3)))))
abbrev pJ:Stmt:=top 36
abbrev pW:List Str:=["_law_row_here"]
def xP:aw ["_law_row_here"] pW (ah pJ):=by walk_at "s"
def uT:Rc "_law_lots" pJ:=by ac_nf
def jE:Fn:=gr 1
  (aP (eM IZ Sx (Nj (dB (ks "within") (g8 v0 (wx (ki 2)) wu) (dB (ks "all") (g8 v0 (wx (ki 2)) wu) (dB (ks "ask") (g8 v0 (wx (ki 2)) wu) (dB (ks "by") (g8 v0 (wx (ki 3)) wu) (dB (ks "either") (g8 v0 (wx (ki 1)) wu) (dB (ks "again") (g8 v0 (wx (ki 1)) wu) Ih))))))) (a2 (ag ax v0 (ki 0)) (aj aA aV))))
abbrev mF:Stmt:=top 37
abbrev ix:List Str:=["_law_rows","_law_ahead","_law_table_here"]
def uJ:aw ["_law_rows","_law_ahead","_law_table_here","_law_k","_law_row_here","_law_lot_here","_law_inner"] ix (ah mF):=by walk_at "s"
def ja:Rc "_law_table" mF:=by ac_nf
def ck:Nat->Fn
 | 0=>λ_ _=>none
 |n+1=>gr 7
  (ai (fC (aj cz (a1 v0)) (Ea (ag ax v2 (ks "size")) v1))
  (ai (gV (tN (a1 v0)) (gT 2 (ak (gN 3) (ak (gN 4) bE))) (ai (fC v4 (Ea (ag ax v2 (ks "row")) (ag aN v1 (aj aA (a1 v3)))))
  (gV (tN (a1 (aj jE (a1 v4)))) (gT 2 (ak (gN 5) (ak (gN 6) bE))) (b8 (aj (ck n) (a3 v6 (ag aN v1 (aj aA (a2 v3 v5))) v2))))))
  (aP v2)))
abbrev kF:Stmt:=top 38
abbrev kN:List Str:=["_law_program_here"]
def rQ:aw ["_law_program_here"] kN (ah kF):=by walk_at "s"
def qw:Rc "_law_tables" kF:=by ac_nf
def gR:Fn:=gr 1
  (aP (fz (cj [none] (fe (ag ax v0 (ki 1))) (gN 0) bI (aj (ck 8) (a3 (ag ax v0 (ki 2)) (aj aA aV) (tY (dB (ks "size") Mf (dB (ks "row") Mf Ih))))))))
abbrev kG:Stmt:=top 39
abbrev kO:List Str:=["_law_path"]
def rR:aw ["_law_path"] kO (ah kG):=by walk_at "s"
def qx:Rc "_law_onward" kG:=by ac_nf
def bH:Fn:=gr 1
  (aP (ag aN (g8 v0 wu (wx (jw dG (ki 1)))) (aj aA (a1 (ag aN (ag ax v0 (jw dG (ki 1))) (ki 1))))))
abbrev i7:Stmt:=top 40
abbrev jg:List Str:=["_law_tables_here","_law_frames"]
def iR:aw ["_law_tables_here","_law_frames","_law_deed","_law_known","_law_path","_law_word","_law_below","_law_numbers","_law_at"] jg (ah i7):=by walk_at "s"
def oF:Rc "_law_settled" i7:=by ac_nf
def b5:Fn:=gr 9
  (ai (ia (ib (ao (ag g7 v1 (fz aV))) (ao (ag bx (ag ax (ag ax (ag ax v1 (jw dG (ki 1))) (ki 2)) (jw dG (ki 1))) (ag AN (ag ax (ag ax v0 (ag ax (ag ax v1 (jw dG (ki 1))) (ki 0))) (ks "size")) (g8 (ag ax (ag ax v1 (jw dG (ki 1))) (ki 2)) wu (wx (jw dG (ki 1)))))))) (ai (fC (eM bL Au v1 aV) (gT 3 (ak (gN 2) (ak (gN 3) (ak (gN 4) bE)))))
  (eS (ao (ag F7 (aj cz (a1 v4)) (ki 1))) (ai (aJ 5 (ag ax (ag AN (ag ax (ag ax v0 v2) (ks "row")) (g8 v4 wu (wx (jw dG (ki 2))))) (ki 0)))
  (ai (eS (Dg (ao (ag yS v5 (aj aA (a2 (ks "within") (ks "all"))))) (ib (ao (ag bx v5 (ks "ask"))) (ao (ag bx (ag ax v4 (jw dG (ki 2))) (ki 0))))) (ai (b8 (eM bL bu v1 (a1 (aj aA (a3 v2 v3 v4)))))
  (aP v1)) bV)
  (b8 (eM bL bu v1 (a1 (aj aA (a3 v2 v3 (Gd (ao (ag bx v5 (ks "again"))) (g8 v4 wu (wx (jw dG (ki 2)))) (aj bH (a1 (g8 v4 wu (wx (jw dG (ki 2)))))))))))))) (eS (ao (ag g7 v1 (fz aV))) (ai (fC (eM bL Au v1 aV) (gT 3 (ak (gN 6) (ak (gN 7) (ak (gN 8) bE)))))
  (b8 (eM bL bu v1 (a1 (aj aA (a3 v6 v7 (aj bH (a1 v8)))))))) bV))) 1000000)
  (aP v1))
abbrev mK:Stmt:=top 41
abbrev nr:List Str:=["_law_program_here","_law_tables_here","_law_town_here"]
def kE:aw ["_law_program_here","_law_tables_here","_law_town_here","_law_deeds","_law_world_here","_law_deed","_law_numbers"] nr (ah mK):=by walk_at "s"
def sM:Rc "_law_begun" mK:=by ac_nf
def iP:Fn:=gr 7
  (ai (aJ 3 (fz (cj [none] (fe (ag ax v0 (ki 1))) (gN 0) bI (ag ax v0 (ki 0)))))
  (ai (aJ 4 (CB aV))
  (ai (gV (fe v2) (gT 2 (ak (gN 5) (ak (gN 6) bE))) (b8 (eM bL bu v4 (a1 (CB (a2 (aj b5 (a2 v1 (CB (a1 (aj aA (a3 (eM bL jT v3 (a1 v5)) v6 (aj aA (a1 (ki 0))))))))) (CB aV)))))))
  (aP v4))))
abbrev mG:Stmt:=top 43
abbrev ng:List Str:=["_law_tables_here","_law_frames"]
def uK:aw ["_law_tables_here","_law_frames"] ng (ah mG):=by walk_at "s"
def sH:Rc "_law_stood" mG:=by ac_nf
def eR:Fn:=gr 2
  (ai (eS (ao (ag bx v1 (fz aV))) (aP (eK .bg)) bV)
  (aP (eM wN Ax (ag ax (ag ax v0 (ag ax (ag ax v1 (jw dG (ki 1))) (ki 0))) (ks "row")) (a2 (ag ax (ag ax v1 (jw dG (ki 1))) (ki 2)) (eK .bg)))))
abbrev mE:Stmt:=top 44
abbrev m9:List Str:=["_law_program_here","_law_frame","_law_term_here"]
def uI:aw ["_law_program_here","_law_frame","_law_term_here"] m9 (ah mE):=by walk_at "s"
def sG:Rc "_law_value" mE:=by ac_nf
def a8:Fn:=gr 3
  (ai (eS (ao (ag bx (ag ax v2 (ki 0)) (ks ""))) (aP (ag ax v2 (ki 1))) bV)
  (aP (ag aN (ag ax (ag ax v1 (ki 1)) (eM PZ q9 (ag ax (ag ax (ag ax v0 (ki 1)) (ag ax v1 (ki 0))) (ki 1)) (a1 (ag ax v2 (ki 0))))) (ag ax v2 (ki 1)))))
abbrev pF:Stmt:=top 45
abbrev pT:List Str:=["_law_program_here","_law_frame","_law_row_here"]
def xK:aw ["_law_program_here","_law_frame","_law_row_here","_law_some"] pT (ah pF):=by walk_at "s"
def uQ:Rc "_law_told" pF:=by ac_nf
def fx:Fn:=gr 4
  (ai (aJ 3 (Gd (ao (ag bx (ag ax v2 (ki 0)) (ks "all"))) (ag ax v2 (ki 1)) (aj aA (a1 (ag ax v2 (ki 1))))))
  (aP (aj bw (a1 (j9 (fz (cj [none,none,some 1,some 0] (fe v3) (gT 2 (ak (gN 0) (ak (gN 1) bE))) bI (aj aA (a2 v0 (aj a8 (a3 v3 v2 v1)))))))))))
abbrev pM:Stmt:=top 46
abbrev pZ:List Str:=["_law_world_here","_law_lock_here"]
def xQ:aw ["_law_world_here","_law_lock_here","_law_hand","_law_frames","_law_held_here","_law_block"] pZ (ah pM):=by walk_at "s"
def uW:Rc "_law_held" pM:=by ac_nf
def de:Fn:=gr 6
  (ai (gV (tN (a1 v0)) (gT 2 (ak (gN 2) (ak (P4 2 (ak (gN 3) (ak (gN 4) bE))) bE))) (gV (fe v4) (gN 5) (eS (ao (ag yS v1 v5)) (aP v2) bV)))
  (aP (eK .bg)))
abbrev mD:Stmt:=top 47
abbrev m8:List Str:=["_law_program_here","_law_tables_here","_law_world_here","_law_hand"]
def uH:aw ["_law_program_here","_law_tables_here","_law_world_here","_law_hand","_law_frames","_law_row_here"] m8 (ah mD):=by walk_at "s"
def sF:Rc "_law_waits" mD:=by ac_nf
def iN:Fn:=gr 6
  (ai (aJ 4 (ag ax (ag ax v2 v3) (ki 0)))
  (ai (aJ 5 (aj eR (a2 v1 v4)))
  (ai (eS (Dg (ao (ag tW v5 (eK .bg))) (ao (ag lL (ag ax v5 (ki 0)) (aj aA (a2 (ks "within") (ks "all")))))) (aP (aj aA aV)) bV)
  (aP (aj bw (a1 (fz (cj [none,some 2] (fe (aj fx (a3 v0 (ag ax v4 (jw dG (ki 1))) v5))) (gN 0) (ao (ag iV (aj de (a2 v1 v0)) (eK .bg))) v0))))))))
abbrev mI:Stmt:=top 48
abbrev nj:List Str:=["_law_program_here","_law_tables_here","_law_world_here"]
def uM:aw ["_law_program_here","_law_tables_here","_law_world_here","_law_found","_law_hand","_law_row_here"] nj (ah mI):=by walk_at "s"
def sJ:Rc "_law_moves" mI:=by ac_nf
def fQ:Fn:=LB 6
  (ai (aJ 3 (CB aV))
  (ai (gV (jn (a1 (aj cz (a1 v2)))) (gN 4) (ai (aJ 5 (aj eR (a2 v1 (ag ax (ag ax v2 v4) (ki 0)))))
  (eS (ib (ao (ag g7 (ag ax (ag ax v2 v4) (ki 0)) (fz aV))) (ao (ag Mb (aj iN (a4 v0 v1 v2 v4)) (aj aA aV)))) (ai (b8 (eM bL bu v3 (a1 (aj aA (a2 v4 (ki 0))))))
  (eS (ib (ao (ag iV v5 (eK .bg))) (ao (ag yS (ag ax v5 (ki 0)) (aj aA (a2 (ks "either") (ks "again")))))) (b8 (eM bL bu v3 (a1 (aj aA (a2 v4 (ki 1)))))) bV)) bV)))
  (aP v3)))
abbrev mH:Stmt:=top 42
abbrev ni:List Str:=["_law_world_here"]
def uL:aw ["_law_world_here"] ni (ah mH):=by walk_at "s"
def sI:Rc "_law_scene" mH:=by ac_nf
def iO:Fn:=gr 1
  (aP (aj bw (a1 (fz (cj [none,none] (fe v0) (P4 2 (ak (gN 0) (ak (gN 1) bE))) bI (aj aA (a2 (aj bw (a1 v0)) (aj bw (a1 v1)))))))))
abbrev vV:Stmt:=top 4
abbrev wm:List Str:=["row"]
def BJ:aw ["row"] wm (ah vV):=by walk_at "s"
def zV:Rc "lots_of" vV:=by ac_nf
def kj:Fn:=gr 1
  (aP (g8 v0 (wx (ag ax (jw (P7 jI) (ag ax v0 (ki 0))) (ki 0))) wu))
abbrev zQ:Stmt:=top 9
abbrev Ah:List Str:=["rows","path"]
def E9:aw ["rows","path","lot","at"] Ah (ah zQ):=by walk_at "s"
def BW:Rc "lot_on" zQ:=by ac_nf
def oj:Fn:=gr 4
  (ai (aJ 2 v0)
  (ai (gV (LY (a3 (ki 1) (aj cz (a1 v1)) (ki 2))) (gN 3) (aJ 2 (ag ax (aj kj (a1 (ag ax v2 (ag ax v1 (ag yM v3 (ki 1)))))) (ag ax v1 v3))))
  (aP v2)))
abbrev zP:Stmt:=top 10
abbrev Ag:List Str:=["rows","path"]
def E8:aw ["rows","path","lot"] Ag (ah zP):=by walk_at "s"
def BV:Rc "row_on" zP:=by ac_nf
def oh:Fn:=gr 3
  (ai (aJ 2 (aj oj (a2 v0 v1)))
  (aP (Gd (ao (ag Nh (ag ax v1 (jw dG (ki 1))) (aj cz (a1 v2)))) (ag ax v2 (ag ax v1 (jw dG (ki 1)))) (eK .bg))))
abbrev vU:Stmt:=top 7
abbrev wk:List Str:=["program","deed"]
def BI:aw ["program","deed"] wk (ah vU):=by walk_at "s"
def zU:Rc "rows_in" vU:=by ac_nf
def kg:Fn:=gr 2
  (aP (ag ax (ag ax (ag ax v0 (ki 1)) v1) (ki 2)))
abbrev rW:Stmt:=top 11
abbrev sW:List Str:=["program","frame"]
def zM:aw ["program","frame","deed","numbers","path"] sW (ah rW):=by walk_at "s"
def xW:Rc "row_here" rW:=by ac_nf
def fk:Fn:=gr 5
  (ai (fC v1 (gT 3 (ak (gN 2) (ak (gN 3) (ak (gN 4) bE)))))
  (aP (aj oh (a2 (aj kg (a2 v0 v2)) v4))))
abbrev i6:Stmt:=top 12
abbrev jf:List Str:=["program","scene","hand"]
def qv:aw ["program","scene","hand","frames"] jf (ah i6):=by walk_at "s"
def oE:Rc "row_stood_at" i6:=by ac_nf
def eP:Fn:=gr 4
  (ai (aJ 3 (ag ax (ag ax v1 v2) (ki 0)))
  (aP (Gd (lZ v3) (aj fk (a2 v0 (ag ax v3 (jw dG (ki 1))))) (eK .bg))))
abbrev rX:Stmt:=top 5
abbrev sX:List Str:=["row"]
def zN:aw ["row"] sX (ah rX):=by walk_at "s"
def xX:Rc "locks_of" rX:=by ac_nf
def iL:Fn:=gr 1
  (ai (eS (ao (ag bx (ag ax v0 (ki 0)) (ks "all"))) (aP (ag ax v0 (ki 1))) bV)
  (aP (Gd (ao (ag yS (ag ax v0 (ki 0)) (aj aA (a2 (ks "within") (ks "ask"))))) (aj aA (a1 (ag ax v0 (ki 1)))) (aj aA aV))))
abbrev mr:Stmt:=top 8
abbrev mV:List Str:=["program","frame"]
def uE:aw ["program","frame","deed","numbers","path"] mV (ah mr):=by walk_at "s"
def sy:Rc "numbers_in" mr:=by ac_nf
def fO:Fn:=gr 5
  (ai (fC v1 (gT 3 (ak (gN 2) (ak (gN 3) (ak (gN 4) bE)))))
  (aP (CD (a2 (ag ax (ag ax (ag ax v0 (ki 1)) v2) (ki 1)) v3))))
abbrev rV:Stmt:=top 1
abbrev sV:List Str:=["term","numbers"]
def zL:aw ["term","numbers","word","figure"] sV (ah rV):=by walk_at "s"
def xV:Rc "value_of" rV:=by ac_nf
def gg:Fn:=gr 4
  (ai (fC v0 (gT 2 (ak (gN 2) (ak (gN 3) bE))))
  (aP (Gd (ao (ag bx v2 (ks ""))) v3 (ag aN (ag ax v1 v2) v3))))
abbrev mw:Stmt:=top 14
abbrev mW:List Str:=["program","frame"]
def uF:aw ["program","frame","locks","numbers"] mW (ah mw):=by walk_at "s"
def sA:Rc "locks_told" mw:=by ac_nf
def fP:Fn:=gr 4
  (ai (aJ 2 (aj iL (a1 (aj fk (a2 v0 v1)))))
  (ai (aJ 3 (aj fO (a2 v0 v1)))
  (aP (aj bw (a1 (CA [none,none,some 3] (fe v2) (gT 2 (ak (gN 0) (ak (gN 1) bE))) bI (mP (aj aA (a2 v0 (aj gg (a2 v1 v2)))))))))))
abbrev vW:Stmt:=top 13
abbrev wq:List Str:=["scene","lock"]
def BK:aw ["scene","lock","hand","frames","held"] wq (ah vW):=by walk_at "s"
def zW:Rc "held_by" vW:=by ac_nf
def hY:Fn:=gr 5
  (ai (gV (tN (a1 v0)) (gT 2 (ak (gN 2) (ak (gT 2 (ak (gN 3) (ak (gN 4) bE))) bE))) (eS (lZ (aj P9 (a1 (fz (cj [none,some 1] (fe v4) (gN 0) bI (ag yS v1 v0)))))) (aP v2) bV))
  (aP (eK .bg)))
abbrev Dv:Stmt:=top 15
abbrev DP:List Str:=["program","scene","hand"]
def Hl:aw ["program","scene","hand","row"] DP (ah Dv):=by walk_at "s"
def Fe:Rc "waits" Dv:=by ac_nf
def og:Fn:=gr 4
  (ai (aJ 3 (aj eP (a3 v0 v1 v2)))
  (ai (eS (Dg (ao (ag tW v3 (eK .bg))) (ao (ag lL (ag ax v3 (ki 0)) (aj aA (a2 (ks "within") (ks "all")))))) (aP (aj aA aV)) bV)
  (aP (aj bw (a1 (fz (cj [none,some 1] (fe (aj fP (a2 v0 (ag ax (ag ax (ag ax v1 v2) (ki 0)) (jw dG (ki 1)))))) (gN 0) (ao (ag iV (aj hY (a2 v1 v0)) (eK .bg))) v0)))))))
abbrev my:Stmt:=top 17
abbrev mX:List Str:=["program","scene","hand"]
def uG:aw ["program","scene","hand","frames","row"] mX (ah my):=by walk_at "s"
def sC:Rc "choices_of" my:=by ac_nf
def bR:Fn:=gr 5
  (ai (aJ 3 (ag ax (ag ax v1 v2) (ki 0)))
  (ai (eS (zC (lZ v3)) (aP (aj aA aV)) bV)
  (ai (aJ 4 (aj fk (a2 v0 (ag ax v3 (jw dG (ki 1))))))
  (ai (eS (ib (ao (ag iV v4 (eK .bg))) (ao (ag yS (ag ax v4 (ki 0)) (aj aA (a2 (ks "either") (ks "again")))))) (aP (aj aA (a2 (ki 0) (ki 1)))) bV)
  (aP (Gd (lZ (aj og (a3 v0 v1 v2))) (aj aA aV) (aj aA (a1 (ki 0)))))))))
abbrev Dw:Stmt:=top 18
abbrev DQ:List Str:=["program","scene"]
def Hm:aw ["program","scene"] DQ (ah Dw):=by walk_at "s"
def Ff:Rc "moves" Dw:=by ac_nf
def kh:Fn:=gr 2
  (aP (aj bw (a1 (Qf [none,none,some 0,some 1] (jn (a1 (aj cz (a1 v1)))) (gN 0) bI (Av (fe (aj bR (a3 v2 v3 v0))) (gN 1) bI (mL (aj aA (a2 v0 v1)))) [] .lv))))
abbrev pH:Stmt:=top 51
abbrev jh:List Str:=["_law_found","_law_due"]
def xN:aw ["_law_found","_law_due"] jh (ah pH):=by walk_at "s"
def kK:Rc "_law_same" pH:=by ac_nf
def dc:Nat->Fn
 | 0=>λ_ _=>none
 |n+1=>gr 2
  (ai (eS (lZ (aj yQ (a2 v1 (eK (.ty "tuple"))))) (ai (eS (Dg (zC (lZ (aj yQ (a2 v0 (eK (.ty "tuple")))))) (ao (ag g7 (aj cz (a1 v0)) (aj cz (a1 v1))))) (aP (eK (.bl false))) bV)
  (aP (aj Qa (a1 (fz (cj [none,none] (P1 (a2 v0 v1)) (gT 2 (ak (gN 0) (ak (gN 1) bE))) bI (aj (dc n) (a2 v0 v1)))))))) bV)
  (ai (eS (ao (ag tW v1 (eK .bg))) (aP (ag tW v0 (eK .bg))) bV)
  (ai (eS (lZ (aj yQ (a2 v1 (eK (.ty "str"))))) (aP (yV (aj yQ (a2 v0 (eK (.ty "str")))) (ag bx v0 v1))) bV)
  (aP (yV (aj yQ (a2 v0 (eK (.ty "int")))) (yV (Qe (aj yQ (a2 v0 (eK (.ty "bool"))))) (ag bx v0 v1)))))))
abbrev kJ:Stmt:=top 49
abbrev kQ:List Str:=["_law_program_here","_law_frame","_law_row_here","_law_choice"]
def fV:aw ["_law_program_here","_law_frame","_law_row_here","_law_choice","_law_one","_law_other"] kQ (ah kJ):=by walk_at "s"
def qA:Rc "_law_inside" kJ:=by ac_nf
def fu:Fn:=gr 6
  (ai (eS (ao (ag bx (ag ax v2 (ki 0)) (ks "by"))) (ai (BM 4 5 (a2 (aj a8 (a3 v0 v1 (ag ax v2 (ki 1)))) (aj a8 (a3 v0 v1 (ag ax v2 (ki 2))))))
  (aP (ag aN (aj o6 (a1 (ag Q5 v4 v5))) (aj o6 (a1 (ag F7 v4 v5)))))) bV)
  (ai (eS (ao (ag bx (ag ax v2 (ki 0)) (ks "either"))) (aP v3) bV)
  (aP (Gd (ao (ag bx v3 (ki 1))) (ki 0) (eK .bg)))))
abbrev pN:Stmt:=top 50
abbrev p4:List Str:=["_law_program_here","_law_tables_here","_law_world_here","_law_move"]
def eD:aw ["_law_program_here","_law_tables_here","_law_world_here","_law_move","_law_hand","_law_choice","_law_frames","_law_held_here","_law_row_here","_law_event","_law_deed","_law_known","_law_path","_law_lot_here","_law_numbers","_law_locks"] p4 (ah pN):=by walk_at "s"
def uX:Rc "_law_goes" pN:=by ac_nf
def jG:Fn:=LB 16
  (ai (fC v3 (gT 2 (ak (gN 4) (ak (gN 5) bE))))
  (ai (fC (ag ax v2 v4) (P4 2 (ak (gN 6) (ak (gN 7) bE))))
  (ai (BM 8 9 (a2 (aj eR (a2 v1 v6)) (eK .bg)))
  (ai (fC (eM bL Au v6 aV) (gT 3 (ak (gN 10) (ak (gN 11) (ak (gN 12) bE)))))
  (ai (aJ 13 (eK .bg))
  (ai (eS (ao (ag tW v8 (eK .bg))) (ai (b8 (eM bL Au v7 aV))
  (aJ 12 (g8 EO wu (wx (jw dG (ki 2)))))) (eS (ao (ag bx (ag ax v8 (ki 0)) (ks "say"))) (aJ 9 (aj aA (a2 v4 (ag ax v8 (ki 1))))) (eS (ao (ag bx (ag ax v8 (ki 0)) (ks "call"))) (ai (aJ 14 (aj bw (a1 (fz (cj [none,some 10,some 11,some 0] (fe (ag ax v8 (ki 2))) (gN 0) bI (aj a8 (a3 v3 (aj aA (a2 v1 v2)) v0)))))))
  (ai (b8 (eM bL bu v6 (a1 (aj aA (a3 v10 v11 EO)))))
  (fC (aj aA (a3 (eM bL jT (fz (cj [none] (fe (ag ax v0 (ki 1))) (gN 0) bI (ag ax v0 (ki 0)))) (a1 (ag ax v8 (ki 1)))) Uj (aj aA (a1 (jw dG (ki 1)))))) (gT 3 (ak (gN 10) (ak (gN 11) (ak (gN 12) bE))))))) (eS (ao (ag yS (ag ax v8 (ki 0)) (eK (.tup [.str "within",.str "all",.str "ask"])))) (ai (aJ 15 (aj fx (a3 v0 (aj aA (a2 v10 v11)) v8)))
  (ai (aJ 13 (aj o6 (a1 (yV (ag bx (ag ax v8 (ki 0)) (ks "ask")) (ag iV (aj de (a2 v2 (ag ax Ro (ki 0)))) (eK .bg))))))
  (eS (ao (ag bx Kw (ki 0))) (b8 (eM bL bu v7 (a1 Ro))) bV))) (aJ 13 (aj fu (a4 v0 (aj aA (a2 v10 v11)) v8 v5)))))))
  (ai (aJ 12 (Gd (ao (ag tW Kw (eK .bg))) (aj bH (a1 EO)) (ag aN EO (aj aA (a2 Kw (ki 0))))))
  (ai (b8 (eM bL bu v6 (a1 (aj aA (a3 v10 v11 EO)))))
  (ai (b8 (aj b5 (a2 v1 v6)))
  (aP v9))))))))))
abbrev pD:Stmt:=top 52
abbrev pR:List Str:=["_law_state","_law_program_here","_law_tables_here","_law_world_here","_law_most"]
def xI:aw ["_law_state","_law_program_here","_law_tables_here","_law_world_here","_law_most","_law_turn","_law_some"] pR (ah pD):=by walk_at "s"
def uO:Rc "_law_walk" pD:=by ac_nf
def jC:Fn:=gr 7
  (ai (gV (jn (a1 v4)) (gN 5) (ai (aJ 6 (aj fQ (a3 v1 v2 v3)))
  (ai (eS (ao (ag bx v6 (fz aV))) Og bV)
  (b8 (aj jG (a4 v1 v2 v3 (aj aG (a2 v0 v6))))))))
  (aP v3))
abbrev mx:Stmt:=top 53
abbrev M4:List Str:=["_law_script"]
def Hn:aw ["_law_script","_law_state","_law_k","_law_program_here","_law_town_here","_law_tables_here","_law_world_here","_law_turn","_law_due","_law_scene_here"] M4 (ah mx):=by walk_at "s"
def K1:Rc "law" mx:=by ac_nf
def Bn:Fn:=gr 10
  (ai (aJ 1 (aj fR (a1 v0)))
  (ai (gV (jn (a1 (aj vz (a2 (ki 2) (aj F5 (a2 (ki 6) (aj cz (a1 v0)))))))) (gN 2) (ai (aJ 3 (aj gj (a3 v1 (aj aG (a2 v1 (eK (.lv [.int 6,.int 15,.int 25,.int 40])))) (aj aG (a2 v1 (eK (.lv [.int 0,.int 4,.int 12])))))))
  (ai (aJ 4 (aj jD (a3 v1 v3 (ki 4))))
  (ai (aJ 5 (aj gR (a1 v3)))
  (ai (aJ 6 (aj iP (a3 v3 v5 v4)))
  (gV (jn (a1 (ag aN (ki 1) (aj aI (a2 v1 (ki 40)))))) (gN 7) (ai (aJ 8 (aj bw (a1 (aj fQ (a3 v3 v5 v6)))))
  (ai (aJ 9 (aj iO (a1 v6)))
  (ai (eS (Dg (zC (lZ (aj (dc 8) (a2 (aj kh (a2 v3 v9)) v8)))) (ao (ag g7 (aj kh (a2 v3 v9)) v8))) (aP (eK (.bl false))) bV)
  (b8 (aj jC (af v1 (a4 v3 v5 v6 (ki 1))))))))))))))
  (aP (eK (.bl true)))))
structure Cc where
 l:PySem.W.OpenLaw
 w:World
 h:Heap
 mg:Str->Option Value
 base:Heap
section
variable (c:Cc)
abbrev n6:Prop:=Df c.l.prog c.w (Hd.aL c.h) c.mg c.base "_law_drawn" 1 nq 1 fR
abbrev qo:Prop:=Df c.l.prog c.w (Hd.aL c.h) c.mg c.base "_law_load" 1 pY 1 jF
abbrev bS:Prop:=Df c.l.prog c.w (Hd.aL c.h) c.mg c.base "_law_next" 2 pV 2 aI
abbrev cN:Prop:=Df c.l.prog c.w (Hd.aL c.h) c.mg c.base "_law_of" 3 wt 2 aG
abbrev nY:Prop:=Df c.l.prog c.w (Hd.aL c.h) c.mg c.base "_law_words" 4 mZ 2 eQ
abbrev nX:Prop:=Df c.l.prog c.w (Hd.aL c.h) c.mg c.base "_law_world" 5 mY 3 iM
abbrev gP:Prop:=Df c.l.prog c.w (Hd.aL c.h) c.mg c.base "_law_is_odd" 3 kP 2 dP
abbrev gE:Prop:=Df c.l.prog c.w (Hd.aL c.h) c.mg c.base "_law_term" 4 pU 2 bT
abbrev qq:Prop:=Df c.l.prog c.w (Hd.aL c.h) c.mg c.base "_law_call" 5 p5 4 gG
abbrev qm:Prop:=Df c.l.prog c.w (Hd.aL c.h) c.mg c.base "_law_lock" 5 pX 5 fy
abbrev CW:Prop:=Df c.l.prog c.w (Hd.aL c.h) c.mg c.base "_law_lot" 26 lE 7 (bG 20)
abbrev QP:Prop:=Df c.l.prog c.w (Hd.aL c.h) c.mg c.base "_law_row" 26 lD 6 (gh 20)
abbrev Ks:Prop:=Df c.l.prog c.w (Hd.aL c.h) c.mg c.base "_law_locked" 26 gJ 7 (dO 20)
abbrev GG:Prop:=Df c.l.prog c.w (Hd.aL c.h) c.mg c.base "_law_two_ways" 26 fD 6 (cJ 20)
abbrev jA:Prop:=Df c.l.prog c.w (Hd.aL c.h) c.mg c.base "_law_program" 27 ji 3 gj
abbrev qj:Prop:=Df c.l.prog c.w (Hd.aL c.h) c.mg c.base "_law_town" 4 pS 3 jD
abbrev qk:Prop:=Df c.l.prog c.w (Hd.aL c.h) c.mg c.base "_law_lots" 1 pW 1 jE
abbrev zq:Prop:=Df c.l.prog c.w (Hd.aL c.h) c.mg c.base "_law_table" 10 ix 3 (ck 8)
abbrev k6:Prop:=Df c.l.prog c.w (Hd.aL c.h) c.mg c.base "_law_tables" 11 kN 1 gR
abbrev gO:Prop:=Df c.l.prog c.w (Hd.aL c.h) c.mg c.base "_law_onward" 1 kO 1 bH
abbrev gc:Prop:=Df c.l.prog c.w (Hd.aL c.h) c.mg c.base "_law_settled" 2 jg 2 b5
abbrev oa:Prop:=Df c.l.prog c.w (Hd.aL c.h) c.mg c.base "_law_begun" 3 nr 3 iP
abbrev fN:Prop:=Df c.l.prog c.w (Hd.aL c.h) c.mg c.base "_law_stood" 1 ng 2 eR
abbrev fM:Prop:=Df c.l.prog c.w (Hd.aL c.h) c.mg c.base "_law_value" 1 m9 3 a8
abbrev jz:Prop:=Df c.l.prog c.w (Hd.aL c.h) c.mg c.base "_law_told" 2 pT 3 fx
abbrev jB:Prop:=Df c.l.prog c.w (Hd.aL c.h) c.mg c.base "_law_held" 1 pZ 2 de
abbrev nZ:Prop:=Df c.l.prog c.w (Hd.aL c.h) c.mg c.base "_law_waits" 3 m8 4 iN
abbrev iH:Prop:=Df c.l.prog c.w (Hd.aL c.h) c.mg c.base "_law_moves" 4 nj 3 fQ
abbrev n5:Prop:=Df c.l.prog c.w (Hd.aL c.h) c.mg c.base "_law_scene" 1 ni 1 iO
abbrev xk:Prop:=Df c.l.prog c.w (Hd.aL c.h) c.mg c.base "lots_of" 1 wm 1 kj
abbrev Bj:Prop:=Df c.l.prog c.w (Hd.aL c.h) c.mg c.base "lot_on" 2 Ah 2 oj
abbrev Bi:Prop:=Df c.l.prog c.w (Hd.aL c.h) c.mg c.base "row_on" 3 Ag 2 oh
abbrev xj:Prop:=Df c.l.prog c.w (Hd.aL c.h) c.mg c.base "rows_in" 1 wk 2 kg
abbrev iG:Prop:=Df c.l.prog c.w (Hd.aL c.h) c.mg c.base "row_here" 4 sW 2 fk
abbrev jy:Prop:=Df c.l.prog c.w (Hd.aL c.h) c.mg c.base "row_stood_at" 5 jf 3 eP
abbrev uo:Prop:=Df c.l.prog c.w (Hd.aL c.h) c.mg c.base "locks_of" 1 sX 1 iL
abbrev nU:Prop:=Df c.l.prog c.w (Hd.aL c.h) c.mg c.base "numbers_in" 1 mV 2 fO
abbrev um:Prop:=Df c.l.prog c.w (Hd.aL c.h) c.mg c.base "value_of" 1 sV 2 gg
abbrev nV:Prop:=Df c.l.prog c.w (Hd.aL c.h) c.mg c.base "locks_told" 5 mW 2 fP
abbrev xl:Prop:=Df c.l.prog c.w (Hd.aL c.h) c.mg c.base "held_by" 1 wq 2 hY
abbrev EJ:Prop:=Df c.l.prog c.w (Hd.aL c.h) c.mg c.base "waits" 6 DP 3 og
abbrev nW:Prop:=Df c.l.prog c.w (Hd.aL c.h) c.mg c.base "choices_of" 7 mX 3 bR
abbrev EK:Prop:=Df c.l.prog c.w (Hd.aL c.h) c.mg c.base "moves" 8 DQ 2 kh
abbrev Bk:Prop:=Df c.l.prog c.w (Hd.aL c.h) c.mg c.base "_law_same" 9 jh 2 (dc 8)
abbrev k7:Prop:=Df c.l.prog c.w (Hd.aL c.h) c.mg c.base "_law_inside" 2 kQ 4 fu
abbrev qp:Prop:=Df c.l.prog c.w (Hd.aL c.h) c.mg c.base "_law_goes" 3 p4 4 jG
abbrev qi:Prop:=Df c.l.prog c.w (Hd.aL c.h) c.mg c.base "_law_walk" 5 pR 5 jC
end
section
variable {c:Cc} {mb:Str->Option Value} {mean:ExcName->Option Value} (T:Top view (PySem.W.looseW view (["SHAPES"]:List Str)) mean c.mg mb c.h) (B:Bs c.l.prog c.w (Hd.aL c.h) c.mg)
include T B
theorem vj:n6 c:=Hd.aU T sL λF _ _ _=>
 (ay F uN λ_ _ _ _ _ _ hr _=>by walk_at "v";with_reducible exact(aF (br (rp.ob (fU (aa bt (aa (rp.ob (KO (by unfold Gl;ac_nf) B.JW ED ∅ (ae aB))) ∅)) (ae (ae (ae aB))))))))
theorem yn:qo c:=Hd.aU T uV λF _ _ _=>
 (ay F il λ_ _ _ _ _ _ hr _=>by walk_at "v";with_reducible exact(ab ∅
   (ab ∅
   (ab (eX ∅ (oA hr.units (sv 0) bt))
   (ab ∅
   (ab ∅
   (aF (cB (SW.st (xy ∅ (qQ (oz M7 ∅ (b7 Im bt bt) (oN _))))) (aF (eX ∅ (oA hr.units (sv 0) bt))) (ab (sset 4 il.nd (b7 sY (b7 iy (b7 dS (b7 dS ∅ (b7 iy (b7 iy bt (sv 2)) (sv 2))) bt) bt) bt))
   (ab (sset 4 il.nd (b7 sY (b7 iy (sv 4) (sv 4)) bt))
   (aF (eX (b7 dS (b7 sY (b7 dS (b7 dS (b7 iy (sv 4) bt) (sv 2)) bt) bt) (b7 Im bt bt)) (oA hr.units (sv 0) bt)))))))))))))
theorem yk(a:qo c):bS c:=Hd.aU T uS λF _ _ _=>
 (ay F xO λ_ _ _ _ _ _ hr _=>by walk_at "v";with_reducible exact(ab ∅
   (ab ∅
   (ab (eX (b7 Pa ∅ (sv 1)) (oA hr.units (sv 0) bt))
   ∅))))
theorem Ce(a:bS c):cN c:=Hd.aU T zX λF _ _ _=>
 (ay F BL λ_ _ _ _ _ _ hr _=>by walk_at "u")
theorem vd(a:cN c)(b:bS c):nY c:=Hd.aU T sE λF _ _ _=>
 (ay F kC λ_ _ _ _ _ _ hr _=>by walk_at "v";with_reducible exact(ab ∅
   (ab ∅
   (ab (cX XG rfl (bU (by unfold Gl;ac_nf) B.cG (aa (gn a hr (aa (sv 0) (aa (du 9 (by ac_nf)) ar))) ar) (hl:=(ae aB))) ∅ ∅)
   (ab ∅
   (ab ∅
   (ab (sset 7 kC.nd (gn a hr (aa (sv 0) (aa (du 9 (by ac_nf)) ar))))
   (aF (br (cS (N':=["_law_k","_law_at","_law_first","_law_letters","_law_stem","_law_stride"]) (caps:=[none,some 5,some 6,some 2,some 3,some 7]) (aR (by ac_nf)) rfl (bU (by unfold Gl;ac_nf) B.cG ∅ (hl:=(ae aB))) (λ_ _ _ _ _=>(sgn 0 (by show(["_law_k","_law_at","_law_first","_law_letters","_law_stem","_law_stride"]:List Str).Nodup;decide+kernel))) (λ_ _ _ _ _=>bP) (λ_ _ _ _ _=>(b7 dS (b7 dS ∅ (six hr (sv 3) (b7 sY (b7 dS (sv 2) (b7 iy (sv 5) (sv 0))) bt))) ∅))))))))))))
theorem vc(b:nY c)(a:cN c)(e:bS c):nX c:=Hd.aU T sD λF _ _ _=>
 (ay F cL λ_ _ _ _ _ _ hr _=>by walk_at "v";with_reducible exact(ab (sset 3 cL.nd (gn b hr (aa (sv 0) (aa (gn a hr (aa (sv 0) (aa (du 9 (by ac_nf)) ar))) ar))))
   (ab (sset 4 cL.nd (gn b hr (aa (sv 0) (aa (gn a hr (aa (sv 0) (aa (du 9 (by ac_nf)) ar))) ar))))
   (ab ∅
   (ab (ie (i:=6) cL.nd (by ac_nf) (by ac_nf) (N':=["_law_deed","_law_state"]) (caps:=[none,some 0]) (aR (by ac_nf)) rfl (fB (sv 4)) (λ_ _ _ _ _=>(sgn 0 (by show(["_law_deed","_law_state"]:List Str).Nodup;decide+kernel))) (λ_ _ _ _ _=>bP) (λ_ _ _ _ _=>(gn a hr (aa (sv 1) (aa (du 9 (by ac_nf)) ar)))))
   (ab (sset 7 cL.nd (Du JC B.nN w5 (aa (cS (N':=["_law_deed","_law_names","_law_state"]) (caps:=[none,some 3,some 0]) (aR (by ac_nf)) rfl (fB (sv 4)) (λ_ _ _ _ _=>(sgn 0 (by show(["_law_deed","_law_names","_law_state"]:List Str).Nodup;decide+kernel))) (λ_ _ _ _ _=>bP) (λ_ _ _ _ _=>∅)) ar)))
   (ab (sset 5 cL.nd (cS (N':=["_law_k","_law_params"]) (caps:=[none,some 5]) (aR (by ac_nf)) rfl (fB (sv 6)) (λ_ _ _ _ _=>(sgn 0 (by show(["_law_k","_law_params"]:List Str).Nodup;decide+kernel))) (λ_ _ _ _ _=>bP) (λ_ _ _ _ _=>∅)))
   (aF (br (zK (cR bJ (sv 3) (cR bJ (sv 4) (cR bJ (sv 5) (cR bJ (sv 7) (cR bJ (sv 1) (cR bJ (sv 2) BA)))))) (by ac_nf) (by ac_nf) (by simp) λd h=>yd h (by ac_nf) (by ac_nf) (by simp) {}))))))))))
theorem tf(a:bS c):gP c:=Hd.aU T qy λF _ _ _=>
 (ay F rT λ_ _ _ _ _ _ hr _=>by walk_at "v";with_reducible exact(aF (br (rP ∅ (xG ∅)))))
theorem yj(b:bS c)(a:cN c):gE c:=Hd.aU T uR λF _ _ _=>
 (ay F xM λ_ _ _ _ _ _ hr _=>by walk_at "v";with_reducible exact(ab ∅
   (ab (cB ∅ (aF (br (c7 (aa ∅ (aa (gn a hr (aa (sv 0) (aa (rp.lv (fU ∅ (ae (ae (ae (ae (ae (ae (ae (ae (ae aB))))))))))) ar))) ar)) (ae (ae aB))))) cu)
   ∅)))
theorem yr(b:gP c)(d:cN c)(a:gE c):qq c:=Hd.aU T uY λF _ _ _=>
 (ay F fJ λ_ _ _ _ _ _ hr _=>by walk_at "v";with_reducible exact(ab (ie (i:=4) fJ.nd (by ac_nf) (by ac_nf) (N':=["_law_k","_law_deed","_law_top","_law_world_here"]) (caps:=[none,some 2,some 3,some 1]) (aR (by ac_nf)) rfl (bU (by unfold Gl;ac_nf) B.cG ∅ (hl:=(ae aB))) (λ_ _ _ _ _=>(sgn 0 (by show(["_law_k","_law_deed","_law_top","_law_world_here"]:List Str).Nodup;decide+kernel))) (λ_ _ _ _ _=>(md ∅)) (λ_ _ _ _ _=>(sv 0)))
   (ab (cB ∅ (aF (sset 4 fJ.nd (rp.lv (E2 rfl (by unfold Gl;ac_nf) B.JW (by unfold Gl;ac_nf) B.cG ED ∅)))) cu)
   (ab ∅
   (ab ∅
   (ab (ie (i:=6) fJ.nd (by ac_nf) (by ac_nf) (N':=["_law_one","_law_deed","_law_state","_law_world_here"]) (caps:=[none,some 2,some 0,some 1]) (aR (by ac_nf)) rfl ∅ (λ_ _ _ _ _=>(sgn 0 (by show(["_law_one","_law_deed","_law_state","_law_world_here"]:List Str).Nodup;decide+kernel))) (λ_ _ _ _ _=>bP) (λ_ _ _ _ _=>∅))
   ∅))))))
theorem ym(d:bS c)(b:gP c)(a:gE c):qm c:=Hd.aU T uU λF _ _ _=>
 (ay F mn λ_ _ _ _ _ _ hr _=>by walk_at "v";with_reducible exact(ab ∅
   (ab ∅
   (ab ∅
   (ab ∅
   (ab ∅
   (ab (ie (i:=8) mn.nd (by ac_nf) (by ac_nf) (N':=["_law_lock_here","_law_name"]) (caps:=[none,some 7]) (aR (by ac_nf)) rfl (fB (sv 4)) (λ_ _ _ _ _=>(sgn 0 (by show(["_law_lock_here","_law_name"]:List Str).Nodup;decide+kernel))) (λ_ _ _ _ _=>(md ∅)) (λ_ _ _ _ _=>∅))
   ∅)))))))
theorem DT(f:bS c)(d:cN c)(g:qq c)(b:gE c)(e:qm c):∀n,Df c.l.prog c.w (Hd.aL c.h) c.mg c.base "_law_lot" (6+n) lE 7 (bG n)/\Df c.l.prog c.w (Hd.aL c.h) c.mg c.base "_law_row" (6+n) lD 6 (gh n)/\Df c.l.prog c.w (Hd.aL c.h) c.mg c.base "_law_locked" (6+n) gJ 7 (dO n)/\Df c.l.prog c.w (Hd.aL c.h) c.mg c.base "_law_two_ways" (6+n) fD 6 (cJ n)
 | 0=>⟨Hd.aU T mQ λ_ _ _ _=>jR,Hd.aU T mO λ_ _ _ _=>jR,Hd.aU T iU λ_ _ _ _=>jR,Hd.aU T gy λ_ _ _ _=>jR⟩
 |n+1=>by
  have⟨a,j,k,m⟩:=DT f d g b e n;apply⟨?_,?_,?_,?_⟩
  ·exact Hd.aU T mQ λF _ _ _=>f9 (ay F zO λ_ _ _ _ _ _ hr _=>by walk_at "v";with_reducible exact(ab ∅
   (ab (cX XG rfl (bU (by unfold Gl;ac_nf) B.cG (aa (gn f hr (aa (sv 0) (aa (b7 dS (gn d hr (aa (sv 0) (aa (b7 dS (b7 Il ∅ bt) ∅) ar)) (WL {} (Xh _ _))) bt) ar)) (WL {} (Xh _ _))) ar) (hl:=(ae aB))) ∅ (aF (cB ∅ (ab (eX ∅ (oA hr.units (sv 1) bJ))
   (aF (jJ (xH (lS:=bL) iZ YB YX Zl gY (sv 7) (aa (gn j hr ∅ (WJ _)) ar))))) cu)))
   ∅)))
  ·exact Hd.aU T mO λF _ _ _=>(ay F c8 λ_ _ _ _ _ _ hr _=>by walk_at "v";with_reducible exact(ab (sset 6 c8.nd (gn f hr ∅ (WL {} (Xh _ _))))
   (ab (cB ∅ (aF (br (c7 (aa bJ (aa (gn d hr ∅ (WL {} (Xh _ _))) ar)) (ae (ae aB))))) cu)
   (ab (cB ∅ (aF (br (gn g hr ∅ (WL {} (Xh _ _))))) cu)
   (ab (cB ∅ (aF (br (gn m hr ∅ (WJ _)))) cu)
   (ab (cB ∅ (ab (G4 7 8 c8.nd (ae (ae aB)) rfl {} (by with_unfolding_all exact(sR rfl c8.nd rfl rfl {} rfl rfl (aa (gn b hr (aa (sv 0) (aa (six hr (six hr (sv 1) bJ) (sv 2)) ar)) (WL {} (Xh _ _))) (aa (gn b hr (aa (sv 0) (aa (six hr (six hr (sv 1) bJ) (sv 2)) ar)) (WL {} (Xh _ _))) ar)) rfl)))
   (ab (ie (i:=9) c8.nd (by ac_nf) (by ac_nf) (N':=["_law_k","_law_deed","_law_deep","_law_held_here","_law_state","_law_top","_law_world_here"]) (caps:=[none,some 2,some 3,some 5,some 0,some 4,some 1]) (aR (by ac_nf)) rfl (bU (by unfold Gl;ac_nf) B.cG ∅ (hl:=(ae aB))) (λ_ _ _ _ _=>(sgn 0 (by show(["_law_k","_law_deed","_law_deep","_law_held_here","_law_state","_law_top","_law_world_here"]:List Str).Nodup;decide+kernel))) (λ_ _ _ _ _=>bP) (λ_ _ _ _ _=>(gn a hr ∅ (WJ _))))
   ∅)) cu)
   (ab (cB ∅ (ab (ie (i:=9) c8.nd (by ac_nf) (by ac_nf) (N':=["_law_k","_law_deed","_law_deep","_law_held_here","_law_state","_law_top","_law_world_here"]) (caps:=[none,some 2,some 3,some 5,some 0,some 4,some 1]) (aR (by ac_nf)) rfl (bU (by unfold Gl;ac_nf) B.cG ∅ (hl:=(ae aB))) (λ_ _ _ _ _=>(sgn 0 (by show(["_law_k","_law_deed","_law_deep","_law_held_here","_law_state","_law_top","_law_world_here"]:List Str).Nodup;decide+kernel))) (λ_ _ _ _ _=>bP) (λ_ _ _ _ _=>(gn a hr ∅ (WJ _))))
   ∅) cu)
   (ab (cB ∅ (aF (br (c7 (aa bJ (aa (gn a hr ∅ (WJ _)) ar)) (ae (ae aB))))) cu)
   (ab (sset 10 c8.nd (gn d hr (aa (sv 0) (aa (du 9 (by ac_nf)) ar)) (WL {} (Xh _ _))))
   (aF (br (gn k hr ∅ (WJ _)))))))))))))
  ·exact Hd.aU T iU λF _ _ _=>f9 (ay F c9 λ_ _ _ _ _ _ hr _=>by walk_at "v";with_reducible exact(ab (eX (gn e hr ∅ (WL {} (Xh _ _))) ∅)
   (ab ∅
   (ab (cB ∅ (ab (G4 9 10 c9.nd (ae (ae aB)) rfl {} (by with_unfolding_all exact(sR rfl c9.nd rfl rfl {} rfl rfl (aa (rp.ob (fU (aa (sv 8) ar) (ae aB))) (aa (sv 7) ar)) rfl)))
   (ab (cX XG rfl (bU (by unfold Gl;ac_nf) B.cG (aa (gn d hr (aa (sv 0) (aa (du 9 (by ac_nf)) ar)) (WL {} (Xh _ _))) ar) (hl:=(ae aB))) ∅ (ab (eX (gn e hr ∅ (WL {} (Xh _ _))) ∅)
   (ab ∅
   (aF (sset 9 c9.nd (rp.ob (N6 (sv 9) (b7 Il ∅ ∅))))))))
   (ab (cB ∅ (aF (jJ (xH (lS:=bL) iZ YB YX Zl gY (sv 9) (aa (c7 (aa ∅ (aa (c7 (aa ∅ (aa (b7 Ik ∅ (b7 iy bt ∅)) ar)) (ae (ae aB))) ar)) (ae (ae aB))) ar)))) cu)
   (ab ∅
   (aF (br (c7 (aa bJ (aa ∅ (aa (gn a hr ∅ (WJ _)) ar))) (ae (ae (ae aB)))))))))) cu)
   (ab (sset 14 c9.nd (gn a hr ∅ (WJ _)))
   (ab (cB ∅ (aF (br (c7 (aa bJ (aa (sv 8) (aa (sv 14) (aa (gn a hr ∅ (WJ _)) ar)))) (ae (ae (ae (ae aB))))))) cu)
   ∅))))))
  ·exact Hd.aU T gy λF _ _ _=>f9 (ay F dw λ_ _ _ _ _ _ hr _=>by walk_at "v";with_reducible exact(ab ∅
   (ab ∅
   (ab (cB (oz (Ip hr.units) (cS (N':=["_law_lock_here","_law_low","_law_world_here"]) (caps:=[none,some 6,some 1]) (aR (by ac_nf)) rfl (fB (sv 5)) (λ_ _ _ _ _=>(sgn 0 (by show(["_law_lock_here","_law_low","_law_world_here"]:List Str).Nodup;decide+kernel))) (λ_ _ _ _ _=>(md ∅)) (λ_ _ _ _ _=>(sv 0))) ∅ (oN _)) ∅ cu)
   (ab ∅
   (ab (eX ∅ (oA hr.units (sv 1) bJ))
   (ab (G4 8 9 dw.nd (ae (ae aB)) rfl {} (by with_unfolding_all exact(sR rfl dw.nd rfl rfl {} rfl rfl (aa (gn b hr (aa (sv 0) (aa (six hr (six hr (sv 1) bJ) (sv 2)) ar)) (WL {} (Xh _ _))) (aa (gn b hr (aa (sv 0) (aa (six hr (six hr (sv 1) bJ) (sv 2)) ar)) (WL {} (Xh _ _))) ar)) rfl)))
   (ab ∅
   (ab (cX XG rfl ∅ ∅ (ab (sset 13 dw.nd (gn a hr ∅ (WJ _)))
   ∅))
   ∅)))))))))
theorem qF(d:nX c)(a:CW c)(b:cN c):jA c:=Hd.aU T oG λF _ _ _=>
 f9 (ay F iS λ_ _ _ _ _ _ hr _=>by walk_at "v";with_reducible exact(ab ∅
   (ab ∅
   (ab (cX XG rfl (mh (by unfold Gl;ac_nf) B.fw ∅ (ae aB)) ∅ (ab (sset 7 iS.nd (gn a hr (aa (sv 0) (aa (sv 3) (aa (sv 5) (aa bt (aa ∅ (aa ∅ (aa (gn b hr (aa (sv 0) (aa (du 9 (by ac_nf)) ar))) ar)))))))))
   ∅))
   (aF (br (c7 (aa (GC dJ B.dU cI (aa (Du JB B.nN w5 ∅) ar)) ∅) (ae (ae aB)))))))))
theorem yh(b:bS c)(a:cN c):qj c:=Hd.aU T uP λF _ _ _=>
 f9 (ay F xJ λ_ _ _ _ _ _ hr _=>by walk_at "v";with_reducible exact(ab ∅
   (ab (cX XG rfl (bU (by unfold Gl;ac_nf) B.cG ∅ (hl:=(ae aB))) ∅ (ab ∅
   (ab ∅
   (aF (jJ (xH (lS:=bL) iZ YB YX Zl gY (sv 3) (aa (c7 (aa (sv 5) (aa (GC dJ B.dU cI (aa (cS (N':=["_law_one","_law_far","_law_state"]) (caps:=[none,some 8,some 0]) (aR (by ac_nf)) rfl (fB (sv 6)) (λ_ _ _ _ _=>(sgn 0 (by show(["_law_one","_law_far","_law_state"]:List Str).Nodup;decide+kernel))) (λ_ _ _ _ _=>bP) (λ_ _ _ _ _=>(gn a hr (aa (sv 2) (aa (rp.lv (fU ∅ (ae (ae (ae (ae (ae (ae (ae (ae (ae aB))))))))))) ar))))) ar)) ar)) (ae (ae aB))) ar)))))))
   ∅)))
theorem yl:qk c:=Hd.aU T uT λF _ _ _=>
 (ay F xP λ_ _ _ _ _ _ hr _=>by walk_at "v";with_reducible exact(aF (br (xH (lS:=IZ) NJ Aby Yr AbR (Px (SN hr)) (KQ (cR bJ ∅ (cR bJ ∅ (cR bJ ∅ (cR bJ ∅ (cR bJ ∅ (cR bJ ∅ BA)))))) (by ac_nf) (by ac_nf) (by simp) λa h=>yd h (by ac_nf) (by ac_nf) (by simp) {}) ∅))))
theorem kR(a:qk c):∀n,Df c.l.prog c.w (Hd.aL c.h) c.mg c.base "_law_table" (2+n) ix 3 (ck n)
 | 0=>Hd.aU T ja λ_ _ _ _=>jR
 |n+1=>by
  have b:=kR a n;exact Hd.aU T ja λF _ _ _=>(ay F uJ λ_ _ _ _ _ _ hr _=>by walk_at "v";with_reducible exact(ab (eX ∅ (Dt hr ∅ (sv 1)))
   (ab (cX XG rfl (mh (by unfold Gl;ac_nf) B.fw ∅ (ae aB)) ∅ (ab (eX (sv 4) (Dt hr ∅ ∅))
   (aF (cX XG rfl (mh (by unfold Gl;ac_nf) B.fw (aa (gn a hr ∅ (WL {} (Xh _ _))) ar) (ae aB)) ∅ (aF (jJ (gn b hr ∅ (WJ _))))))))
   ∅)))
theorem sZ(a:zq c):k6 c:=Hd.aU T qw λF _ _ _=>
 (ay F rQ λ_ _ _ _ _ _ hr _=>by walk_at "v";with_reducible exact(aF (br (cS (N':=["_law_deed"]) (caps:=[none]) (aR (by ac_nf)) rfl ∅ (λ_ _ _ _ _=>(sgn 0 (by show(["_law_deed"]:List Str).Nodup;decide+kernel))) (λ_ _ _ _ _=>bP) (λ_ _ _ _ _=>(gn a hr (aa ∅ (aa ∅ (aa (zK (cR bJ Hg (cR bJ Hg BA)) (by ac_nf) (by ac_nf) (by simp) λb h=>yd h (by ac_nf) (by ac_nf) (by simp) {}) ar)))))))))
theorem td:gO c:=Hd.aU T qx λF _ _ _=>
 (ay F rR λ_ _ _ _ _ _ hr _=>by walk_at "u")
theorem qE(a:gO c):gc c:=Hd.aU T oF λF _ _ _=>
 (ay F iR λ_ _ _ _ _ _ hr _=>by walk_at "v";with_reducible exact(ab (G3 (n:=1000000) XG (SW.st (xy ∅ (qQ (oz (Iq hr.units) ∅ (Hf hr ∅ ∅) (oN _))))) (ab ∅
   (aF (cB ∅ (ab (sset 5 iR.nd (six hr (Hf hr ∅ ∅) bt))
   ∅) ∅))))
   ∅))
theorem vm(a:gc c):oa c:=Hd.aU T sM λF _ _ _=>
 (ay F kE λ_ _ _ _ _ _ hr _=>by walk_at "v";with_reducible exact(ab (ie (i:=3) kE.nd (by ac_nf) (by ac_nf) (N':=["_law_deed"]) (caps:=[none]) (aR (by ac_nf)) rfl ∅ (λ_ _ _ _ _=>(sgn 0 (by show(["_law_deed"]:List Str).Nodup;decide+kernel))) (λ_ _ _ _ _=>bP) (λ_ _ _ _ _=>∅))
   (ab ∅
   (ab (cX XG rfl (fB (sv 2)) ∅ (aF (jJ (xH (lS:=bL) iZ YB YX Zl gY (sv 4) (aa (rp.ob (fU (aa (gn a hr (aa (sv 1) (aa (rp.ob (fU (aa (c7 (aa (xH (lS:=bL) iZ YB Aac Abx (wF hr.units) (sv 3) ∅) ∅) (ae (ae (ae aB)))) ar) (ae aB))) ar))) ∅) (ae (ae aB)))) ar)))))
   ∅))))
theorem vg:fN c:=Hd.aU T sH λF _ _ _=>
 (ay F uK λ_ _ _ _ _ _ hr _=>by walk_at "v";with_reducible exact(ab ∅
   (aF (br (xH (lS:=wN) NK Aby Yr AbR (LD hr.units) ∅ ∅)))))
theorem vf:fM c:=Hd.aU T sG λF _ _ _=>
 (ay F uI λ_ _ _ _ _ _ hr _=>by walk_at "v";with_reducible exact(ab ∅
   (aF (br (b7 dS (six hr ∅ (RI Abq PySem.F.type_tuple_index (FE hr.units) ∅ ∅)) ∅)))))
theorem yi(a:fM c):jz c:=Hd.aU T uQ λF _ _ _=>
 (ay F xK λ_ _ _ _ _ _ hr _=>by walk_at "v";with_reducible exact(ab ∅
   (aF (br (GC dJ B.dU cI (aa (zJ rfl hr (by unfold Gl;ac_nf) B.nN (by unfold Gl;ac_nf) B.Tr (cS (N':=["_law_name","_law_term_here","_law_frame","_law_program_here"]) (caps:=[none,none,some 1,some 0]) (aR (by ac_nf)) rfl (fB (sv 3)) (λ_ _ _ _ _=>(rN rfl (cZ (sgn 0 (by show(["_law_name","_law_term_here","_law_frame","_law_program_here"]:List Str).Nodup;decide+kernel)) (cZ (sgn 1 (by show(["_law_name","_law_term_here","_law_frame","_law_program_here"]:List Str).Nodup;decide+kernel)) jK)))) (λ_ _ _ _ _=>bP) (λ_ _ _ _ _=>∅))) ar))))))
theorem yo:jB c:=Hd.aU T uW λF _ _ _=>
 (ay F xQ λ_ _ _ _ _ _ hr _=>by walk_at "v";with_reducible exact(ab (cX XG rfl (mh (by unfold Gl;ac_nf) B.fw ∅ (ae aB)) (rN rfl (cZ ∅ (cZ (BD rfl ∅) jK))) ∅)
   ∅))
theorem ve(d:fN c)(b:jz c)(a:jB c):nZ c:=Hd.aU T sF λF _ _ _=>
 (ay F uH λ_ _ _ _ _ _ hr _=>by walk_at "v";with_reducible exact(ab ∅
   (ab ∅
   (ab ∅
   (aF (br (GC dJ B.dU cI (aa (cS (N':=["_law_lock_here","_law_world_here"]) (caps:=[none,some 2]) (aR (by ac_nf)) rfl ∅ (λ_ _ _ _ _=>(sgn 0 (by show(["_law_lock_here","_law_world_here"]:List Str).Nodup;decide+kernel))) (λ_ _ _ _ _=>(md ∅)) (λ_ _ _ _ _=>(sv 0))) ar))))))))
theorem vi(b:fN c)(a:nZ c):iH c:=Hd.aU T sJ λF _ _ _=>
 f9 (ay F uM λ_ _ _ _ _ _ hr _=>by walk_at "v";with_reducible exact(ab ∅
   (ab (cX XG rfl (bU (by unfold Gl;ac_nf) B.cG ∅ (hl:=(ae aB))) ∅ (ab ∅
   (aF (cB (SW.st (xy ∅ (qQ (oz (O9 hr.units) ∅ ∅ (oN _))))) ∅ cu))))
   ∅)))
theorem vh:n5 c:=Hd.aU T sI λF _ _ _=>
 (ay F uL λ_ _ _ _ _ _ hr _=>by walk_at "v";with_reducible exact(aF (br (GC dJ B.dU cI (aa (cS (N':=["_law_frames","_law_held_here"]) (caps:=[none,none]) (aR (by ac_nf)) rfl (fB (sv 0)) (λ_ _ _ _ _=>(BD rfl (cZ (sgn 0 (by show(["_law_frames","_law_held_here"]:List Str).Nodup;decide+kernel)) (cZ (sgn 1 (by show(["_law_frames","_law_held_here"]:List Str).Nodup;decide+kernel)) jK)))) (λ_ _ _ _ _=>bP) (λ_ _ _ _ _=>∅)) ar)))))
theorem B8:xk c:=Hd.aU T zV λF _ _ _=>
 (ay F BJ λ_ _ _ _ _ _ hr _=>by walk_at "v";with_reducible exact(aF (br (He (sv 0) (Dn (six hr (N8 B.Kg ∅) bt)) Dq))))
theorem Fy(d1:xk c):Bj c:=Hd.aU T BW λF _ _ _=>
 (ay F E9 λ_ _ _ _ _ _ hr _=>by walk_at "v";with_reducible exact(ab ∅
   (ab (cX XG rfl (E1 (by unfold Gl;ac_nf) B.cG ∅ (hl:=(ae (ae (ae aB))))) ∅ ∅)
   ∅)))
theorem Fx(a:Bj c):Bi c:=Hd.aU T BV λF _ _ _=>
 (ay F E8 λ_ _ _ _ _ _ hr _=>by walk_at "u")
theorem B7:xj c:=Hd.aU T zU λF _ _ _=>
 (ay F BI λ_ _ _ _ _ _ hr _=>by walk_at "u")
theorem Ak(a:Bi c)(b:xj c):iG c:=Hd.aU T xW λF _ _ _=>
 (ay F zM λ_ _ _ _ _ _ hr _=>by walk_at "u")
theorem qD(a:iG c):jy c:=Hd.aU T oE λF _ _ _=>
 (ay F qv λ_ _ _ _ _ _ hr _=>by walk_at "u")
theorem Al:uo c:=Hd.aU T xX λF _ _ _=>
 (ay F zN λ_ _ _ _ _ _ hr _=>by walk_at "u")
theorem u9:nU c:=Hd.aU T sy λF _ _ _=>
 (ay F uE λ_ _ _ _ _ _ hr _=>by walk_at "v";with_reducible exact(ab ∅
   (aF (br (Hh rfl (by unfold Gl;ac_nf) B.QI Mt (by unfold Gl;ac_nf) B.Np ∅ (ae (ae aB)))))))
theorem Aj:um c:=Hd.aU T xV λF _ _ _=>
 (ay F zL λ_ _ _ _ _ _ hr _=>by walk_at "u")
theorem va(d2:uo c)(a:iG c)(b:nU c)(d:um c):nV c:=Hd.aU T sA λF _ _ _=>
 (ay F uF λ_ _ _ _ _ _ hr _=>by walk_at "v";with_reducible exact(ab ∅
   (ab ∅
   (aF (br (GC dJ B.dU cI (aa (E5 (N':=["name","term","numbers"]) (caps:=[none,none,some 3]) (aR (by ac_nf)) rfl (by unfold Gl;ac_nf) B.nN hr.units (fB (sv 2)) (λ_ _ _ _ _=>(rN rfl (cZ (sgn 0 (by show(["name","term","numbers"]:List Str).Nodup;decide+kernel)) (cZ (sgn 1 (by show(["name","term","numbers"]:List Str).Nodup;decide+kernel)) jK)))) (λ_ _ _ _ _=>bP) (λ_ _ _ _ _=>∅)) ar)))))))
theorem Ca:xl c:=Hd.aU T zW λF _ _ _=>
 (ay F BK λ_ _ _ _ _ _ hr _=>by walk_at "v";with_reducible exact(ab (cX XG rfl (mh (by unfold Gl;ac_nf) B.fw ∅ (ae aB)) ∅ (aF (cB (rK (Du (Qm rfl) B.Tv QE (aa (cS (N':=["block","lock"]) (caps:=[none,some 1]) (aR (by ac_nf)) rfl (fB (sv 4)) (λ_ _ _ _ _=>(sgn 0 (by show(["block","lock"]:List Str).Nodup;decide+kernel))) (λ_ _ _ _ _=>bP) (λ_ _ _ _ _=>∅)) ar))) ∅ cu)))
   ∅))
theorem Iw(d:jy c)(a:nV c)(b:xl c):EJ c:=Hd.aU T Fe λF _ _ _=>
 (ay F Hl λ_ _ _ _ _ _ hr _=>by walk_at "v";with_reducible exact(ab ∅
   (ab ∅
   (aF (br (GC dJ B.dU cI (aa (cS (N':=["lock","scene"]) (caps:=[none,some 1]) (aR (by ac_nf)) rfl ∅ (λ_ _ _ _ _=>(sgn 0 (by show(["lock","scene"]:List Str).Nodup;decide+kernel))) (λ_ _ _ _ _=>(md ∅)) (λ_ _ _ _ _=>(sv 0))) ar)))))))
theorem vb(b:iG c)(a:EJ c):nW c:=Hd.aU T sC λF _ _ _=>
 (ay F uG λ_ _ _ _ _ _ hr _=>by walk_at "u")
theorem Iy(a:nW c):EK c:=Hd.aU T Ff λF _ _ _=>
 (ay F Hm λ_ _ _ _ _ _ hr _=>by walk_at "v";with_reducible exact(aF (br (GC dJ B.dU cI (aa (E6 (N':=["hand","choice","program","scene"]) (caps:=[none,none,some 0,some 1]) (aR (by ac_nf)) rfl (bU (by unfold Gl;ac_nf) B.cG ∅ (hl:=(ae aB))) (λ_ _ _ _ _=>(sgn 0 (by show(["hand","choice","program","scene"]:List Str).Nodup;decide+kernel))) (λ_ _ _ _ _=>bP) (λ_ _ _ _ _=>∅) (λ_ _ _ _ _=>(sgn 1 (by show(["hand","choice","program","scene"]:List Str).Nodup;decide+kernel))) (λ_ _ _ _ _=>bP) (λ_ _ _ _ _=>∅)) ar)))))
theorem nu:∀n,Df c.l.prog c.w (Hd.aL c.h) c.mg c.base "_law_same" (1+n) jh 2 (dc n)
 | 0=>Hd.aU T kK λ_ _ _ _=>jR
 |n+1=>by
  have a:=nu  n;exact Hd.aU T kK λF _ _ _=>(ay F xN λ_ _ _ _ _ _ hr _=>by walk_at "v";with_reducible exact(ab (cB (rK (Du pf B.dA cM (aa (sv 1) (aa (Q0 B.dU cI) ar)))) (ab (cB (SW.st (MS (G2 (rK (Du pf B.dA cM (aa (sv 0) (aa (Q0 B.dU cI) ar))))) ∅)) ∅ cu)
   (aF (br (Du (Qn rfl) B.Tw QF (aa (cS (N':=["_law_one","_law_other"]) (caps:=[none,none]) (aR (by ac_nf)) rfl (N5 (by unfold Gl;ac_nf) B.Np ∅ (ae (ae aB))) (λ_ _ _ _ _=>(rN rfl (cZ (sgn 0 (by show(["_law_one","_law_other"]:List Str).Nodup;decide+kernel)) (cZ (sgn 1 (by show(["_law_one","_law_other"]:List Str).Nodup;decide+kernel)) jK)))) (λ_ _ _ _ _=>bP) (λ_ _ _ _ _=>(gn a hr ∅ (WJ _)))) ar))))) cu)
   (ab ∅
   (ab (cB (rK (Du pf B.dA cM (aa (sv 1) (aa (Q0 B.Nq JR) ar)))) (aF (br (rP (Du pf B.dA cM (aa (sv 0) (aa (Q0 B.Nq JR) ar))) (xG ∅)))) cu)
   (aF (br (rP (Du pf B.dA cM (aa (sv 0) (aa (Q0 B.JX CP) ar))) (rP (N9 (Du pf B.dA cM (aa (sv 0) (aa (Q0 B.QJ Mu) ar)))) (xG ∅)))))))))
theorem tj(a:fM c):k7 c:=Hd.aU T qA λF _ _ _=>
 (ay F fV λ_ _ _ _ _ _ hr _=>by walk_at "v";with_reducible exact(ab (cB ∅ (ab (G4 4 5 fV.nd (ae (ae aB)) rfl {} (by with_unfolding_all exact(sR rfl fV.nd rfl rfl {} rfl rfl (aa (gn a hr (aa (sv 0) (aa (sv 1) (aa (six hr (sv 2) bt) ar)))) (aa (gn a hr (aa (sv 0) (aa (sv 1) (aa (six hr (sv 2) bt) ar)))) ar)) rfl)))
   ∅) cu)
   ∅))
theorem yq(a:fN c)(f:fM c)(e:jz c)(d:jB c)(b:k7 c)(h:gO c)(g:gc c):qp c:=Hd.aU T uX λF _ _ _=>
 f9 (ay F eD λ_ _ _ _ _ _ hr _=>by walk_at "v";with_reducible exact(ab ∅
   (ab (eX ∅ (BD rfl ∅))
   (ab (G4 8 9 eD.nd (ae (ae aB)) rfl {} (by with_unfolding_all exact(sR rfl eD.nd rfl rfl {} rfl rfl (aa (gn a hr (aa (sv 1) (aa (sv 6) ar))) (aa BG ar)) rfl)))
   (ab ∅
   (ab ∅
   (ab (cB ∅ ∅ (aF (cB ∅ ∅ (aF (cB ∅ (ab (sset 14 eD.nd (GC dJ B.dU cI (aa (cS (N':=["_law_term_here","_law_deed","_law_known","_law_program_here"]) (caps:=[none,some 10,some 11,some 0]) (aR (by ac_nf)) rfl ∅ (λ_ _ _ _ _=>(sgn 0 (by show(["_law_term_here","_law_deed","_law_known","_law_program_here"]:List Str).Nodup;decide+kernel))) (λ_ _ _ _ _=>bP) (λ_ _ _ _ _=>∅)) ar)))
   (ab ∅
   (aF (eX (c7 (aa (xH (lS:=bL) iZ YB Aac Abx (wF hr.units) (cS (N':=["_law_one"]) (caps:=[none]) (aR (by ac_nf)) rfl ∅ (λ_ _ _ _ _=>(sgn 0 (by show(["_law_one"]:List Str).Nodup;decide+kernel))) (λ_ _ _ _ _=>bP) (λ_ _ _ _ _=>∅)) ∅) ∅) (ae (ae (ae aB)))) ∅)))) (aF (cB (oz (M6 hr.units) ∅ (du 9 (by ac_nf)) (by ac_nf)) (ab ∅
   (ab (sset 13 eD.nd (GC JD B.JX CP (aa (rP ∅ (xG ∅)) ar)))
   ∅)) ∅)))))))
   ∅)))))))
theorem yg(b:iH c)(a:qp c)(d:cN c):qi c:=Hd.aU T uO λF _ _ _=>
 (ay F xI λ_ _ _ _ _ _ hr _=>by walk_at "v";with_reducible exact(ab (cX XG rfl (bU (by unfold Gl;ac_nf) B.cG ∅ (hl:=(ae aB))) ∅ ∅)
   ∅))
theorem Po(F:CZ (Hd.aL c.h) "law" "law" mx f fd)(o:n6 c)(b:jA c)(a:cN c)(m:qj c)(k:k6 c)(j:oa c)(n:bS c)(g:iH c)(i:n5 c)(p:EK c)(e:Bk c)(d:qi c):gf c.l.prog c.w (Hd.aL c.h) c.mg c.base xm 28 f fd M4 (GB (Hd.aL c.h) 1 Bn):=
 (ay F Hn λ_ _ _ _ _ _ hr _=>by walk_at "v";with_reducible exact(ab ∅
   (ab (cX XG rfl (bU (by unfold Gl;ac_nf) B.cG ∅ (hl:=(ae aB))) ∅ (ab (sset 3 Hn.nd (gn b hr (aa (sv 1) (aa (gn a hr (aa (sv 1) (aa (du 9 (by ac_nf)) ar))) (aa (gn a hr (aa (sv 1) (aa (du 9 (by ac_nf)) ar))) ar)))))
   (ab ∅
   (ab ∅
   (ab ∅
   (aF (cX XG rfl (bU (by unfold Gl;ac_nf) B.cG ∅ (hl:=(ae aB))) ∅ ∅)))))))
   ∅)))
theorem TB(F:CZ (Hd.aL c.h) "law" "law" mx f fd)(S:∀ns:List Int,ns.length<=63->∃U,Bn [.ro (ns.map D.int)] []=some (.bl true,U)):gf c.l.prog c.w (Hd.aL c.h) c.mg c.base xm 28 f fd ["_law_script"] (spT (Hd.aL c.h)):=by
 have N:=vj T B;have M:=yn T B;have b:=yk T B M;have a:=Ce T B b;have L:=vd T B a b;have J:=vc T B L a b;have o:=tf T B b;have g:=yj T B b a;have H:=yr T B o a g;have I:=ym T B b o g;have⟨G,d26,d25,d24⟩:=DT T B b a H g I 20;have E:=qF T B J G a;have C:=yh T B b a;have A:=yl T B;have z:=kR T B A 8;have y:=sZ T B z;have n:=td T B;have m:=qE T B n;have x:=vm T B m;have e:=vg T B;have d:=vf T B;have k:=yi T B d;have j:=yo T B;have u:=ve T B e k j;have i:=vi T B e u;have v:=vh T B;have d1:=B8 T B;have d5:=Fy T B d1;have Z:=Fx T B d5;have d3:=B7 T B;have p:=Ak T B Z d3;have Y:=qD T B p;have d2:=Al T B;have d4:=u9 T B;have d0:=Aj T B;have R:=va T B d2 p d4 d0;have X:=Ca T B;have Q:=Iw T B Y R X;have P:=vb T B p Q;have O:=Iy T B P;have r:=nu T B  8;have t:=tj T B d;have s:=yq T B e d k j t n m;have q:=yg T B i s a;exact LN (Po T B F N E a C y x b i v O r q) S
end
def eU:Hd.freeOk view (["SHAPES"]:List Str) ["abs","all","any","bool","dict","enumerate","int","isinstance","len","list","max","min","range","set","sorted","str","tuple","zip"]=true:=by decide+kernel
def all_mk{l:PySem.W.OpenLaw}{w:World}{h:Heap}{mg j:Str->Option Value}{b:ExcName->Option Value}(T:Top view (PySem.W.looseW view (["SHAPES"]:List Str)) b mg j h)
  (a:Hd.tabAt h "SHAPES"=some (jI.map λx=>(x.1,hashStr w x.1,x.2)))
  (k:∀ns:List Int,ns.length<=63->∃n,Bn [.ro (ns.map D.int)] []=some (.bl true,n)):
  ∃(e:Addr)(d:FuncData),mg "law"=some (.ref e)/\(∀(s:Shared)(v:Value),BindsTo s d ⟨[v],[]⟩ [("_law_script",v)])/\∀base:Heap,(Hd.aL h).In base->base.Ns mainGlobals mg->gf l.prog w (Hd.aL h) mg base xm 28 e d ["_law_script"] (spT (Hd.aL h)):=by
 have B:Bs l.prog w (Hd.aL h) mg:=⟨Hd.b6 T eU (WE (i:=0) rfl),Hd.b6 T eU (WE (i:=1) rfl),Hd.b6 T eU (WE (i:=2) rfl),Hd.b6 T eU (WE (i:=3) rfl),Hd.b6 T eU (WE (i:=4) rfl),Hd.b6 T eU (WE (i:=5) rfl),Hd.b6 T eU (WE (i:=6) rfl),Hd.b6 T eU (WE (i:=7) rfl),Hd.b6 T eU (WE (i:=8) rfl),Hd.b6 T eU (WE (i:=9) rfl),Hd.b6 T eU (WE (i:=10) rfl),Hd.b6 T eU (WE (i:=11) rfl),Hd.b6 T eU (WE (i:=12) rfl),Hd.b6 T eU (WE (i:=13) rfl),Hd.b6 T eU (WE (i:=14) rfl),Hd.b6 T eU (WE (i:=15) rfl),Hd.b6 T eU (WE (i:=16) rfl),Hd.b6 T eU (WE (i:=17) rfl),Hd.tab_of a T.g (by decide+kernel)⟩;have⟨f,d,m,F⟩:=Hd.Ng T K1;exact⟨f,d,m,F.one λ_ _ _ _ _ _ _=>rfl,λbase _ _=>TB (c:=⟨l,w,h,mg,base⟩) T B F k⟩
end Mi
local macro_rules | `(tactic| exists $x:term) => `(tactic|(nofun;refine Sm.rv $x ?_))
local macro_rules | `(tactic| walk_at $s:str) => let k := s.getString.front;let a := "|Sm.Te|Sm.Tn|Sm.Qy|Sm.Tg|Sm.Tf|Sm.VD|Sm.VC|Sm.VG|Sm.VF|Sm.VE|Sm.Wu|Sm.Wv|Sm.Tj|Sm.Th|Sm.Qv|Sm.Qw|Sm.jb|Sm.By|Sm.HD|Sm.MZ|Sm.HH|Sm.HE|Sm.DA|Sm.OA|Sm.RV|Sm.OB|Sm.r_scont|Sm.x4|Sm.U1|Sm.Q1|Sm.K3|Sm.iu|Sm.DC|Sm.U4|Sm.U3|Sm.U2|Sm.r_dv|Sm.r_do|Sm.HK|Sm.Ox|Sm.Oy|Sm.Oz|Sm.RQ|Sm.R6|Sm.r_or|Sm.RW|Sm.r_sl|Sm.RS|Sm.RU|Sm.Fi|Sm.OG|Sm.gW|Sm.x5|Sm.RZ|Sm.OH|Sm.Vh|Sm.Vi|Sm.UB|Sm.UC|Sm.t_ct|Sm.Vn|Sm.l_ct|Sm.Vo|Sm.Vm|Sm.Ow|Sm.RY";if k != 'o' && k != 'g' && k != 'r' then Lean.Macro.throwUnsupported else do {let t <- (((if k == 'r' then a ++ "|Sm.Rb|Sm.Rg|Sm.w_add|Sm.w_sub|Sm.w_lt|Sm.w_le|Sm.Ux|Sm.Uy|Sm.Rm|Sm.Rh|Sm.Rl|Sm.w_neS|Sm.Rk|Sm.Rj|Sm.Ri|Sm.NC|Sm.ND|Sm.BY" else a).splitOn "|").drop 1).toArray.mapM (λn => `(Lean.Parser.Tactic.tacticSeq| refine $(Lean.mkIdent n.toName) ?_));if k == 'o' then `(tactic| with_reducible first $[| $t]*) else `(tactic|((repeat with_reducible first $[| $t]*);(try dsimp only)))}
namespace Mi
open PySem Sm
def lu(c:0<b)(q:Q (.int (a % b),h)):Rn (tU (.int a) (.int b) h) Q:=⟨_,by unfold tU;dsimp only;rw[WH c],q⟩
def Ol(d:0<b)(c:b<=10^40)(q:Q (.int (a / b),h)):Rn (Jn (.int a) (.int b) h) Q:=⟨_,by unfold Jn;dsimp only;rw[WH ⟨d,c⟩],q⟩
def oD(c:ny a b=true)(q:Q (.int (a*b),h)):Rn (jr (.int a) (.int b) h) Q:=⟨_,by show(if ny a b then _ else _)=_;rw[WH c],q⟩
def mul_r(d:-(2^64)<b)(c:b<2^64):ny a b=true:=by unfold ny;simp only[Yn,W9,Xy];exact .inr ⟨d,c⟩
def IH(d:-(2^64)<a)(c:a<2^64):ny a b=true:=by unfold ny;simp only[Yn,W9,Xy];exact .inl ⟨d,c⟩
def FH{h:MH}{s c:Nat}{cs:List Int}{n t:Int}(f:h[s]?=some (.lst [.int n,.ob c,.int t]))(o:h[c]?=some (.lst (cs.map D.int)))(ne:c≠s)(t0:0<=t)(l:t<2^60):
  Rn (jF [.ob s] h) λp=>∃j,0<=j/\p=(.bg,h.set s (.lst [.int j,.ob c,.int (t+1)])):=by
 have hl:s<h.length:=(WB.mp f).1;generalize g:h.set s (.lst [.int n,.ob c,.int (t+1)])=H;have r:H[s]?=some (.lst [.int n,.ob c,.int (t+1)]):=by rw[<-g];exact Xk hl
 have i:H[c]?=some (.lst (cs.map D.int)):=by rw[<-g,WQ (XW ne)];exact o
 have a:∀v:Int,vy (.ob s) (.int 0) (.int v) H=some (h.set s (.lst [.int v,.ob c,.int (t+1)])):=λv=>by
  rw[yO (p:=0) r rfl,<-g,Yj];rfl
 have q:vy (.ob s) (.int 2) (.int (t+1)) h=some H:=by rw[yO (p:=2) f rfl,<-g];rfl
 have k:cz [.ob c] H=some (.int cs.length,H):=by rw[Ek i,WA]
 apply bj ?_;walk_at "g";apply rv (jt f rfl) ?_;walk_at "g";apply rv (jt f rfl) ?_;walk_at "g";apply rv rfl ?_;walk_at "g";apply rv q ?_;walk_at "g";apply rv (F4 i) ⟨_,rfl,λe=>?pos,λe=>?neg⟩
 case' pos=>
  have b:0<cs.length:=by cases cs with |nil=>simp at e |cons _ _=>simp
  walk_at "g";apply rv k (lu (YK.mpr b) ?_);have⟨z,m⟩:=J3 cs (t % (cs.length:Int)) (Yg _ ()) (Yu _ (YK.mpr b));apply rv (jt i m) ?_
 all_goals
  walk_at "g";apply rv k (rv rfl ⟨_,rfl,?_⟩);apply(λd=>⟨λw=>?thenA,λ_=>⟨λz=>(nomatch z),λ_=>d⟩⟩) ?thenB
  case thenA=>
   walk_at "g";apply rv rfl ?_;walk_at "g";apply rv rfl (rv rfl ⟨_,rfl,λu=>?_,λ_=>d⟩);walk_at "g";apply rv rfl ?_;walk_at "g";apply rv (a _) ?_;walk_at "g";exact⟨_,by split <;> lia,rfl⟩
  case thenB=>
   walk_at "g";apply lu {} ?_;walk_at "g";apply oD (IH {} {}) ?_;walk_at "g";apply oD (mul_r (XX {} t0) (Int.lt_of_lt_of_le l {})) (rv rfl ?_);walk_at "g";apply rv rfl ?_;walk_at "g";apply oD (mul_r {} {}) ?_;walk_at "g";apply lu {} ?_;walk_at "g";apply oD (IH (Int.lt_of_lt_of_le {} (Yg _ {})) (Int.lt_trans (Yu _ {}) {})) ?_;walk_at "g";apply lu {} ?_;walk_at "g";apply oD (mul_r {} {}) ?_;walk_at "g";apply rv rfl ?_;walk_at "g";apply rv rfl ?_;walk_at "g";apply lu {} ?_;walk_at "g";apply rv rfl (rv rfl ?_);walk_at "g";apply rv (a _) ?_;walk_at "g";exact⟨_,Int.add_nonneg (Yg _ {}) {},rfl⟩
structure St(s c:Nat)(cs:List Int)(R:Nat)(h:MH):Prop where
 st:∃n t:Int,h[s]?=some (.lst [.int n,.ob c,.int t])/\0<=n/\0<=t/\t+R<=2^60
 ce:h[c]?=some (.lst (cs.map D.int))
 ne:c≠s
def ux(s:Nat)(h a:MH):Prop:=a.length=h.length/\∀k,k≠s->a[k]?=h[k]?
def ux.refl(s:Nat)(h:MH):ux s h h:=⟨rfl,λ_ _=>rfl⟩
theorem ux.trans(a:ux s h d)(b:ux s d c):ux s h c:=⟨b.1.trans a.1,λk n=>(b.2 k n).trans (a.2 k n)⟩
theorem ux.set:ux s h (h.set s o):=⟨XY,λk n=>WQ (XW n)⟩
section
variable {s c R:Nat} {cs:List Int} {h:MH}
theorem St.le(S:St s c cs R h)(f:R'<=R):St s c cs R' h:=by
 have⟨n,t,e,a,b,d⟩:=S.st;exact⟨⟨n,t,e,a,b,by lia⟩,S.ce,S.ne⟩
theorem St.dn(k:Nat)(S:St s c cs (R+k) h):St s c cs R h:=S.le (Xh _ _)
theorem St.set{a:Nat}{n t:Int}(S:St s c cs R h)(f:0<=n)(d:0<=t)(b:t+a<=2^60):St s c cs a (h.set s (.lst [.int n,.ob c,.int t])):=by
 have⟨g,t0,e,_⟩:=S.st;exact⟨⟨n,t,Xk (WB.mp e).1,f,d,b⟩,by rw[WQ (XW S.ne)];exact S.ce,S.ne⟩
theorem St.more(S:St s c cs R h)(g:MH):St s c cs R (h++g):=by
 have⟨n,t,e,r⟩:=S.st;exact⟨⟨n,t,by rw[W0 (WB.mp e).1];exact e,r⟩,by rw[W0 (WB.mp S.ce).1];exact S.ce,S.ne⟩
theorem St.off(S:St s c cs R h)(b:k≠s)(a:k≠c):St s c cs R (h.set k o):=by
 have⟨n,t,e,r⟩:=S.st;exact⟨⟨n,t,by rw[WQ b];exact e,r⟩,by rw[WQ a];exact S.ce,S.ne⟩
theorem St.lt(S:St s c cs R h):s<h.length/\c<h.length:=by
 have⟨n,t,e,r⟩:=S.st;exact⟨(WB.mp e).1,(WB.mp S.ce).1⟩
structure Sb(s c:Nat)(cs:List Int)(h0:MH)(R:Nat)(h:MH):Prop where
 S:St s c cs R h
 b:ux s h0 h
theorem St.sb(S:St s c cs R h):Sb s c cs h R h:=⟨S,ux.refl _ _⟩
theorem Sb.dn(k:Nat)(A:Sb s c cs h0 (R+k) h):Sb s c cs h0 R h:=⟨A.S.dn k,A.b⟩
theorem Sb.le(A:Sb s c cs h0 R h)(a:R'<=R):Sb s c cs h0 R' h:=⟨A.S.le a,A.b⟩
theorem Sb.at_(A:Sb s c cs h0 R h)(e:h0[k]?=some o)(n:k≠s):h[k]?=some o:=(A.b.2 k n).trans e
variable {h0:MH}
theorem dZ{m:Int}{Q:D×MH->Prop}(A:Sb s c cs h0 (R+1) h)(d:0<m)(v:m<=10^40)(k:∀(r:Int)(j:MH),0<=r->r<m->Sb s c cs h0 R j->Q (.int r,j)):Rn (aI [.ob s,.int m] h) Q:=by
 have S:=A.S;have⟨n,t,q,z,t0,x⟩:=S.st;apply bj ?_;walk_at "g";apply rv (jt q rfl) ?_;walk_at "g";apply rv rfl ⟨_,rfl,λ_=>?pos,λ_=>?neg⟩
 case' pos=>
  walk_at "g";have⟨p,w,o,i,rfl⟩:=FH q S.ce S.ne t0 ();apply rv w ?_;have l:St s c cs R (h.set s (.lst [.int o,.ob c,.int (t+1)])):=S.set i () ();have u:ux s h (h.set s (.lst [.int o,.ob c,.int (t+1)])):=ux.set
 case' neg=>
  have l:St s c cs R h:=S.dn 1;have u:ux s h h:=ux.refl s h
 all_goals
  generalize h.set s (MO.lst [D.int _,D.ob c,D.int (t+1)])=j at*;have⟨n2,y,a,g,f,e⟩:=l.st;walk_at "g";apply rv (jt a rfl) ?_;walk_at "g";apply lu d ?_;walk_at "g";apply rv (jt a rfl) ?_;walk_at "g";apply Ol d v ?_;walk_at "g";apply rv (yO (p:=0) a rfl) ?_;walk_at "g";exact k _ _ (Yg _ ()) (Yu _ d) ⟨l.set (Int.ediv_nonneg g (ZU d)) f e,A.b.trans (u.trans ux.set)⟩
theorem Gr(A:Sb s c cs h0 (R+1) h)(hd:d=.lv xs\/d=.tup xs)(g:0<xs.length)(o:xs.length<=1000000)(k:∀(x:D)(b:MH),x∈xs->Sb s c cs h0 R b->Q (x,b)):Rn (aG [.ob s,d] h) Q:=by
 apply bj ?_;walk_at "g";have m:cz [d] h=some (.int xs.length,h):=by rcases hd with rfl |rfl <;> rfl
 apply rv m ?_;walk_at "g";apply dZ A (YK.mpr g) () λr a f e n=>?_;have⟨v,l,i⟩:=JZ f e;have j:ax d (.int r) a=some (v,a):=by rcases hd with rfl |rfl <;> simp only[ax,cg,cq,WT,l,Xq]
 apply rv j ?_;walk_at "g";exact k v a i n
theorem jx{is:List Int}{Q:D×MH->Prop}(P:Int->Prop)(g:∀i∈is,P i)(A:Sb s c cs h0 (R+1) h)(k:∀(i:Int)(a:MH),P i->i∈is->Sb s c cs h0 R a->Q (.int i,a))(e:0<is.length:=by simp)(d:is.length<=1000:=by simp):Rn (aG [.ob s,.lv (is.map D.int)] h) Q:=
 Gr A (.inl rfl) (by rw[WA];exact e) (by rw[WA];exact WL d {}) λx a f j=>by
  have⟨i,b,rfl⟩:=Xe.mp f;exact k i a (g i b) b j
end
def CF(ns:List Int)(hn:ns.length<=63)(R:Nat)(b:R<=2^60):∃cs:List Int,fR [.ro (ns.map D.int)] []=some (.ob 1,[.lst (cs.map D.int),.lst [.int 0,.ob 0,.int 0]])/\St 1 0 cs R [.lst (cs.map D.int),.lst [.int 0,.ob 0,.int 0]]:=by
 apply⟨(ns.drop (HT.cC ns.length 0 none)).take (HT.cC ns.length ns.length (some 63)-HT.cC ns.length 0 none),?_,⟨⟨0,0,rfl,by decide,by decide,by lia⟩,rfl,by decide⟩⟩;have e:Rn (fR [.ro (ns.map D.int)] []) λp=>p=(.ob 1,[.lst (((ns.drop (HT.cC ns.length 0 none)).take (HT.cC ns.length ns.length (some 63)-HT.cC ns.length 0 none)).map D.int),.lst [.int 0,.ob 0,.int 0]]):=by
  apply bj ?_;walk_at "g";apply OC ?_;walk_at "g";apply⟨_,rfl,rv rfl ?_⟩;walk_at "g";apply⟨_,_,_,rfl,rfl,?_⟩;walk_at "g";simp only[cutD,WA,List.map_drop,Abs,XZ,Aap,ZI,WW]
 have⟨p,a,rfl⟩:=e;exact a
def zD{a i:Nat}(h:i<a):a-i=a-(i+1)+1:=(Nat.succ_pred_eq_of_pos (Nat.sub_pos_of_lt h)).symm
def G0{a i:Nat}(h:i<a):a-(i+1)+1<=a-i:=Aak (zD h).symm
def dp{d f:Nat}(h:d<5)(a:3*(5-d)<=f):3*(5-(d+1))+2<=f:=by rw[zD h]at a;exact Z1 a
def KD(r:Nat){k l:Nat}(h:l<=k):r<=r+k-l:=Ab1 (Yb h r)
def UN{R i:Nat}(h:i<4):R+29-5*i=R+29-5*(i+1)+5:=by
 rw[Nat.mul_succ,<-Nat.sub_sub,Nat.sub_add_cancel];exact Ab1 (by rw[AbM];exact WL ((by decide:∀i<4,5*i+5<=29) i h) (Nat.le_add_left _ _))
def QA{R l a b:Nat}(h:a+4<=b):R+a+100*l+4<=R+100*l+b:=by rw[Nat.add_right_comm R a,ZK _ a 4];exact Yb h _
end Mi
namespace Mi
open PySem Sm L2
def o7(hl:a.length+b.length<=10000):aN (.str a) (.str b) h=some (.str (a++b),h):=by
 show(if a.length+b.length<=sizeLine then some (D.str (a++b),h)else none)=_;rw[WH (by rw[show sizeLine=16777216 from rfl];lia)]
def Jl(hl:a.length<=10000):cz [.str a] h=some (.int a.length,h):=by
 show(if a.length<=sizeLine then some (D.int a.length,h)else none)=_;rw[WH (by rw[show sizeLine=16777216 from rfl];lia)]
def AK(hl:a.length<=10000):yN (.str a) lo b h=some (.str (Txt.slice a lo b),h):=by
 show(if a.length<=sizeLine then some (D.str (Txt.slice a lo b),h)else none)=_;rw[WH (by rw[show sizeLine=16777216 from rfl];lia)]
def t8(z:Str)(i:Int):Str:=match fI z.cps.toList i with
 |some c=>⟨#[c]⟩
 |none=>""
def L8(hl:z.length<=10000)(b:0<=i)(a:i<z.cps.toList.length):(t8 z i).length=1/\ax (.str z) (.int i) h=some (.str (t8 z i),h):=by
 have⟨v,e,_⟩:=JZ (xs:=z.cps.toList) b a;have d:t8 z i=⟨#[v]⟩:=by unfold t8;rw[e]
 rw[d];apply⟨rfl,?_⟩;show(if z.length<=sizeLine then(fI z.cps.toList i).map λc=>(D.str ⟨#[c]⟩,h)else none)=_;rw[WH (by rw[show sizeLine=16777216 from rfl];exact WL hl {}),e];rfl
noncomputable def fq:Str:="abcdefghijklmnopqrstuvwxyz"
def lH(b:0<=i)(a:i<26):(t8 fq i).length=1/\ax (.str "abcdefghijklmnopqrstuvwxyz") (.int i) h=some (.str (t8 fq i),h):=
 L8 (z:=fq) {} b (by rw[show(fq.cps.toList.length:Int)=26 by decide];exact a)
def low(w:Str):Prop:=∀c∈w.cps,97<=c/\c<=122
def LG:low "":=λc a=>absurd (show c∈(#[]:Array Nat) from a) (by simp)
def yC(g:low a)(f:low b):low (a++b):=by
 intro c e;have d:c∈a.cps++b.cps:=e;rcases Array.mem_append.mp d with z |z
 ·exact g c z
 ·exact f c z
def wG(l u:Option Int)(h:low x):low (Txt.slice x l u):=by
 unfold Txt.slice
 split
 ·exact h
 ·intro c b;have a:c∈(List.filterMap (x.cps[·]?) (Builtin.Str.strSliceIndices l u 1 x.length)).toArray:=b;rw[List.mem_toArray]at a;have⟨i,_,e⟩:=ZW.mp a;exact h c (Aar e)
def Cn:fq.cps.toList=(List.range 26).map (97+·):=by decide+kernel
def zd(b:0<=i)(a:i<26):t8 fq i=⟨#[97+i.toNat]⟩:=by
 have⟨n,rfl⟩:=YC b;have:fI fq.cps.toList (n:Int)=some (97+n):=by
  rw[Cn];exact ke (by rw[WY,YG (by exact YK.mp a)];rfl)
 unfold t8;rw[this];rfl
def Bb(d:0<=i)(b:i<26):low (t8 fq i):=by
 rw[zd d b];intro c a;have:c=97+i.toNat:=by simpa using a
 lia
def zI(b:0<=j):(Txt.slice x none (some j)).length<=j.toNat:=by
 have a:(Builtin.Str.strSliceIndices none (some j) 1 x.length).length<=j.toNat:=by
  unfold Builtin.Str.strSliceIndices sliceRange;simp only[show(1:Int) > 0 by decide,Ze,WA,W3]
  (split <;> (try split) <;> (try split) <;> (try simp only[AbP]) <;> lia)
 unfold Txt.slice
 split
 ·next z=>simp at z;have:x.cps.size=x.length:=rfl;lia
 ·show(List.filterMap _ (Builtin.Str.strSliceIndices none (some j) 1 x.length)).toArray.size<=_;rw[W7];exact WL (Z7 _ _) a
def zH(b:0<=j):(Txt.slice x (some j) none).length<=x.length-j.toNat:=by
 have a:(Builtin.Str.strSliceIndices (some j) none 1 x.length).length<=x.length-j.toNat:=by
  unfold Builtin.Str.strSliceIndices sliceRange;simp only[show(1:Int) > 0 by decide,Ze,WA,W3]
  (split <;> (try split) <;> (try split) <;> (try simp only[AbP]) <;> lia)
 unfold Txt.slice
 split
 ·next z=>simp at z;have:x.cps.size=x.length:=rfl;lia
 ·show(List.filterMap _ (Builtin.Str.strSliceIndices (some j) none 1 x.length)).toArray.size<=_;rw[W7];exact WL (Z7 _ _) a
def CQ{a b x y:Str}(e:a++x++b=a++y++b):x=y:=by
 have f:(a.cps++x.cps)++b.cps=(a.cps++y.cps)++b.cps:=congrArg Str.cps e;have c:=congrArg Array.toList f;simp only[Array.toList_append]at c;have d:=List.append_cancel_left (List.append_cancel_right c);cases x;cases y;exact congrArg Str.mk (ZJ.mp d)
def wordAt(b:Str)(at_ first a:Int)(k:Int):Str:=Txt.slice b none (some at_)++t8 fq ((first+a*k) % 26)++Txt.slice b (some at_) none
def GJ{b:Str}{at_ first a:Int}{k j:Nat}(f:a∈[1,3,5,7,9,11])(g:k<6)(hj:j<6)(e:wordAt b at_ first a k=wordAt b at_ first a j):k=j:=by
 have c:=CQ (show Txt.slice b none (some at_)++_++Txt.slice b (some at_) none=Txt.slice b none (some at_)++_++_ from e);rw[zd (Yg _ {}) (Yu _ {}),zd (Yg _ {}) (Yu _ {})]at c;have i:97+((first+a*k) % 26).toNat=97+((first+a*j) % 26).toNat:=by injection c with c;injection c with c;injection c
 have h:(first+a*k) % 26=(first+a*j) % 26:=by
  have a1:=Yg (first+a*k) (show(26:Int)≠0 by decide);have a2:=Yg (first+a*j) (show(26:Int)≠0 by decide);rw[<-ZR a1,<-ZR a2,Nat.add_left_cancel i]
 have d:=Int.emod_eq_emod_iff_emod_sub_eq_zero.mp h;rw[show first+a*(k:Int)-(first+a*(j:Int))=a*((k:Int)-(j:Int)) by rw[Int.mul_sub,Int.add_sub_add_left]]at d;exact(by decide:∀s∈([1,3,5,7,9,11]:List Int),∀k:Nat,k<6->∀j:Nat,j<6->(s*((k:Int)-(j:Int))) % 26=0->k=j) a f k g j hj d
def zh{h:MH}{s c R:Nat}{cs:List Int}{m:Int}{t:MH}{Q:D×MH->Prop}(A:Sb s c cs t (R+20) h)(m0:0<=m)(m1:m<=6)
  (kk:∀(p:List Str)(F:MH),p.length=m.toNat->(∀w∈p,1<=w.length/\w.length<=7/\low w)->p.Nodup->Sb s c cs t R F->Q (.lv (p.map D.str),F)):Rn (eQ [.ob s,.int m] h) Q:=by
 apply bj ?_;walk_at "g";apply eZ ?_;walk_at "g";apply jx (is:=[0,1,1,2,3,6]) (λi=>0<=i/\i<=6) {} A λk F q _ A1=>?_;walk_at "g";apply⟨k,rfl,by exact XX {} q.1,by exact YN q.2 {},?_⟩;apply cO (λi l h'=>∃g G,l=[some (.ob s),some (.int m),some (.str "abcdefghijklmnopqrstuvwxyz"),some (.str g),G,none,none,none]/\g.length<=i/\low g/\Sb s c cs t (R+19-i) h')
  ⟨"",_,rfl,WJ _,LG,A1⟩ (λ_ _ _ _ _=>rfl) ?_ ?_
 ·rintro i x l E u ⟨g,G,rfl,o,a9,j⟩;have hi:i<k.toNat:=by
   have:=(WB.mp u).1
   simpa using this
  rw[zD (a:=R+19) (Zo R (WO hi (WL (Int.toNat_le.mpr q.2) {})))]at j;walk_at "g";apply dZ j {} {} λr M J I H=>?_;walk_at "g";have⟨L,e4⟩:=lH (h:=M) J I;apply rv e4 ?_;walk_at "g";apply rv (o7 ()) ?_;walk_at "g";exact⟨g++t8 fq r,_,rfl,by rw[Zw];lia,yC a9 (Bb J I),H⟩
 ·rintro l E ⟨g,G,rfl,o,a9,j⟩;rw[WA,W3]at o j;have j:Sb s c cs t (R+3) E:=j.le (by clear A;lia);walk_at "g";apply rv (Jl ()) ?_;walk_at "g";apply rv (a:=(.int ((g.length:Int)+1),E)) rfl ?_;walk_at "g";apply dZ j (by simp) () λat_ M S a1 H=>?_
  walk_at "g";apply dZ H {} {} λfirst h4 f0 f1 A4=>?_
  walk_at "g";apply jx (is:=[1,3,5,7,9,11]) (λi=>0<=i/\i<=11) {} A4 λd C ht T A5=>?_;have⟨t0,U⟩:=ht;walk_at "g";apply eZ ?_;walk_at "g";apply⟨m,rfl,by exact XX {} m0,by exact YN m1 {},?_⟩;have hw:∀k:Int,1<=(wordAt g at_ first d k).length/\(wordAt g at_ first d k).length<=7/\low (wordAt g at_ first d k):=by
   intro k;have P:=Yg (first+d*k) (show(26:Int)≠0 by decide);have O:=Yu (first+d*k) (show(0:Int)<26 by decide);have⟨L,e⟩:=lH (i:=(first+d*k) % 26) (h:=[]) P O;have Z:=zI (x:=g) S;have Y:=zH (x:=g) S;have X:low (wordAt g at_ first d k):=yC (yC (wG _ _ a9) (Bb P O)) (wG _ _ a9);apply(λ(z:_/\_)=>⟨z.1,z.2,X⟩) ?_;unfold wordAt;rw[Zw,Zw]
   lia
  apply rv (x8 rfl (λx=>match x with |.int k=>some (.str (wordAt g at_ first d k)) |_=>none) (λl=>∃N,l=[N,some (.int at_),some (.int first),some (.str "abcdefghijklmnopqrstuvwxyz"),some (.str g),some (.int d)]) ⟨_,rfl⟩ ?_) ⟨?_,?_⟩
  ·rintro x u l ⟨N,rfl⟩;have⟨k,q,rfl⟩:=Xe.mp u;apply rv rfl ⟨rfl,rv rfl ⟨rfl,⟨_,rfl⟩,λ_=>⟨_,rfl,?_⟩,λz=>(nomatch z)⟩⟩;apply x4 (x4 (BY ?_));walk_at "g";apply⟨_,rfl,rv (AK (a:=g) ()) ?_⟩;walk_at "g";apply oD (IH (by exact XX {} t0) (by exact YN U {})) ?_;apply rv (a:=(.int (first+d*(k:Int)),C)) rfl ?_;walk_at "g";apply lu {} ?_;have⟨L,e⟩:=lH (i:=(first+d*(k:Int)) % 26) (h:=C) (Yg _ {}) (Yu _ {});have Z:=Txt.slice_le g none (some at_);have Y:=Txt.slice_le g (some at_) none;apply rv e (rv (o7 ()) ?_);apply BY ?_;walk_at "g";apply⟨_,rfl,?_⟩;walk_at "g";apply rv (AK (a:=g) ()) (rv (o7 (by rw[Zw];lia)) ?_);rfl
  ·rw[ZX];exact WL (Z7 _ _) (by rw[W3,show sizeLine=16777216 from rfl];lia)
  ·walk_at "g";rw[show List.filterMap (λx=>match x with |D.int k=>some (D.str (wordAt g at_ first d k)) |_=>none) ((List.range m.toNat).map λ(k:Nat)=>D.int k)=((List.range m.toNat).map λ(k:Nat)=>wordAt g at_ first d (k:Int)).map D.str by
    rw[ZX,YU];exact congrFun (AbX (f:=D.str∘λ(k:Nat)=>wordAt g at_ first d (k:Int))) _]
   apply kk _ C (by simp) (λw v=>?_) ?_ A5
   ·have⟨k,_,rfl⟩:=Xe.mp v;exact hw k
   ·rw[Abi,Z3];apply(Aa0 (n:=m.toNat)).imp_of_mem λ{a b} ha hb y e=>y ?_;have:=XM.mp ha;have:=XM.mp hb;exact GJ T () () e
def ux.app{s:Nat}{a d:MH}{o:MO}(b:ux s (a++[o]) d)(f:s<a.length):∃c,d=c++[o]/\ux s a c:=by
 have hl:d.length=a.length+1:=by rw[b.1];simp
 apply⟨d.take a.length,?_,by rw[Xm];lia,λk g=>?_⟩
 ·apply ZC λk=>?_
  by_cases z:k<a.length
  ·rw[W0 (by rw[Xm];lia),Xu z]
  ·by_cases e:k=a.length
   ·subst e;rw[b.2 _ (by exact YI f),W4 (WJ _),W4 (by rw[Xm];lia),Xm];rw[show min a.length d.length=a.length by lia]
   ·rw[Xr (),Xr (by rw[WR,Xm];simp;lia)]
 ·by_cases z:k<a.length
  ·rw[Xu z,b.2 k g,W0 z]
  ·rw[Xr (by rw[Xm];lia),Xr (by exact XA z)]
def St.cut{s c:Nat}{cs:List Int}{B:Nat}{a g:MH}(S:Mi.St s c cs B (a++g))(f:s<a.length)(d:c<a.length):Mi.St s c cs B a:=by
 have⟨n,t,e,r⟩:=S.st;have b:=S.ce;rw[W0 f]at e;rw[W0 d]at b;exact⟨⟨n,t,e,r⟩,b,S.ne⟩
def Cl(h:MH):Prop:=∀o∈h,zt h.length o=true
theorem EB(n:Nat):∀a:List Int,dh n (a.map D.int)=true
 |[]=>rfl
 |j::r=>by rw[WN];show(gu n (.int _)&&dh n _)=true;rw[EB n r];rfl
def Cl.but{s c:Nat}{cs:List Int}{B:Nat}{h d:MH}(C:Cl h)(S:Mi.St s c cs B d)(b:ux s h d):Cl d:=by
 intro o f;have⟨k,a⟩:=XU.mp f
 by_cases z:k=s
 ·subst z;have⟨n,t,e,_⟩:=S.st;rw[e]at a;cases a;show(true&&(decide (c<d.length)&&(true&&true)))=true;rw[Xf S.lt.2];rfl
 ·rw[b.2 k z]at a;rw[b.1];exact C o (WE a)
def jl{h a g:MH}{d:D}(hl:a.length=h.length)(C:Cl a)(f:∀n,d≠.ob n)(e:gu h.length d=true):leave h d (a++g)=some (d,a):=by
 have c:Bw h.length (a++g) d=d:=by
  cases d with
  |ob n=>exact absurd rfl (f n)
  |_=>rfl
 unfold leave;rw[c,<-hl,Aa2 (WJ _),X1,hl,e];have:(a.all (zt h.length))=true:=by
  rw[Yt];intro o b;rw[<-hl];exact C o b
 rw[this,Bool.or_true];rfl
def CL{n:Nat}{o:MO}{h:MH}(e:h[n]?=some o):hZ [(n,o)] h=true:=by
 unfold hZ;rw[e];dsimp only;rw[xg];rfl
def Cl.add{h:MH}(C:Cl h){o:MO}(b:zt (h.length+1) o=true)(up:∀o∈h,zt h.length o=true->zt (h.length+1) o=true):Cl (h++[o]):=by
 intro x a;rw[WR,Y7];rcases Xw.mp a with z |z
 ·exact up x z (C x z)
 ·rw[WU.mp z];exact b
mutual
theorem CK{n m:Nat}(hm:n<=m):∀d:D,gu n d=true->gu m d=true
 |.bg,_=>rfl
 |.bl _,_=>rfl
 |.int _,_=>rfl
 |.str _,_=>rfl
 |.ty _,_=>rfl
 |.ob k,h=>by simp only[gu,Xy]at h ⊢;exact WL h hm
 |.tup xs,h=>by simp only[gu]at h ⊢;exact lO hm xs h
 |.lv xs,h=>by simp only[gu]at h ⊢;exact lO hm xs h
 |.ro xs,h=>by simp only[gu]at h ⊢;exact lO hm xs h
 |.dv xs,h=>by simp only[gu]at h ⊢;exact CJ hm xs h
theorem lO{n m:Nat}(hm:n<=m):∀d:List D,dh n d=true->dh m d=true
 |[],_=>rfl
 |x::r,h=>by
  simp only[dh,W9]at h ⊢;exact⟨CK hm x h.1,lO hm r h.2⟩
theorem CJ{n m:Nat}(hm:n<=m):∀d:List (Key×D),Mo n d=true->Mo m d=true
 |[],_=>rfl
 |(_,x)::r,h=>by
  simp only[Mo,W9]at h ⊢;exact⟨CK hm x h.1,CJ hm r h.2⟩
end
def JG{n m:Nat}(hm:n<=m)(o:MO)(h:zt n o=true):zt m o=true:=by
 cases o with
 |lst xs=>exact lO hm xs h
 |dct xs=>exact CJ hm xs h
 |dcH xs=>have h:=Xb.mp h;exact Xb.mpr ⟨lO hm _ h.1,lO hm _ h.2⟩
def Cl.snoc{h:MH}(C:Cl h){o:MO}(a:zt (h.length+1) o=true):Cl (h++[o]):=C.add a λx _ z=>JG (Yy _) x z
theorem Cl.set{h:MH}(C:Cl h){n:Nat}{o:MO}(b:zt h.length o=true):Cl (h.set n o):=by
 intro x a;rw[XY];rcases ZZ a with z |z
 ·exact C x z
 ·rw[z];exact b
end Mi
namespace Sm
open PySem L2
theorem Et{e:EM}{h:MH}{t:DS}(f:D->D):∀(a:List D)(o:Option D),(∀x∈a,e (some x::t) h=some (f x,h))->aX [] (gN 0) bI e a (o::t) h=some (a.map f,h)
 |[],o,_=>rfl
 |x::r,o,b=>by
  have g:e (some x::t) h=some (f x,h):=b x WI;have d:=Et f r (some x) λy c=>b y (WG _ c);show((some ((o::t).set 0 (some x),h)).bind λq=>(bI q.1 q.2).bind λt=>if t.1=true then(e q.1 t.2).bind λy=>(aX [] (gN 0) bI e r q.1 y.2).map λz=>(y.1::z.1,z.2)else aX [] (gN 0) bI e r q.1 t.2)=_;show((e (some x::t) h).bind λy=>(aX [] (gN 0) bI e r (some x::t) y.2).map λz=>(y.1::z.1,z.2))=_;rw[g];show((aX [] (gN 0) bI e r (some x::t) h).map λz=>(f x::z.1,z.2))=_;rw[d];rfl
theorem EE{a:Type}(f:a->Bool):∀(l:List a),vG (l.map λx=>D.bl (f x))=some (l.map f)
 |[]=>rfl
 |x::r=>by show(vG (r.map λx=>D.bl (f x))).map _=_;rw[EE f r];rfl
def fF{b:Type}{o:Option b}{a:b}(r:Rn o λp=>p=a):o=some a:=let⟨_,e,q⟩:=r;by rw[e,q]
def tt(a:A):(true=true->A)/\(true=false->B):=⟨λ_=>a,λz=>(nomatch z)⟩
def ff(b:B):(false=true->A)/\(false=false->B):=⟨λz=>(nomatch z),λ_=>b⟩
end Sm
namespace Mi
open PySem Sm L2 Pg
noncomputable def oo(W:Wd)(fl:List Int)(left odd:Int):MO:=.dct [(.inr (Str.ofString "names"),.lv (W.names.map D.str)),(.inr (Str.ofString "deeds"),.lv (W.au.map D.str)),(.inr (Str.ofString "params"),.lv (W.params.map λa=>.lv (a.map D.str))),(.inr (Str.ofString "floors"),.lv (fl.map D.int)),(.inr (Str.ofString "left"),.int left),(.inr (Str.ofString "odd"),.int odd)]
structure CT(W:Wd)(fl:List Int)(odd:Int):Prop where
 n1:1<=W.names.length
 n2:W.names.length<=6
 d1:1<=W.au.length
 d2:W.au.length<=6
 pl:W.params.length=W.au.length
 p3:∀ps∈W.params,ps.length<=3
 Vz:fl.length=W.au.length
 f0:∀f∈fl,0<=f/\f<W.names.length
 o0:0<=odd
 o1:odd<=1000
 sn:∀w∈W.names,1<=w.length/\w.length<=7/\low w
 sd:∀w∈W.au,1<=w.length/\w.length<=7/\low w
 sp:∀ps∈W.params,∀w∈ps,1<=w.length/\w.length<=7/\low w
 nn:W.names.Nodup
 nd:W.au.Nodup
 np:∀ps∈W.params,ps.Nodup
section
variable {h:MH} {wd:Nat} {W:Wd} {fl:List Int} {left odd:Int}
theorem eB(a:h[wd]?=some (oo W fl left odd)):ax (.ob wd) (.str (Str.ofString "names")) h=some (.lv (W.names.map D.str),h):=by simp only[ax,cg,a,oo];rfl
theorem eC(a:h[wd]?=some (oo W fl left odd)):ax (.ob wd) (.str (Str.ofString "deeds")) h=some (.lv (W.au.map D.str),h):=by simp only[ax,cg,a,oo];rfl
theorem di(b:h[wd]?=some (oo W fl left odd)):ax (.ob wd) (.str (Str.ofString "params")) h=some (.lv (W.params.map λa=>.lv (a.map D.str)),h):=by simp only[ax,cg,b,oo];rfl
theorem ou(a:h[wd]?=some (oo W fl left odd)):ax (.ob wd) (.str (Str.ofString "floors")) h=some (.lv (fl.map D.int),h):=by simp only[ax,cg,a,oo];rfl
theorem qO(a:h[wd]?=some (oo W fl left odd)):ax (.ob wd) (.str (Str.ofString "left")) h=some (.int left,h):=by simp only[ax,cg,a,oo];rfl
theorem Br(a:h[wd]?=some (oo W fl left odd)):ax (.ob wd) (.str (Str.ofString "odd")) h=some (.int odd,h):=by simp only[ax,cg,a,oo];rfl
theorem GK(a:h[wd]?=some (oo W fl left odd))(v:Int):vy (.ob wd) (.str (Str.ofString "left")) (.int v) h=some (h.set wd (oo W fl v odd)):=by
 have b:(6:Nat)<sizeLine:=by decide
 simp only[vy,a,oo,oU,WT,WW,XZ];rw[WH b];rfl
end
section
variable {h h0:MH} {s c wd R:Nat} {cs:List Int} {W:Wd} {fl:List Int} {left odd:Int} {Q:D×MH->Prop}
theorem JQ(A:Sb s c cs h0 (R+1) h)(d:h[wd]?=some (oo W fl left odd))(ok:CT W fl odd)(k:∀(b:Bool)(a:MH),Sb s c cs h0 R a->Q (.bl b,a)):Rn (dP [.ob s,.ob wd] h) Q:=by
 apply bj ?_;exists Br d;nofun;apply⟨_,rfl,λz=>?_,λz=>?_⟩
 ·exists Br d;nofun;apply dZ A (XR z) (by have:=ok.o1;exact XX this {}) λm a _ _ e=>?_;nofun;exact k _ _ e
 ·nofun;exact k _ _ (A.dn 1)
theorem zi{e:List Str}(A:Sb s c cs h0 (R+4) h)(hp:e.length<=3)(k:∀(t:Term)(n:MH),fb e t->t.2<=40->Sb s c cs h0 R n->Q (aS t,n)):Rn (bT [.ob s,.lv (e.map D.str)] h) Q:=by
 apply bj ?_;nofun;apply dZ A {} {} λm n C y o=>?_;nofun;have plain:∀{l:MH} {P:D×MH->Prop},Sb s c cs h0 (R+1) l->(∀(i:Int)(b:MH),-40<=i/\i<=40->Sb s c cs h0 R b->P (.int i,b))->Rn (aG [.ob s,.lv [.int 0,.int 0,.int 1,.int 1,.int 2,.int 3,.int (-1),.int (m-40)]] l) P:=λf p=>
  jx (is:=[0,0,1,1,2,3,-1,m-40]) (λi=>-40<=i/\i<=40) (by intro x g;simp at g;lia) f λi b a _ d=>p i b a d
 apply⟨_,rfl,λz=>?_,λz=>⟨λz=>(nomatch z),λ_=>?_⟩⟩
 ·have z:0<e.length:=by simpa using z
  nofun;apply dZ o {} {} λv l _ _ f=>?_;nofun;apply⟨_,rfl,λ_=>?_,λ_=>?_⟩
  ·nofun;apply Gr f (.inl rfl) (by simpa using z) (by simp;exact WL hp {}) λE b j d=>?_;have⟨w,q,rfl⟩:=Xe.mp j;nofun;apply jx (is:=[0,0,0,0,1,1,-1,2,m-40]) (λi=>-40<=i/\i<=40) (by intro x g;simp at g;clear plain;lia) d λi r a _ u=>?_;nofun;exact k (w,i) r ⟨.inr q,by dsimp only;exact XX {} a.1,by dsimp only;exact XX a.2 {}⟩ a.2 u
  ·nofun;apply plain (f.dn 1) λi b a d=>?_;nofun;exact k (Str.ofString "",i) b ⟨.inl rfl,by dsimp only;exact XX {} a.1,by dsimp only;exact XX a.2 {}⟩ a.2 d
 ·nofun;apply plain (o.dn 2) λi b a d=>?_;nofun;exact k (Str.ofString "",i) b ⟨.inl rfl,by dsimp only;exact XX {} a.1,by dsimp only;exact XX a.2 {}⟩ a.2 d
end
def cy{b:Type}{a:List b}{f:b->D}{h:MH}{j:Nat}{x:b}(e:a[j]?=some x):ax (.lv (a.map f)) (.int j) h=some (f x,h):=by
 have hj:j<a.length:=by
  rcases Zz j a.length with z |z
  ·exact z
  ·rw[Xr z]at e;cases e
 show((fI (a.map f) j).map λz=>(z,h))=_;have:fI (a.map f) j=some (f x):=by
  unfold fI;rw[show vq (a.map f).length j=some j by unfold vq;simp;exact hj];show(a.map f)[j]?=_;rw[WY,e];rfl
 rw[this];rfl
def j6(i j:Int)(h:MH):vz [.int i,.int j] h=some (.int (max i j),h):=by
 show some (D.int (if j > i then j else i),h)=_;rw[show(if j > i then j else i)=max i j by split <;> lia]
def Ej(i j:Int)(h:MH):F5 [.int i,.int j] h=some (.int (min i j),h):=by
 show some (D.int (if j<i then j else i),h)=_;rw[show(if j<i then j else i)=min i j by split <;> lia]
def D6{d:Type}{o:Option Bool}{x y:Option d}{X Y:d->Prop}(r:∃c,o=some c/\(c=true->Rn x Y)/\(c=false->Rn y Y))(f:∀p,Y p->X p):∃c,o=some c/\(c=true->Rn x X)/\(c=false->Rn y X):=
 let⟨c,e,a,b⟩:=r
 ⟨c,e,λz=>(a z).imp f,λz=>(b z).imp f⟩
noncomputable def rE(t:Term):PyData:=.tuple [.str t.1,.int t.2]
theorem wb:∀a:List Term,gX (a.map aS)=some (a.map rE)
 |[]=>rfl
 |c::r=>by simp only[WN,gX,wb r,aS,je,WT,Xq];rfl
theorem qf:∀a:List Term,PyData.depthAll (a.map rE)<=1
 |[]=>by simp[PyData.depthAll]
 |c::r=>by
  have:=qf r;simp only[WN,PyData.depthAll,rE,PyData.depth]
  lia
def Ct(a:List Term)(h:MH):g7 (.lv (a.map aS)) (.lv []) h=some (.bl (!a.isEmpty),h):=by
 have:=qf a;simp only[g7,Ju,cg,Er,uZ,wb,je,gX,Xq,WT];rw[WH ⟨show PyData.depthAll _+1<=64 by exact Xj this {},by decide⟩];cases a <;> rfl
section
variable {h h0:MH} {s c wd R:Nat} {cs:List Int} {W:Wd} {fl:List Int} {left odd:Int} {Q:D×MH->Prop}
theorem Qx{G:List Str}{j:Nat}{top:Int}{n:List Lock}(A:Sb s c cs h0 (R+10) h)(q:h0[wd]?=some (oo W fl left odd))(u:wd≠s)(ok:CT W fl odd)(hp:W.params[j]?=some G)(hj:j<W.au.length)(ht:top<=W.names.length)(hh:∀l∈n,fE W G l)(hl:n.length<=1000)
  (o:∀(k:Int)(l:Lock)(p:MH),max top (fl[j]?.getD 0)<W.names.length->0<=k->k<W.names.length->fE W G l->Sb s c cs h0 R p->Q (.tup [.int k,aD l],p))
  (H:∀(p:MH),max top (fl[j]?.getD 0)=W.names.length->Sb s c cs h0 R p->Q (.tup [.bg,.bg],p)):Rn (fy [.ob s,.ob wd,.int j,.int top,.lv (n.map aD)] h) Q:=by
 have hw:=A.at_ q u;obtain⟨f,hf⟩:∃f,fl[j]?=some f:=⟨_,WK (by rw[ok.Vz];exact hj)⟩;have N:=ok.f0 f (WE hf);have n2:=ok.n2;rw[hf]at o H;dsimp only[Option.getD_some]at o H;apply bj ?_;exists ou hw;exists cy hf;exists j6 top f h;have Z:0<=max top f:=by lia
 have X:max top f<=W.names.length:=by lia
 generalize max top f=lo at Z X o H ⊢;exists eB hw;nofun;apply⟨_,rfl,λz=>?_,λz=>?_⟩
 ·have z:lo=W.names.length:=by simpa using z
  nofun;exact H h z (A.dn 10)
 have z:lo≠W.names.length:=by simpa using z
 have z0:lo<W.names.length:=by lia
 have o:=λk l p=>o k l p z0;clear H;exists eB hw;nofun;simp only[WA];apply dZ A () () λm p m0 m1 A1=>?_;nofun;apply JQ A1 (A1.at_ q u) ok λb h2 A2=>?_;nofun;apply D6 (Y:=λr=>∃(k:Int)(F:MH),r=(Fl.nx,[some (.ob s),some (.ob wd),some (.int j),some (.int top),some (.lv (n.map aD)),some (.int lo),some (.int k),none,none,none,none],F)/\0<=k/\k<W.names.length/\Sb s c cs h0 (R+7) F) ?_ ?_
 ·apply⟨b,rfl,λ_=>?_,λ_=>?_⟩
  ·exists eB (A2.at_ q u);nofun;simp only[WA];apply dZ A2 (by exact YN N.1 N.2) () λk F T o S=>?_;exact⟨k,F,rfl,T,o,S⟩
  ·nofun;exact⟨lo+m,h2,rfl,by lia,by lia,A2.dn 1⟩
 rintro _ ⟨k,F,rfl,T,kL,S⟩;have E:=S.at_ q u;have o:=λl p=>o k l p T kL;have⟨kn,rfl⟩:=YC T;obtain⟨nm,w⟩:∃f,W.names[kn]?=some f:=⟨_,WK (by exact YK.mp kL)⟩;show Rn _ _;exists eB E;exists cy w;nofun;apply dW ?_;nofun;apply⟨_,_,rfl,?_⟩;obtain⟨⟨ys,h4⟩,e4,J,I,δ4,M,_⟩:=qV (ws:=[]) (g:=gN 0) (c:=ao (ag bx (ag ax (aM 0) (eK (D.int 0))) (aM 1))) (e:=ag ax (aM 0) (eK (D.int 1))) (λx y=>∃l∈n,x=aD l/\y=aS l.2)
  (xs:=n.map aD) (δ:=[none,some (.str nm)]) (h:=F) (λj δ h'=>h'=F/\∃d0,δ=[d0,some (.str nm)]) ⟨rfl,_,rfl⟩ (λ_ _ _ _ _=>rfl) (by
   rintro i x δ h' hx ⟨rfl,d0,rfl⟩;have⟨l,hl,rfl⟩:=Xe.mp (WE hx);nofun;apply rv (a:=(.str l.1,_)) rfl ?_;nofun;apply⟨_,rfl,λ_=>?_,λ_=>⟨rfl,_,rfl⟩⟩;nofun;exact rv (a:=(aS l.2,_)) rfl ⟨⟨l,hl,rfl,rfl⟩,rfl,_,rfl⟩)
 dsimp only at M;subst M;apply rv e4 ⟨WL J (by rw[WA,show sizeLine=16777216 from rfl];exact WL hl {}),?_⟩;obtain⟨C,rfl,htm⟩:∃C:List Term,ys=C.map aS/\∀t∈C,fb G t:=by
  clear e4 J
  induction ys with
  |nil=>exact⟨[],rfl,λ_ z=>(nomatch z)⟩
  |cons y r ih=>
   have⟨js,rfl,p⟩:=ih λz hz=>I z (WG _ hz);have⟨x,hx,l,hl,rfl,rfl⟩:=I y WI;exact⟨l.2::js,rfl,List.forall_mem_cons.mpr ⟨(hh l hl).2,p⟩⟩
 nofun;have pl:=ok.p3 G (WE hp);apply rv (Ct C _) ⟨_,rfl,λz=>?_,λz=>⟨λz=>(nomatch z),λ_=>?_⟩⟩
 ·nofun;apply JQ S E ok λb' h5 A5=>⟨_,rfl,λ_=>?_,λ_=>?_⟩
  ·have L:C≠[]:=by rintro rfl;cases z
   obtain⟨us,d,rfl⟩:∃us d,C=us++[d]:=⟨C.dropLast,C.getLast L,(Aa9 L).symm⟩;have v:=htm d (by simp);nofun;apply rv (a:=(aS d,_)) (by
    show((fI ((us++[d]).map aS) (-1)).map λz=>(z,h5))=_;rw[W6];show((fI (us.map aS++[aS d]) (-1)).map λz=>(z,h5))=_;rw[nO];rfl) ?_
   nofun;apply rv (a:=_) rfl ?_;nofun;apply dZ A5 {} {} λm6 O m60 m61 P=>?_;exists Ej _ _ _;nofun;exact o (nm,(d.1,min 99 (d.2+1+m6))) O ⟨WE w,v.1,by dsimp only;have:=v.2;lia,by dsimp only;lia⟩ (P.dn 5)
  ·exists di (A5.at_ q u);exists cy hp;nofun;apply zi (A5.dn 2) pl λt O U _ P=>?_;nofun;exact o (nm,t) O ⟨WE w,U⟩ P
 ·exists di E;exists cy hp;nofun;apply zi (S.dn 3) pl λt O U _ P=>?_;nofun;exact o (nm,t) O ⟨WE w,U⟩ P
end
def AO(cs:List Int)(h:MH):bx (.lv (cs.map D.int)) (.lv []) h=some (.bl cs.isEmpty,h):=by
 simp only[bx,Ju,cg,Er,uZ,sQ,je,gX,Xq,WT,PyData.depth,lN];cases cs <;> rfl
def OI(r:Rn (m a h) λp=>∃j:Int,p.1=[.int j]/\0<=j/\j<=1000/\Q ((List.range j.toNat).map λ(k:Nat)=>D.int (k:Int),p.2)):Rn (QL m a h) Q:=aW (r.imp λp u9=>by
 have⟨j,e,c,b,q⟩:=u9;rw[e];dsimp only;rw[WH ⟨c,b⟩];exact⟨_,rfl,q⟩)
section
variable {h h0:MH} {s c wd R:Nat} {cs:List Int} {W:Wd} {fl:List Int} {left odd:Int} {Q:D×MH->Prop}
theorem Qz{top:Int}(A:Sb s c cs h0 (R+14) h)(d:h0[wd]?=some (oo W fl left odd))(l:wd≠s)(ok:CT W fl odd)(hp:W.params[j]?=some ps)(hj:j<W.au.length)
  (kk:∀(r:Row)(U:MH),(∀n,bh W ps n r)->cnt r=1->Sb s c cs h0 R U->Q (aH r,U)):Rn (gG [.ob s,.ob wd,.int j,.int top] h) Q:=by
 have hw:=A.at_ d l;have d2:=ok.d2;have pl:=ok.p3 ps (WE hp);obtain⟨dj,T⟩:∃f,W.au[j]?=some f:=⟨_,WK hj⟩;apply bj ?_;nofun;apply eZ ?_;exists eC hw;nofun;apply⟨(W.au.map D.str).length,rfl,by rw[WA];simp,by rw[WA];lia,?_⟩;rw[WA,Xd];obtain⟨⟨ys,U⟩,e1,J,hym,δ1,P,_⟩:=qV (ws:=[]) (g:=gN 0) (c:=ib (ao (ag F7 (ag ax (ag ax (aM 3) (eK (.str "floors"))) (aM 0)) (aM 2))) (ao (ag Q5 (aM 0) (aM 1)))) (e:=aM 0) (λx y=>y=x)
  (xs:=(List.range W.au.length).map λ(k:Nat)=>D.int (k:Int)) (δ:=[none,some (.int j),some (.int top),some (.ob wd)]) (h:=h) (λi δ X=>X=h/\∃Z,δ=[Z,some (.int j),some (.int top),some (.ob wd)]) ⟨rfl,_,rfl⟩ (λ_ _ _ _ _=>rfl) (by
   rintro i x δ X E ⟨rfl,Z,rfl⟩;rw[WY]at E;have⟨k,N,G⟩:=XD.mp E;subst G;have o:k<fl.length:=by rw[ok.Vz];exact XM.mp (WE N)
   obtain⟨f,hf⟩:∃f,fl[k]?=some f:=⟨_,WK o⟩;exists ou hw;exists cy hf;nofun;apply⟨_,rfl,λ_=>?_,λ_=>⟨λz=>(nomatch z),λ_=>⟨rfl,_,rfl⟩⟩⟩;nofun;apply⟨_,rfl,λ_=>?_,λ_=>⟨rfl,_,rfl⟩⟩;nofun;exact⟨rfl,rfl,_,rfl⟩)
 dsimp only at P;subst P;apply rv e1 ⟨WL J (by rw[WA,W3,show sizeLine=16777216 from rfl];exact WL d2 {}),?_⟩;have u:∀v:List D,(∀y∈v,∃x,x∈(List.range W.au.length).map (λ(k:Nat)=>D.int (k:Int))/\y=x)->∃p:List Int,v=p.map D.int/\∀k∈p,0<=k/\k<W.au.length:=by
  intro v hz
  induction v with
  |nil=>exact⟨[],rfl,λ_ z=>(nomatch z)⟩
  |cons y r ih=>
   have⟨p,rfl,q⟩:=ih λz hz'=>hz z (WG _ hz');have⟨x,E,rfl⟩:=hz y WI;have⟨k,N,rfl⟩:=Xe.mp E;exact⟨k::p,rfl,λi O=>by
    rcases WV.mp O with rfl |O
    ·have:=XM.mp N;clear ih;lia
    ·exact q i O⟩
 have I:ys.length<=6:=by
  have h9:ys.length<=_:=J;rw[WA,W3]at h9;exact WL h9 d2
 have⟨p,rfl,hjs⟩:=u ys hym;rw[WA]at I;nofun;apply JQ A hw ok λb h2 A2=>?_;have L:=A2.at_ d l;nofun;apply D6 (Y:=λr=>∃(ks:List Int),r=(Fl.nx,[some (.ob s),some (.ob wd),some (.int j),some (.int top),some (.lv (ks.map D.int)),none,none],h2)/\ks.length<=6/\∀k∈ks,0<=k/\k<W.au.length) ?_ ?_
 ·apply⟨b,rfl,λ_=>?_,λ_=>?_⟩
  ·nofun;apply OI ?_;exists eC L;nofun;apply⟨(W.au.map D.str).length,rfl,by rw[WA];simp,by rw[WA];lia,?_⟩;rw[WA,Xd];have⟨ks,M,G⟩:=u _ λy hy=>⟨y,hy,rfl⟩;apply⟨ks,?_,?_,G⟩
   ·show _=_;rw[<-M];rfl
   ·have:=congrArg List.length M;rw[WA,WA,W3]at this
    lia
  ·nofun;exact⟨p,rfl,I,hjs⟩
 rintro _ ⟨ks,rfl,kn,hks⟩;show Rn _ _;nofun;apply rv (AO ks _) ⟨_,rfl,λz=>?_,λz=>?_⟩
 ·exists eC L;exists cy T;nofun;have:=kk (.say dj) h2 (λn=>by unfold bh;exact Xx _ (WE T)) (by rw[cnt]) (A2.dn 13);rw[aH]at this;exact this
 have z0:0<ks.length:=by cases ks with |nil=>cases z |cons _ _=>simp
 nofun;apply Gr A2 (.inl rfl) (by simpa using z0) (by simp;exact WL kn {}) λd3 h3 hd3 A3=>?_;have hw3:=A3.at_ d l;have⟨k,N,rfl⟩:=Xe.mp hd3;have⟨k0,k1⟩:=hks k N;have⟨m,rfl⟩:=YC k0;have o:m<W.au.length:=by exact YK.mp k1
 obtain⟨dk,S⟩:∃f,W.au[m]?=some f:=⟨_,WK o⟩;obtain⟨qs,F⟩:∃f,W.params[m]?=some f:=⟨_,WK (by rw[ok.pl];exact o)⟩;have ql:=ok.p3 qs (WE F);nofun;apply dW ?_;exists di hw3;exists cy F;apply⟨_,_,rfl,?_⟩;obtain⟨⟨v,h4⟩,e4,w,δ4,_,A4⟩:=mT (ws:=[]) (g:=gN 0) (e:=aj bT (af (aM 2) (af (ag ax (ag ax (aM 3) (eK (.str "params"))) (aM 1)) aV))) (λ_ y=>∃t:Term,y=aS t/\fb ps t)
  (xs:=qs.map D.str) (δ:=[none,some (.int j),some (.ob s),some (.ob wd)]) (h:=h3) (λi δ X=>(∃Z,δ=[Z,some (.int j),some (.ob s),some (.ob wd)])/\Sb s c cs h0 (R+4*(3-i)) X) ⟨⟨_,rfl⟩,A3⟩ (λ_ _ _ _ _=>rfl) (by
   rintro i x δ X E ⟨⟨Z,rfl⟩,Ai⟩;have O:i<3:=by
    have:=(WB.mp E).1;rw[WA]at this
    lia
   rw[show R+4*(3-i)=R+4*(3-(i+1))+4 from congrArg (λz=>R+4*z) (zD O)]at Ai;have hwi:=Ai.at_ d l;exists di hwi;exists cy hp;nofun;exact zi Ai pl λt h6 tk _ A6=>⟨⟨t,rfl,tk⟩,⟨_,rfl⟩,A6⟩)
 obtain⟨H,rfl,htm⟩:∃H:List Term,v=H.map aS/\∀t∈H,fb ps t:=by
  have hr:=w.right;clear e4 w A4;dsimp only at hr
  induction v with
  |nil=>exact⟨[],rfl,λ_ z=>(nomatch z)⟩
  |cons y r ih=>
   have⟨p,rfl,U⟩:=ih λz hz=>hr z (WG _ hz);have⟨x,E,t,rfl,tk⟩:=hr y WI;exact⟨t::p,rfl,λj hj=>by
    rcases WV.mp hj with rfl |hj
    ·exact tk
    ·exact U j hj⟩
 have C:=w.length;dsimp only at C;rw[WA,WA]at C;apply rv e4 ⟨by dsimp only;rw[WA,show sizeLine=16777216 from rfl];lia,?_⟩;have A4:Sb s c cs h0 R h4:=A4.le (Xh _ _);have hw4:=A4.at_ d l;exists eC hw4;exists cy S;nofun;apply rv (a:=(.tup (H.map aS),_)) rfl ?_;nofun;have:=kk (.call dk H) h4 (λn=>by unfold bh;exact⟨⟨m,qs,S,F,C⟩,htm⟩) (by rw[cnt]) A4;rw[aH]at this;exact this
end
def gx(s wd:Nat)(h a:MH):Prop:=a.length=h.length/\∀k,k≠s->k≠wd->a[k]?=h[k]?
def gx.refl(s wd:Nat)(h:MH):gx s wd h h:=⟨rfl,λ_ _ _=>rfl⟩
theorem gx.trans(a:gx s wd h d)(b:gx s wd d c):gx s wd h c:=⟨b.1.trans a.1,λk n m=>(b.2 k n m).trans (a.2 k n m)⟩
def ux.two(a:ux s h b):gx s wd h b:=⟨a.1,λk n _=>a.2 k n⟩
theorem gx.set:gx s wd h (h.set wd o):=⟨XY,λk _ n=>WQ (XW n)⟩
def gx.VI(b:gx s wd (a++g) d)(i:s<a.length)(h:wd<a.length):∃c,d=c++g/\gx s wd a c:=by
 have hl:d.length=a.length+g.length:=by rw[b.1];simp
 apply⟨d.take a.length,?_,by rw[Xm];lia,λk f e=>?_⟩
 ·apply ZC λk=>?_
  by_cases z:k<a.length
  ·rw[W0 (by rw[Xm];lia),Xu z]
  ·rw[b.2 _ () (),W4 (by exact XA z),W4 (by rw[Xm];lia),Xm];rw[show min a.length d.length=a.length by lia]
 ·by_cases z:k<a.length
  ·rw[Xu z,b.2 k f e,W0 z]
  ·rw[Xr (by rw[Xm];lia),Xr (by exact XA z)]
theorem g9(n:Nat):∀a:List Str,dh n (a.map D.str)=true
 |[]=>rfl
 |j::r=>by rw[WN];show(gu n (.str _)&&dh n _)=true;rw[g9 n r];rfl
theorem wZ(n:Nat):∀b:List (List Str),dh n (b.map λa=>.lv (a.map D.str))=true
 |[]=>rfl
 |j::r=>by rw[WN];show(dh n (j.map D.str)&&dh n _)=true;rw[g9 n j,wZ n r];rfl
def CI(n:Nat)(W:Wd)(fl:List Int)(l odd:Int):zt n (oo W fl l odd)=true:=by
 show(dh n _&&(dh n _&&(dh n _&&(dh n _&&(true&&(true&&true))))))=true;rw[g9,g9,wZ,EB];rfl
structure En where
 s:Nat
 c:Nat
 wd:Nat
 cs:List Int
 W:Wd
 fl:List Int
 odd:Int
 ok:CT W fl odd
 ne:wd≠s
 nc:wd≠c
structure Wb(E:En)(h0:MH)(R l:Nat)(h:MH):Prop where
 S:St E.s E.c E.cs R h
 w:h[E.wd]?=some (oo E.W E.fl l E.odd)
 C:Cl h
 b:gx E.s E.wd h0 h
section
variable {E:En} {h0 h h1 h' g:MH} {R R' l l' k:Nat} {Q:D×MH->Prop}
theorem Wb.lt(A:Wb E h0 R l h):E.s<h.length/\E.c<h.length/\E.wd<h.length:=⟨A.S.lt.1,A.S.lt.2,(WB.mp A.w).1⟩
theorem Wb.by(A:Wb E h0 R l h)(B:Sb E.s E.c E.cs h R' h1):Wb E h0 R' l h1:=⟨B.S,(B.b.2 _ E.ne).trans A.w,A.C.but B.S B.b,A.b.trans B.b.two⟩
theorem Wb.le(A:Wb E h0 R l h)(a:R'<=R):Wb E h0 R' l h:=⟨A.S.le a,A.w,A.C,A.b⟩
theorem Wb.here(A:Wb E h0 R l h):Wb E h R l h:=⟨A.S,A.w,A.C,gx.refl _ _ _⟩
theorem Wb.tr(A:Wb E h1 R l h)(b:gx E.s E.wd h0 h1):Wb E h0 R l h:=⟨A.S,A.w,A.C,b.trans A.b⟩
theorem Wb.set(A:Wb E h0 R l h)(v:Nat):Wb E h0 R v (h.set E.wd (oo E.W E.fl v E.odd)):=
 ⟨A.S.off E.ne E.nc,Xk A.lt.2.2,A.C.set (CI _ _ _ _ _),A.b.trans gx.set⟩
theorem Wb.push(A:Wb E h0 R l h)(a:zt (h.length+1) o=true):Wb E (h++[o]) R l (h++[o]):=⟨A.S.more _,by rw[W0 A.lt.2.2];exact A.w,A.C.snoc a,gx.refl _ _ _⟩
theorem Qq(C:Cl h)(S:St E.s E.c E.cs R h')(w:h'[E.wd]?=some (oo E.W E.fl l E.odd))(b:gx E.s E.wd h h'):Cl h':=by
 intro o f;have⟨k,a⟩:=XU.mp f
 by_cases z:k=E.s
 ·subst z;have⟨n,t,e,_⟩:=S.st;rw[e]at a;cases a;show(true&&(decide (E.c<h'.length)&&(true&&true)))=true;rw[Xf S.lt.2];rfl
 ·by_cases d:k=E.wd
  ·subst d;rw[w]at a;cases a;exact CI _ _ _ _ _
  ·rw[b.2 k z d]at a;rw[b.1];exact C o (WE a)
theorem Wb.pop(c:Wb E h0 j f h)(A:Wb E (h++g) R l h'):∃a,h'=a++g/\a.length=h.length/\Wb E h0 R l a:=by
 have⟨h1,i,d⟩:=c.lt;have⟨a,rfl,b⟩:=A.b.VI h1 d;have e:=b.1;have S:=A.S.cut () ();have w:=A.w;rw[W0 ()]at w;exact⟨a,rfl,e,S,w,Qq c.C S w b,c.b.trans b⟩
theorem w_next(A:Wb E h0 (R+1) l h)(d:0<m)(c:m<=10^40)(k:∀(r:Int)(h1:MH),0<=r->r<m->Wb E h0 R l h1->Q (.int r,h1)):Rn (aI [.ob E.s,.int m] h) Q:=
 dZ A.S.sb d c λr h1 b a e=>k r h1 b a (A.by e)
theorem Rf(A:Wb E h0 (R+1) l h)(hd:d=.lv xs\/d=.tup xs)(b:0<xs.length)(a:xs.length<=1000000)(k:∀(x:D)(h1:MH),x∈xs->Wb E h0 R l h1->Q (x,h1)):Rn (aG [.ob E.s,d] h) Q:=
 Gr A.S.sb hd b a λx h1 c e=>k x h1 c (A.by e)
theorem GL{is:List Int}(P:Int->Prop)(d:∀i∈is,P i)(A:Wb E h0 (R+1) l h)(k:∀(i:Int)(h1:MH),P i->Wb E h0 R l h1->Q (.int i,h1))(b:0<is.length:=by simp)(a:is.length<=1000:=by simp):Rn (aG [.ob E.s,.lv (is.map D.int)] h) Q:=
 jx P d A.S.sb (λi h1 c _ e=>k i h1 c (A.by e)) b a
theorem xp(A:Wb E h0 (R+4) l h)(hp:a.length<=3)(k:∀(t:Term)(h1:MH),fb a t->Wb E h0 R l h1->Q (aS t,h1)):Rn (bT [.ob E.s,.lv (a.map D.str)] h) Q:=
 zi A.S.sb hp λt h1 ht _ b=>k t h1 ht (A.by b)
structure Cd(W:Wd)(j:Nat)(ps:List Str)(d:Nat)(top:Int)(held:List Lock):Prop where
 hp:W.params[j]?=some ps
 hj:j<W.au.length
 d1:1<=d
 ht:top<=W.names.length
 hh:∀x∈held,fE W ps x
 hl:held.length<=4*d
variable {j d f:Nat} {ps:List Str} {top:Int} {held:List Lock}
theorem Cd.more{W:Wd}{n:Nat}{a:Int}{ls:List Lock}(G:Cd W j ps d top held)(ht:a<=W.names.length)(hl:ls.length<=4*n)(c:∀x∈ls,fE W ps x):Cd W j ps (d+n) a (held++ls):=
 ⟨G.hp,G.hj,WL G.d1 (Xh _ _),ht,λx b=>(Xw.mp b).elim (G.hh x) (c x),by have:=G.hl;rw[WR];lia⟩
theorem Cd.deep{W:Wd}(G:Cd W j ps d top held):Cd W j ps (d+1) top held:=⟨G.hp,G.hj,Xp G.d1,G.ht,G.hh,by have:=G.hl;lia⟩
theorem Cd.pl(G:Cd E.W j ps d top held):ps.length<=3:=E.ok.p3 ps (WE G.hp)
theorem GN(A:Wb E h0 (R+10) l h)(G:Cd E.W j ps d top held)(hd:d<=5)(n:∀(k:Int)(x:Lock)(h1:MH),max top (E.fl[j]?.getD 0)<E.W.names.length->0<=k->k<E.W.names.length->fE E.W ps x->Wb E h0 R l h1->Q (.tup [.int k,aD x],h1))
  (m:∀(h1:MH),max top (E.fl[j]?.getD 0)=E.W.names.length->Wb E h0 R l h1->Q (.tup [.bg,.bg],h1)):Rn (fy [.ob E.s,.ob E.wd,.int j,.int top,.lv (held.map aD)] h) Q:=
 Qx A.S.sb A.w E.ne E.ok G.hp G.hj G.ht G.hh (by have:=G.hl;lia) (λk x h1 a b c e i=>n k x h1 a b c e (A.by i)) λh1 a i=>m h1 a (A.by i)
theorem NF(A:Wb E h0 (R+14) l h)(G:Cd E.W j ps d top held)(k:∀(r:Row)(h1:MH),(∀n,bh E.W ps n r)->cnt r=1->Wb E h0 R l h1->Q (aH r,h1)):Rn (gG [.ob E.s,.ob E.wd,.int j,.int top] h) Q:=
 Qz A.S.sb A.w E.ne E.ok G.hp G.hj λr h1 a b c=>k r h1 a b (A.by c)
abbrev Kl(E:En)(h0:MH)(R l:Nat)(ps:List Str)(d:Nat)(Q:D×MH->Prop):Prop:=∀(r:Row)(l':Nat)(h':MH),bh E.W ps d r->l'+cnt r=l+1->Wb E h0 (R+100*l') l' h'->Q (aH r,h')
abbrev VO(E:En)(h0:MH)(R l:Nat)(ps:List Str)(d:Nat)(Q:D×MH->Prop):Prop:=∀(t:List Row)(l':Nat)(h':MH),bK E.W ps d t->t.length<=12->l'+aY t=l->Wb E h0 (R+100*l') l' h'->Q (.tup (cH t),h')
def Gy(E:En)(f:Nat):Prop:=∀{h0 h:MH} {R l j:Nat} {ps:List Str} {d:Nat} {top:Int} {held:List Lock} {a:Int} {Q:D×MH->Prop},Wb E h0 (R+100*l+4) l h->Cd E.W j ps d top held->d<=5->3*(5-d)+2<=f->1<=a->a<=12->VO E h0 R l ps d Q->
 Rn (bG f [.ob E.s,.ob E.wd,.int j,.int d,.int top,.lv (held.map aD),.int a] h) Q
def QS(E:En)(f:Nat):Prop:=∀{h0 h:MH} {R l j:Nat} {ps:List Str} {d:Nat} {top:Int} {held:List Lock} {Q:D×MH->Prop},Wb E h0 (R+100*l+100) l h->Cd E.W j ps d top held->d<=5->3*(5-d)+1<=f->Kl E h0 R l ps d Q->
 Rn (gh f [.ob E.s,.ob E.wd,.int j,.int d,.int top,.lv (held.map aD)] h) Q
def Kk(E:En)(f:Nat):Prop:=∀{h0 h:MH} {R l j:Nat} {ps:List Str} {d:Nat} {top:Int} {held:List Lock} {a:Str} {Q:D×MH->Prop},Wb E h0 (R+100*l+95) l h->Cd E.W j ps d top held->d<5->3*(5-d)<=f->a∈[Str.ofString "within",Str.ofString "ask",Str.ofString "all"]->Kl E h0 R l ps d Q->
 Rn (dO f [.ob E.s,.ob E.wd,.int j,.int d,.int top,.lv (held.map aD),.str a] h) Q
def QN(E:En)(f:Nat):Prop:=∀{h0 h:MH} {R l j:Nat} {ps:List Str} {d:Nat} {top:Int} {held:List Lock} {Q:D×MH->Prop},Wb E h0 (R+100*l+95) l h->Cd E.W j ps d top held->d<3->5<l->3*(5-d)<=f->Kl E h0 R l ps d Q->
 Rn (cJ f [.ob E.s,.ob E.wd,.int j,.int d,.int top,.lv (held.map aD)] h) Q
end
def sP(r:Rn (b (entry len ds) h) (mN λp=>Rn (leave h p.1 p.2) Q)):Rn (LB len b ds h) Q:=by
 have⟨p,e,q⟩:=bj r;have⟨z,a,k⟩:=q;apply⟨z,?_,k⟩;have e:((b (entry len ds) h).bind K0)=some p:=e;show((b (entry len ds) h).bind K0).bind _=_;rw[e];exact a
def gp{lS:D->MH->Bool}{f:Gx}{o:EM}{m:AM}{a:DS}{h:MH}{Q:D×MH->Prop}(r:Rn (o a h) λp=>lS p.1 p.2=true/\Rn (m a p.2) λq=>Rn (f p.1 q.1 q.2) Q):Rn (eM lS f o m a h) Q:=
 aW (r.imp λp u9=>by have⟨e,r⟩:=u9;rw[WH e];exact aW r)
def cf(e:h[n]?=some (.lst xs)):bL (.ob n) h=true:=by unfold bL dY;dsimp only;rw[e];rfl
def bF(e:h[n]?=some (.lst xs))(hl:xs.length<sizeLine):bu (.ob n) [y] h=some (.bg,h.set n (.lst (xs++[y]))):=by unfold bu;dsimp only;rw[e];dsimp only;rw[WH hl]
def yY(n:Nat)(t:Term):gu n (aS t)=true:=rfl
def rm(n:Nat)(t:Lock):gu n (aD t)=true:=rfl
theorem iD(n:Nat)(f:α->D)(a:∀x,gu n (f x)=true):∀b:List α,dh n (b.map f)=true
 |[]=>rfl
 |x::r=>by rw[WN];show(gu n (f x)&&dh n _)=true;rw[a x,iD n f a r];rfl
mutual
theorem yZ(n:Nat):∀r:Row,gu n (aH r)=true
 |.say w=>by rw[aH];rfl
 |.call d f=>by rw[aH];show(true&&(true&&(dh n _&&true)))=true;rw[iD n _ (yY n)];rfl
 |.within l b=>by rw[aH];show(true&&(gu n (aD l)&&(dh n _&&true)))=true;rw[rm,eL n b];rfl
 |.all ls b=>by rw[aH];show(true&&(dh n _&&(dh n _&&true)))=true;rw[iD n _ (rm n),eL n b];rfl
 |.ask l b e=>by rw[aH];show(true&&(gu n (aD l)&&(dh n _&&(dh n _&&true))))=true;rw[rm,eL n b,eL n e];rfl
 |.vF s t a b c=>by rw[aH];show(true&&(gu n (aS s)&&(gu n (aS t)&&(dh n _&&(dh n _&&(dh n _&&true))))))=true;rw[yY,yY,eL n a,eL n b,eL n c];rfl
 |.either a b=>by rw[aH];show(true&&(dh n _&&(dh n _&&true)))=true;rw[eL n a,eL n b];rfl
 |.again a=>by rw[aH];show(true&&(dh n _&&true))=true;rw[eL n a];rfl
theorem eL(n:Nat):∀r:List Row,dh n (cH r)=true
 |[]=>by rw[cH];rfl
 |r::rs=>by rw[cH];show(gu n _&&dh n _)=true;rw[yZ n r,eL n rs];rfl
end
def g0(e:H.length=n):(H++[a])[n]?=some a:=by rw[<-e];simp
def BE(e:H.length=n):(H++[a]).set n b=H++[b]:=by rw[<-e];simp
section
variable {E:En} {f:Nat}
theorem Cm(hr:QS E f):Gy E (f+1):=by
 intro h0 h R l j X d top F c Q A G d5 hf m0 m1 k;unfold bG;apply sP ?_;nofun;apply eZ ?_;nofun;apply rv (a:=(.lv (List.replicate 15 (D.int c)),_)) rfl ?_;nofun;apply rv (a:=(.lv ((List.replicate 15 c++[12]).map D.int),_)) rfl ?_;nofun;apply GL (λi=>1<=i/\i<=12) (by intro x N;simp at N;lia) (A.push (o:=.lst []) rfl) λi h2 hi A2=>?_;nofun;apply w_next (m:=i+1) A2 () (by exact YN hi.2 {}) λm h3 Y n1 U=>?_;nofun;apply⟨m,rfl,by exact XX {} Y,by lia,?_⟩;have⟨e,rfl,b,U⟩:=A.pop U;apply cO (λi J S=>∃(t:List Row)(p:Nat)(T:Option D)(e:MH),J=[some (.ob E.s),some (.ob E.wd),some (.int j),some (.int d),some (.int top),some (.lv (F.map aD)),some (.int c),some (.ob h.length),T]/\S=e++[.lst (cH t)]/\e.length=h.length/\bK E.W X d t/\t.length<=i/\p+aY t=l/\Wb E h0 (R+100*p+2) p e)
  ⟨[],l,_,e,rfl,by rw[cH],b,by unfold bK;trivial,WJ _,by simp[aY],U⟩ (λ_ _ _ _ _=>rfl) ?_ ?_
 ·rintro q x J S N ⟨t,p,T,e,rfl,rfl,b,g,u,O,y⟩;have hq:q<12:=by
   have:=(WB.mp N).1;simp at this
   lia
  have I:=y.push (o:=.lst (cH t)) (eL _ t);exists qO I.w;nofun;apply⟨_,rfl,λz=>?_,λz=>?_⟩
  ·obtain⟨M,rfl⟩:∃n,p=n+1:=⟨p-1,by have:=XR z;clear z;lia⟩;exists qO I.w;exists GK I.w _;rw[show((M+1:Nat):Int)-1=(M:Int) by simp];have A6:=I.set M;nofun;apply gp ?_;nofun;apply⟨cf (xs:=cH t) (by rw[WQ (by have:=y.lt;lia)];exact g0 b),?_⟩;nofun;apply hr (R:=R+2) (A6.le ()) G d5 (by exact XS hf) λr Z h6 L cr A7=>?_;have⟨P,rfl,H,A8⟩:=y.pop A7;nofun;have v:=H.trans b;apply rv (bF (g0 v) (by rw[fY,WA,show sizeLine=16777216 from rfl];lia)) ?_;rw[BE v];nofun;have hcn:aY (t++[r])=aY t+cnt r:=by rw[AY];simp[aY]
   exact⟨t++[r],Z,_,P,rfl,by rw[fY,fY,W6];rfl,v,wz g (by unfold bK;exact⟨L,by unfold bK;trivial⟩),by simp;exact u,by lia,A8.le ()⟩
  ·nofun;exact⟨t,p,_,e,rfl,rfl,b,g,by exact Xp u,O,y⟩
 ·rintro J S ⟨t,p,T,e,rfl,rfl,b,g,u,O,y⟩;rw[WA,W3]at u;nofun;apply rv (a:=(.tup (cH t),e++[.lst (cH t)])) (by simp only[bw,cq,g0 b,Xq]) ?_;nofun;exact rv (jl b y.C (λn z=>(nomatch z)) (eL _ t)) (k t p e g () O (y.le (by simp)))
end
theorem DE:∀{xs:List D} {b:DS} {h:MH} (J:List D->DS->MH->Prop),J [] b h->(∀c b h,J c b h->hZ ws h=true)->
  (∀x c b h,x∈xs->c.length<xs.length->J c b h->Rn (g x b h) λq=>Rn (e q.1 q.2) λy=>J (c++[y.1]) q.1 y.2)->Rn (aX ws g bI e xs b h) λp=>p.1.length=xs.length/\∃d,J p.1 d p.2
 |[],b,h,J,f,i,_=>by
  unfold aX;rw[WH (i [] b h f)];exact⟨_,rfl,rfl,b,f⟩
 |x::xs,b,h,J,f,i,ht=>by
  unfold aX;rw[WH (i [] b h f)];obtain⟨⟨l,o⟩,r,⟨y,u⟩,k,t⟩:=ht x [] b h WI (YH _) f;obtain⟨⟨c,n⟩,j,a,d,s⟩:=DE (ws:=ws) (g:=g) (e:=e) (xs:=xs) (λc=>J (y::c)) t (λc b h=>i (y::c) b h) λx c b h m hl=>ht x (y::c) b h (WG _ m) (Nat.succ_lt_succ hl);apply⟨(y::c,n),?_,congrArg Nat.succ a,d,s⟩;rw[r];dsimp only[Option.bind_some];show((some (true,o)).bind _)=_;dsimp only[Option.bind_some]at k j ⊢;rw[WH rfl,k];dsimp only[Option.bind_some];rw[j];rfl
def tX(f:α->D)(b a:List α)(h:MH)(hl:b.length+a.length<=1000):aN (.lv (b.map f)) (.lv (a.map f)) h=some (.lv ((b++a).map f),h):=by
 rw[W6];simp only[aN,Cy,dY,WT,WA];rw[WH (by rw[show sizeLine=16777216 from rfl];exact WL hl {})]
def RX(P:Prop)[Decidable P](e:Rn (t a h) λp=>p=(decide P,h))(c:P->Rn (x a h) Q)(b:¬P->Rn (y a h) Q):Rn (eS t x y a h) Q:=by
 apply DA (e.imp ?_);rintro _ rfl;exact⟨λz=>c (XR z),λz=>b (AaL z)⟩
def fK(P:Prop)[Decidable P](e:Rn (t a h) λp=>p=(decide P,h))(d:P->Rn (x a h) (i0 b Q))(c:¬P->Rn (b a h) Q):Rn (ai (eS t x bV) b a h) Q:=
 jb (RX P e d λz=>⟨_,rfl,c z⟩)
def dT [Decidable P](p:P)(h:MH):(true,h)=(decide P,h):=by rw[Xf p]
def dF [Decidable P](p:¬P)(h:MH):(false,h)=(decide P,h):=by rw[Xc p]
section
variable {E:En} {f:Nat}
theorem wH{n:Nat}(g:Gy E f){r h:MH}{R l j:Nat}{m:List Str}{d:Nat}{top:Int}{b:List Lock}{Q:List D×MH->Prop}
  (A:Wb E r (R+100*l+12) l h) (hn:n<=3) (G:Cd E.W j m d top b) (J:d<5) (O:3*(5-d)<=f) (k:∀(a:List (List Row)) (c:Nat) (i:MH),a.length=n->(∀t∈a,t.length<=12/\bK E.W m (d+1) t)->c+(a.map aY).sum=l->Wb E r (R+100*c) c i->Q (a.map (λt=>D.tup (cH t)),i)):
  Rn (aX [] (gN 0) Sm.bI (aj (bG f) (af (aM 4) (af (aM 6) (af (aM 1) (af (ag aN (aM 2) (eK (.int 1))) (af (aM 5) (af (aM 3) (af (eK (.int 2)) aV)))))))) ((List.range n).map λ(k:Nat)=>D.int k) [none,some (.int j),some (.int d),some (.lv (b.map aD)),some (.ob E.s),some (.int top),some (.ob E.wd)] h) Q:=by
 apply(DE (ws:=[]) (λC y i=>∃(v:Option D)(a:List (List Row)) (c:Nat),y=[v,some (.int j),some (.int d),some (.lv (b.map aD)),some (.ob E.s),some (.int top),some (.ob E.wd)]/\C=a.map (λt=>D.tup (cH t))/\(∀t∈a,t.length<=12/\bK E.W m (d+1) t)/\c+(a.map aY).sum=l/\Wb E r (R+100*c+(12-4*a.length)) c i) ⟨none,[],l,rfl,rfl,λ_ z=>(nomatch z),by simp,A⟩ (λ_ _ _ _=>rfl) ?_).imp ?_
 ·rintro x _ y i P e ⟨v,a,c,rfl,rfl,a9,H,w⟩;rw[WA,WA,W3]at e;nofun;apply g (R:=R+(8-4*a.length)) (d:=d+1) (w.le (QA ((by decide:∀L<3,8-4*L+4<=12-4*L) _ (WO e hn)))) G.deep J (dp J O) {} {} λt N I o q S M=>?_;apply⟨_,a++[t],N,rfl,by rw[W6];rfl,λu z=>?_,by simp;clear A;lia,M.le (by rw[WR,Y7];clear M;lia)⟩;rcases Xw.mp z with z |z
  ·exact a9 u z
  ·rw[WU.mp z];exact⟨q,o⟩
 ·rintro⟨C,I⟩ ⟨p,_,v,a,c,_,F,a9,H,w⟩;dsimp only at p F;subst F;rw[WA,WA,W3]at p;exact k a c I p a9 H (w.le (by simp))
theorem Oj(g:Gy E f)(P:Kk E f)(N:QN E f):QS E (f+1):=by
 intro h0 h R l j ps d top Z Q A G d5 I k;have pl:=G.pl;have n1:=E.ok.n1;have n2:=E.ok.n2;have d2:=E.ok.d2;unfold gh;apply bj ?_;nofun;apply w_next (m:=16) A {} {} λw h1 w0 w1 o=>?_;apply fK (w<2\/(d=5/\w<11)) ?_ (λz=>?_) (λz=>?_)
 ·nofun;apply⟨_,rfl,λz=>?_,λz=>?_⟩
  ·have z:w<2:=by simpa using z
   exact dT (.inl z) _
  ·have z:¬w<2:=by simpa using z
   nofun;apply⟨_,rfl,λy=>?_,λy=>?_⟩
   ·have y0:(d:Int)=5:=by simpa using y
    have y:d=5:=by clear y;lia
    nofun;apply⟨_,rfl,?_⟩;rw[show decide (w<11)=decide (w<2\/(d=5/\w<11)) from decide_eq_decide.mpr (by clear z;lia)]
   ·have y0:(d:Int)≠5:=by simpa using y
    have y:d≠5:=by clear y d5;lia
    exact dF () _
 ·exists eB o.w;exists eC o.w;exists tX D.str E.W.names E.W.au _ ();nofun;apply Rf (xs:=(E.W.names++E.W.au).map D.str) o (.inl rfl) (by simp;lia) (by simp;lia) λx i q b=>?_;have⟨H,s,rfl⟩:=Xe.mp q;nofun;rw[show D.tup [.str "say",.str H]=aH (.say H) by rw[aH]];exact k (.say H) l i (by unfold bh;exact s) (by rw[cnt]) (b.le (by simp))
 have nd:d=5->11<=w:=by lia
 have w2:2<=w:=by lia
 apply fK (12<w\/d=5) ?_ (λz=>?_) (λz=>?_)
 ·nofun;apply⟨_,rfl,λy=>?_,λy=>?_⟩
  ·have y:12<w:=by simpa using y
   exact dT (.inl y) _
  ·have y:¬12<w:=by simpa using y
   nofun;apply⟨_,rfl,?_⟩;rw[show((d:Int)==5)=decide (12<w\/d=5) by
    rw[YE];simp only[YM,Xy];clear y d5;lia]
 ·nofun;apply NF (R:=R+100*l) (o.le (by simp)) G λr i c p b=>?_;nofun;exact k r l i (c d) (by rw[p]) b
 have u:d<5:=by lia
 apply fK (w=12/\d<3/\5<(l:Int)) ?_ (λz=>?_) (λz=>?_)
 ·nofun;apply⟨_,rfl,λy=>?_,λy=>?_⟩
  ·have y:w=12:=by simpa using y
   nofun;apply⟨_,rfl,λx=>?_,λx=>?_⟩
   ·have T:(d:Int)<3:=by simpa using x
    have x:d<3:=by exact YK.mp T
    exists qO o.w;nofun;apply⟨_,rfl,?_⟩;rw[show decide (5<(l:Int))=decide (w=12/\d<3/\5<(l:Int)) from decide_eq_decide.mpr (by clear x y;lia)]
   ·have T:¬(d:Int)<3:=by simpa using x
    have x:¬d<3:=by lia
    exact dF () _
  ·have y:w≠12:=by simpa using y
   exact dF (by clear y z;lia) _
 ·nofun;apply N (R:=R) (o.le (by simp)) G z.2.1 (by exact YK.mp z.2.2) (by exact XS I) λr C i c p b=>?_;nofun;exact k r C i c p b
 apply fK (w=11\/w=12) ?_ (λz=>?_) (λz=>?_)
 ·nofun;apply⟨_,rfl,λy=>?_,λy=>?_⟩
  ·have y:w=11:=by simpa using y
   exact dT (.inl y) _
  ·have y:w≠11:=by simpa using y
   nofun;apply⟨_,rfl,?_⟩;rw[show(w==12)=decide (w=11\/w=12) by rw[YE];simp only[YM,Xy];lia]
 ·show Rn (ai _ _ _ _) _;exists di o.w;exists cy G.hp;nofun;apply xp o pl λX i L b=>?_;exists di b.w;exists cy G.hp;nofun;apply xp b pl λU h3 J S=>?_;nofun;apply⟨_,_,rfl,?_⟩;nofun;apply eZ ?_;nofun;apply⟨3,rfl,by simp,by exact Zv _,?_⟩;apply wH (n:=3) (R:=R) g (S.le (by simp)) (WJ _) G u (by exact XS I) λe l4 h4 hn a9 p A4=>?_
  match e,hn with
  |[x,y,v],_=>
   apply⟨by show 3<=sizeLine;decide,?_⟩;nofun;apply rv (a:=(.tup [.tup (cH x),.tup (cH y),.tup (cH v)],_)) rfl ?_;nofun;apply rv (a:=(aH (.vF X U x y v),_)) (by rw[aH];rfl) ?_;nofun;simp only[WN,Ye,Abr,List.sum_nil]at p;have q:=a9 x (by simp);have F:=a9 y (by simp);have Y:=a9 v (by simp);exact k (.vF X U x y v) l4 h4 (by unfold bh;exact⟨L,J,u,q.1,F.1,Y.1,q.2,F.2,Y.2⟩) (by rw[cnt];lia) A4
 apply fK (w=10) ?_ (λz=>?_) (λz=>?_)
 ·nofun;apply⟨_,rfl,?_⟩;rw[show(w==10)=decide (w=10) by rw[YE];simp only[YM,Xy]]
 ·nofun;apply eZ ?_;nofun;apply⟨2,rfl,by simp,by exact Zv _,?_⟩;apply wH (n:=2) (R:=R) g (o.le (by simp)) (Yy _) G u (by exact XS I) λe C i hn a9 p b=>?_
  match e,hn with
  |[x,y],_=>
   apply⟨by show 2<=sizeLine;decide,?_⟩;nofun;apply rv (a:=(.tup [.tup (cH x),.tup (cH y)],_)) rfl ?_;nofun;apply rv (a:=(aH (.either x y),_)) (by rw[aH];rfl) ?_;nofun;simp only[WN,Ye,Abr,List.sum_nil]at p;have q:=a9 x (by simp);have F:=a9 y (by simp);exact k (.either x y) C i (by unfold bh;exact⟨u,q.1,F.1,q.2,F.2⟩) (by rw[cnt];lia) b
 apply fK (w=9) ?_ (λz=>?_) (λz=>?_)
 ·nofun;apply⟨_,rfl,?_⟩;rw[show(w==9)=decide (w=9) by rw[YE];simp only[YM,Xy]]
 ·nofun;apply g (R:=R) (d:=d+1) (o.le (by simp)) G.deep u (by clear z;clear z;lia) {} {} λt C i M O p b=>?_;nofun;rw[show D.tup [.str "again",.tup (cH t)]=aH (.again t) by rw[aH]];exact k (.again t) C i (by unfold bh;exact⟨u,O,M⟩) (by rw[cnt];lia) b
 nofun;apply Rf (xs:=[Str.ofString "within",Str.ofString "within",Str.ofString "within",Str.ofString "within",Str.ofString "ask",Str.ofString "all"].map D.str) o (.inl rfl) (by simp) (by simp) λx i q b=>?_;have⟨H,s,rfl⟩:=Xe.mp q;nofun;apply P (R:=R) (b.le (by simp)) G u (by exact XS I) (by simp at s ⊢;assumption) λr l3 h3 c p S=>?_;nofun;exact k r l3 h3 c p S
end
def fH(t:Lock):PyData:=.tuple [.str t.1,rE t.2]
def HL(t:Term):je (aS t)=some (rE t):=by simp only[aS,je,gX,WT,Xq];rfl
def z8(t:Lock):je (aD t)=some (fH t):=by simp only[aD,je,gX,HL,WT,Xq];rfl
theorem oH:∀a:List Lock,gX (a.map aD)=some (a.map fH)
 |[]=>rfl
 |c::r=>by simp only[WN,gX,oH r,z8,WT,Xq]
theorem gC:∀a:List Lock,PyData.depthAll (a.map fH)<=2
 |[]=>by simp[PyData.depthAll]
 |c::r=>by
  have:=gC r;simp only[WN,PyData.depthAll,fH,rE,PyData.depth]
  lia
def yP{h:MH}{n:Nat}{ls:List Lock}(x:Lock)(e:h[n]?=some (.lst (ls.map aD))):lL (aD x) (.ob n) h=some (.bl (!(ls.map fH).any λb=>PyData.eqv b (fH x)),h):=by
 have d:=gC ls;have c:=gC [x];have a:(fH x).depth<=60:=by
  simp only[WN,Ye,PyData.depthAll]at c
  lia
 unfold lL inD;simp only[cg,e];show((cq (.ob n) h).bind _).map _=_;simp only[cq,e,WT,oH];show(((uZ h (aD x)).bind _).map _)=_;rw[show uZ h (aD x)=some (fH x) from z8 x];dsimp only[Option.bind_some];rw[WH ⟨a,by exact WL d {}⟩];rfl
def OJ(r:Rn (f c h) λp=>Rn (e c p.2) λq=>∃b a,dY p.1 q.2=some b/\dY q.1 q.2=some a/\b.length+a.length<=sizeLine/\Q (b++a,q.2)):Rn (QM f e c h) Q:=
 aW (r.imp λp r=>aW (r.imp λq d=>by have⟨b,a,j,i,hl,g⟩:=d;exact⟨_,by rw[j];dsimp only[Option.bind_some];rw[i];dsimp only[Option.bind_some];rw[WH hl],g⟩))
def lI(hl:a.length=h.length)(C:Cl a)(c:∀n,d≠.ob n)(b:gu h.length d=true):leave h d a=some (d,a):=by
 have:=jl (g:=[]) hl C c b
 rwa [XC]at this
def Jr(x:Lock):PyData.eqv (fH x) (fH x)=true:=by
 simp[fH,rE,PyData.eqv,PyData.eqvAll]
def KZ(r:Row)(n:Nat):aH r≠.ob n:=by cases r <;> rw[aH] <;> exactλz=>(nomatch z)
def Wb.ext(A:Wb E h0 R l h)(C:Cl (h++g)):Wb E (h++g) R l (h++g):=⟨A.S.more _,by rw[W0 A.lt.2.2];exact A.w,C,gx.refl _ _ _⟩
def HF(b:gx E.s E.wd h0 h)(k:Kl E h0 R l f d Q)(r:Row)(ok:bh E.W f d r)(i:a+cnt r=l+1)(A:Wb E h (R+100*a) a c)(e:aH r=x):Rn (leave h x (c++g)) Q:=
 ⟨_,e ▸ jl A.b.1 A.C (KZ r) (yZ _ r),k r a c ok i (A.tr b)⟩
def xZ(b:gx E.s E.wd h0 h)(k:Kl E h0 R l c d Q)(r:Row)(ok:bh E.W c d r)(f:a+cnt r=l+1)(A:Wb E h (R+100*a) a i)(e:aH r=x):Rn (leave h x i) Q:=by
 have:=HF (g:=[]) b k r ok f A e
 rwa [XC]at this
section
variable {E:En} {f:Nat}
theorem dq{d f:Nat}(h:d<5)(a:3*(5-d)<=f+1):3*(5-(d+1))+2<=f:=by rw[zD h]at a;exact AbL a
theorem FG(I:Gy E f):Kk E (f+1):=by
 intro h0 h R l j ps d top m c Q A G L hf hw k;obtain⟨dj,hdj⟩:∃f,E.W.au[j]?=some f:=⟨_,WK G.hj⟩;have hl:=G.hl;have ht:=G.ht;have b0:=A.b;replace A:=A.here;unfold dO;apply sP ?_;nofun;apply GN A G (by exact XN L) (λk1 lk h1 hmx k0 k2 O A1=>?_) λh1 _ A1=>?_
 ·nofun;apply rv (a:=(.bl false,_)) rfl ⟨_,rfl,λz=>(nomatch z),λ_=>?_⟩;apply⟨_,rfl,?_⟩;show Rn (ai _ _ _ _) _;apply fK (c=Str.ofString "all") ?_ (λz=>?_) (λz=>?_)
  ·nofun;apply⟨_,rfl,?_⟩;rw[show(c==Str.ofString "all")=decide (c=Str.ofString "all") by rw[YE];simp only[YM,Xy]]
  ·show Rn (ai _ _ _ _) _;nofun;apply⟨_,_,rfl,?_⟩;nofun;apply eZ ?_;nofun;apply GL (is:=[1,1,2,3]) (λi=>1<=i/\i<=3) {} (A1.push (o:=.lst [aD lk]) rfl) λi h2 hi A2=>?_;have⟨hb2,rfl,e2,A2'⟩:=A1.pop A2;nofun;apply⟨i,rfl,by exact XX {} hi.1,by exact YN hi.2 {},?_⟩;apply cO (λi δ h'=>∃(ls:List Lock)(hi:Int)(n:Nat)(X U T:Option D)(p g:MH),δ=[some (.ob E.s),some (.ob E.wd),some (.int j),some (.int d),some (.int top),some (.lv (m.map aD)),some (.str c),some (.int k1),some (aD lk),some (.ob n),some (.int hi),X,U,T,none]/\h'=p++g/\h'[n]?=some (.lst (ls.map aD))/\h.length<=n/\lk∈ls/\ls.Nodup/\(∀x∈ls,fE E.W ps x)/\ls.length<=i+1/\0<=hi/\hi<E.W.names.length/\Wb E h (R+100*l+(80-10*i)) l p/\Cl (p++g))
    ⟨[lk],k1,h1.length,none,none,none,hb2,[.lst [aD lk]],rfl,rfl,g0 e2,by rw[A1.b.1];exact WJ _,by simp,by simp,by simpa using O,WJ _,k0,k2,A2'.le (by simp),A2.C⟩ (λ_ _ _ _ _=>rfl) ?_ ?_
   ·rintro q x δ h' P ⟨ls,Z,n,X,U,T,p,g,rfl,rfl,hn,hnl,S,nd,a9,J,hi0,hi1,M,C3⟩;have hq:q<3:=by
     have:=(WB.mp P).1;simp at this
     lia
    nofun;apply GN (R:=R+100*l+(80-10*(q+1))) ((M.ext C3).le (Yb ((by decide:∀q<3,80-10*(q+1)+10<=80-10*q) q hq) (R+100*l))) G (XN L) (λk4 e h4 _ k40 k41 okk4 A4=>?_) λh1 z4 _=>absurd z4 ()
    ·have hn4:h4[n]?=some (.lst (ls.map aD)):=by
      have:=A.lt;rw[A4.b.2 n () ()];exact hn
     have⟨u,rfl,e4,A4'⟩:=M.pop A4;exists j6 _ _ _;nofun;apply OJ ?_;exists yP e hn4;obtain⟨us,v,hv,hus,husl,yG,hokk⟩:∃(us:List Lock)(v:Int),o6 [.bl (!(ls.map fH).any λb=>PyData.eqv b (fH e))] (u++g)=some (.int v,u++g)/\L6 (.lv [aD e]) (.int v) (u++g)=some (.lv (us.map aD),u++g)/\us.length<=1/\(ls++us).Nodup/\∀x∈ls++us,fE E.W ps x:=by
      cases hb0:((ls.map fH).any λb=>PyData.eqv b (fH e))with
      |true=>exact⟨[],0,rfl,rfl,by simp,by simpa using nd,by simpa using a9⟩
      |false=>
       have hnot:e∉ls:=λz=>by
        rw[List.any_eq_false]at hb0;exact hb0 (fH e) (List.mem_map_of_mem z) (Jr e)
       apply⟨[e],1,rfl,rfl,by simp,?_,?_⟩
       ·rw[Z4];apply⟨nd,by simp,λx P y hy z=>hnot ?_⟩;rw[WU.mp hy]at z;rw[<-z];exact P
       ·intro x P;rcases Xw.mp P with z |z
        ·exact a9 x z
        ·rw[WU.mp z];exact okk4
     exists hv;exists hus;apply⟨ls.map aD,us.map aD,by simp only[dY,hn4],rfl,by rw[WA,WA,show sizeLine=16777216 from rfl];lia,?_⟩;apply⟨ls++us,max Z k4,(u++g).length,_,_,_,u,g++[.lst ((ls++us).map aD)],rfl,by rw[W6];exact Xo _ _ _,by rw[W6];simp,?_,Aay _ S,yG,hokk,by simp;lia,by lia,by lia,A4',?_⟩
     ·have:=A4'.b.1;rw[WR];lia
     ·rw[<-Xo];exact A4.C.snoc (o:=.lst _) (iD _ _ (rm _) _)
   ·rintro δ h' ⟨ls,Z,n,X,U,T,p,g,rfl,rfl,hn,hnl,S,nd,a9,J,hi0,hi1,M,C3⟩;rw[WA,W3]at J M;replace M:=M.le (R':=R+100*l+10) ();show Rn (ai _ _ _ _) _;apply jb ?_;apply Rn.imp (Q:=λr=>∃(ls:List Lock)(g:MH),r=(Fl.nx,[some (.ob E.s),some (.ob E.wd),some (.int j),some (.int d),some (.int top),some (.lv (m.map aD)),some (.str c),some (.int k1),some (aD lk),some (.ob n),some (.int Z),X,U,T,none],p++g)/\(p++g)[n]?=some (.lst (ls.map aD))/\2<=ls.length/\ls.length<=4/\ls.Nodup/\(∀x∈ls,fE E.W ps x)/\Cl (p++g)) ?_ ?_
    ·exists Ek hn;nofun;apply⟨_,rfl,λz=>?_,λz=>?_⟩
     ·have z:ls.length=1:=by
       have:((ls.map aD).length:Int)=1:=by simpa using z
       rw[WA]at this
       lia
      obtain⟨x0,rfl⟩:∃x0,ls=[x0]:=Y1.mp z;obtain rfl:lk=x0:=WU.mp S;have⟨nm,wo,F⟩:=lk;have H:=a9 _ (WU.mpr rfl);nofun;apply gp ?_;nofun;apply⟨cf hn,?_⟩;nofun;apply rv (a:=(.str nm,_)) rfl ?_;nofun;apply rv (a:=(aS (wo,F),_)) rfl ?_;nofun;apply rv (a:=(.str wo,_)) rfl ?_;nofun;apply rv (a:=(aS (wo,F),_)) rfl ?_;nofun;apply rv (a:=(.int F,_)) rfl ?_;nofun;apply rv (a:=(aS (wo,F),_)) rfl ?_;nofun;apply rv (a:=(.int F,_)) rfl ?_;nofun;obtain⟨v,hv,hm,v1,v0⟩:∃v:Int,o6 [.bl (decide (90<F))] (p++g)=some (.int v,p++g)/\jr (.int 2) (.int v) (p++g)=some (.int (2*v),p++g)/\(90<F->v=1)/\(¬90<F->v=0):=by
       by_cases z:90<F
       ·exact⟨1,by rw[Xf z];rfl,rfl,λ_=>rfl,λy=>absurd z y⟩
       ·exact⟨0,by rw[Xc z];rfl,rfl,λy=>absurd y z,λ_=>rfl⟩
      apply rv hv ?_;exists hm;exists bF hn (by rw[WA,show sizeLine=16777216 from rfl];simp);nofun;have hlen:=M.b.1;rw[Y6 _ _ ()];have Y:=H.2;have okn:=H.1;dsimp only at okn;unfold fb at Y;dsimp only at Y;have hvv:v=0\/v=1:=by by_cases z:90<F <;> lia
      apply⟨[(nm,wo,F),(nm,wo,F+1-2*v)],_,rfl,?_,by simp,by simp,?_,?_,?_⟩
      ·rw[W4 (),Xk]
       ·rfl
       ·have:=(WB.mp hn).1;rw[WR]at this
        lia
      ·simp;lia
      ·intro x P;rcases WV.mp P with rfl |P
       ·exact H
       ·rw[WU.mp P];exact⟨okn,Y.1,by dsimp only;lia,by dsimp only;lia⟩
      ·rw[<-Y6 _ _ ()];exact C3.set (o:=.lst _) rfl
     ·have z:ls.length≠1:=by
       have:((ls.map aD).length:Int)≠1:=by simpa using z
       rw[WA]at this
       lia
      have:0<ls.length:=AbN S;exact⟨_,rfl,ls,g,rfl,hn,by lia,by lia,nd,a9,C3⟩
    rintro _ ⟨ls,g,rfl,hn,l2,l4,nd,a9,C4⟩;have A4:=M.ext C4;show Rn (ai _ _ _ _) _;exists Br A4.w;nofun;obtain⟨v,hv,v0,v1⟩:∃v:Int,o6 [.bl (E.odd==0)] (p++g)=some (.int v,p++g)/\0<=v/\v<=1:=by
     cases E.odd==0
     ·exact⟨0,rfl,by exact Zv _,by simp⟩
     ·exact⟨1,rfl,by simp,by exact Int.le_refl _⟩
    apply rv hv ?_;nofun;apply rv (a:=(.tup (ls.map aD),_)) (by simp only[bw,cq,hn,Xq];rfl) ?_;exists j6 _ _ _;nofun;apply rv (a:=(.lv ((m++ls).map aD),_)) (by
     rw[W6];simp only[aN,Cy,dY,hn,WT,WA];rw[WH (by rw[show sizeLine=16777216 from rfl];lia)]) ?_
    nofun;apply I (R:=R) (d:=d+1) (A4.le (by simp)) (G.more (n:=1) (Int.max_le.mpr ⟨ht,XX (Int.add_le_add_left v1 _) hi1⟩) () a9) L (dq L hf) {} {} λt l5 h5 N hll5 cr A5=>?_;have⟨hb5,rfl,_,A5'⟩:=M.pop A5;nofun;exact HF b0 k (.all ls t) (by unfold bh;exact⟨⟨l2,l4,nd,a9⟩,L,hll5,N⟩) (by rw[cnt];lia) A5' (by rw[aH])
  apply jb ?_;exists j6 _ _ _;exists tX aD m [lk] _ (by simp;lia);nofun;apply I (R:=R+10) (d:=d+1) (A1.le ()) (G.more (n:=1) (ls:=[lk]) (Int.max_le.mpr ⟨ht,ZU k2⟩) (by simp) (by simpa using O)) L (dq L hf) {} {} λt l2 h2 N J cr A2=>?_;apply Rn.imp (Q:=_) (fK (c=Str.ofString "ask") ?_ (λz=>?_) (λz=>?_)) λ_ z=>z
  ·nofun;apply⟨_,rfl,?_⟩;rw[show(c==Str.ofString "ask")=decide (c=Str.ofString "ask") by rw[YE];simp only[YM,Xy]]
  ·nofun;apply I (R:=R) (d:=d+1) (A2.le (by clear A2;lia)) G.deep L (dq L hf) {} {} λt3 l3 h3 okl3 hll3 cr3 M=>?_;nofun;exact xZ b0 k (.ask lk t t3) (by unfold bh;exact⟨O,L,J,hll3,N,okl3⟩) (by rw[cnt];lia) M (by rw[aH])
  ·nofun;exact xZ b0 k (.within lk t) (by unfold bh;exact⟨O,L,J,N⟩) (by rw[cnt];lia) (A2.le ()) (by rw[aH])
 ·nofun;apply rv (a:=(.bl true,_)) rfl ⟨_,rfl,λ_=>?_,λz=>(nomatch z)⟩;exists eC A1.w;exists cy hdj;nofun;exact xZ b0 k (.say dj) (by unfold bh;exact Xx _ (WE hdj)) (by rw[cnt]) (A1.le (by simp)) (by rw[aH])
end
def Cu(a:List Lock)(h:MH):g7 (.lv (a.map aD)) (.lv []) h=some (.bl (!a.isEmpty),h):=by
 have:=gC a;simp only[g7,Ju,cg,Er,uZ,oH,je,gX,Xq,WT];rw[WH ⟨show PyData.depthAll _+1<=64 by exact Xj this {},by decide⟩];cases a <;> rfl
section
variable {E:En}
theorem NM{f:Nat}(hlot:Gy E f):QN E (f+1):=by
 intro h0 h R l j ps d top p Q A G d3 l5 hf k;have pl:=G.pl;have hl:=G.hl;have ht:=G.ht;have b0:=A.b;replace A:=A.here;obtain⟨dj,S⟩:∃f,E.W.au[j]?=some f:=⟨_,WK G.hj⟩;obtain⟨fj,hfj⟩:∃f,E.fl[j]?=some f:=⟨_,WK (by rw[E.ok.Vz];exact G.hj)⟩;have hfm:=E.ok.f0 fj (WE hfj);have J:Rn (leave h (.tup [.str "say",.str dj]) h) Q:=xZ b0 k (.say dj) (by unfold bh;exact Xx _ (WE S)) (by rw[cnt]) (A.le (by simp)) (by rw[aH]);unfold cJ;apply sP ?_;exists ou A.w;exists cy hfj;exists j6 top fj h;have lo0:0<=max top fj:=XX hfm.1 (Int.le_max_right _ _);have lo1:max top fj<=E.W.names.length:=by lia
 generalize max top fj=lo at lo0 lo1 ⊢;apply fK (lo=E.W.names.length) ?_ (λz=>?_) (λz=>?_)
 ·exists eB A.w;nofun;apply⟨_,rfl,?_⟩;rw[WA,show(lo==(E.W.names.length:Int))=decide (lo=E.W.names.length) by rw[YE];simp only[YM,Xy]]
 ·exists eC A.w;exists cy S;nofun;exact J
 have⟨kn,rfl⟩:=YC lo0;have hkn:kn<E.W.names.length:=by lia
 obtain⟨nm,O⟩:∃f,E.W.names[kn]?=some f:=⟨_,WK hkn⟩;apply jb ?_;nofun;apply dW ?_;nofun;apply⟨_,_,rfl,?_⟩;obtain⟨⟨ys,h4⟩,e4,hyl,hym,δ4,hh4,_⟩:=qV (ws:=[]) (g:=gN 0) (c:=ao (ag bx (ag ax (aM 0) (eK (.int 0))) (ag ax (ag ax (aM 2) (eK (.str "names"))) (aM 1)))) (e:=aM 0) (λx y=>∃l∈p,y=aD l)
  (xs:=p.map aD) (δ:=[none,some (.int kn),some (.ob E.wd)]) (h:=h) (λj δ h'=>h'=h/\∃d0,δ=[d0,some (.int kn),some (.ob E.wd)]) ⟨rfl,_,rfl⟩ (λ_ _ _ _ _=>rfl) (by
   rintro i x δ h' H ⟨rfl,d0,rfl⟩;have⟨l,hl,rfl⟩:=Xe.mp (WE H);nofun;apply rv (a:=(.str l.1,_)) rfl ?_;exists eB A.w;exists cy O;nofun;apply⟨_,rfl,λ_=>?_,λ_=>⟨rfl,_,rfl⟩⟩;nofun;exact⟨⟨l,hl,rfl⟩,rfl,_,rfl⟩)
 dsimp only at hh4;subst hh4;apply rv e4 ⟨WL hyl (by rw[WA,show sizeLine=16777216 from rfl];lia),?_⟩;obtain⟨ts,rfl⟩:∃ts:List Lock,ys=ts.map aD:=by
  clear e4 hyl
  induction ys with
  |nil=>exact⟨[],rfl⟩
  |cons y r ih=>
   have⟨js,rfl⟩:=ih λz hz=>hym z (WG _ hz);have⟨x,H,l,hl,rfl⟩:=hym y WI;exact⟨l::js,rfl⟩
 nofun;apply rv (Cu ts _) ⟨_,rfl,λz=>?_,λz=>?_⟩
 ·exists eC A.w;exists cy S;nofun;exact J
 exists eB A.w;exists cy O;exists qO A.w;exists GK A.w _;rw[show(l:Int)-5=((l-5:Nat):Int) by lia];have A1:=A.set (l-5);generalize h4.set E.wd (oo E.W E.fl ((l-5:Nat):Int) E.odd)=h5 at A1 ⊢;exists di A1.w;exists cy G.hp;nofun;apply xp A1 pl λt1 h2 F A2=>?_;exists di A2.w;exists cy G.hp;nofun;apply xp A2 pl λt2 h3 L A3=>?_;nofun;apply⟨_,_,rfl,?_⟩;nofun;apply dW ?_;nofun;apply⟨_,_,rfl,?_⟩;have C:=A3.b.1;have q:=WE O;apply cO (λi δ h'=>∃(m:List Row)(l':Nat)(Y X U:Option D)(T:MH),δ=[some (.ob E.s),some (.ob E.wd),some (.int j),some (.int d),some (.int top),some (.lv (p.map aD)),some (.int kn),some (.str nm),some (aS t1),some (aS t2),some (.ob h3.length),Y,X,U]/\h'=T++[.lst (m.map λr=>.tup [aH r])]/\m.length=i/\(∀r∈m,bh E.W ps (d+1) r)/\l'+(m.map cnt).sum+5=l+2*i/\Wb E h4 (R+100*l'+(8-4*i)) l' T)
  ⟨[],l-5,_,_,_,h3,rfl,rfl,rfl,λ_ z=>(nomatch z),by simp;lia,A3.le ()⟩ (λ_ _ _ _ _=>rfl) ?_ ?_
 ·rintro i x δ h' H ⟨m,l',Y,X,U,T,rfl,rfl,N,I,hc,A6⟩;have hi:i<2:=(WB.mp H).1;obtain⟨u,v,rfl,uk,vk⟩:∃u v:Term,x=.tup [aS u,aS v]/\fb ps u/\fb ps v:=by
   rcases WV.mp (WE H)with rfl |H
   ·exact⟨t1,t2,rfl,F,L⟩
   ·rw[WU.mp H];exact⟨t2,t1,rfl,L,F⟩
  have hlb:T.length=h3.length:=A6.b.1.trans C.symm;generalize M:m.map (λr=>D.tup [aH r])=rs;have hcl:dh (T.length+1) rs=true:=by rw[<-M];exact iD _ _ (λr=>by show(gu _ (aH r)&&true)=true;rw[yZ];rfl) m
  exists tX aD p [(nm,u),(nm,v)] _ (by simp;lia);nofun;apply hlot (R:=R+(8-4*(i+1))) (d:=d+3) ((A6.push (o:=.lst rs) hcl).le (QA ((by decide:∀i<2,8-4*(i+1)+4<=8-4*i) i hi))) (G.more (n:=3) (ls:=[(nm,u),(nm,v)]) lo1 (by simp) (by
   intro x H;rcases WV.mp H with rfl |z
   ·exact⟨q,uk⟩
   ·rw[WU.mp z];exact⟨q,vk⟩)) () () {} {} λt l7 h7 okl hll cr A7=>?_
  have⟨hb7,rfl,e7,A7'⟩:=A6.pop A7;have P:=e7.trans hlb;nofun;apply gp ?_;nofun;apply⟨cf (g0 P),?_⟩;exists bF (g0 P) (by rw[<-M,WA,show sizeLine=16777216 from rfl];lia);rw[BE P];nofun;have hcn:((m++[Row.within (nm,u) [Row.within (nm,v) t]]).map cnt).sum=(m.map cnt).sum+(2+aY t):=by
   rw[W6,Aa6];simp[cnt,aY]
   lia
  apply⟨m++[.within (nm,u) [.within (nm,v) t]],l7,_,_,_,hb7,rfl,?_,by simp[N],?_,by rw[hcn];lia,A7'.le ()⟩
  ·rw[W6,M];simp[aH,cH,aD]
  ·intro r hr;rcases Xw.mp hr with z |z
   ·exact I r z
   ·rw[WU.mp z];simp only[bh,bK];exact⟨⟨q,uk⟩,by exact Xj d3 {},by simp,⟨⟨q,vk⟩,by lia,hll,okl⟩,trivial⟩
 ·rintro δ h' ⟨m,l',Y,X,U,T,rfl,rfl,N,I,hc,A6⟩
  match m,N with
  |[r0,Z],_=>
   have hc:l'+(([r0,Z]:List Row).map cnt).sum+5=l+2*2:=hc;have hat:(T++[MO.lst [.tup [aH r0],.tup [aH Z]]])[h3.length]?=some (.lst [.tup [aH r0],.tup [aH Z]]):=g0 (A6.b.1.trans C.symm);show Rn _ _;exists jt hat (d:=.tup [aH r0]) rfl;exists jt hat (d:=.tup [aH Z]) rfl;nofun;apply HF b0 k (.vF t1 t2 [r0] [.within (nm,t1) []] [Z]) ?_ ?_ (A6.le (by exact WJ _)) (by simp[aH,cH,aD])
   ·simp only[bh,bK];exact⟨F,L,by exact WO d3 {},by simp,by simp,by simp,⟨I r0 (by simp),trivial⟩,⟨⟨⟨q,F⟩,by exact Xj d3 {},by simp,trivial⟩,trivial⟩,⟨I Z (by simp),trivial⟩⟩
   ·simp[cnt,aY]at hc ⊢;lia
theorem ring:∀f,Gy E f/\QS E f/\Kk E f/\QN E f
 | 0=>⟨λ_ _ _ z=>absurd z (),λ_ _ _ z=>absurd z (),λ_ _ e z=>absurd z (),λ_ _ e _ z=>absurd z ()⟩
 |f+1=>let⟨a,b,c,d⟩:=ring f;⟨Cm b,Oj a c d,FG a,NM a⟩
end
theorem rg{P:Int->Prop}:∀{zs:List D},(∀y∈zs,∃i,y=.int i/\P i)->∃a:List Int,zs=a.map D.int/\∀j∈a,P j
 |[],_=>⟨[],rfl,λ_ z=>(nomatch z)⟩
 |y::r,h=>by
  have⟨a,rfl,q⟩:=rg (zs:=r) λz b=>h z (WG _ b);have⟨i,rfl,p⟩:=h y WI;exact⟨i::a,rfl,λj hj=>by
   rcases WV.mp hj with rfl |hj
   ·exact p
   ·exact q j hj⟩
def F1(f:α->D)(a:List α)(k:Nat)(h:MH):yN (.lv (a.map f)) none (some (k:Int)) h=some (.lv ((a.take k).map f),h):=by
 show some (D.lv (cutD (a.map f) none (some (k:Int))),h)=_;unfold cutD;rw[HT.zR,HT.KS,Abk,AbK,WA,<-Abs]
 by_cases z:k<=a.length
 ·rw[Nat.min_eq_left z]
 ·rw[Nat.min_eq_right (),YJ (WJ _),YJ ()]
def Ms{h T:MH}{s c R:Nat}{cs:List Int}{m odd:Int}{Q:D×MH->Prop}(A:Sb s c cs T (R+80) h)(o0:0<=odd)(o1:odd<=1000)(k:∀(W:Wd)(fl:List Int)(hb:MH),CT W fl odd->Sb s c cs T R hb->Q (.ob hb.length,hb++[oo W fl m odd])):Rn (iM [.ob s,.int m,.int odd] h) Q:=by
 apply bj ?_;nofun;apply jx (is:=[1,2,2,3,4,6]) (λi=>1<=i/\i<=6) {} A λn1 h1 I _ A1=>?_;nofun;apply zh A1 (by exact ZU I.1) I.2 λns h2 nl nk Y A2=>?_;nofun;apply jx (is:=[1,1,2,2,3,4,6]) (λi=>1<=i/\i<=6) {} A2 λn2 h3 H _ A3=>?_;nofun;apply zh A3 (by exact ZU H.1) H.2 λC h4 dl dk dnd A4=>?_;nofun;have O:C.length<=6:=by lia
 apply zh A4 (by simp) (Zv _) λo h5 pl pk X A5=>?_;nofun;apply dW ?_;nofun;apply⟨_,_,rfl,?_⟩;obtain⟨⟨ys,h6⟩,e6,a6,δ6,_,U⟩:=mT (ws:=[]) (g:=gN 0) (e:=aj aG (af (aM 1) (af (eK (.lv [.int 0,.int 1,.int 1,.int 2,.int 2,.int 3])) aV))) (λ_ y=>∃i,y=.int i/\0<=i/\i<=3)
  (xs:=C.map D.str) (δ:=[none,some (.ob s)]) (h:=h5) (λi δ N=>(∃u,δ=[u,some (.ob s)])/\Sb s c cs T (R+18-i) N) ⟨⟨_,rfl⟩,A5⟩ (λ_ _ _ _ _=>rfl) (by
   rintro i x δ N F ⟨⟨u,rfl⟩,U⟩;have J:i<6:=by
    have:=(WB.mp F).1;rw[WA]at this;exact WO this O
   nofun;exact jx (R:=R+18-(i+1)) (is:=[0,1,1,2,2,3]) (λi=>0<=i/\i<=3) {} (U.le (G0 (Zo R (WO J {})))) λi t J _ E=>⟨⟨i,rfl,J⟩,⟨_,rfl⟩,E⟩)
 have l6:=a6.length;have⟨j,rfl,v⟩:=rg (P:=λi=>0<=i/\i<=3) λy hy=>(let⟨_,_,r⟩:=a6.right y hy;r);dsimp only at l6;rw[WA,WA]at l6;rw[WA]at U;apply rv e6 ⟨by dsimp only;rw[WA,show sizeLine=16777216 from rfl];lia,?_⟩;nofun;apply dW ?_;nofun;apply⟨_,_,rfl,?_⟩;obtain⟨⟨ys,t⟩,e7,a7,δ7,_,E⟩:=mT (ws:=[]) (g:=gN 0) (e:=aj aI (af (aM 2) (af (aj cz (af (aM 1) aV)) aV))) (λ_ y=>∃i,y=.int i/\0<=i/\i<ns.length)
  (xs:=C.map D.str) (δ:=[none,some (.lv (ns.map D.str)),some (.ob s)]) (h:=h6) (λi δ N=>(∃u,δ=[u,some (.lv (ns.map D.str)),some (.ob s)])/\Sb s c cs T (R+12-i) N) ⟨⟨_,rfl⟩,U.le (KD (R+12) (k:=6) O)⟩ (λ_ _ _ _ _=>rfl) (by
   rintro i x δ N F ⟨⟨u,rfl⟩,E⟩;have J:i<6:=by
    have:=(WB.mp F).1;rw[WA]at this;exact WO this O
   nofun;rw[WA];exact dZ (R:=R+12-(i+1)) (E.le (G0 (Zo R (WO J {})))) () () λr h8 r0 r1 A8=>⟨⟨r,rfl,r0,r1⟩,⟨_,rfl⟩,A8⟩)
 have Z:=a7.length;have⟨l,rfl,L⟩:=rg (P:=λi=>0<=i/\i<ns.length) λy hy=>(let⟨_,_,r⟩:=a7.right y hy;r);dsimp only at Z;rw[WA,WA]at Z;rw[WA]at E;apply rv e7 ⟨by dsimp only;rw[WA,show sizeLine=16777216 from rfl];lia,?_⟩;nofun;apply rv (a:=(.lv ((kB l).map D.int),t)) (by
  show(tK (l.map D.int)).bind _=_;rw[wO];show(if l.length<64 then _ else _)=_;rw[WH ()]) ?_
 nofun;apply dW ?_;nofun;apply⟨_,_,rfl,?_⟩;have e8:aX [] (gN 0) bI (g8 (aM 1) wu (wx (aM 0))) (j.map D.int) [none,some (.lv (o.map D.str))] t=some ((j.map D.int).filterMap λd=>match d with |.int k=>some (.lv ((o.take k.toNat).map D.str)) |_=>none,t):=
  x8 rfl _ (λδ=>∃u,δ=[u,some (.lv (o.map D.str))]) ⟨_,rfl⟩ (by
   rintro x F δ ⟨u,rfl⟩;have⟨k,S,rfl⟩:=Xe.mp F;apply rv rfl ⟨rfl,rv rfl ⟨rfl,⟨_,rfl⟩,λ_=>⟨_,rfl,?_⟩,λz=>(nomatch z)⟩⟩;have⟨n,rfl⟩:=YC (v k S).1;nofun;apply⟨_,rfl,rv (F1 D.str o n _) ?_⟩;rfl)
 have e9:((j.map D.int).filterMap λd=>match d with |.int k=>some (D.lv ((o.take k.toNat).map D.str)) |_=>none)=(j.map λk=>o.take k.toNat).map λo=>D.lv (o.map D.str):=by
  rw[ZX,YU];exact congrFun (AbX (f:=(λo:List Str=>D.lv (o.map D.str))∘λk:Int=>o.take k.toNat)) _
 rw[e9]at e8;apply rv e8 ⟨by dsimp only;rw[WA,WA,show sizeLine=16777216 from rfl];lia,?_⟩;nofun;have M:∀(a b c d e f:D),Rn (tY (dB (eK (.str "names")) (aM 3) (dB (eK (.str "deeds")) (aM 4) (dB (eK (.str "params")) (aM 5) (dB (eK (.str "floors")) (aM 7) (dB (eK (.str "left")) (aM 1) (dB (eK (.str "odd")) (aM 2) Ih)))))) [some (.ob s),some (.int m),some (.int odd),some a,some b,some c,some d,some e] t) λp=>p=(.ob t.length,t++[.dct [(.inr (Str.ofString "names"),a),(.inr (Str.ofString "deeds"),b),(.inr (Str.ofString "params"),c),(.inr (Str.ofString "floors"),e),(.inr (Str.ofString "left"),.int m),(.inr (Str.ofString "odd"),.int odd)]]):=λa b c d e f=>⟨_,rfl,rfl⟩;apply(M _ _ _ _ _ .bg).imp ?_;rintro _ rfl;nofun;apply k ⟨ns,C,j.map λk=>o.take k.toNat⟩ (kB l) t ⟨?_,?_,?_,?_,?_,?_,?_,?_,o0,o1,nk,dk,?_,Y,dnd,?_⟩ (E.le (KD R (k:=12) (WL O {})))
 ·show 1<=ns.length;lia
 ·show ns.length<=6;lia
 ·show 1<=C.length;lia
 ·exact O
 ·show(j.map _).length=C.length;rw[WA];exact l6
 ·intro q G;have⟨k,S,rfl⟩:=Xe.mp G;rw[Xm];have:=pl
  lia
 ·show(kB l).length=C.length;rw[(ig l).length_eq];exact Z
 ·intro f hf;exact L f ((ig l).mem_iff.mp hf)
 ·intro q G w hw;have⟨k,S,rfl⟩:=Xe.mp G;exact pk w (Aax hw)
 ·intro q G;have⟨k,S,rfl⟩:=Xe.mp G;exact X.sublist (AaV _ _)
end Mi
namespace Pg
open PySem Sm L2
abbrev df:=Str×List Str×List Row
structure Prog where
 names:List Str
 au:List df
def eu(d:df):D:=.tup [.str d.1,.tup (d.2.1.map D.str),.tup (cH d.2.2)]
def aC(P:Prog):D:=.tup [.tup (P.names.map D.str),.tup (P.au.map eu)]
structure Ue(W:Wd)(most:Nat)(P:Prog):Prop where
 nm:P.names=iQ W.names
 dl:P.au.length=W.au.length
 dd:∀(j:Nat)(d:df),P.au[j]?=some d->W.au[j]?=some d.1/\W.params[j]?=some d.2.1/\bK W d.2.1 1 d.2.2/\d.2.2.length<=12
 ct:(P.au.map λd=>aY d.2.2).sum<=most
end Pg
namespace Mi
open PySem Sm L2 Pg
def y9(n:Nat)(d:df):gu n (eu d)=true:=by
 show(true&&(dh n (d.2.1.map D.str)&&(dh n (cH d.2.2)&&true)))=true;rw[g9,eL];rfl
def Mm(n:Nat)(P:Prog):gu n (aC P)=true:=by
 show(dh n (P.names.map D.str)&&(dh n (P.au.map eu)&&true))=true;rw[g9,iD n _ (y9 n)];rfl
def nG{c:Type}{f:c->D}{b:List c}{i:Nat}{x:D}(h:(kX 0 (b.map f))[i]?=some x):∃a,b[i]?=some a/\x=.tup [.int (i:Int),f a]:=by
 rw[o9,WY]at h;cases e:b[i]? with
 |none=>rw[e]at h;cases h
 |some a=>
  rw[e]at h;cases h;exact⟨a,rfl,by rw[YZ]⟩
def Wb.out(C:Cl h)(B:Sb E.s E.c E.cs h r h0)(e:E.wd=h0.length)(A:Wb E (h0++[o]) R l a):∃f j,a=f++[j]/\Sb E.s E.c E.cs h R f/\Cl f:=by
 have b:=A.b;have⟨n,q⟩:=B.S.lt;have hl:a.length=h0.length+1:=by rw[b.1];simp
 have m:h0.length<a.length:=by lia
 have g:a=a.take h0.length++[a[h0.length]'m]:=by rw[List.take_append_getElem,YJ (by exact Aak hl)]
 have d:ux E.s h0 (a.take h0.length):=⟨by rw[Xm];lia,λk p=>by
  by_cases z:k<h0.length
  ·rw[Xu z,b.2 k p (),W0 z]
  ·rw[Xr (by rw[Xm];lia),Xr (by exact XA z)]⟩
 have S:=A.S;rw[g]at S;have i:=S.cut (by rw[d.1];exact n) (by rw[d.1];exact q);exact⟨_,_,g,⟨i,B.b.trans d⟩,C.but i (B.b.trans d)⟩
def Gq{h h0:MH}{s c R e:Nat}{cs:List Int}{odd:Int}{Q:D×MH->Prop}(A:Sb s c cs h0 (R+100*e+120) h)(C:Cl h)(o0:0<=odd)(o1:odd<=1000)(k:∀(W:Wd)(fl:List Int)(P:Prog)(h1:MH),CT W fl odd->Ue W e P->Sb s c cs h0 R h1->Cl h1->Q (aC P,h1)):Rn (gj [.ob s,.int e,.int odd] h) Q:=by
 apply sP ?_;nofun;apply Ms (R:=R+100*e+40) A.S.sb o0 o1 λW fl F ok G=>?_;have⟨X,U⟩:=G.S.lt;have d2:=ok.d2;have n1:=ok.n1;have n2:=ok.n2;have I:=G.b.1;let E:En:=⟨s,c,F.length,cs,W,fl,odd,ok,by exact YI X,by exact YI U⟩;have B0:Wb E (F++[oo W fl e odd]) (R+100*e+40) e (F++[oo W fl e odd]):=⟨G.S.more _,g0 rfl,(C.but G.S G.b).snoc (CI _ _ _ _ _),gx.refl _ _ _⟩;nofun;apply mS ?_;exists eC (B0.push (o:=.lst []) rfl).w;nofun;apply⟨_,_,_,rfl,rfl,?_⟩;have p:(F++[oo W fl e odd]).length=h.length+1:=by simp[I]
 rw[p];apply cO (λi N h'=>∃(g:List df)(v:Nat)(d5 d6 d7:Option D)(y:MH),N=[some (.ob s),some (.int e),some (.int odd),some (.ob F.length),some (.ob (h.length+1)),d5,d6,d7]/\h'=y++[.lst (g.map eu)]/\y.length=h.length+1/\g.length=i/\(∀(j:Nat)(d:df),g[j]?=some d->W.au[j]?=some d.1/\W.params[j]?=some d.2.1/\bK W d.2.1 1 d.2.2/\d.2.2.length<=12)/\v+(g.map λd=>aY d.2.2).sum=e/\Wb E (F++[oo W fl e odd]) (R+100*v+(40-5*i)) v y)
  ⟨[],e,_,_,_,_,rfl,rfl,p,rfl,λ_ _ z=>by simp at z,by simp,B0⟩ (λ_ _ _ _ _=>rfl) ?_ ?_
 ·rintro i x N h' hx ⟨g,v,d5,d6,d7,y,rfl,rfl,q,m,u,hc,L⟩;have⟨dn,J,rfl⟩:=nG hx;have M:i<W.au.length:=(WB.mp J).1;obtain⟨O,r⟩:∃f,W.params[i]?=some f:=⟨_,WK (by rw[ok.pl];exact M)⟩;nofun;apply GL (E:=E) (R:=R+100*v+(39-5*i)) (is:=[1,2,3,4,12]) (λi=>1<=i/\i<=12) {} ((L.push (o:=.lst (g.map eu)) (iD _ _ (y9 _) g)).le (Yb ((by decide:∀i<7,39-5*i+1<=40-5*i) i (WO M (WL d2 {}))) _)) λmo h7 H A7=>?_;nofun;apply(ring (E:=E) 20).1 (R:=R+(40-5*(i+1))) (d:=1) (held:=[]) (A7.le (QA ((by decide:∀i<7,40-5*(i+1)+4<=39-5*i) i (WO M (WL d2 {}))))) ⟨r,M,by decide,show(-1:Int)<=W.names.length by simp,λ_ z=>(nomatch z),by simp⟩ {} {} H.1 H.2 λt l8 h8 T Z cr A8=>?_;have w8:=A8.w;have⟨Y,rfl,e8,A8'⟩:=L.pop A8;have l:=e8.trans q;nofun;apply gp ?_;nofun;apply⟨cf (g0 l),?_⟩;exists di w8;exists cy r;nofun;apply rv (a:=(.tup (O.map D.str),_)) rfl ?_;exists bF (g0 l) (by rw[WA,show sizeLine=16777216 from rfl];lia);rw[BE l];nofun;have hcn:((g++[(dn,O,t)]).map λd:df=>aY d.2.2).sum=(g.map λd:df=>aY d.2.2).sum+aY t:=by
   rw[W6,Aa6];simp
  apply⟨g++[(dn,O,t)],l8,_,_,_,Y,rfl,by rw[W6];rfl,l,by simp[m],?_,by rw[hcn];lia,A8'.le ()⟩;intro j d hj
  by_cases z:j<g.length
  ·rw[W0 z]at hj;exact u j d hj
  ·rw[W4 (by exact XA z)]at hj;have hj0:j-g.length=0:=by
    have:=(WB.mp hj).1;simp at this
    lia
   rw[hj0]at hj;cases hj;obtain rfl:j=i:=by lia
   exact⟨J,r,T,Z⟩
 ·rintro N h' ⟨g,v,d5,d6,d7,y,rfl,rfl,q,m,u,hc,L⟩;rw[cF,WA]at m;have w6:=(L.push (o:=.lst (g.map eu)) (iD _ _ (y9 _) g)).w;have hat:(y++[MO.lst (g.map eu)])[h.length+1]?=some (.lst (g.map eu)):=g0 q;have⟨hb',o',rfl,B9,C9⟩:=Wb.out (E:=E) C G rfl L;exists eB w6;nofun;apply rv (a:=(.lv ((iQ W.names).map D.str),_)) (by
   show(rH (W.names.map D.str)).bind _=_;rw[vO];show(if W.names.length<64 then _ else _)=_;rw[WH (by exact Xj n2 {})]) ?_
  nofun;apply rv (a:=(.tup ((iQ W.names).map D.str),_)) rfl ?_;nofun;apply rv (a:=(.tup (g.map eu),_)) (by simp only[bw,cq,hat,Xq];rfl) ?_;nofun;rw[Xo];exact rv (jl B9.b.1 C9 (λn z=>(nomatch z)) (Mm _ ⟨iQ W.names,g⟩)) (k W fl ⟨iQ W.names,g⟩ hb' ok ⟨rfl,m,u,by show _<=_;dsimp only;lia⟩ ⟨B9.S.le (),A.b.trans B9.b⟩ C9)
end Mi
namespace Pg
open PySem Sm L2
def fX(l:List Row):D:=.tup (cH l)
noncomputable def aT:Row->List (List Row)
 |.say _=>[]
 |.call _ _=>[]
 |.within _ b=>[b]
 |.all _ b=>[b]
 |.ask _ b e=>[b,e]
 |.vF _ _ a b c=>[a,b,c]
 |.either a b=>[a,b]
 |.again a=>[a]
noncomputable def cY:Row->Str
 |.say _=>"say"
 |.call _ _=>"call"
 |.within _ _=>"within"
 |.all _ _=>"all"
 |.ask _ _ _=>"ask"
 |.vF _ _ _ _ _=>"by"
 |.either _ _=>"either"
 |.again _=>"again"
mutual
noncomputable def gI(p:List Nat):Row->List (List Nat×Row)
 |.say _=>[]
 |.call _ _=>[]
 |.within _ b=>eF (p++[0]) 0 b
 |.all _ b=>eF (p++[0]) 0 b
 |.ask _ b e=>eF (p++[0]) 0 b++eF (p++[1]) 0 e
 |.vF _ _ a b c=>eF (p++[0]) 0 a++(eF (p++[1]) 0 b++eF (p++[2]) 0 c)
 |.either a b=>eF (p++[0]) 0 a++eF (p++[1]) 0 b
 |.again a=>eF (p++[0]) 0 a
noncomputable def eF(a:List Nat)(k:Nat):List Row->List (List Nat×Row)
 |[]=>[]
 |r::rs=>(a++[k],r)::(gI (a++[k]) r++eF a (k+1) rs)
end
mutual
noncomputable def eT:Row->Nat
 |.say _=>0
 |.call _ _=>0
 |.within _ b=>dC b
 |.all _ b=>dC b
 |.ask _ b e=>max (dC b) (dC e)
 |.vF _ _ a b c=>max (dC a) (max (dC b) (dC c))
 |.either a b=>max (dC a) (dC b)
 |.again a=>dC a
noncomputable def dC:List Row->Nat
 |[]=>1
 |r::rs=>max (1+eT r) (dC rs)
end
def FC{a:List Row}{r:Row}(h:r∈a):1+eT r<=dC a:=by
 induction a with
 |nil=>cases h
 |cons x xs b=>
  rw[dC];rcases WV.mp h with rfl |h
  ·lia
  ·have:=b h;lia
def FA{r:Row}{l:List Row}(h:l∈aT r):dC l<=eT r:=by
 cases r <;> simp[aT]at h
 case within=>subst h;simp[eT]
 case all=>subst h;simp[eT]
 case ask=>rcases h with rfl |rfl <;> rw[eT] <;> lia
 case vF=>rcases h with rfl |rfl |rfl <;> rw[eT] <;> lia
 case either=>rcases h with rfl |rfl <;> rw[eT] <;> lia
 case again=>subst h;simp[eT]
def AZ(r:Row):cnt r=1+((aT r).map aY).sum:=by cases r <;> simp[cnt,aT] <;> lia
mutual
theorem B3(p:List Nat):∀r:Row,1+(gI p r).length=cnt r
 |.say _=>by simp[gI,cnt]
 |.call _ _=>by simp[gI,cnt]
 |.within _ b=>by simp[gI,cnt,bY (p++[0]) 0 b]
 |.all _ b=>by simp[gI,cnt,bY (p++[0]) 0 b]
 |.ask _ b e=>by simp[gI,cnt,bY (p++[0]) 0 b,bY (p++[1]) 0 e];lia
 |.vF _ _ a b c=>by simp[gI,cnt,bY (p++[0]) 0 a,bY (p++[1]) 0 b,bY (p++[2]) 0 c];lia
 |.either a b=>by simp[gI,cnt,bY (p++[0]) 0 a,bY (p++[1]) 0 b];lia
 |.again a=>by simp[gI,cnt,bY (p++[0]) 0 a]
theorem bY(a:List Nat):∀(k:Nat)(l:List Row),(eF a k l).length=aY l
 |k,[]=>by simp[eF,aY]
 |k,r::rs=>by
  have:=B3 (a++[k]) r;have:=bY a (k+1) rs;simp[eF,aY];lia
end
mutual
theorem Cf{W:Wd}{i:List Str}:∀(n:Nat)(r:Row),bh W i n r->n<=5->eT r<=5-n
 |n,.say _,_,_=>by simp[eT]
 |n,.call _ _,_,_=>by simp[eT]
 |n,.within _ b,h,hn=>by rw[bh]at h;have:=bO (n+1) b h.2.2.2 h.2.1;rw[eT];lia
 |n,.all _ b,h,hn=>by rw[bh]at h;have:=bO (n+1) b h.2.2.2 h.2.1;rw[eT];lia
 |n,.ask _ b e,h,hn=>by rw[bh]at h;have:=bO (n+1) b h.2.2.2.2.1 h.2.1;have:=bO (n+1) e h.2.2.2.2.2 h.2.1;rw[eT];clear h;clear hn;lia
 |n,.vF _ _ a b c,h,hn=>by
  rw[bh]at h;have⟨_,_,d,_,_,_,f,g,j⟩:=h;have:=bO (n+1) a f d;have:=bO (n+1) b g d;have:=bO (n+1) c j d;rw[eT];clear d;lia
 |n,.either a b,h,hn=>by
  rw[bh]at h;have⟨d,_,_,f,g⟩:=h;have:=bO (n+1) a f d;have:=bO (n+1) b g d;rw[eT];clear d;lia
 |n,.again a,h,hn=>by
  rw[bh]at h;have⟨d,_,f⟩:=h;have:=bO (n+1) a f d;rw[eT];lia
theorem bO{W:Wd}{a:List Str}:∀(n:Nat)(l:List Row),bK W a n l->n<=5->dC l<=6-n
 |n,[],_,hn=>by simp[dC];lia
 |n,r::rs,h,hn=>by
  rw[bK]at h;have:=Cf n r h.1 hn;have:=bO n rs h.2 hn;rw[dC];lia
end
noncomputable def av(n:Nat):D:=.int (n:Int)
def bC(p:List Nat):D:=.tup (p.map av)
end Pg
namespace Mi
open PySem Sm L2 Pg
def Gu(h:MH):zl h h=true:=by
 induction h with
 |nil=>rfl
 |cons o r a=>show(JU o o&&zl r r)=true;rw[xg,a];rfl
def yD(r:Row)(h:MH):kj [aH r] h=some (.tup ((aT r).map fX),h):=by
 have e:Rn (kj [aH r] h) λp=>p=(.tup ((aT r).map fX),h):=by
  apply bj ?_;cases r <;> rw[aH] <;> (exists rfl;exists rfl;dsimp only;apply⟨_,rfl,?_⟩;exists rfl;rfl)
 have⟨p,a,rfl⟩:=e;exact a
def j7{a ys:List D}{h:MH}(hl:a.length+ys.length<=10000):aN (.tup a) (.tup ys) h=some (.tup (a++ys),h):=by
 cases a with
 |nil=>rfl
 |cons x a=>
  show(if a.length+1+ys.length<=sizeLine then some (D.tup (x::a++ys),h)else none)=_;rw[WH (by rw[show sizeLine=16777216 from rfl];rw[WW]at hl;exact WL hl {})]
def F8(a:List Nat)(i:Nat)(hl:a.length<=1000)(h:MH):aN (bC a) (.tup [.int (i:Int)]) h=some (bC (a++[i]),h):=by
 show aN (.tup (a.map av)) (.tup [av i]) _=_;rw[j7 (by rw[WA];simp;exact WL hl {})];simp[bC]
end Mi
namespace Pg
open PySem Sm L2
theorem Di:∀{a:List df} {d:df},d∈a->aY d.2.2<=(a.map λd=>aY d.2.2).sum
 |x::r,d,h=>by
  rw[WN,Abr];rcases WV.mp h with rfl |h
  ·exact Xh _ _
  ·have:=Di h;lia
structure V8(P:Prog):Prop where
 nd:∀d∈P.au,dC d.2.2<=6
 ct:(P.au.map λd=>aY d.2.2).sum<=1000
 dl:P.au.length<=1000
def Ue.fit{W:Wd}{m:Nat}{P:Prog}(o:Ue W m P)(hm:m<=1000)(hd:W.au.length<=6):V8 P:=by
 apply⟨λd hd=>?_,WL o.ct hm,by rw[o.dl];exact WL hd {}⟩;have⟨j,hj⟩:=XU.mp hd;have⟨_,_,ok,_⟩:=o.dd j d hj;have:=bO 1 d.2.2 ok (YH _);exact Xp this
end Pg
namespace Mi
open PySem Sm L2 Pg
def Mj{c:Type}{d:W}{g:GM}{e:EM}{h:MH}(i:hZ d h=true)(f k:c->D)(J:DS->Prop)(b:List c){a:DS}(s:J a)(ht:∀x∈b,∀a,J a->Rn (g (f x) a h) λq=>q.2=h/\J q.1/\Rn (e q.1 h) λp=>p=(k x,h)):
  aX d g bI e (b.map f) a h=some (b.map k,h):=by
 induction b generalizing a with
 |nil=>rw[Ye];unfold aX;rw[WH i];rfl
 |cons x r m=>
  rw[WN];unfold aX;rw[WH i];obtain⟨⟨l,o⟩,t,rfl,u,p,j,rfl⟩:=ht x WI a s;rw[t];dsimp only[Option.bind_some]at j ⊢;show((some (true,o)).bind _)=_;dsimp only[Option.bind_some];rw[WH rfl,j];dsimp only[Option.bind_some];rw[m u λy n=>ht y (WG _ n)];rfl
end Mi
namespace Mi
open PySem Sm L2
def jL{h:MH}{n:Nat}{a:List D}(e:h[n]?=some (.lst a)):cq (.ob n) h=some (a,[(n,.lst a)]):=by unfold cq;dsimp only;rw[e]
theorem xY{c:TM}{b:SM}{Q:SQ}(I:Nat->DS->MH->Prop)(step:∀k a h,I k a h->Rn (c a h) λp=>(p.1=true->Rn (b a p.2) (Az (λa h=>∃g,g<k/\I g a h) Q))/\(p.1=false->Q (.nx,a,p.2))):
  ∀(n k:Nat)(a:DS)(h:MH),k<n->I k a h->Rn (ia c b n a h) Q
 | 0,k,a,h,l,_=>absurd l (by simp)
 |n+1,k,a,h,l,s=>by
  have⟨p,u,r,o⟩:=step k a h s;unfold ia;rw[u];dsimp only[Option.bind_some]
  by_cases z:p.1=true
  ·rw[WH z];obtain⟨⟨f,i,m⟩,t,q⟩:=r z;rw[t];dsimp only[Option.bind_some];cases f with
   |nx=>have⟨g,j,e⟩:=q;exact xY I step n g i m () e
   |ct=>have⟨g,j,e⟩:=q;exact xY I step n g i m () e
   |bk=>exact⟨_,rfl,q⟩
   |rt d=>exact⟨_,rfl,q⟩
  ·rw[WM z];exact⟨_,rfl,o (by simpa using z)⟩
end Mi
namespace Mi
open PySem Sm L2 Pg
noncomputable def flat(st:List (Nat×Nat)):List Nat:=st.flatMap λs=>[s.1,s.2]
def bX(st:List (Nat×Nat))(k:Nat):D:=bC (flat st++[k])
def Nf(l:List Row)(s:Nat×Nat):Option (List Row):=(l[s.1]?).bind λr=>(aT r)[s.2]?
def bD(a:List Row):List (Nat×Nat)->Option (List Row)
 |[]=>some a
 |s::r=>(Nf a s).bind λl=>bD l r
theorem oP:∀(st:List (Nat×Nat)) (a:List Row) (b:List (Nat×Nat)),bD a (st++b)=(bD a st).bind λl=>bD l b
 |[],_,_=>rfl
 |s::r,a,b=>by
  show((Nf a s).bind λl=>bD l (r++b))=((Nf a s).bind λl=>bD l r).bind _;cases Nf a s with
  |none=>rfl
  |some l=>exact oP r l b
def nF(st:List (Nat×Nat)):(flat st).length=2*st.length:=by
 induction st with
 |nil=>rfl
 |cons s r a=>show([s.1,s.2]++flat r).length=_;rw[WR,a];simp;lia
def tS(a b:List (Nat×Nat)):flat (a++b)=flat a++flat b:=by unfold flat;rw[List.flatMap_append]
theorem Ei:∀{st:List (Nat×Nat)} {i:Nat} {s:Nat×Nat} (t:List Nat),st[i]?=some s->(flat st++t)[2*i]?=some s.1/\(flat st++t)[2*i+1]?=some s.2
 |x::r,0,s,t,e=>by cases e;exact⟨rfl,rfl⟩
 |x::r,i+1,s,t,e=>by
  have ⟨b,a⟩:=Ei (st:=r) (i:=i) t e;show(x.1::x.2::(flat r++t))[2*(i+1)]?=_/\(x.1::x.2::(flat r++t))[2*(i+1)+1]?=_;rw[show 2*(i+1)=2*i+1+1 by rfl,X2,X2,X2,X2];exact⟨b,a⟩
def eJ{a:List D}{i:Nat}{d:D}{h:MH}(e:a[i]?=some d):ax (.tup a) (.int (i:Int)) h=some (d,h):=by
 have q:fI a (i:Int)=some d:=ke e;simp only[ax,cg,cq,WT,q,Xq]
def tV{a:List D}{i:Int}{d:D}{h:MH}(q:fI a i=some d):ax (.tup a) (.int i) h=some (d,h):=by
 simp only[ax,cg,cq,WT,q,Xq]
def Jm{p:List Nat}{i x:Nat}{h:MH}(e:p[i]?=some x):ax (bC p) (.int (i:Int)) h=some (av x,h):=
 eJ (by rw[WY,e];rfl)
def wW{p:List Nat}{i:Int}{j x:Nat}{h:MH}(a:i=(j:Int))(e:p[j]?=some x):ax (bC p) (.int i) h=some (av x,h):=by
 subst a;exact Jm e
def Em{l:List Row}{i:Nat}{r:Row}{h:MH}(e:l[i]?=some r):ax (fX l) (av i) h=some (aH r,h):=
 eJ (by rw[fY,WY,e];rfl)
def G8(n:Nat):(Builtin.Range.rangeSize 1 ((2*n+1:Nat):Int) 2).toNat=n:=by
 unfold Builtin.Range.rangeSize;rw[WH {}]
 split
 ·lia
 ·lia
def OE{m:AM}{a:DS}{h:MH}{Q:List D×W×MH->Prop}(r:Rn (m a h) λp=>∃i j c,p.1=[.int i,.int j,.int c]/\Kp i j c/\Q ((List.range (Builtin.Range.rangeSize i j c).toNat).map λ(k:Nat)=>D.int (i+(k:Int)*c),[],p.2)):Rn (LY m a h) Q:=by
 obtain⟨⟨d,b⟩,e,i,j,c,rfl,ok,q⟩:=r;apply⟨_,?_,q⟩;unfold LY;rw[e];show(if Kp i j c then _ else _)=_;rw[WH ok]
def Ay{b c:List Row}{st:List (Nat×Nat)}{k:Nat}{h:MH}(e:bD b st=some c)(hl:st.length<=1000):oj [fX b,bX st k] h=some (fX c,h):=by
 have A:Rn (oj [fX b,bX st k] h) λp=>p=(fX c,h):=by
  apply bj ?_;nofun;apply OE ?_;nofun;apply rv (a:=(.int ((2*st.length+1:Nat):Int),h)) ?_ ?_
  ·show some (D.int (((flat st++[k]).map av).length:Int),h)=_;rw[WA,WR,nF];rfl
  nofun;apply⟨_,_,_,rfl,?_,?_⟩
  ·unfold Kp;lia
  rw[G8];apply cO (λi g n=>n=h/\∃(l:List Row)(t:Option D),g=[some (fX b),some (bX st k),some (fX l),t]/\bD l (st.drop i)=some c) ⟨rfl,b,_,rfl,e⟩ (λ_ _ _ _ _=>rfl) ?_ ?_
  ·rintro i x g n v ⟨rfl,l,t,rfl,f⟩;rw[WY]at v;have⟨j,hj,y⟩:=dX v;have⟨m,hj⟩:=WB.mp hj;rw[AaP]at hj;subst hj;rw[W3]at m;cases y;rw[Abn m]at f;have w:st[i]?=some st[i]:=WK m;have⟨g1,g2⟩:=Ei [k] w;have⟨u,s,q⟩:=bc f;have⟨r,er,o⟩:=bc s;exists wW (j:=2*i) () g1;exists Em er;exists yD r _;exists wW (j:=2*i+1) () g2;exists eJ (d:=fX u) (by rw[WY,o];rfl);nofun;exact⟨rfl,u,_,rfl,q⟩
  ·rintro g n ⟨rfl,l,t,rfl,f⟩;rw[WA,W3,List.drop_length]at f;cases f;nofun
 have⟨p,z,rfl⟩:=A;exact z
def oC:Option Row->D
 |none=>.bg
 |some r=>aH r
def jO(st:List (Nat×Nat))(k:Nat)(h:MH):ax (bX st k) (.int (-1)) h=some (av k,h):=by
 apply tV ?_;rw[W6];exact nO _ _
def D0(l:List Row)(h:MH):cz [fX l] h=some (.int (l.length:Int),h):=by
 show some (D.int ((cH l).length:Int),h)=_;rw[fY,WA]
def zS{d b:List Row}{st:List (Nat×Nat)}{k:Nat}{h:MH}(e:bD d st=some b)(hl:st.length<=1000):oh [fX d,bX st k] h=some (oC b[k]?,h):=by
 have i:Rn (oh [fX d,bX st k] h) λp=>p=(oC b[k]?,h):=by
  apply bj ?_;exists Ay e hl;exists jO _ _ _;exists D0 _ _;nofun;apply rv (a:=(.bl (decide ((k:Int)<(b.length:Int))),h)) rfl ⟨_,rfl,λc=>?_,λc=>?_⟩
  ·have f:k<b.length:=by have:=XR c;exact YK.mp this
   have hr:b[k]?=some b[k]:=WK f;rw[hr];exists jO _ _ _;exists Em hr;rfl
  ·have f:b.length<=k:=by have:=AaL c;lia
   have hr:b[k]?=none:=Xr f;rw[hr];nofun;rfl
 have⟨p,g,rfl⟩:=i;exact g
def Mx(a:List D)(u v:D):fI (a++[u,v]) (-2)=some u:=by
 have hl:(a++[u,v]).length=a.length+2:=by simp
 have e:vq (a++[u,v]).length (-2)=some a.length:=by
  unfold vq;rw[hl,WM {},WH ()];congr 1
  lia
 unfold fI;rw[e];simp
def Es{a ys:List D}{h:MH}(b:0<ys.length):yN (.tup (a++ys)) none (some (-(ys.length:Int))) h=some (.tup a,h):=by
 have e:HT.cC (a++ys).length (a++ys).length (some (-(ys.length:Int)))=a.length:=by
  show(if(-(ys.length:Int))<0 then _ else _)=_;rw[WH (),WR]
  lia
 show(if HT.cC (a++ys).length 0 none=0/\HT.cC (a++ys).length (a++ys).length (some (-(ys.length:Int)))=(a++ys).length then _ else _)=_;rw[e,WM (by rw[WR];lia)];unfold cutD;rw[e,HT.zR,Abk,AbK,List.take_left'];rfl
def wj(st:List (Nat×Nat))(k:Nat)(h:MH):yN (bX st k) none (some (-1)) h=some (bC (flat st),h):=by
 unfold bX bC;rw[W6];exact Es (ys:=[av k]) (YH _)
def jP(st:List (Nat×Nat))(a b k:Nat)(h:MH):yN (bX (st++[(a,b)]) k) none (some (-2)) h=some (bX st a,h):=by
 unfold bX bC;rw[tS,show flat st++flat [(a,b)]++[k]=(flat st++[a])++[b,k] by simp[flat],W6];exact Es (ys:=[av b,av k]) (YH _)
def Ig(st:List (Nat×Nat))(a b k:Nat)(h:MH):ax (bX (st++[(a,b)]) k) (.int (-2)) h=some (av b,h):=by
 apply tV ?_;rw[tS,show flat st++flat [(a,b)]++[k]=(flat st++[a])++[b,k] by simp[flat],W6];exact Mx _ _ _
noncomputable def bq(r:Row)(l:Nat):Bool:=match r with
 |.within _ _=>true
 |.all _ _=>true
 |.ask _ _ _=>l==0
 |_=>false
def AQ(l:Nat)(i:Int)(h:MH):bx (av l) (.int i) h=some (.bl ((l:Int)==i),h):=rfl
noncomputable def jX:Row->Bool
 |.again _=>true
 |_=>false
def pQ(a:List Row):List (Nat×Nat)->Nat->Option (List (Nat×Nat)×Nat)
 |rs,k=>match (bD a rs.reverse).bind λl=>l[k]? with
  |some _=>some (rs,k)
  |none=>match rs with
   |[]=>none
   |s::b=>match (bD a b.reverse).bind λl=>l[s.1]? with
    |some r=>if bq r s.2 then some (s::b,k)else pQ a b (if jX r then s.1 else s.1+1)
    |none=>none
def uf(r:Row):∃x,aH r=.tup (.str (cY r)::x)/\(cY r=="again")=jX r:=by
 cases r <;> (rw[aH];exact⟨_,rfl,by ac_nf⟩)
def nz{a b:List Row}{s:Nat×Nat}{rs:List (Nat×Nat)}(e:bD a (s::rs).reverse=some b):∃l r,bD a rs.reverse=some l/\l[s.1]?=some r/\(aT r)[s.2]?=some b:=by
 rw[Xv,oP]at e;have⟨l,i,h⟩:=bc e;have⟨j,g,f⟩:=bc h;cases f;have⟨r,d,c⟩:=bc g;exact⟨l,r,i,d,c⟩
def IT(st:List (Nat×Nat))(k:Nat)(h:MH):cz [bX st k] h=some (.int ((2*st.length+1:Nat):Int),h):=by
 show some (D.int (((flat st++[k]).map av).length:Int),h)=_;rw[WA,WR,nF];rfl
def yF(o:Option Row)(h:MH):tW (oC o) .bg h=some (.bl o.isNone,h):=by
 cases o with
 |none=>rfl
 |some r=>have⟨x,e,_⟩:=uf r;show tW (aH r) .bg h=_;rw[e];rfl
def fW{a l:List Row}{rs:List (Nat×Nat)}{k:Nat}{r:Row}(e:bD a rs.reverse=some l)(hr:l[k]?=some r):pQ a rs k=some (rs,k):=by
 unfold pQ;rw[e];simp only[WT,hr]
def qW{a l:List Row}{k:Nat}(e:bD a []=some l)(hr:l[k]?=none):pQ a [] k=none:=by
 unfold pQ;rw[show([]:List (Nat×Nat)).reverse=[] from rfl,e];simp only[WT,hr]
def yc{a b l:List Row}{s:Nat×Nat}{rs:List (Nat×Nat)}{k:Nat}{r:Row}(e:bD a (s::rs).reverse=some b)(hn:b[k]?=none)(c:bD a rs.reverse=some l)(hr:l[s.1]?=some r):pQ a (s::rs) k=if bq r s.2 then some (s::rs,k)else pQ a rs (if jX r then s.1 else s.1+1):=by
 rw[pQ,e];simp only[WT,hn,c,hr]
structure bp where
 aZ:Nat
 nums:List Int
 rs:List (Nat×Nat)
 k:Nat
def dI(f:bp):D:=.tup [av f.aZ,.tup (f.nums.map D.int),bX f.rs.reverse f.k]
def en(P:Prog)(f:bp):Prop:=∃d a,P.au[f.aZ]?=some d/\bD d.2.2 f.rs.reverse=some a/\f.rs.length<=1000
noncomputable def bW(P:Prog)(i:Nat):List Row:=((P.au[i]?).map λd=>d.2.2).getD []
def xS{P:Prog}{i:Nat}{d:df}{h:MH}(e:P.au[i]?=some d):kg [aC P,av i] h=some (fX (bW P i),h):=by
 have b:Rn (kg [aC P,av i] h) λp=>p=(fX d.2.2,h):=by
  apply bj ?_;unfold aC;exists eJ (by rw[WY,e];rfl);unfold eu;nofun;rfl
 have⟨p,a,rfl⟩:=b;rw[a];unfold bW;rw[e];rfl
def f7(P:Prog):List bp->bp->List bp
 |[],f=>match pQ (bW P f.aZ) f.rs f.k with
  |some p=>[{f with rs:=p.1,k:=p.2}]
  |none=>[]
 |g::a,f=>match pQ (bW P f.aZ) f.rs f.k with
  |some p=>{f with rs:=p.1,k:=p.2}::g::a
  |none=>f7 P a {g with k:=g.k+1}
def gL(P:Prog):List bp->List bp
 |[]=>[]
 |f::fs=>f7 P fs f
def Je(fs:List bp):D:=.tup (fs.reverse.map dI)
theorem fT{P:Prog}{f:bp}{p:List (Nat×Nat)×Nat}:∀{fs:List bp},pQ (bW P f.aZ) f.rs f.k=some p->f7 P fs f={f with rs:=p.1,k:=p.2}::fs
 |[],e=>by unfold f7;rw[e]
 |_::_,e=>by unfold f7;rw[e]
def jo{P:Prog}{f:bp}(e:pQ (bW P f.aZ) f.rs f.k=none):f7 P [] f=[]:=by unfold f7;rw[e]
def nD{P:Prog}{f g:bp}{a:List bp}(e:pQ (bW P f.aZ) f.rs f.k=none):f7 P (g::a) f=f7 P a {g with k:=g.k+1}:=by rw[f7,e]
def jS{h:MH}{n:Nat}{a:List D}{y:D}(e:h[n]?=some (.lst (a++[y]))):Au (.ob n) [] h=some (y,h.set n (.lst a)):=by
 unfold Au;dsimp only;rw[e];dsimp only;rw[WR,Y7,AaO,W4 (WJ _),Zg,List.dropLast_concat];rfl
theorem y7(n:Nat):∀a:List Int,dh n (a.map D.int)=true
 |[]=>rfl
 |j::r=>y7 n r
theorem Ey(n:Nat):∀a:List Nat,dh n (a.map av)=true
 |[]=>rfl
 |j::r=>Ey n r
def Tc(n:Nat)(f:bp):gu n (dI f)=true:=by
 show(true&&(dh n (f.nums.map D.int)&&(dh n ((flat f.rs.reverse++[f.k]).map av)&&true)))=true;rw[y7,Ey];rfl
theorem y8(n:Nat):∀fs:List bp,dh n (fs.map dI)=true
 |[]=>rfl
 |f::r=>by show(gu n (dI f)&&dh n (r.map dI))=true;rw[Tc,y8 n r];rfl
def oZ{h:MH}{n:Nat}{a:List D}(e:h[n]?=some (.lst a)):bw [.ob n] h=some (.tup a,h):=by
 unfold bw cq;dsimp only;rw[e];rfl
def gB(f:bp):dI f=.tup [av f.aZ,.tup (f.nums.map D.int),bX f.rs.reverse f.k]:=rfl
def Kh(a:List Row)(rs:List (Nat×Nat))(k:Nat):Prop:=∃b,bD a rs.reverse=some b/\((∃r,b[k]?=some r)\/(b[k]?=none/\∃s c l r,rs=s::c/\bD a c.reverse=some l/\l[s.1]?=some r/\bq r s.2=true))
theorem BZ{d:List Row}:∀{rs:List (Nat×Nat)} {k:Nat} {a:List Row} {p:List (Nat×Nat)×Nat},bD d rs.reverse=some a->pQ d rs k=some p->Kh d p.1 p.2/\p.1.length<=rs.length
 |[],k,a,p,e,b=>by
  cases q:a[k]? with
  |none=>rw[qW e q]at b;cases b
  |some r=>rw[fW e q]at b;cases b;exact⟨⟨a,e,.inl ⟨r,q⟩⟩,WJ _⟩
 |s::rs,k,a,p,e,b=>by
  cases q:a[k]? with
  |some r=>rw[fW e q]at b;cases b;exact⟨⟨a,e,.inl ⟨r,q⟩⟩,WJ _⟩
  |none=>
   have⟨l,r,g1,g2,g3⟩:=nz e;rw[yc e q g1 g2]at b
   by_cases c:bq r s.2=true
   ·rw[WH c]at b;cases b;exact⟨⟨a,e,.inr ⟨q,s,rs,l,r,rfl,g1,g2,c⟩⟩,WJ _⟩
   ·rw[WM c]at b;have⟨g,f⟩:=BZ g1 b;exact⟨g,Xp f⟩
def iI(P:Prog)(f:bp):Prop:=∃d,P.au[f.aZ]?=some d/\Kh d.2.2 f.rs f.k/\f.rs.length<=1000
def iI.ok{P:Prog}{f:bp}(h:iI P f):en P f:=let⟨d,e,⟨a,c,_⟩,b⟩:=h;⟨d,a,e,c,b⟩
def cv{P:Prog}{i:Nat}{d:df}(h:P.au[i]?=some d):bW P i=d.2.2:=by unfold bW;rw[h];rfl
def qu(P:Prog):List bp->Prop
 |[]=>True
 |f::fs=>iI P f/\∀g∈fs,en P g
theorem Ee{P:Prog}:∀{fs:List bp} {f:bp},en P f->(∀g∈fs,en P g)->qu P (f7 P fs f)/\(f7 P fs f).length<=fs.length+1
 |fs,f,⟨d,e,f1,f2,o⟩,a=>by
  have er:=cv f1;cases q:pQ (bW P f.aZ) f.rs f.k with
  |some p=>
   rw[fT q];have⟨c,b⟩:=BZ (er ▸ f2) q;exact⟨⟨⟨d,f1,er ▸ c,WL b o⟩,a⟩,WJ _⟩
  |none=>
   cases fs with
   |nil=>rw[jo q];exact⟨True.intro,Xg _⟩
   |cons g n=>
    rw[nD q];have⟨r,h,l,j,i⟩:=a g WI;have⟨c,b⟩:=Ee (fs:=n) (f:={g with k:=g.k+1}) ⟨r,h,l,j,i⟩ λx m=>a x (WG _ m);exact⟨c,Xp b⟩
theorem Eb{P:Prog}:∀{fs:List bp},(∀g∈fs,en P g)->qu P (gL P fs)/\(gL P fs).length<=fs.length
 |[],_=>⟨True.intro,WJ _⟩
 |f::fs,h=>Ee (h f WI) λg a=>h g (WG _ a)
def bz(P:Prog)(f:bp):Option Row:=(bD (bW P f.aZ) f.rs.reverse).bind λl=>l[f.k]?
def gH{P:Prog}{f:bp}{h:MH}(ok:en P f):fk [aC P,dI f] h=some (oC (bz P f),h):=by
 have⟨d,c,b,a,e⟩:=ok;have er:=cv b;have i:Rn (fk [aC P,dI f] h) λp=>p=(oC (bz P f),h):=by
  apply bj ?_;rw[gB f];exists xS b;exists zS (er ▸ a) (by rw[X7];exact e);nofun;unfold bz;rw[er,a];rfl
 have⟨p,g,rfl⟩:=i;exact g
abbrev Hand:=List bp×List (List aq)
def bZ(b:List aq):D:=.tup (b.map dQ)
def qc(x:Hand):D:=.tup [Je x.1,.tup (x.2.map bZ)]
def cU(S:List Hand):D:=.tup (S.map qc)
def tR(f:bp)(fs:List bp)(h:MH):ax (Je (f::fs)) (.int (-1)) h=some (dI f,h):=by
 apply tV ?_;rw[Xv,W6];exact nO _ _
def BH{S:List Hand}{i:Nat}{x:Hand}{h:MH}(e:S[i]?=some x):ax (cU S) (av i) h=some (qc x,h):=eJ (by rw[WY,e];rfl)
def De(fs:List bp)(h:MH):EV (Je fs) h=some (!fs.isEmpty):=by
 cases fs with
 |nil=>rfl
 |cons f fs=>
  show some (!((f::fs).reverse.map dI).isEmpty)=_;rw[Xv,W6];simp
def sg(P:Prog)(x:Hand):Option Row:=x.1.head?.bind λf=>bz P f
def sf{P:Prog}{S:List Hand}{i:Nat}{x:Hand}{h:MH}(e:S[i]?=some x)(ok:qu P x.1):eP [aC P,cU S,av i] h=some (oC (sg P x),h):=by
 have d:Rn (eP [aC P,cU S,av i] h) λp=>p=(oC (sg P x),h):=by
  apply bj ?_;exists BH e;unfold qc;nofun;apply⟨_,De _ _,λc=>?_,λc=>?_⟩
  ·have⟨fs,a⟩:=x;cases fs with
   |nil=>cases c
   |cons f fs=>
    exists tR f fs _;exists gH ok.1.ok;rfl
  ·have⟨fs,a⟩:=x;cases fs with
   |nil=>nofun;rfl
   |cons f fs=>cases c
 have⟨p,b,rfl⟩:=d;exact b
noncomputable def cD:Row->List Lock
 |.within l _=>[l]
 |.all ls _=>ls
 |.ask l _ _=>[l]
 |_=>[]
def vn(r:Row)(h:MH):iL [aH r] h=some (.tup ((cD r).map aD),h):=by
 have c:Rn (iL [aH r] h) λp=>p=(.tup ((cD r).map aD),h):=by
  apply bj ?_;cases r with
  |all _ _=>rw[aH];nofun;apply⟨true,by ac_nf,tt ?_⟩;nofun;rfl
  |within _ _=>rw[aH];nofun;apply⟨false,by ac_nf,ff ?_⟩;nofun;apply rv (a:=(.bl true,h)) (by ac_nf) ⟨true,rfl,tt ?_⟩;nofun;rfl
  |ask _ _ _=>rw[aH];nofun;apply⟨false,by ac_nf,ff ?_⟩;nofun;apply rv (a:=(.bl true,h)) (by ac_nf) ⟨true,rfl,tt ?_⟩;nofun;rfl
  |_=>rw[aH];nofun;apply⟨false,by ac_nf,ff ?_⟩;nofun;apply rv (a:=(.bl false,h)) (by ac_nf) ⟨false,rfl,ff ?_⟩;nofun;rfl
 have⟨p,b,rfl⟩:=c;exact b
def HM{a:List (Key×D)}{k:Key}{v:D}(h:k∈a.map (·.1)):putD a k v=a.map (λb=>if b.1=k then(b.1,v)else b):=by
 unfold putD;rw[WH];have⟨p,hp,e⟩:=Xe.mp h;exact Zh.mpr ⟨p,hp,Xf e⟩
def fS{a j:Key}{b:D}{r:List (Key×D)}:dE ((a,b)::r) j=if a=j then some b else dE r j:=by
 by_cases h:a=j
 ·rw[WH h];simp[dE,h]
 ·rw[WM h];simp only[dE,X0,h,decide_false]
theorem rB{k j:Key}{v:D}(hj:j≠k):∀l:List (Key×D),dE (l.map (λd=>if d.1=k then(d.1,v)else d)) j=dE l j
 |[]=>rfl
 |(a,b)::r=>by
  rw[WN]
  by_cases c:a=k
  ·rw[WH c,fS,fS,WM (λz=>hj (z.symm.trans c)),WM (λz=>hj (z.symm.trans c))];exact rB hj r
  ·rw[WM c,fS,fS,rB hj r]
theorem valD_map'{k:Key}{v:D}:∀l:List (Key×D),k∈l.map (·.1)->dE (l.map (λd=>if d.1=k then(d.1,v)else d)) k=some v
 |[],h=>(nomatch h)
 |(a,b)::r,h=>by
  rw[WN]
  by_cases c:a=k
  ·rw[WH c,fS,WH c]
  ·rw[WM c,fS,WM c];exact valD_map' r ((WV.mp h).resolve_left λe=>c e.symm)
def lW{a:List (Key×D)}{k j:Key}{v:D}:dE (putD a k v) j=if j=k then some v else dE a j:=by
 by_cases h:k∈a.map (·.1)
 ·rw[HM h]
  by_cases hj:j=k
  ·subst hj;rw[WH rfl];exact valD_map' a h
  ·rw[WM hj];exact rB hj a
 ·rw[HN h]
  by_cases hj:j=k
  ·subst hj;rw[WH rfl];unfold dE;rw[List.find?_append];have:a.find? (λb=>decide (b.1=j))=none:=by
    rw[List.find?_eq_none];intro p hp e;exact h (Xe.mpr ⟨p,hp,XR e⟩)
   rw[this];simp
  ·rw[WM hj];unfold dE;rw[List.find?_append];cases a.find? (λb=>decide (b.1=j))with
   |some p=>rfl
   |none=>
    simp[XW hj]
noncomputable def pC(a:List Str)(ns:List Int):List (Key×D):=(a.zip ns).map λp=>((.inr p.1:Key),D.int p.2)
theorem Ds:∀(a:List Str)(ns:List Int),vT (a.map D.str) (ns.map D.int)=some (pC a ns)
 |[],_=>rfl
 |_::_,[]=>rfl
 |n::ns,r::rs=>by
  rw[WN,WN];show(oU (.str n)).bind (λk=>(vT (ns.map D.str) (rs.map D.int)).map λa=>(k,D.int r)::a)=_;rw[Ds ns rs];rfl
theorem wD{w:Str}:∀(z:List (Str×Int)) (a:List (Key×D)),(w∈z.map (·.1)\/∃v,dE a (.inr w)=some (.int v))->∃v,dE (fc a (z.map λp=>((.inr p.1:Key),D.int p.2))) (.inr w)=some (.int v)
 |[],a,h=>h.resolve_left λz=>(nomatch z)
 |p::z,a,h=>by
  show ∃v,dE (fc (putD a (.inr p.1) (.int p.2)) (z.map λp=>((.inr p.1:Key),D.int p.2))) (.inr w)=some (.int v);apply wD z _ ?_
  by_cases e:w=p.1
  ·exact .inr ⟨p.2,by rw[lW,WH (by rw[e])]⟩
  ·rcases h with h |⟨v,h⟩
   ·exact .inl ((WV.mp h).resolve_left e)
   ·exact .inr ⟨v,by rw[lW,WM (λz=>e (Sum.inr.inj z)),h]⟩
noncomputable def qB(P:Prog)(i:Nat):List Str:=((P.au[i]?).map λd=>d.2.1).getD []
def bQ(P:Prog)(f:bp):List (Key×D):=fc [] (pC (qB P f.aZ) f.nums)
def IA{P:Prog}{f:bp}{w:Str}(a:w∈qB P f.aZ)(hl:(qB P f.aZ).length<=f.nums.length):∃v,dE (bQ P f) (.inr w)=some (.int v):=
 wD _ [] (.inl (by rw[List.map_fst_zip hl];exact a))
def K4{m:AM}{g:DS}{h:MH}{Q:D×MH->Prop}(r:Rn (m g h) λp=>∃d e f c i a b,p.1=[d,e]/\cq d p.2=some (f,i)/\cq e p.2=some (c,a)/\vT f c=some b/\b.length<=1000000/\Q (.dv (fc [] b),p.2)):Rn (CD m g h) Q:=
 aW (r.imp λp j=>by have⟨d,e,f,c,i,a,b,s,o,n,l,k,q⟩:=j;exact⟨_,by rw[s];dsimp only;rw[o];dsimp only[Option.bind_some];rw[n];dsimp only[Option.bind_some];rw[l];dsimp only[Option.bind_some];rw[WH k],q⟩)
def qG{P:Prog}{f:bp}{d:df}{h:MH}(e:P.au[f.aZ]?=some d)(hl:d.2.1.length<=1000):fO [aC P,dI f] h=some (.dv (bQ P f),h):=by
 have a:qB P f.aZ=d.2.1:=by unfold qB;rw[e];rfl
 have c:Rn (fO [aC P,dI f] h) λp=>p=(.dv (bQ P f),h):=by
  apply bj ?_;rw[gB f];unfold aC;nofun;apply K4 ?_;exists eJ (by rw[WY,e];rfl);unfold eu;nofun;apply⟨_,_,_,_,_,_,pC d.2.1 f.nums,rfl,rfl,rfl,Ds _ _,?_,?_⟩
  ·unfold pC;rw[WA,List.length_zip]
   lia
  ·unfold bQ;rw[a];rfl
 have⟨p,b,rfl⟩:=c;exact b
noncomputable def vI:Option D->Int
 |some (.int z)=>z
 |_=>0
def cW(a:List (Key×D))(t:Term):Int:=if t.1="" then t.2 else vI (dE a (.inr t.1))+t.2
def cP(a:List (Key×D))(t:Term):Prop:=t.1=""\/∃z,dE a (.inr t.1)=some (.int z)
def uA{a:List (Key×D)}{t:Term}{h:MH}(f:cP a t):gg [aS t,.dv a] h=some (.int (cW a t),h):=by
 have e:Rn (gg [aS t,.dv a] h) λp=>p=(.int (cW a t),h):=by
  apply bj ?_;unfold aS;nofun;apply⟨_,rfl,λc=>?_,λc=>?_⟩
  ·have b:t.1="":=by simpa using c
   nofun;unfold cW;rw[WH b]
  ·have b:¬t.1="":=by simpa using c
   have⟨z,d⟩:=f.resolve_left b;exists Ma rfl d;nofun;unfold cW;rw[WM b,d];rfl
 have⟨p,g,rfl⟩:=e;exact g
def tD:EM:=aj aA (af (aM 0) (af (aj gg (af (aM 1) (af (aM 2) aV))) aV))
def LI:GM:=gT 2 (ak (gN 0) (ak (gN 1) bE))
def kS(b:List (Key×D))(a:List aq)(l:Lock):List aq:=zm a (l.1,cW b l.2)
def IS{a:List (Key×D)}{l:Lock}{h:MH}(b:cP a l.2):tD [some (.str l.1),some (aS l.2),some (.dv a)] h=some (dQ (l.1,cW a l.2),h):=by
 have e:Rn (tD [some (.str l.1),some (aS l.2),some (.dv a)] h) λp=>p=(dQ (l.1,cW a l.2),h):=by
  unfold tD;exists uA b;nofun;rfl
 have⟨p,c,rfl⟩:=e;exact c
def Bh(a:List aq)(k:aq):(zm a k).length<=a.length+1:=by unfold zm;split <;> simp
theorem DZ{a:List (Key×D)}{h:MH}:∀(ls:List Lock)(f d1:Option D)(b:List aq),(∀l∈ls,cP a l.2)->b.length+ls.length<=4->
  ∃d c,dM [] LI bI (mP tD) (ls.map aD) [f,d1,some (.dv a)] h b=some ([d,c,some (.dv a)],h,ls.foldl (kS a) b)
 |[],f,d1,b,_,_=>⟨f,d1,rfl⟩
 |l::ls,f,d1,b,hw,hl=>by
  have j:=Bh b (l.1,cW a l.2);rw[WW]at hl;have⟨d,c,e⟩:=DZ (h:=h) ls (some (.str l.1)) (some (aS l.2)) (kS a b l) (λx g=>hw x (WG _ g)) (by unfold kS;lia);apply⟨d,c,?_⟩;have i:mP tD [some (.str l.1),some (aS l.2),some (.dv a)] h b=some ([some (.str l.1),some (aS l.2),some (.dv a)],h,kS a b l):=by
   unfold mP;rw[IS (hw l WI)];show(if b.length<=3 then _ else _)=_;rw[WH ()];rfl
  rw[WN,Y4];show(if hZ [] h then(LI (aD l) [f,d1,some (.dv a)] h).bind _ else none)=_;rw[WH (show hZ [] h=true from rfl),show LI (aD l) [f,d1,some (.dv a)] h=some ([some (.str l.1),some (aS l.2),some (.dv a)],h) from rfl];show(mP tD [some (.str l.1),some (aS l.2),some (.dv a)] h b).bind _=_;rw[i];exact e
def lF(P:Prog)(f:bp):List aq:=i4 (((bz P f).map cD).getD [] |>.foldl (kS (bQ P f)) [])
theorem jZ(b:List (Key×D)):∀(ls:List Lock)(a:List aq),(ls.foldl (kS b) a).length<=a.length+ls.length
 |[],_=>WJ _
 |l::ls,a=>by
  have d:=Bh a (l.1,cW b l.2);have c:=jZ b ls (kS b a l);rw[Y4,WW];unfold kS at c ⊢
  lia
def qI{P:Prog}{f:bp}{d:df}{r:Row}{h:MH}(ok:en P f)(e:P.au[f.aZ]?=some d)(hl:d.2.1.length<=1000)(er:bz P f=some r)(c:∀l∈cD r,cP (bQ P f) l.2)(b:(cD r).length<=4):fP [aC P,dI f] h=some (bZ (lF P f),h):=by
 have j:Rn (fP [aC P,dI f] h) λp=>p=(bZ (lF P f),h):=by
  apply bj ?_;exists gH ok;rw[er];exists vn r _;exists qG e hl;nofun;have⟨k,d1,g⟩:=DZ (h:=h) (cD r) none none [] c (by simpa using b);apply rv (a:=(.lv ((lF P f).map dQ),h)) ?_ ?_
  ·show((dM [] LI bI (mP tD) ((cD r).map aD) [none,none,some (.dv (bQ P f))] h []).bind _)=_;rw[g];show(if((cD r).foldl (kS (bQ P f)) []).length<=4 then _ else _)=_;rw[WH (by have:=jZ (bQ P f) (cD r) [];simp at this;exact WL this b)];unfold lF;rw[er];rfl
  ·exists rfl;rfl
 have⟨p,i,rfl⟩:=j;exact i
theorem DF:∀b:List aq,gX (b.map dQ)=some (b.map gq)
 |[]=>rfl
 |k::r=>by
  show(je (dQ k)).bind (λa=>(gX (r.map dQ)).map λbs=>a::bs)=_;rw[DF r];rfl
theorem wY:∀b:List aq,PyData.depthAll (b.map gq)<=2
 |[]=>by simp[PyData.depthAll]
 |k::r=>by
  have:=wY r;simp only[WN,PyData.depthAll,gq,PyData.depth];simp
  lia
def Jq(k l:aq):PyData.eqv (gq k) (gq l)=decide (k=l):=by
 show((k.1==l.1)&&((k.2==l.2)&&true))=_;rw[Bool.and_true,YE,W9,YM,YM,Zq];constructor
 ·rintro⟨b,a⟩;exact Prod.ext b a
 ·rintro rfl;exact⟨rfl,rfl⟩
def yR(l:aq)(b:List aq)(h:MH):yS (dQ l) (bZ b) h=some (.bl (decide (l∈b)),h):=by
 have c:inD (dQ l) (bZ b) h=some (decide (l∈b)):=by
  show((gX (b.map dQ)).bind λbs=>if(gq l).depth<=60/\PyData.depthAll bs<=60 then some (bs.any λx=>PyData.eqv x (gq l))else none)=_;rw[DF];show(if(gq l).depth<=60/\PyData.depthAll (b.map gq)<=60 then some ((b.map gq).any λx=>PyData.eqv x (gq l))else none)=_;rw[WH ⟨by simp[gq,PyData.depth,PyData.depthAll],WL (wY b) {}⟩,AbO];congr 1;rw[YE,Zh,Zq];constructor
  ·rintro⟨x,a,e⟩;have e:PyData.eqv (gq x) (gq l)=true:=e;rw[Jq]at e;exact XR e ▸ a
  ·intro a;exact⟨l,a,by show PyData.eqv (gq l) (gq l)=true;rw[Jq];simp⟩
 unfold yS;rw[c];rfl
noncomputable def nB(l:aq)(x:Hand):Bool:=x.2.any λb=>decide (l∈b)
def Kq:Option Nat->D
 |none=>.bg
 |some i=>av i
def QK{a:Type}(p:a->Bool)(l:List a)(h:MH):P9 [.lv (l.map λw=>D.bl (p w))] h=some (.bl (l.any p),h):=by
 show(vG (l.map λx=>D.bl (p x))).map (λbs=>(D.bl (bs.any id),h))=_;rw[EE];show some (D.bl ((l.map p).any id),h)=_;rw[AbO];rfl
def FW{l:aq}{bs:List (List aq)}{h:MH}:aX [] (gN 0) bI (ag yS (aM 1) (aM 0)) (bs.map bZ) [none,some (dQ l)] h=some (bs.map (λb=>D.bl (decide (l∈b))),h):=by
 have:=Et (e:=ag yS (aM 1) (aM 0)) (t:=[some (dQ l)]) (h:=h) (λd=>match yS (dQ l) d h with |some (z,_)=>z |none=>.bg) (bs.map bZ) none (λy a=>by
  have⟨b,c,rfl⟩:=Xe.mp a;show yS (dQ l) (bZ b) h=_;rw[yR])
 rw[this,YU];congr 2;apply List.map_congr_left λb c=>?_;show(match yS (dQ l) (bZ b) h with |some (z,_)=>z |none=>.bg)=_;rw[yR]
def yJ(x:Hand):qc x=.tup [Je x.1,.tup (x.2.map bZ)]:=rfl
def yI{S:List Hand}{l:aq}{h:MH}(r:∀x∈S,x.2.length<=1000):hY [cU S,dQ l] h=some (Kq (S.findIdx? (nB l)),h):=by
 have v:Rn (hY [cU S,dQ l] h) λp=>p=(Kq (S.findIdx? (nB l)),h):=by
  apply bj ?_;unfold cU;nofun;apply mS ?_;nofun;apply⟨_,_,_,rfl,rfl,?_⟩;apply cO (λi f e=>e=h/\(∃(d2 q o:Option D),f=[some (.tup (S.map qc)),some (dQ l),d2,q,o])/\∀(j:Nat)(x:Hand),j<i->S[j]?=some x->nB l x=false) ⟨rfl,⟨_,_,_,rfl⟩,λj x hj=>absurd hj (XB _)⟩ (λ_ _ _ _ _=>rfl) ?_ ?_
  ·rintro i x f e n ⟨rfl,⟨d2,q,o,rfl⟩,b⟩;have⟨y,m,rfl⟩:=nG n;have g:=WE m;rw[yJ y];nofun;apply rv (a:=(y.2.map bZ,[],e)) rfl ?_;apply rv FW ⟨by rw[WA,show sizeLine=16777216 from rfl];have:=r y g;exact WL this {},?_⟩;nofun;apply rv (QK _ _ _) ⟨_,rfl,λc=>?_,λc=>?_⟩
   ·have t:S.findIdx? (nB l)=some i:=by
     rw[YR];have⟨s,k⟩:=WB.mp m;apply⟨s,by rw[k];exact c,λj hj=>?_⟩;have:=b j (S[j]'()) hj (WK _);rw[this];exact Xi
    rw[t];nofun;rfl
   ·nofun;apply⟨rfl,⟨_,_,_,rfl⟩,λj x hj d=>?_⟩;rcases Z6.mp hj with z |z
    ·exact b j x z d
    ·subst z;rw[m]at d;cases d;exact c
  ·rintro f e ⟨rfl,⟨d2,q,o,rfl⟩,b⟩;rw[cF,WA]at b;have:S.findIdx? (nB l)=none:=by
    rw[Abm];intro x n;have⟨j,hj⟩:=XU.mp n;exact b j x (WB.mp hj).1 hj
   rw[this];nofun;rfl
 have⟨p,u,rfl⟩:=v;exact u
def cT(S:List Hand)(l:aq):Bool:=(S.findIdx? (nB l)).isSome
def MQ:TM:=ao (ag iV (aj hY (af (aM 1) (af (aM 0) aV))) (eK .bg))
def NB{S:List Hand}{l:aq}{h:MH}(a:∀x∈S,x.2.length<=1000):MQ [some (dQ l),some (cU S)] h=some (cT S l,h):=by
 have e:Rn (MQ [some (dQ l),some (cU S)] h) λp=>p=(cT S l,h):=by
  unfold MQ;exists yI a;nofun;unfold cT;cases S.findIdx? (nB l)with
  |none=>exact rv rfl ⟨_,rfl,rfl⟩
  |some i=>exact rv rfl ⟨_,rfl,rfl⟩
 have⟨p,b,rfl⟩:=e;exact b
theorem C7{S:List Hand}{h:MH}(b:∀x∈S,x.2.length<=1000):∀(ls:List aq)(o:Option D),aX [] (gN 0) MQ (aM 0) (ls.map dQ) [o,some (cU S)] h=some ((ls.filter (cT S)).map dQ,h)
 |[],o=>rfl
 |l::ls,o=>by
  have a:=C7 b ls (some (dQ l)) (h:=h);rw[WN];show(if hZ [] h then(MQ [some (dQ l),some (cU S)] h).bind (λt=>if t.1 then(some (dQ l,t.2)).bind λy=>(aX [] (gN 0) MQ (aM 0) (ls.map dQ) [some (dQ l),some (cU S)] y.2).map λz=>(y.1::z.1,z.2)else aX [] (gN 0) MQ (aM 0) (ls.map dQ) [some (dQ l),some (cU S)] t.2)else none)=_;rw[WH (show hZ [] h=true from rfl),NB b];cases c:cT S l with
  |true=>
   rw[List.filter_cons_of_pos c];show(aX [] (gN 0) MQ (aM 0) (ls.map dQ) [some (dQ l),some (cU S)] h).map _=_;rw[a];rfl
  |false=>
   rw[List.filter_cons_of_neg (by rw[c];exact Xi)];exact a
noncomputable def nA:Row->Bool
 |.within _ _=>true
 |.all _ _=>true
 |_=>false
structure MC(P:Prog)(f:bp)(r:Row):Prop where
 Wr:∃d,P.au[f.aZ]?=some d/\d.2.1.length<=1000
 lk:∀l∈cD r,cP (bQ P f) l.2
 four:(cD r).length<=4
def uy(P:Prog)(S:List Hand)(x:Hand):List aq:=match x.1 with
 |[]=>[]
 |f::_=>match bz P f with
  |none=>[]
  |some r=>if nA r then(lF P f).filter (cT S)else[]
def Hq(r:Row)(h:MH):lL (.str (cY r)) (.tup [.str "within",.str "all"]) h=some (.bl (!nA r),h):=by
 cases r <;> ac_nf
def Am(o:Option Row)(h:MH):iV (oC o) .bg h=some (.bl o.isSome,h):=by
 cases o with
 |none=>rfl
 |some r=>have⟨x,e,_⟩:=uf r;show iV (aH r) .bg h=_;rw[e];rfl
def b9(r:Row)(h:MH):ax (aH r) (.int 0) h=some (.str (cY r),h):=by
 have⟨x,e,_⟩:=uf r;rw[e];exact eJ (i:=0) rfl
def Bt{P:Prog}{S:List Hand}{i:Nat}{x:Hand}{h:MH}(e:S[i]?=some x)(ok:qu P x.1)(g:∀x∈S,x.2.length<=1000)(j:∀f fs r,x.1=f::fs->bz P f=some r->MC P f r):og [aC P,cU S,av i] h=some (bZ (uy P S x),h):=by
 have l:Rn (og [aC P,cU S,av i] h) λp=>p=(bZ (uy P S x),h):=by
  apply bj ?_;exists sf e ok;exists yF _ _;cases er:sg P x with
  |none=>
   apply⟨true,rfl,tt (tt ?_)⟩;nofun;have⟨fs,hd⟩:=x;cases fs with
   |nil=>rfl
   |cons f fs=>
    have er:bz P f=none:=er;show(bZ [],h)=(bZ (uy P S (f::fs,hd)),h);unfold uy;dsimp only;rw[er]
  |some r=>
   have⟨fs,hd⟩:=x;cases fs with
   |nil=>cases er
   |cons f fs=>
    have er:bz P f=some r:=er;obtain⟨⟨d,d1,d2⟩,b,a⟩:=j f fs r rfl er;apply⟨false,rfl,ff ?_⟩;exists b9 r _;exists Hq r _;cases c:nA r with
    |false=>
     apply⟨true,rfl,tt ?_⟩;nofun;show(bZ [],h)=(bZ (uy P S (f::fs,hd)),h);unfold uy;dsimp only;rw[er];dsimp only;rw[c];rfl
    |true=>
     apply⟨false,rfl,ff ?_⟩;nofun;apply dW ?_;exists BH e;rw[yJ];exists tR f fs _;exists qI ok.1.ok d1 d2 er b a;apply⟨(lF P f).map dQ,[],rfl,?_⟩;apply rv (C7 g (lF P f) none) ⟨?_,?_⟩
     ·have n:=AbV (cT S) (lF P f);have m:(lF P f).length<=4:=by
       unfold lF;rw[er,(eY _).length_eq];have:=jZ (bQ P f) (cD r) [];simp at this ⊢;exact WL this a
      rw[WA,show sizeLine=16777216 from rfl]
      lia
     exists rfl;show(bZ ((lF P f).filter (cT S)),h)=(bZ (uy P S (f::fs,hd)),h);unfold uy;dsimp only;rw[er];dsimp only;rw[c];rfl
 have⟨p,k,rfl⟩:=l;exact k
noncomputable def qK:Row->Bool
 |.either _ _=>true
 |.again _=>true
 |_=>false
def nM(P:Prog)(S:List Hand)(x:Hand):List Nat:=match x.1 with
 |[]=>[]
 |f::_=>if((bz P f).map qK).getD false then[0,1]else if(uy P S x).isEmpty then[0]else[]
def Hr(r:Row)(h:MH):yS (.str (cY r)) (.tup [.str "either",.str "again"]) h=some (.bl (qK r),h):=by
 cases r <;> ac_nf
def zc{P:Prog}{S:List Hand}{i:Nat}{x:Hand}{h:MH}(e:S[i]?=some x)(ok:qu P x.1)(l:∀x∈S,x.2.length<=1000)(m:∀f fs r,x.1=f::fs->bz P f=some r->MC P f r):bR [aC P,cU S,av i] h=some (.tup ((nM P S x).map av),h):=by
 have k:=λh=>Bt (h:=h) e ok l m;have o:Rn (bR [aC P,cU S,av i] h) λp=>p=(.tup ((nM P S x).map av),h):=by
  apply bj ?_;exists BH e;rw[yJ];nofun;have⟨fs,hd⟩:=x;cases fs with
  |nil=>
   apply⟨false,rfl,tt ?_⟩;nofun;rfl
  |cons f fs=>
   apply⟨true,De _ _,ff ?_⟩;exists tR f fs _;exists gH ok.1.ok;exists Am _ _;have d:∀(g:DS),g=[some (aC P),some (cU S),some (av i),some (Je (f::fs)),some (oC (bz P f))]->((bz P f).map qK).getD false=false->Rn (aP (Gd (lZ (aj og (af (aM 0) (af (aM 1) (af (aM 2) aV))))) (aj aA aV) (aj aA (af (eK (.int 0)) aV))) g h) (mN λp=>p=(.tup ((nM P S (f::fs,hd)).map av),h)):=by
    rintro g rfl ce;exists k _;have j:nM P S (f::fs,hd)=if(uy P S (f::fs,hd)).isEmpty then[0]else[]:=by
     unfold nM;dsimp only;rw[ce,WM Xi]
    rw[j];cases uy P S (f::fs,hd)with
    |nil=>apply⟨false,rfl,ff ?_⟩;nofun;rfl
    |cons a b=>apply⟨true,rfl,tt ?_⟩;nofun;rfl
   cases er:bz P f with
   |none=>
    rw[er]at d;apply⟨false,rfl,ff (ff (rv rfl (d _ rfl rfl)))⟩
   |some r=>
    rw[er]at d;apply⟨true,rfl,tt ?_⟩;exists b9 r _;exists Hr r _;cases c:qK r with
    |false=>
     exact⟨false,rfl,ff (rv rfl (d _ rfl c))⟩
    |true=>
     apply⟨true,rfl,tt ?_⟩;nofun;have j:nM P S (f::fs,hd)=[0,1]:=by
      unfold nM;dsimp only;rw[er];show(if qK r=true then _ else _)=_;rw[WH c]
     rw[j];rfl
 have⟨p,n,rfl⟩:=o;exact n
def qH(m:Nat×Nat):D:=.tup [av m.1,av m.2]
def Aq(P:Prog)(S:List Hand)(i:Nat):List (Nat×Nat):=(((S[i]?).map (nM P S)).getD []).map λc=>(i,c)
def FD(P:Prog)(S:List Hand):List (Nat×Nat):=(List.range S.length).flatMap (Aq P S)
def Ar:EM:=aj aA (af (aM 0) (af (aM 1) aV))
theorem M8{i:Nat}{dp ds:Option D}{h:MH}:∀(cs:List Nat)(o:Option D)(a:List D),a.length+cs.length<=10000->∃b,dM [] (gN 1) bI (mL Ar) (cs.map av) [some (av i),o,dp,ds] h a=some ([some (av i),b,dp,ds],h,a++cs.map λc=>qH (i,c))
 |[],o,a,_=>⟨o,by rw[Ye,Ye,XC];rfl⟩
 |c::cs,o,a,hl=>by
  rw[WW]at hl;have⟨b,e⟩:=M8 (i:=i) (dp:=dp) (ds:=ds) (h:=h) cs (some (av c)) (a++[qH (i,c)]) (by rw[WR,Y7];lia);apply⟨b,?_⟩;have d:mL Ar [some (av i),some (av c),dp,ds] h a=some ([some (av i),some (av c),dp,ds],h,a++[qH (i,c)]):=by
   show(if a.length<sizeLine then _ else _)=_;rw[WH (by rw[show sizeLine=16777216 from rfl];lia)];rfl
  rw[WN,WN];show(mL Ar [some (av i),some (av c),dp,ds] h a).bind _=_;rw[d];show dM [] (gN 1) bI (mL Ar) (cs.map av) [some (av i),some (av c),dp,ds] h (a++[qH (i,c)])=_;rw[e,Xo];rfl
def Su:MK (List D):=Av (fe (aj bR (af (aM 2) (af (aM 3) (af (aM 0) aV))))) (gN 1) bI (mL Ar)
def EC(P:Prog)(S:List Hand)(x:Hand):(nM P S x).length<=2:=by
 unfold nM
 split
 ·exact Xg _
 ·split
  ·exact WJ _
  ·split <;> simp
theorem IG{P:Prog}{S:List Hand}{h:MH}(k:∀(i:Nat)(x:Hand),S[i]?=some x->bR [aC P,cU S,av i] h=some (.tup ((nM P S x).map av),h)):∀(b:List Nat)(o0 o1:Option D)(a:List D),(∀i∈b,i<S.length)->a.length+2*b.length<=10000->
  ∃d,dM [] (gN 0) bI Su (b.map av) [o0,o1,some (aC P),some (cU S)] h a=some (d,h,a++(b.flatMap (Aq P S)).map qH)
 |[],o0,o1,a,_,_=>⟨_,by rw[Ye,List.flatMap_nil,Ye,XC];rfl⟩
 |i::b,o0,o1,a,l,hl=>by
  rw[WW]at hl;have f:=l i WI;have g:S[i]?=some S[i]:=WK f;have q:=EC P S S[i];have⟨e,p⟩:=M8 (i:=i) (dp:=some (aC P)) (ds:=some (cU S)) (h:=h) (nM P S S[i]) o1 a ();have m:Aq P S i=(nM P S S[i]).map λc=>(i,c):=by unfold Aq;rw[g];rfl
  have⟨d,o⟩:=IG k b (some (av i)) e (a++(nM P S S[i]).map λc=>qH (i,c)) (λj hj=>l j (WG _ hj)) (by rw[WR,WA];lia);apply⟨d,?_⟩;have n:Su [some (av i),o1,some (aC P),some (cU S)] h a=some ([some (av i),e,some (aC P),some (cU S)],h,a++(nM P S S[i]).map λc=>qH (i,c)):=by
   show((bR [aC P,cU S,av i] h).bind _).bind _=_;rw[k i _ g];exact p
  rw[WN,List.flatMap_cons,W6,m,YU];show(Su [some (av i),o1,some (aC P),some (cU S)] h a).bind _=_;rw[n];show dM [] (gN 0) bI Su (b.map av) [some (av i),e,some (aC P),some (cU S)] h _=_;rw[o,Xo];rfl
def Cj{P:Prog}{S:List Hand}{h:MH}(hl:S.length<=1000)(c:∀(i:Nat)(x:Hand),S[i]?=some x->bR [aC P,cU S,av i] h=some (.tup ((nM P S x).map av),h)):kh [aC P,cU S] h=some (.tup ((FD P S).map qH),h):=by
 have j:Rn (kh [aC P,cU S] h) λp=>p=(.tup ((FD P S).map qH),h):=by
  apply bj ?_;have⟨k,e⟩:=IG c (List.range S.length) none none [] (λi d=>XM.mp d) (by rw[W3];simp;lia);nofun;apply rv (a:=(.lv ((FD P S).map qH),h)) ?_ ?_
  ·have g:jn (af (aj cz (af (aM 1) aV)) aV) (entry 2 [aC P,cU S]) h=some ((List.range S.length).map av,[],h):=by
    have f:af (aj cz (af (aM 1) aV)) aV (entry 2 [aC P,cU S]) h=some ([.int (S.length:Int)],h):=by
     show some ([D.int ((S.map qc).length:Int)],h)=_;rw[WA]
    obtain⟨p,b,rfl⟩:Rn (jn (af (aj cz (af (aM 1) aV)) aV) (entry 2 [aC P,cU S]) h) λp=>p=((List.range S.length).map av,[],h):=eZ ⟨_,f,(S.length:Int),rfl,by simp,by lia,by rw[Xd];rfl⟩;exact b
   unfold Qf;rw[g];show(dM [] (gN 0) bI Su ((List.range S.length).map av) [none,none,some (aC P),some (cU S)] h []).map _=_;rw[e,Aap];rfl
  ·exists rfl;rfl
 have⟨p,b,rfl⟩:=j;exact b
def Ni(i:Nat):Option Row->D
 |some (.say w)=>.tup [av i,.str w]
 |_=>.bg
def To(a:List (Key×D))(s t:Term):Nat:=if cW a s<cW a t then 0 else if cW a s=cW a t then 1 else 2
def fG(P:Prog)(S:List Hand)(f:bp)(c:Nat):Row->Option Nat
 |.vF s t _ _ _=>some (To (bQ P f) s t)
 |.either _ _=>some c
 |.again _=>if c=1 then some 0 else none
 |.ask _ _ _=>some (if(lF P f).any (cT S)then 1 else 0)
 |.within _ _=>some 0
 |.all _ _=>some 0
 |_=>none
def VH(a:List (Key×D)):Row->Prop
 |.vF s t _ _ _=>cP a s/\cP a t
 |_=>True
def LJ{P:Prog}{f:bp}{l:Lock}{a b:List Row}(er:bz P f=some (.ask l a b)):lF P f=[(l.1,cW (bQ P f) l.2)]:=by
 unfold lF;rw[er];rfl
def vE(P:Prog)(f:bp)(j:Nat)(a:List Term):bp:={aZ:=j,nums:=a.map (cW (bQ P f)),rs:=[],k:=0}
noncomputable def xq(f:bp):bp:=match f.rs with
 |[]=>f
 |s::rs=>{f with rs:=rs,k:=s.1+1}
def gone(P:Prog)(S:List Hand)(x:Hand)(c j:Nat):Hand:=match x.1 with
 |[]=>x
 |f::fs=>match bz P f with
  |none=>(xq f::fs,x.2.dropLast)
  |some r=>match r with
   |.call _ a=>(vE P f j a::f::fs,x.2)
   |r=>match fG P S f c r with
    |none=>({f with k:=f.k+1}::fs,x.2)
    |some l=>({f with rs:=(f.k,l)::f.rs,k:=0}::fs,if(nA r||bq r 0)&&decide (l=0)then x.2++[lF P f]else x.2)
def Lv(rs:List (Nat×Nat))(k l:Nat)(h:MH)(hl:rs.length<=1000):aN (bX rs.reverse k) (.tup [av l,.int 0]) h=some (bX ((k,l)::rs).reverse 0,h):=by
 have:bX ((k,l)::rs).reverse 0=.tup ((flat rs.reverse++[k]).map av++[av l,.int 0]):=by
  unfold bX bC;rw[Xv,tS];simp[flat,av]
 rw[this];exact j7 (by rw[WA,WR,nF,X7];simp;lia)
noncomputable def tJ:Row->Bool
 |.call _ _=>true
 |_=>false
def jY{P:Prog}{S:List Hand}{c j:Nat}{f:bp}{fs:List bp}{hd:List (List aq)}{r:Row}(er:bz P f=some r)(a:tJ r=false):gone P S (f::fs,hd) c j=match fG P S f c r with
    |none=>({f with k:=f.k+1}::fs,hd)
    |some l=>({f with rs:=(f.k,l)::f.rs,k:=0}::fs,if(nA r||bq r 0)&&decide (l=0)then hd++[lF P f]else hd):=by
 unfold gone;dsimp only;rw[er];cases r with
 |call _ _=>cases a
 |_=>rfl
noncomputable def heldOf(S:List Hand):List (List (List aq)):=S.map (·.2)
def Ja{S a:List Hand}(e:heldOf S=heldOf a)(l:aq):cT S l=cT a l:=by
 have h:∀S:List Hand,cT S l=(heldOf S).any λbs=>bs.any λb=>decide (l∈b):=λS=>by
  unfold cT heldOf;rw[List.findIdx?_isSome,AbO];rfl
 rw[h,h,e]
def I9{S:List Hand}{i:Nat}{x y:Hand}(e:S[i]?=some x)(h:y.2=x.2):heldOf (S.set i y)=heldOf S:=by
 unfold heldOf;rw[List.map_set,h];have⟨a,ex⟩:=WB.mp e;have:x.2=(S.map (·.2))[i]'(by rw[WA];exact a):=by rw[List.getElem_map,ex]
 rw[this,List.set_getElem_self]
def PB{P:Prog}{S:List Hand}{f:bp}{c l:Nat}{r:Row}(d:qK r=true->c<=1)(e:fG P S f c r=some l):l<(aT r).length:=by
 cases r with
 |vF s t a b z=>
  cases e;show To _ _ _<3;unfold To
  split
  ·decide
  ·split <;> decide
 |either a b=>cases e;exact Nat.lt_succ_of_le (d rfl)
 |again a=>
  have e:(if c=1 then some 0 else none)=some l:=e
  split at e
  ·cases e;exact Aa5
  ·cases e
 |ask k a b=>
  cases e;show(if _ then 1 else 0)<2
  split <;> decide
 |within _ _=>cases e;exact Aa5
 |all _ _=>cases e;exact Aa5
 |_=>cases e
def L4{P:Prog}{S:List Hand}{c j:Nat}{f:bp}{fs:List bp}{hd:List (List aq)}{q:df}(st:iI P f)(os:∀g∈fs,en P g)(hj:P.au[j]?=some q)(hr:f.rs.length<1000)(A:∀r,bz P f=some r->qK r=true->c<=1):∀g∈(gone P S (f::fs,hd) c j).1,en P g:=by
 have ok:=st.ok;obtain⟨d,d1,⟨b,m,y⟩,t⟩:=st;have a:bz P f=b[f.k]?:=by unfold bz;rw[cv d1,m];rfl
 have two:∀{p:bp},en P p->∀g∈p::fs,en P g:=λ{p} h g e=>by
  rcases WV.mp e with rfl |e
  ·exact h
  ·exact os g e
 cases er:bz P f with
 |none=>
  have:gone P S (f::fs,hd) c j=(xq f::fs,hd.dropLast):=by unfold gone;dsimp only;rw[er]
  rw[this];rw[a]at er;rcases y with⟨r,z⟩ |⟨_,s,rs,l,r,u,x,F,E⟩
  ·rw[er]at z;cases z
  ·have n:xq f={f with rs:=rs,k:=s.1+1}:=by unfold xq;rw[u]
   rw[n];exact two ⟨d,l,d1,x,by rw[u,WW]at t;show rs.length<=1000;exact XN t⟩
 |some r=>
  by_cases i:tJ r=true
  ·cases r with
   |call w v=>
    have:gone P S (f::fs,hd) c j=(vE P f j v::f::fs,hd):=by unfold gone;dsimp only;rw[er]
    rw[this];intro g e;rcases WV.mp e with rfl |e
    ·exact⟨q,q.2.2,hj,rfl,Xg _⟩
    ·exact two ok g e
   |_=>cases i
  ·rw[jY er (by simpa using i)];cases C:fG P S f c r with
   |none=>exact two ⟨d,b,d1,m,t⟩
   |some l=>
    have o:=PB (A r er) C;apply two ⟨d,(aT r)[l],d1,?_,hr⟩;show bD d.2.2 ((f.k,l)::f.rs).reverse=_;rw[Xv,oP,m];show(Nf b (f.k,l)).bind _=_;unfold Nf;rw[<-a,er];show((aT r)[l]?).bind _=_;rw[WK o];rfl
abbrev CV:=List (Str×List Int)
noncomputable def Ul(t:CV):D:=.tup (t.map λp=>.tup [.str p.1,.tup (p.2.map D.int)])
def ue(P:Prog)(num:Str->Nat)(p:Str×List Int):Hand:=(gL P [{aZ:=num p.1,nums:=p.2,rs:=[],k:=0}],[])
def Mn(n:Nat)(x:Hand):gu n (qc x)=true:=by
 have c:∀bs:List (List aq),dh n (bs.map bZ)=true:=λbs=>by
  induction bs with
  |nil=>rfl
  |cons b r a=>
   have hp:∀b:List aq,dh n (b.map dQ)=true:=λb=>by
    induction b with
    |nil=>rfl
    |cons k r a=>exact a
   show(dh n (b.map dQ)&&dh n (r.map bZ))=true;rw[hp,a];rfl
 show(dh n (x.1.reverse.map dI)&&(dh n (x.2.map bZ)&&true))=true;rw[y8,c];rfl
def MT(a:List Row)(rs:List (Nat×Nat))(s:Nat×Nat):Bool:=(((bD a rs.reverse).bind λl=>l[s.1]?).map λr=>bq r s.2).getD false
def yX(a:List Row):List (Nat×Nat)->Nat
 |[]=>0
 |s::rs=>(MT a rs s).toNat+yX a rs
theorem DJ{rows:List Row}:∀{rs:List (Nat×Nat)} {k:Nat} {a:List Row},bD rows rs.reverse=some a->yX rows rs=((pQ rows rs k).map λp=>yX rows p.1).getD 0
 |[],k,a,e=>by
  cases q:a[k]? with
  |none=>rw[qW e q];rfl
  |some r=>rw[fW e q];rfl
 |s::rs,k,a,e=>by
  cases q:a[k]? with
  |some r=>rw[fW e q];rfl
  |none=>
   have⟨l,r,g1,g2,g3⟩:=nz e;rw[yc e q g1 g2]
   by_cases c:bq r s.2=true
   ·rw[WH c];rfl
   ·have b:MT rows rs s=false:=by
     unfold MT;rw[g1,WT,g2]
     simpa using c
    rw[WM c,<-DJ g1];show(MT rows rs s).toNat+yX rows rs=_;rw[b];exact YZ _
def A9(P:Prog)(f:bp):Nat:=yX (bW P f.aZ) f.rs
def yW(P:Prog)(fs:List bp):Nat:=(fs.map (A9 P)).sum
def eA(P:Prog)(f:bp)(fs:List bp):yW P (f::fs)=A9 P f+yW P fs:=rfl
theorem AJ{P:Prog}:∀{fs:List bp} {f:bp},en P f->(∀g∈fs,en P g)->yW P (f7 P fs f)=A9 P f+yW P fs
 |fs,f,⟨d,c,f1,f2,o⟩,b=>by
  have er:=cv f1;have a:=DJ (rows:=bW P f.aZ) (k:=f.k) (er ▸ f2);cases q:pQ (bW P f.aZ) f.rs f.k with
  |some p=>
   rw[q]at a;rw[fT q,eA];show yX (bW P f.aZ) p.1+_=yX (bW P f.aZ) f.rs+_;rw[a];rfl
  |none=>
   rw[q]at a;have a:A9 P f=0:=a;rw[a,YZ];cases fs with
   |nil=>rw[jo q]
   |cons g m=>
    have⟨n,e,j,i,h⟩:=b g WI;rw[nD q,AJ (fs:=m) (f:={g with k:=g.k+1}) ⟨n,e,j,i,h⟩ λx l=>b x (WG _ l)];rfl
theorem AI{P:Prog}:∀{fs:List bp},(∀g∈fs,en P g)->yW P (gL P fs)=yW P fs
 |[],_=>rfl
 |f::fs,h=>AJ (h f WI) λg a=>h g (WG _ a)
structure Gz(P:Prog)(n:Nat)(f:bp):Prop where
 nm:(qB P f.aZ).length<=f.nums.length
 rs:f.rs.length<=n
theorem Ef{P:Prog}{n:Nat}:∀{fs:List bp} {f:bp},en P f->(∀g∈fs,en P g)->Gz P n f->(∀g∈fs,Gz P n g)->∀g∈f7 P fs f,Gz P n g
 |fs,f,⟨d,e,f1,f2,t⟩,b,hf,hn,x,a=>by
  have er:=cv f1;cases q:pQ (bW P f.aZ) f.rs f.k with
  |some p=>
   rw[fT q]at a;have⟨s,m⟩:=BZ (er ▸ f2) q;rcases WV.mp a with rfl |a
   ·exact⟨hf.nm,WL m hf.rs⟩
   ·exact hn x a
  |none=>
   cases fs with
   |nil=>rw[jo q]at a;cases a
   |cons g o=>
    rw[nD q]at a;have⟨r,h,l,j,i⟩:=b g WI;have c:=hn g WI;exact Ef (fs:=o) (f:={g with k:=g.k+1}) ⟨r,h,l,j,i⟩ (λx a=>b x (WG _ a)) ⟨c.nm,c.rs⟩ (λx a=>hn x (WG _ a)) x a
theorem Ec{P:Prog}{n:Nat}:∀{fs:List bp},(∀g∈fs,en P g)->(∀g∈fs,Gz P n g)->∀g∈gL P fs,Gz P n g
 |[],_,_=>λ_ z=>(nomatch z)
 |f::fs,h,hn=>Ef (h f WI) (λg a=>h g (WG _ a)) (hn f WI) λg a=>hn g (WG _ a)
def GS{P:Prog}{S:List Hand}{f:bp}{c l:Nat}{r:Row}(e:fG P S f c r=some l):bq r l=((nA r||bq r 0)&&decide (l=0)):=by
 cases r with
 |within _ _=>cases e;rfl
 |all _ _=>cases e;rfl
 |ask _ _ _=>show(l==0)=(true&&decide (l=0));rw[AaJ];rfl
 |_=>rfl
def Eu{P:Prog}{f:bp}(st:iI P f)(er:bz P f=none):A9 P f=1+A9 P (xq f)/\(xq f).rs.length<=f.rs.length:=by
 obtain⟨d,d1,⟨c,m,j⟩,n⟩:=st;have hr:=cv d1;have a:bz P f=c[f.k]?:=by unfold bz;rw[hr,m];rfl
 rw[a]at er;rcases j with⟨r,z⟩ |⟨_,s,rs,l,r,b,i,h,g⟩
 ·rw[er]at z;cases z
 ·have e:xq f={f with rs:=rs,k:=s.1+1}:=by unfold xq;rw[b]
  rw[e];apply⟨?_,by rw[b,WW];exact Yy _⟩;show yX (bW P f.aZ) f.rs=1+yX (bW P f.aZ) rs;rw[b];show(MT (bW P f.aZ) rs s).toNat+_=_;have:MT (bW P f.aZ) rs s=true:=by
   unfold MT;rw[hr,i,WT,h];exact g
  rw[this];rfl
def lK{P:Prog}{S:List Hand}{n c j:Nat}{f:bp}{fs:List bp}{hd:List (List aq)}(st:iI P f)(hn:∀g∈f::fs,Gz P n g)(i:yW P (f::fs)=hd.length)(hj:∀w d,bz P f=some (.call w d)->(qB P j).length<=d.length):
  (∀g∈(gone P S (f::fs,hd) c j).1,Gz P (n+1) g)/\(gone P S (f::fs,hd) c j).1.length<=fs.length+2/\(gone P S (f::fs,hd) c j).2.length<=hd.length+1/\yW P (gone P S (f::fs,hd) c j).1=(gone P S (f::fs,hd) c j).2.length:=by
 have b:=hn f WI;have s:∀g∈fs,Gz P (n+1) g:=λg a=>let z:=hn g (WG _ a);⟨z.nm,Xp z.rs⟩;have two:∀{o:bp},Gz P (n+1) o->∀g∈o::fs,Gz P (n+1) g:=λ{o} h g a=>by
  rcases WV.mp a with rfl |a
  ·exact h
  ·exact s g a
 rw[eA]at i;cases er:bz P f with
 |none=>
  have:gone P S (f::fs,hd) c j=(xq f::fs,hd.dropLast):=by unfold gone;dsimp only;rw[er]
  rw[this];have⟨q,v⟩:=Eu st er;have u:=b.rs;have p:(xq f).aZ=f.aZ/\(xq f).nums=f.nums:=by unfold xq;split <;> exact⟨rfl,rfl⟩
  apply⟨two ⟨by rw[p.1,p.2];exact b.nm,by lia⟩,by simp,by rw[Aaz];clear i;lia,?_⟩;rw[eA,Aaz]
  lia
 |some r=>
  by_cases e:tJ r=true
  ·cases r with
   |call w d=>
    have:gone P S (f::fs,hd) c j=(vE P f j d::f::fs,hd):=by unfold gone;dsimp only;rw[er]
    rw[this];apply⟨λg a=>?_,by simp,Yy _,?_⟩
    ·rcases WV.mp a with rfl |a
     ·apply⟨?_,Xg _⟩;show(qB P j).length<=(d.map _).length;rw[WA];exact hj w d er
     ·exact two ⟨b.nm,Xp b.rs⟩ g a
    ·rw[eA,eA,i];exact YZ _
   |_=>cases e
  ·rw[jY er (by simpa using e)];cases t:fG P S f c r with
   |none=>exact⟨two ⟨b.nm,Xp b.rs⟩,by simp,Yy _,by rw[eA];exact i⟩
   |some l=>
    have ht:=GS t;have m:MT (bW P f.aZ) f.rs (f.k,l)=bq r l:=by
     show((bz P f).map λr=>bq r l).getD false=_;rw[er];rfl
    have q:A9 P {f with rs:=(f.k,l)::f.rs,k:=0}=(bq r l).toNat+A9 P f:=by rw[<-m];rfl
    apply⟨two ⟨b.nm,Yh b.rs⟩,by simp,?_,?_⟩
    ·dsimp only
     split
     ·rw[WR];exact WJ _
     ·exact Yy _
    ·dsimp only;rw[eA,q,<-ht];cases bq r l with
     |true=>
      rw[WH rfl,WR];show 1+_+_=hd.length+1
      lia
     |false=>
      rw[WM Xi];show 0+_+_=_
      lia
structure gQ(P:Prog)(n:Nat)(x:Hand):Prop where
 fr:qu P x.1
 nm:∀f∈x.1,Gz P n f
 fl:x.1.length<=n+1
 hl:x.2.length<=n
 ct:yW P x.1=x.2.length
def gQ.up{P:Prog}{n:Nat}{x:Hand}(h:gQ P n x):gQ P (n+1) x:=⟨h.fr,λf a=>⟨(h.nm f a).nm,Xp (h.nm f a).rs⟩,Xp h.fl,Xp h.hl,h.ct⟩
def gQ.next{P:Prog}{S:List Hand}{n c j:Nat}{f:bp}{fs:List bp}{hd:List (List aq)}{a:df}(h:gQ P n (f::fs,hd))(hn:n<=900)(hj:∀w b,bz P f=some (.call w b)->(qB P j).length<=b.length)(a:P.au[j]?=some a)(m:∀r,bz P f=some r->qK r=true->c<=1):
  gQ P (n+1) (gL P (gone P S (f::fs,hd) c j).1,(gone P S (f::fs,hd) c j).2)/\(∀g∈(gone P S (f::fs,hd) c j).1,en P g)/\(gone P S (f::fs,hd) c j).1.length<=1000:=by
 have hl:=h.fl;have hh:=h.hl;dsimp only at hl hh;rw[WW]at hl;have ok:=L4 (S:=S) (hd:=hd) h.fr.1 h.fr.2 a (by have:=(h.nm f WI).rs;lia) m;have⟨e,l,k,d⟩:=lK (S:=S) (c:=c) h.fr.1 h.nm h.ct hj;generalize gone P S (f::fs,hd) c j=g at ok e l k d ⊢;have⟨i,o⟩:=Eb ok;exact⟨⟨i,Ec ok e,by dsimp only;lia,by dsimp only;lia,by dsimp only;rw[AI ok];exact d⟩,ok,by lia⟩
def Cg{W:Wd}{f:List Str}{n:Nat}{r:Row}{l:List Row}(h:bh W f n r)(hl:l∈aT r):bK W f (n+1) l:=by
 cases r with
 |say _=>cases hl
 |call _ _=>cases hl
 |within _ b=>rw[bh]at h;rw[WU.mp hl];exact h.2.2.2
 |all _ b=>rw[bh]at h;rw[WU.mp hl];exact h.2.2.2
 |ask _ a b=>
  rw[bh]at h;have⟨_,_,_,_,e,d⟩:=h;rcases WV.mp hl with rfl |hl
  ·exact e
  ·rw[WU.mp hl];exact d
 |vF _ _ a b c=>
  rw[bh]at h;have⟨_,_,_,_,_,_,e,d,g⟩:=h;rcases WV.mp hl with rfl |hl
  ·exact e
  ·rcases WV.mp hl with rfl |hl
   ·exact d
   ·rw[WU.mp hl];exact g
 |either a b=>
  rw[bh]at h;have⟨_,_,_,e,d⟩:=h;rcases WV.mp hl with rfl |hl
  ·exact e
  ·rw[WU.mp hl];exact d
 |again a=>rw[bh]at h;rw[WU.mp hl];exact h.2.2
theorem wI{W:Wd}{c:List Str}:∀(st:List (Nat×Nat)) (n:Nat) (a b:List Row),bK W c n a->bD a st=some b->∃m,bK W c m b
 |[],n,a,b,h,e=>by cases e;exact⟨n,h⟩
 |s::st,n,a,b,h,e=>by
  have⟨d,i,g⟩:=bc e;have⟨r,er,f⟩:=bc i;exact wI st (n+1) d b (Cg (oM h r (WE er)) (WE f)) g
def Ge{W:Wd}{m:Nat}{P:Prog}(o:Ue W m P):P.au.map (·.1)=W.au:=by
 apply ZC λj=>?_;rw[WY];cases e:P.au[j]? with
 |some d=>rw[(o.dd j d e).1];rfl
 |none=>
  have:=X9.mp e;rw[Xr (by rw[<-o.dl];exact this)];rfl
def jQ{P:Prog}{i:Nat}{d:df}(h:P.au[i]?=some d):qB P i=d.2.1:=by unfold qB;rw[h];rfl
noncomputable def eG(P:Prog)(w:Str):Nat:=(P.au.map (·.1)).idxOf w
structure Dr(P:Prog):Prop where
 ex:∃W fl odd,CT W fl odd/\Ue W 60 P
section
variable {P:Prog} (D:Dr P)
include D
theorem Dr.fit:V8 P:=let⟨_,_,_,ok,o⟩:=D.ex;o.fit {} ok.d2
theorem Dr.nd:(P.au.map (·.1)).Nodup:=let⟨_,_,_,ok,o⟩:=D.ex;by rw[Ge o];exact ok.nd
theorem Dr.six:P.au.length<=6:=let⟨_,_,_,ok,o⟩:=D.ex;by rw[o.dl];exact ok.d2
theorem Dr.pos:0<P.au.length:=let⟨_,_,_,ok,o⟩:=D.ex;by rw[o.dl];exact ok.d1
theorem Dr.par{i:Nat}{d:df}(e:P.au[i]?=some d):d.2.1.length<=3:=let⟨_,_,_,ok,o⟩:=D.ex;ok.p3 _ (WE (o.dd i d e).2.1)
theorem Dr.num{i:Nat}{d:df}(e:P.au[i]?=some d):eG P d.1=i:=by
 have c:(P.au.map (·.1))[i]?=some d.1:=by rw[WY,e];rfl
 have⟨b,a⟩:=WB.mp c;unfold eG;rw[<-a];exact D.nd.idxOf_getElem i b
theorem Dr.row{n:Nat}{f:bp}{d:df}{r:Row}(e:P.au[f.aZ]?=some d)(H:Gz P n f)(er:bz P f=some r):MC P f r/\VH (bQ P f) r/\∀w m,r=.call w m->(∃u,P.au[eG P w]?=some u/\u.1=w/\u.2.1.length=m.length)/\m.length<=3/\∀t∈m,cP (bQ P f) t:=by
 have I:=D.par e;have p:=@Dr.num P D;have⟨W,fl,odd,ok,o⟩:=D.ex;have hp:=jQ e;obtain⟨k,g⟩:∃k,bh W d.2.1 k r:=by
  unfold bz at er;rw[cv e]at er;have⟨A,L,J⟩:=bc er;have⟨k,G⟩:=wI _ 1 _ _ (o.dd _ d e).2.2.1 L;exact⟨k,oM G r (WE J)⟩
 have h:∀t:Term,fb d.2.1 t->cP (bQ P f) t:=λt ht=>by
  rcases ht.1 with z |z
  ·exact .inl z
  ·exact .inr (IA (by rw[hp];exact z) H.nm)
 have i:∀l:Lock,fE W d.2.1 l->cP (bQ P f) l.2:=λl hl=>h _ hl.2;apply⟨⟨⟨d,e,by exact WL I {}⟩,?_,?_⟩,?_,?_⟩
 ·intro l hl;cases r with
  |within C b=>rw[bh]at g;rw[WU.mp hl];exact i _ g.1
  |all ls b=>rw[bh]at g;exact i l (g.1.2.2.2 l hl)
  |ask C a b=>rw[bh]at g;rw[WU.mp hl];exact i _ g.1
  |_=>cases hl
 ·cases r with
  |all ls b=>rw[bh]at g;exact g.1.2.1
  |_=>simp[cD]
 ·cases r with
  |vF s t a b c=>rw[bh]at g;exact⟨h _ g.1,h _ g.2.1⟩
  |_=>trivial
 ·rintro w m rfl;rw[bh]at g;obtain⟨⟨j,v,y,x,F⟩,E⟩:=g;have hj:j<P.au.length:=by rw[o.dl];exact(WB.mp y).1
  have q:P.au[j]?=some P.au[j]:=WK hj;have⟨g1,g2,_⟩:=o.dd j _ q;rw[y]at g1;rw[x]at g2;have g1:w=P.au[j].1:=Option.some.inj g1;have g2:v=P.au[j].2.1:=Option.some.inj g2;have M:v.length<=3:=ok.p3 _ (WE x);apply⟨⟨P.au[j],by rw[g1,p q];exact q,g1.symm,by rw[<-g2,F]⟩,by lia,λt ht=>h t (E t ht)⟩
end
def jW(P:Prog)(x:Hand):Nat:=match sg P x with
 |some (.call w _)=>eG P w
 |_=>0
def yG(P:Prog)(S:List Hand)(x:Hand)(c:Nat):Hand:=(gL P (gone P S x c (jW P x)).1,(gone P S x c (jW P x)).2)
structure Q7(P:Prog)(n:Nat)(S:List Hand):Prop where
 h:∀x∈S,gQ P n x
 l:S.length<=10
def Qr{P:Prog}{S:List Hand}{x:Hand}{c:Nat}(h:c∈nM P S x):c<=1:=by
 unfold nM at h
 split at h
 ·cases h
 ·split at h
  ·rcases WV.mp h with rfl |h
   ·exact Xg _
   ·rw[WU.mp h];exact WJ _
  ·split at h
   ·rw[WU.mp h];exact Xg _
   ·cases h
section
variable {P:Prog} (D:Dr P) {n:Nat} {S:List Hand} (s:Q7 P n S) (hn:n<=900)
include D s hn
theorem Q7.Mp{i:Nat}{x:Hand}(e:S[i]?=some x)(h:MH):bR [aC P,cU S,av i] h=some (.tup ((nM P S x).map av),h):=by
 have a:=s.h x (WE e);apply zc e a.fr (λy g=>by have:=(s.h y g).hl;lia) λf fs r ex er=>?_;have c:=a.fr;have b:=a.nm;rw[ex]at c b;have⟨d,hd,_⟩:=c.1;exact(D.row hd (b f WI) er).1
theorem Q7.moves(h:MH):kh [aC P,cU S] h=some (.tup ((FD P S).map qH),h):=
 Cj (by have:=s.l;exact WL this {}) λi x e=>s.Mp D hn e h
end
def LC{P:Prog}{S:List Hand}{m:Nat×Nat}:m∈FD P S↔∃x,S[m.1]?=some x/\m.2∈nM P S x:=by
 unfold FD;rw[List.mem_flatMap];constructor
 ·rintro⟨i,b,hm⟩;have hl:=XM.mp b;unfold Aq at hm;rw[WK hl]at hm;have⟨c,d,rfl⟩:=Xe.mp hm;exact⟨S[i],WK hl,d⟩
 ·rintro⟨x,a,hm⟩;apply⟨m.1,XM.mpr (WB.mp a).1,?_⟩;unfold Aq;rw[a];exact Xe.mpr ⟨m.2,hm,rfl⟩
def Dp(n:Nat)(d:D):Prop:=∃p,je d=some p/\p.depth<=n/\PyData.eqv p p=true
def lT(n:Nat)(b:List D):Prop:=∃a,gX b=some a/\PyData.depthAll a<=n/\PyData.eqvAll a a=true
def lT.nil{n:Nat}:lT n []:=⟨[],rfl,by simp[PyData.depthAll],rfl⟩
def lT.cons{n:Nat}{x:D}{c:List D}(a:Dp n x)(b:lT n c):lT n (x::c):=by
 have⟨p,j,i,h⟩:=a;have⟨d,g,f,e⟩:=b;apply⟨p::d,?_,?_,?_⟩
 ·show(je x).bind (λa=>(gX c).map λb=>a::b)=_;rw[j,g];rfl
 ·rw[PyData.depthAll];exact Nat.max_le.mpr ⟨i,f⟩
 ·rw[PyData.eqvAll,h,e];rfl
theorem lT.map{b:Type}{n:Nat}{f:b->D}:∀{a:List b},(∀x∈a,Dp n (f x))->lT n (a.map f)
 |[],_=>lT.nil
 |x::a,h=>lT.cons (h x WI) (lT.map λy c=>h y (WG _ c))
theorem Dp.tup{n:Nat}{b:List D}(a:lT n b):Dp (n+1) (.tup b):=by
 have⟨c,f,e,d⟩:=a;apply⟨.tuple c,?_,?_,?_⟩
 ·show(gX b).map _=_;rw[f];rfl
 ·rw[PyData.depth];exact Yh e
 ·rw[PyData.eqv];exact d
theorem Dp.int{n:Nat}(i:Int):Dp n (.int i):=⟨.int i,rfl,by simp[PyData.depth],by simp[PyData.eqv]⟩
def Dp.up{n m:Nat}{d:D}(h:Dp n d)(hm:n<=m):Dp m d:=let⟨p,a,b,c⟩:=h;⟨p,a,WL b hm,c⟩
def F3{b:List D}{h:MH}(a:Dp 64 (.tup b)):g7 (.tup b) (.tup b) h=some (.bl false,h):=by
 have⟨p,e,c,d⟩:=a;show(Er (.tup b) (.tup b) h).map _=_;unfold Er;show(((je (.tup b)).bind λa=>(je (.tup b)).bind _).map _)=_;rw[e];show((if p.depth<=64/\p.depth<=64 then some (PyData.eqv p p)else none).map _)=_;rw[WH ⟨c,c⟩,d];rfl
noncomputable def pk(p:List Nat):PyData:=.tuple (p.map λ(n:Nat)=>PyData.int (n:Int))
theorem z6:∀p:List Nat,gX (p.map av)=some (p.map λ(n:Nat)=>PyData.int (n:Int))
 |[]=>rfl
 |n::p=>by rw[WN,gX,z6 p];rfl
def z7(p:List Nat):je (bC p)=some (pk p):=by unfold bC;rw[je,z6];rfl
def DM(p:List Nat):cb 8 (pk p)=true:=by
 show(p.map λ(n:Nat)=>PyData.int (n:Int)).all (cb 7)=true;rw[Yt];intro x a;have⟨n,_,rfl⟩:=Xe.mp a;rfl
def oR(p:List Nat):Cq (bC p)=some (pk p):=by
 show(je (bC p)).bind _=_;rw[z7];show(if cb 8 (pk p)=true then some (pk p)else none)=_;rw[WH (DM p)]
def OR{p q:List Nat}(h:pk p=pk q):p=q:=by
 have h:p.map (λ(n:Nat)=>PyData.int (n:Int))=q.map (λ(n:Nat)=>PyData.int (n:Int)):=by unfold pk at h;injection h
 exact List.map_inj_right (f:=λn:Nat=>PyData.int (n:Int)) (λx y z=>by injection z with z;exact Int.ofNat.inj z) |>.mp h
def ju(p q:List Nat):zr (pk p) (bC q)=decide (q=p):=by
 unfold zr;rw[z7];show PyData.eqv (pk q) (pk p)=_
 by_cases z:q=p
 ·subst z;rw[eqv_refl 8 (DM q),Xf rfl]
 ·rw[Xc z];cases e:PyData.eqv (pk q) (pk p)with
  |false=>rfl
  |true=>exact absurd (OR (qX 8 (DM q) (DM p) e)) z
def KP(a:List (D×D)):Prop:=∀x∈a,(∃q,x.1=bC q)/\gu 0 x.2=true
def cK{a:List (D×D)}{q p:List Nat}{v:D}:gS ((bC q,v)::a) (pk p)=if q=p then some v else gS a (pk p):=by
 unfold gS;rw[X0,ju]
 by_cases z:q=p
 ·rw[Xf z,WH z];rfl
 ·rw[Xc z,WM z]
def DG{p:List Nat}{v:D}:∀{d:List (D×D)},KP d->∀b,gS (lC d (pk p) (bC p) v) (pk b)=if p=b then some v else gS d (pk b):=by
 intro d r b;unfold lC
 by_cases z:(d.any λe=>zr (pk p) e.1)=true
 ·rw[WH z];have h:∀l:List (D×D),KP l->(l.any λe=>zr (pk p) e.1)=true->gS (l.map λe=>if zr (pk p) e.1=true then(e.1,v)else e) (pk b)=if p=b then some v else gS l (pk b):=by
   intro l
   induction l with
   |nil=>intro _ z;cases z
   |cons x l n=>
    intro hl z;obtain⟨⟨q,k⟩,_⟩:=hl x WI;have⟨t,s⟩:=x;dsimp only at k;subst k;rw[Yw,ju]at z;rw[WN,ju]
    by_cases c:q=p
    ·subst c;rw[Xf rfl,WH rfl,cK,cK]
     by_cases a:q=b
     ·rw[WH a,WH a]
     ·rw[WM a,WM a,WM a];have g:∀l:List (D×D),KP l->gS (l.map λe=>if zr (pk q) e.1=true then(e.1,v)else e) (pk b)=gS l (pk b):=by
       intro l
       induction l with
       |nil=>intro _;rfl
       |cons y l i=>
        intro o;obtain⟨⟨u,j⟩,_⟩:=o y WI;have⟨C,A⟩:=y;dsimp only at j;subst j;rw[WN,ju,cK]
        by_cases m:u=q
        ·rw[Xf m,WH rfl,cK,WM (by rw[m];exact a),WM (by rw[m];exact a),i λx f=>o x (WG _ f)]
        ·rw[Xc m,WM Xi,cK,i λx f=>o x (WG _ f)]
      exact g l λx f=>hl x (WG _ f)
    ·rw[Xc c,WM Xi,cK,cK];rw[Xc c,Abu]at z;rw[n (λx f=>hl x (WG _ f)) z]
     by_cases a:q=b
     ·rw[WH a,WH a,WM (λw=>c (a.trans w.symm))]
     ·rw[WM a,WM a]
  exact h d r z
 ·rw[WM z];have h:∀l:List (D×D),KP l->¬(l.any λe=>zr (pk p) e.1)=true->gS (l++[(bC p,v)]) (pk b)=if p=b then some v else gS l (pk b):=by
   intro l
   induction l with
   |nil=>intro _ _;rw[Aap,cK]
   |cons x l n=>
    intro hl z;obtain⟨⟨q,k⟩,_⟩:=hl x WI;have⟨t,s⟩:=x;dsimp only at k;subst k;rw[Yw,ju,Yn,not_or]at z;have c:¬q=p:=λw=>z.1 (Xf w);rw[ZI,cK,cK,n (λx f=>hl x (WG _ f)) z.2]
    by_cases a:q=b
    ·rw[WH a,WH a,WM (λw=>c (a.trans w.symm))]
    ·rw[WM a,WM a]
  exact h d r z
def DH{b:List (D×D)}{p:List Nat}{v:D}(e:KP b)(c:gu 0 v=true):KP (lC b (pk p) (bC p) v):=by
 unfold lC;intro x a
 split at a
 ·have⟨y,f,rfl⟩:=Xe.mp a;obtain⟨⟨q,d⟩,g⟩:=e y f
  split
  ·exact⟨⟨q,d⟩,c⟩
  ·exact⟨⟨q,d⟩,g⟩
 ·rcases Xw.mp a with a |a
  ·exact e x a
  ·rw[WU]at a;subst a;exact⟨⟨p,rfl⟩,c⟩
theorem Ez(n:Nat):∀a:List Nat,dh n (a.map av)=true
 |[]=>rfl
 |_::a=>Ez n a
theorem KP.cl{n:Nat}:∀{kvs:List (D×D)},KP kvs->zt n (.dcH kvs)=true
 |[],_=>rfl
 |x::kvs,h=>by
  obtain⟨⟨q,c⟩,d⟩:=h x WI;have a:=Xb.mp (KP.cl (n:=n) (kvs:=kvs) λy b=>h y (WG _ b));show(dh n ((x::kvs).map (·.1))&&dh n ((x::kvs).map (·.2)))=true;rw[WN,WN];apply Xb.mpr ⟨Xb.mpr ⟨by rw[c];exact Ez n q,a.1⟩,Xb.mpr ⟨CK (Xg _) _ d,a.2⟩⟩
def z9{a:List (D×D)}{k:PyData}{e v:D}:(lC a k e v).length<=a.length+1:=by
 unfold lC
 split
 ·rw[WA];exact Yy _
 ·rw[WR];exact WJ _
noncomputable def strip:List Nat->List Nat->Option (List Nat)
 |[],p=>some p
 |_::_,[]=>none
 |x::a,y::p=>if x=y then strip a p else none
theorem vP:∀(a b p:List Nat),strip (a++b) p=(strip a p).bind (strip b)
 |[],b,p=>by rfl
 |x::a,b,[]=>by rfl
 |x::a,b,y::p=>by
  show(if x=y then strip (a++b) p else none)=(if x=y then strip a p else none).bind _
  by_cases z:x=y
  ·rw[WH z,WH z];exact vP a b p
  ·rw[WM z,WM z];rfl
theorem k9:∀{a p q:List Nat},strip a p=some q->p=a++q
 |[],p,q,h=>by cases h;rfl
 |x::a,[],q,h=>by cases h
 |x::a,y::p,q,h=>by
  unfold strip at h
  by_cases z:x=y
  ·rw[WH z]at h;rw[k9 h,z];rfl
  ·rw[WM z]at h;cases h
theorem ic:∀(a q:List Nat),strip a (a++q)=some q
 |[],q=>rfl
 |x::a,q=>by show(if x=x then strip a (a++q)else none)=_;rw[WH rfl];exact ic a q
def ov(a:List Nat)(g:List Nat->Option D)(f:List Nat->Option D)(p:List Nat):Option D:=match (strip a p).bind g with
 |some d=>some d
 |none=>f p
def DR(a:List Nat)(f:List Nat->Option D):ov a (λ_=>none) f=f:=by
 funext p
 unfold ov;cases strip a p <;> rfl
def Ii{a b:List Nat}{g c f d:List Nat->Option D}{v:D}(h:∀p,d p=if a++b=p then some v else ov a g f p)(j:c b=some v)(i:∀q,q≠b->c q=g q):d=ov a c f:=by
 funext p
 rw[h p]
 by_cases z:a++b=p
 ·rw[WH z,<-z];unfold ov;rw[ic,WT,j]
 ·rw[WM z];unfold ov;cases e:strip a p with
  |none=>rfl
  |some q=>
   rw[WT,WT,i q];rintro rfl;exact z (k9 e).symm
def M5{a b:List Nat}{g c d f:List Nat->Option D}(k:∀q,g (b++q)=none)(j:∀q,c (b++q)=d q)(i:∀q,strip b q=none->c q=g q):ov (a++b) d (ov a g f)=ov a c f:=by
 funext p
 unfold ov;rw[vP];cases e:strip a p with
 |none=>rfl
 |some q=>
  rw[WT,WT,WT];cases h:strip b q with
  |none=>rw[i q h];rfl
  |some l=>
   have:=k9 h;subst this;rw[WT,k,j]
def ip:List Row->List Nat->Option Row
 |_,[]=>none
 |lot,[k]=>lot[k]?
 |lot,k::l::q=>(lot[k]?).bind λr=>((aT r)[l]?).bind λa=>ip a q
def i5:List Row->List Nat->Option Nat
 |lot,[]=>some lot.length
 |_,[_]=>none
 |lot,k::l::q=>(lot[k]?).bind λr=>((aT r)[l]?).bind λa=>i5 a q
theorem oB:∀(st:List (Nat×Nat)) (a:List Row) (k:Nat),ip a (flat st++[k])=(bD a st).bind λl=>l[k]?
 |[],a,k=>rfl
 |s::st,a,k=>by
  show ip a (s.1::s.2::(flat st++[k]))=_;rw[ip,bD];unfold Nf;cases a[s.1]? with
  |none=>rfl
  |some r=>
   rw[WT,WT];cases(aT r)[s.2]? with
   |none=>rfl
   |some l=>exact oB st l k
theorem vS:∀(st:List (Nat×Nat)) (a:List Row),i5 a (flat st)=(bD a st).map List.length
 |[],a=>rfl
 |s::st,a=>by
  show i5 a (s.1::s.2::flat st)=_;rw[i5,bD];unfold Nf;cases a[s.1]? with
  |none=>rfl
  |some r=>
   rw[WT,WT];cases(aT r)[s.2]? with
   |none=>rfl
   |some l=>exact vS st l
def DD{o i:EM}{v:D}{a:DS}{h:MH}{Q:DS×MH->Prop}(r:Rn (o a h) λp=>Rn (i a p.2) λq=>Rn (wV p.1 q.1 v q.2) λb=>Q (a,b)):Rn (Ea o i v a h) Q:=aW (r.imp λ_ r=>aW (r.imp λ_ r=>Fc r))
def AL{h:MH}{n:Nat}{a:List (D×D)}{p:List Nat}{v:D}(e:h[n]?=some (.dcH a))(hl:a.length<=1000000):wV (.ob n) (bC p) v h=some (h.set n (.dcH (lC a (pk p) (bC p) v))):=by
 unfold wV;dsimp only;rw[e];dsimp only;rw[oR];show(if a.length<sizeLine then _ else _)=_;rw[WH (by rw[show sizeLine=16777216 from rfl];exact Xj hl {})]
def mm{h:MH}{n:Nat}{o:MO}(e:h[n]?=some o):h.set n o=h:=by
 apply ZC;intro i
 by_cases z:n=i
 ·subst z;rw[Xk (WB.mp e).1,e]
 ·rw[WQ z]
noncomputable def hh(h:MH)(b c:Nat)(sz a:List (D×D)):MH:=(h.set b (.dcH sz)).set c (.dcH a)
section
variable {h:MH} {si ri:Nat} {sz sz' rw1 rw2:List (D×D)}
theorem L0(b:h[si]?=some (.dcH sz))(a:h[ri]?=some (.dcH rw1)):hh h si ri sz rw1=h:=by unfold hh;rw[mm b,mm a]
theorem Vt(hn:si≠ri)(hl:si<h.length):(hh h si ri sz rw1)[si]?=some (.dcH sz):=by unfold hh;rw[WQ (XW hn),Xk hl]
theorem SO(hl:ri<h.length):(hh h si ri sz rw1)[ri]?=some (.dcH rw1):=by unfold hh;rw[Xk (by rw[XY];exact hl)]
theorem Vu{n:Nat}(b:n≠si)(a:n≠ri):(hh h si ri sz rw1)[n]?=h[n]?:=by unfold hh;rw[WQ (XW a),WQ (XW b)]
theorem Na(hn:si≠ri):(hh h si ri sz rw1).set si (.dcH sz')=hh h si ri sz' rw1:=by unfold hh;rw[AaI _ _ (XW hn),Yj]
theorem Nb:(hh h si ri sz rw1).set ri (.dcH rw2)=hh h si ri sz rw2:=by unfold hh;rw[Yj]
theorem SR(hn:si≠ri):hh (hh h si ri sz rw1) si ri sz' rw2=hh h si ri sz' rw2:=by
 show((hh h si ri sz rw1).set si _).set ri _=_;rw[Na hn,Nb]
end
def vo(r:Row)(h:MH):jE [aH r] h=some (.tup ((aT r).map fX),h):=by
 cases r <;> rfl
def rh{h:MH}{a b c:Nat}(e:h[a]?=some (.dct [(.inr "size",.ob b),(.inr "row",.ob c)])):ax (.ob a) (.str "size") h=some (.ob b,h)/\ax (.ob a) (.str "row") h=some (.ob c,h):=by
 have hd:cg (.ob a) h=some [(.inr "size",.ob b),(.inr "row",.ob c)]:=by unfold cg;dsimp only;rw[e]
 unfold ax;rw[hd];exact⟨rfl,rfl⟩
def Cw(a:List Nat)(i j:Nat)(hl:a.length<=1000)(h:MH):aN (bC a) (.tup [.int (i:Int),.int (j:Int)]) h=some (bC (a++[i,j]),h):=by
 show aN (.tup (a.map av)) (.tup [av i,av j]) _=_;rw[j7 (by rw[WA];simp;exact WL hl {})];simp[bC]
def M9(a:List (D×D))(p:List Nat):Option D:=gS a (pk p)
def BN(a:List Row)(j m:Nat)(b:Bool):List Nat->Option D
 |[]=>none
 |k::q=>if k<j then(ip a (k::q)).map aH else if k=j/\b=true then(match q with
   |[]=>(ip a [k]).map aH
   |l::c=>if l<m then(ip a (k::l::c)).map aH else none)else none
def GZ(a:List Row)(j m:Nat):List Nat->Option D
 |[]=>some (av a.length)
 |k::q=>if k<j then(i5 a (k::q)).map av else if k=j then(match q with
   |[]=>none
   |l::b=>if l<m then(i5 a (k::l::b)).map av else none)else none
def Ht{a:List Row}{k:Nat}{q:List Nat}(h:a.length<=k):ip a (k::q)=none:=by
 have e:a[k]?=none:=X9.mpr h;cases q with
 |nil=>exact e
 |cons l q=>rw[ip,e];rfl
def G9{a:List Row}{k:Nat}{q:List Nat}(h:a.length<=k):i5 a (k::q)=none:=by
 have e:a[k]?=none:=X9.mpr h;cases q with
 |nil=>rfl
 |cons l q=>rw[i5,e];rfl
def Hu{a:List Row}{k l:Nat}{q:List Nat}{r:Row}(e:a[k]?=some r)(h:(aT r).length<=l):ip a (k::l::q)=none:=by
 rw[ip,e,WT,X9.mpr h];rfl
def Ha{a:List Row}{k l:Nat}{q:List Nat}{r:Row}(e:a[k]?=some r)(h:(aT r).length<=l):i5 a (k::l::q)=none:=by
 rw[i5,e,WT,X9.mpr h];rfl
def Oh{a:List Row}{j:Nat}{r:Row}(e:a[j]?=some r):BN a j (aT r).length true=BN a (j+1) 0 false:=by
 funext q
 cases q with
 |nil=>rfl
 |cons k q=>
  show(if k<j then _ else if k=j/\true=true then _ else none)=(if k<j+1 then _ else if k=j+1/\false=true then _ else none)
  by_cases c:k<j
  ·rw[WH c,WH ()]
  ·rw[WM c]
   by_cases d:k=j
   ·subst d;rw[WH ⟨rfl,rfl⟩,WH ()];cases q with
    |nil=>rfl
    |cons l q=>
     dsimp only
     by_cases b:l<(aT r).length
     ·rw[WH b]
     ·rw[WM b,Hu e (XA b)];rfl
   ·rw[WM (λz=>d z.1),WM (),WM (λz=>by cases z.2)]
def NV{a:List Row}{j:Nat}{r:Row}(e:a[j]?=some r):GZ a j (aT r).length=GZ a (j+1) 0:=by
 funext q
 cases q with
 |nil=>rfl
 |cons k q=>
  show(if k<j then _ else if k=j then _ else none)=(if k<j+1 then _ else if k=j+1 then _ else none)
  by_cases c:k<j
  ·rw[WH c,WH ()]
  ·rw[WM c]
   by_cases f:k=j
   ·subst f;rw[WH rfl,WH ()];cases q with
    |nil=>rfl
    |cons l q=>
     dsimp only
     by_cases b:l<(aT r).length
     ·rw[WH b]
     ·rw[WM b,Ha e (XA b)];rfl
   ·rw[WM f,WM ()]
    by_cases d:k=j+1
    ·rw[WH d];cases q with
     |nil=>rfl
     |cons l q=>dsimp only;rw[WM (XB _)]
    ·rw[WM d]
def KU(a:List Row):BN a a.length 0 false=λq=>(ip a q).map aH:=by
 funext q
 cases q with
 |nil=>rfl
 |cons k q=>
  show(if k<a.length then _ else if k=a.length/\false=true then _ else none)=_
  by_cases c:k<a.length
  ·rw[WH c]
  ·rw[WM c,WM (λz=>by cases z.2),Ht (XA c)];rfl
def KC(a:List Row):GZ a a.length 0=λq=>(i5 a q).map av:=by
 funext q
 cases q with
 |nil=>rfl
 |cons k q=>
  show(if k<a.length then _ else if k=a.length then _ else none)=_
  by_cases c:k<a.length
  ·rw[WH c]
  ·rw[WM c,G9 (XA c)]
   by_cases b:k=a.length
   ·rw[WH b];cases q with
    |nil=>rfl
    |cons l q=>dsimp only;rw[WM (XB _)];rfl
   ·rw[WM b];rfl
def Gi(b:List Row)(i:Nat){r:Row}(e:b[i]?=some r):aY (b.take i)+cnt r<=aY b:=by
 have h:b=b.take i++r::b.drop (i+1):=by
  have c:=(WB.mp e);have⟨c,rfl⟩:=c;rw[List.getElem_cons_drop,Aaq]
 have g:∀x y:List Row,aY (x++y)=aY x+aY y:=by
  intro x
  induction x with
  |nil=>intro y;simp[aY]
  |cons a x d=>intro y;rw[ZI,aY,d,aY];lia
 have f:=g (b.take i) (r::b.drop (i+1));rw[<-h,aY]at f
 lia
def tx(r:Row):(aT r).length<=3:=by cases r <;> simp[aT]
def RO(a:List Row):BN a 0 0 false=λ_=>none:=by
 funext q
 cases q with
 |nil=>rfl
 |cons k q=>unfold BN;dsimp only;rw[WM (XB _),WM (λz=>by cases z.2)]
def RD{a:List Row}{q:List Nat}(h:q≠[]):GZ a 0 0 q=none:=by
 cases q with
 |nil=>exact absurd rfl h
 |cons k q=>
  unfold GZ;dsimp only;rw[WM (XB _)]
  by_cases c:k=0
  ·rw[WH c];cases q with
   |nil=>rfl
   |cons l q=>dsimp only;rw[WM (XB _)]
  ·rw[WM c]
def Dx{a:List Row}{j:Nat}{r:Row}(e:a[j]?=some r):BN a j 0 true [j]=some (aH r)/\∀q,q≠[j]->BN a j 0 true q=BN a j 0 false q:=by
 constructor
 ·show(if j<j then _ else if j=j/\true=true then(ip a [j]).map aH else none)=_;rw[WM (X3 _),WH ⟨rfl,rfl⟩];show(a[j]?).map aH=_;rw[e];rfl
 ·intro q d;cases q with
  |nil=>rfl
  |cons k q=>
   show(if k<j then _ else if k=j/\true=true then _ else none)=(if k<j then _ else if k=j/\false=true then _ else none)
   by_cases c:k<j
   ·rw[WH c,WH c]
   ·rw[WM c,WM c,WM (c:=k=j/\false=true) (λz=>by cases z.2)]
    by_cases b:k=j
    ·rw[WH ⟨b,rfl⟩];cases q with
     |nil=>exact absurd (by rw[b]) d
     |cons l q=>dsimp only;rw[WM (XB _)]
    ·rw[WM (λz=>b z.1)]
def VL{a b:List Row}{j m:Nat}{r:Row}(e:a[j]?=some r)(i:(aT r)[m]?=some b):
  ((∀q,BN a j m true ([j,m]++q)=none)/\(∀q,BN a j (m+1) true ([j,m]++q)=(ip b q).map aH)/\∀q,strip [j,m] q=none->BN a j (m+1) true q=BN a j m true q)/\
  (∀q,GZ a j m ([j,m]++q)=none)/\(∀q,GZ a j (m+1) ([j,m]++q)=(i5 b q).map av)/\∀q,strip [j,m] q=none->GZ a j (m+1) q=GZ a j m q:=by
 apply⟨⟨λq=>?_,λq=>?_,λq h=>?_⟩,λq=>?_,λq=>?_,λq h=>?_⟩
 ·show(if j<j then _ else if j=j/\true=true then(if m<m then _ else none)else none)=none;rw[WM (X3 _),WH ⟨rfl,rfl⟩,WM (X3 _)]
 ·show(if j<j then _ else if j=j/\true=true then(if m<m+1 then(ip a (j::m::q)).map aH else none)else none)=_;rw[WM (X3 _),WH ⟨rfl,rfl⟩,WH (XQ _),ip,e,WT,i,WT]
 ·cases q with
  |nil=>rfl
  |cons k q=>
   show(if k<j then _ else if k=j/\true=true then _ else none)=(if k<j then _ else if k=j/\true=true then _ else none)
   by_cases c:k<j
   ·rw[WH c,WH c]
   ·rw[WM c,WM c]
    by_cases d:k=j
    ·subst d;rw[WH ⟨rfl,rfl⟩,WH ⟨rfl,rfl⟩];cases q with
     |nil=>rfl
     |cons l q=>
      dsimp only;have hl:l≠m:=λz=>by
       subst z;have f:=ic [k,l] q;rw[show[k,l]++q=k::l::q from rfl,h]at f;cases f
      by_cases g:l<m
      ·rw[WH g,WH ()]
      ·rw[WM g,WM ()]
    ·rw[WM (λz=>d z.1),WM (λz=>d z.1)]
 ·show(if j<j then _ else if j=j then(if m<m then _ else none)else none)=none;rw[WM (X3 _),WH rfl,WM (X3 _)]
 ·show(if j<j then _ else if j=j then(if m<m+1 then(i5 a (j::m::q)).map av else none)else none)=_;rw[WM (X3 _),WH rfl,WH (XQ _),i5,e,WT,i,WT]
 ·cases q with
  |nil=>rfl
  |cons k q=>
   show(if k<j then _ else if k=j then _ else none)=(if k<j then _ else if k=j then _ else none)
   by_cases c:k<j
   ·rw[WH c,WH c]
   ·rw[WM c,WM c]
    by_cases d:k=j
    ·subst d;rw[WH rfl,WH rfl];cases q with
     |nil=>rfl
     |cons l q=>
      dsimp only;have hl:l≠m:=λz=>by
       subst z;have f:=ic [k,l] q;rw[show[k,l]++q=k::l::q from rfl,h]at f;cases f
      by_cases g:l<m
      ·rw[WH g,WH ()]
      ·rw[WM g,WM ()]
    ·rw[WM d,WM d]
def vB(r:Row)(m:Nat):Nat:=(((aT r).take m).map aY).sum
def Gh{r:Row}{m:Nat}{l:List Row}(e:(aT r)[m]?=some l):vB r (m+1)=vB r m+aY l:=by
 unfold vB;rw[ZA,e];simp
def Mh(r:Row)(m:Nat):vB r m+1<=cnt r:=by
 have a:((aT r).map aY).sum=vB r m+(((aT r).drop m).map aY).sum:=by
  unfold vB;rw[<-Aa6,<-W6,Aaq]
 have:=AZ r
 lia
def Jz(r:Row):vB r (aT r).length+1=cnt r:=by
 have:=AZ r;unfold vB;rw[X1]
 lia
structure Uu(sz0 rw0:List (D×D))(a:List Nat)(g1 g2:List Nat->Option D)(n1 n2:Nat)(sz rw1:List (D×D)):Prop where
 ks:KP sz
 kr:KP rw1
 ls:sz.length<=sz0.length+n1
 lr:rw1.length<=rw0.length+n2
 es:M9 sz=ov a g1 (M9 sz0)
 er:M9 rw1=ov a g2 (M9 rw0)
theorem rG:∀(n:Nat)(c:List Row)(a:List Nat)(h:MH)(o i k:Nat)(sz rw1:List (D×D)),dC c<=n->a.length+2*n<=100->h[o]?=some (.dct [(.inr "size",.ob i),(.inr "row",.ob k)])->h[i]?=some (.dcH sz)->h[k]?=some (.dcH rw1)->i≠k->KP sz->KP rw1->sz.length+1+3*aY c<=10000->rw1.length+aY c<=10000->
  ∃d e,ck n [fX c,bC a,.ob o] h=some (.ob o,hh h i k d e)/\Uu sz rw1 a (λq=>(i5 c q).map av) (λq=>(ip c q).map aH) (1+3*aY c) (aY c) d e
 | 0,c,a,h,o,i,k,sz,rw1,hn,_,_,_,_,_,_,_,_,_=>by
  exfalso;cases c with
  |nil=>simp[dC]at hn
  |cons r rs=>rw[dC]at hn;lia
 |n+1,c,a,h,o,i,k,sz,rw1,hn,ha,I,es,er,u,ks,kr,ls,lr=>by
  have O:o≠i:=λz=>by rw[z,es]at I;cases I
  have P:o≠k:=λz=>by rw[z,er]at I;cases I
  have Q:=(WB.mp es).1;have J:=(WB.mp er).1;have w:∀x y,(hh h i k x y)[o]?=some (.dct [(.inr "size",.ob i),(.inr "row",.ob k)]):=λx y=>by rw[Vu O P];exact I
  have e0:Rn (ck (n+1) [fX c,bC a,.ob o] h) λp=>∃d e,p=(.ob o,hh h i k d e)/\Uu sz rw1 a (λq=>(i5 c q).map av) (λq=>(ip c q).map aH) (1+3*aY c) (aY c) d e:=by
   unfold ck;apply bj ?_;exists D0 c h;nofun;apply DD ?_;nofun;apply rv (rh I).1 ?_;exists AL es ();have S:h.set i (.dcH (lC sz (pk a) (bC a) (av c.length)))=hh h i k (lC sz (pk a) (bC a) (av c.length)) rw1:=by
    rw[<-Na u (h:=h) (sz:=sz) (rw1:=rw1),L0 es er]
   show i0 _ _ (Fl.nx,entry 7 [fX c,bC a,D.ob o],List.set h i (MO.dcH (lC sz (pk a) (bC a) (av c.length))));rw[S];nofun;apply mS ?_;nofun;apply⟨_,_,_,rfl,rfl,?_⟩;rw[fY];apply cO (λj A C=>∃(d3 d4 F E:Option D)(d e:List (D×D)),A=[some (fX c),some (bC a),some (.ob o),d3,d4,F,E]/\C=hh h i k d e/\Uu sz rw1 a (GZ c j 0) (BN c j 0 false) (1+3*aY (c.take j)) (aY (c.take j)) d e)
    ⟨_,_,_,_,_,_,rfl,rfl,DH ks rfl,kr,WL z9 (XQ _),Xh _ _,?_,?_⟩ (λ_ _ _ _ _=>rfl) ?_ ?_
   ·apply Ii (b:=[]) (g:=λ_=>none) (v:=av c.length) (λp=>?_) rfl λq hq=>RD hq;rw[DR,XC];exact DG ks p
   ·rw[RO,DR]
   ·rintro j x A C R ⟨d3,d4,F,E,d,e,rfl,rfl,T⟩;have⟨r,hr,rfl⟩:=nG R;have U:=WE hr;have hct:=Gi c j hr;have Y:=T.ls;have L:=T.lr;have Z:=Jz r;nofun;apply DD ?_;nofun;apply rv (rh (w _ _)).2 ?_;exists F8 a j () _;exists AL (SO J) (by clear Z;lia);rw[Nb];nofun;apply mS ?_;exists vo r _;nofun;apply⟨_,_,_,rfl,rfl,?_⟩;apply cO (λm A C=>∃(F E:Option D)(d e:List (D×D)),A=[some (fX c),some (bC a),some (.ob o),some (.int j),some (aH r),F,E]/\C=hh h i k d e/\Uu sz rw1 a (GZ c j m) (BN c j m true) (1+3*aY (c.take j)+(m+3*vB r m)) (aY (c.take j)+1+vB r m) d e)
     ⟨_,_,_,_,rfl,rfl,T.ks,DH T.kr (yZ 0 r),by have:=T.ls;exact Y,WL z9 (Yh L),T.es,?_⟩ (λ_ _ _ _ _=>rfl) ?_ ?_
    ·apply Ii (b:=[j]) (g:=BN c j 0 false) (v:=aH r) (λp=>?_) (Dx hr).1 (Dx hr).2;rw[<-T.er];exact DG T.kr p
    ·rintro m x A C R ⟨F,E,s,t,rfl,rfl,f⟩;have⟨l,hl,rfl⟩:=nG R;have X:=WE hl;have hml:m<(aT r).length:=(WB.mp hl).1;have h3:=tx r;have hcs:=Gh hl;have hcl:=Mh r (m+1);have hl3:=f.ls;have hl4:=f.lr;exists Cw a j m () _;nofun;have⟨M,N,e4,G⟩:=rG n l (a++[j,m]) (hh h i k s t) o i k s t (by have:=FC U;have:=FA X;lia) (by simp;lia) (w _ _) (Vt u Q) (SO J) u f.ks f.kr (by clear f T;lia) (by clear f;lia);apply rv e4 ?_;rw[SR u];have H:=VL hr hl;apply⟨_,_,M,N,rfl,rfl,G.ks,G.kr,by have:=G.ls;clear G f T;lia,by have:=G.lr;clear f;lia,?_,?_⟩
     ·rw[G.es,f.es];exact M5 H.2.1 H.2.2.1 H.2.2.2
     ·rw[G.er,f.er];exact M5 H.1.1 H.1.2.1 H.1.2.2
    ·rintro A C ⟨F,E,s,t,rfl,rfl,f⟩;rw[cF,WA]at f;have htk:aY (c.take (j+1))=aY (c.take j)+cnt r:=by
      have h2:∀x y:List Row,aY (x++y)=aY x+aY y:=by
       intro x
       induction x with
       |nil=>intro y;simp[aY]
       |cons a x ih=>intro y;rw[ZI,aY,ih,aY];lia
      rw[ZA,hr,Zu,h2];simp[aY]
     have h3:=tx r;apply⟨_,_,_,_,s,t,rfl,rfl,f.ks,f.kr,by have:=f.ls;clear f T;lia,by have:=f.lr;clear f;lia,?_,?_⟩
     ·rw[f.es,NV hr]
     ·rw[f.er,Oh hr]
   ·rintro A C ⟨d3,d4,F,E,d,e,rfl,rfl,T⟩;rw[cF,WA]at T;nofun;apply⟨d,e,rfl,T.ks,T.kr,?_,?_,?_,?_⟩
    ·have:=T.ls;rw[X1]at this;exact this
    ·have:=T.lr;rw[X1]at this;exact this
    ·rw[T.es,KC]
    ·rw[T.er,KU]
  have⟨p,e1,d,e,rfl,T⟩:=e0;exact⟨d,e,e1,T⟩
theorem x6{ws:W}{g:GM}{e:EM}:∀{xs:List D} {δ:DS} {h:MH} (J:Nat->List D->DS->MH->Prop),J 0 [] δ h->(∀i a δ h,J i a δ h->hZ ws h=true)->
  (∀i x a δ h,xs[i]?=some x->J i a δ h->Rn (g x δ h) λq=>Rn (e q.1 q.2) λy=>J (i+1) (a++[y.1]) q.1 y.2)->Rn (aX ws g bI e xs δ h) λp=>∃b,J xs.length p.1 b p.2
 |[],δ,h,J,c,d,_=>by
  unfold aX;rw[WH (d 0 [] δ h c)];exact⟨_,rfl,δ,c⟩
 |x::xs,δ,h,J,c,d,ht=>by
  have⟨q,n,y,m,f⟩:=ht 0 x [] δ h rfl c;have⟨p,l,b,hp⟩:=x6 (ws:=ws) (g:=g) (e:=e) (xs:=xs) (δ:=q.1) (h:=y.2) (λi a δ h=>J (i+1) (y.1::a) δ h) f (λi a δ h=>d (i+1) (y.1::a) δ h) λi x a δ h j c=>ht (i+1) x (y.1::a) δ h j c;unfold aX;rw[WH (d 0 [] δ h c),n];dsimp only[Option.bind_some];have k:bI q.1 q.2=some (true,q.2):=rfl;rw[k];dsimp only[Option.bind_some];rw[WH rfl,m];dsimp only[Option.bind_some];rw[l];exact⟨_,rfl,b,hp⟩
structure TL(h:MH)(lo hi:Nat)(rows:List Row)(t:D):Prop where
 ex:∃ti si ri sz rw1,t=.ob ti/\h[ti]?=some (.dct [(.inr "size",.ob si),(.inr "row",.ob ri)])/\h[si]?=some (.dcH sz)/\h[ri]?=some (.dcH rw1)/\(lo<=ti/\ti<hi)/\(lo<=si/\si<hi)/\(lo<=ri/\ri<hi)/\
  (M9 sz=λp=>(i5 rows p).map av)/\(M9 rw1=λp=>(ip rows p).map aH)
def TL.mono{h o:MH}{j l b c:Nat}{a:List Row}{t:D}(T:TL h j l a t)(k:∀i,j<=i->i<l->o[i]?=h[i]?)(n:b<=j)(m:l<=c):TL o b c a t:=by
 have⟨p,q,r,sz,g,x,w,v,u,f,e,d,s⟩:=T.ex;exact⟨p,q,r,sz,g,x,(k _ f.1 f.2).trans w,(k _ e.1 e.2).trans v,(k _ d.1 d.2).trans u,⟨by exact WL n f.1,by exact WL f.2 m⟩,⟨by exact WL n e.1,by exact WL e.2 m⟩,⟨by exact WL n d.1,by exact WL d.2 m⟩,s⟩
def gw(P:Prog)(h:MH)(b c:Nat)(a:List D):Prop:=∀(i:Nat)(d:df),P.au[i]?=some d->∃t,a[i]?=some t/\TL h b c d.2.2 t
theorem gw.mono{P:Prog}{h f:MH}{a b:Nat}{c:List D}(T:gw P h a b c)(k:∀i,a<=i->i<b->f[i]?=h[i]?):gw P f a b c:=λi d e=>let⟨t,j,g⟩:=T i d e;⟨t,j,g.mono k (WJ _) (WJ _)⟩
def Ij(g:List Nat->Option D):ov [] g (λ_=>none)=g:=by
 funext p
 unfold ov;show(match g p with |some d=>some d |none=>none)=g p;cases g p <;> rfl
def HJ{m:ME}{a:DS}{h:MH}{Q:D×MH->Prop}(hh:Rn (m a h) λp=>p.1.length<=15/\Q (.ob p.2.length,p.2++[.dct (fc [] p.1)])):Rn (tY m a h) Q:=aW (hh.imp λp u9=>by have⟨l,q⟩:=u9;rw[WH l];exact⟨_,rfl,q⟩)
def HI{a:DS}{h:MH}{Q:D×MH->Prop}(q:Q (.ob h.length,h++[.dcH []])):Rn (Mf a h) Q:=⟨_,rfl,q⟩
def zB{P:Prog}{h:MH}(hn:∀d∈P.au,dC d.2.2<=8/\aY d.2.2<=1000)(hl:P.au.length<=1000)(U:Cl h):Rn (gR [aC P] h) λp=>∃u g,p=(.lv u,h++g)/\gw P (h++g) h.length (h.length+g.length) u/\u.length=P.au.length/\Cl (h++g):=by
 apply bj ?_;nofun;apply rv (a:=(P.au.map eu,[],h)) rfl ?_;apply(x6 (λi s F H=>∃(E:Option D)(g:MH),F=[E]/\H=h++g/\s.length=i/\(∀(k:Nat)(d:df),k<i->P.au[k]?=some d->∃t,s[k]?=some t/\TL (h++g) h.length (h.length+g.length) d.2.2 t)/\Cl (h++g)) ⟨_,[],rfl,by rw[XC],rfl,λk d w=>absurd w (XB _),by rw[XC];exact U⟩ (λ_ _ _ _ _=>rfl) ?_).imp ?_
 ·rintro i x s F H G ⟨E,g,rfl,rfl,l,r,C⟩;rw[WY]at G;have⟨d,hd,rfl⟩:=XD.mp G;have⟨n1,n2⟩:=hn d (WE hd);nofun;apply rv (a:=(fX d.2.2,h++g)) rfl ?_;nofun;apply HJ ?_;apply DB ?_;nofun;apply HI ⟨_,rfl,?_⟩;apply DB ?_;nofun;apply HI ⟨_,rfl,?_⟩;apply rv (a:=([],_)) rfl ⟨by show 2<=15;decide,?_⟩;nofun;generalize o:(h++g).length=N;have n:(h++g++[MO.dcH []]).length=N+1:=by rw[WR,o];rfl
  have A:(h++g++[MO.dcH []]++[MO.dcH []]).length=N+2:=by rw[WR,n];rfl
  have X:h.length+g.length=N:=by rw[<-o,WR]
  show Rn (ck 8 [fX d.2.2,bC [],.ob (h++g++[MO.dcH []]++[MO.dcH []]).length] (h++g++[MO.dcH []]++[MO.dcH []]++[MO.dct [(.inr "size",.ob N),(.inr "row",.ob (h++g++[MO.dcH []]).length)]])) _;rw[n,A];have j:∀a b c:MO,h++g++[a]++[b]++[c]=(h++g)++[a,b,c]:=λa b c=>by simp
  rw[j];have J:∀(a b c:MO),((h++g)++[a,b,c])[N]?=some a/\((h++g)++[a,b,c])[N+1]?=some b/\((h++g)++[a,b,c])[N+2]?=some c:=λa b c=>by
   subst o;apply⟨?_,?_,?_⟩
   ·rw[W4 (WJ _),Zg];rfl
   ·rw[W4 (Xh _ _),Zx];rfl
   ·rw[W4 (Xh _ _),Zx];rfl
  have⟨Q,O,M⟩:=J (.dcH []) (.dcH []) (.dct [(.inr "size",.ob N),(.inr "row",.ob (N+1))]);have⟨sz,f,Z,T⟩:=rG 8 d.2.2 [] _ (N+2) N (N+1) [] [] n1 {} M Q O (Xa (XQ _)) (λ_ z=>(nomatch z)) (λ_ z=>(nomatch z)) (by simp;lia) (by simp;exact WL n2 {});apply rv Z ?_;have Y:hh ((h++g)++[MO.dcH [],.dcH [],.dct [(.inr "size",.ob N),(.inr "row",.ob (N+1))]]) N (N+1) sz f=h++(g++[MO.dcH sz,.dcH f,.dct [(.inr "size",.ob N),(.inr "row",.ob (N+1))]]):=by
   unfold hh;subst o;rw[Y6 _ _ (WJ _),Zg,Y6 _ _ (Xh _ _),Zx,<-Xo];rfl
  rw[Y];have q:=J (.dcH sz) (.dcH f) (.dct [(.inr "size",.ob N),(.inr "row",.ob (N+1))]);rw[Xo]at q;apply⟨_,_,rfl,rfl,by rw[WR,l];rfl,λk d' w e=>?_,?_⟩
  ·by_cases c:k<i
   ·have⟨t,S,R⟩:=r k d' c e;apply⟨t,by rw[W0 (by clear w;lia)];exact S,R.mono (λm _ hm=>?_) (WJ _) (by rw[WR];simp)⟩;rw[<-Xo,W0 (by rw[WR];exact hm)]
   ·have v:k=i:=by lia
    subst v;rw[hd]at e;cases e;apply⟨.ob (N+2),by rw[W4 (Aak l),l,Zg];rfl,N+2,N,N+1,sz,f,rfl,q.2.2,q.1,q.2.1,?_,?_,?_,?_,?_⟩
    ·rw[WR];simp;lia
    ·rw[WR];simp;lia
    ·rw[WR];simp;lia
    ·rw[T.es];exact Ij _
    ·rw[T.er];exact Ij _
  ·have c1:Cl (h++g++[.dcH sz]):=C.snoc T.ks.cl;have c2:Cl (h++g++[.dcH sz]++[.dcH f]):=c1.snoc T.kr.cl;have I:Cl (h++g++[.dcH sz]++[.dcH f]++[.dct [(.inr "size",.ob N),(.inr "row",.ob (N+1))]]):=c2.snoc (by
    rw[WR,WR,o];show(decide (N<_)&&(decide (N+1<_)&&true))=true;rw[Xf (by simp <;> lia),Xf (by simp <;> lia)];rfl)
   rw[j]at I;rw[<-Xo];exact I
 ·rintro p ⟨L,E,g,hd,y,l,r,C⟩;rw[WA]at l r;apply⟨by rw[l,show sizeLine=16777216 from rfl];exact WL hl {},?_⟩;nofun;exact⟨p.1,g,by rw[y],λi d e=>r i d (WB.mp e).1 e,l,C⟩
def L9{a:List D}{i:Nat}{d:D}{h:MH}(e:a[i]?=some d):ax (.lv a) (av i) h=some (d,h):=by
 have b:=(WB.mp e).1;unfold ax;show((cq (.lv a) h).bind λp=>(fI p.1 (i:Int)).map λz=>(z,h))=_;show((fI a (i:Int)).map λz=>(z,h))=_;rw[ke e];rfl
def Eo{h:MH}{n:Nat}{a:List (D×D)}{p:List Nat}(e:h[n]?=some (.dcH a)):AN (.ob n) (bC p) h=(M9 a p).map λd=>(d,h):=by
 unfold AN vA;dsimp only;rw[e];dsimp only[Option.bind_some];rw[oR];rfl
def Aw{h:MH}{n:Nat}{a:List (D×D)}{p:List Nat}{x:D}(e:h[n]?=some (.dcH a)):Ax (.ob n) [bC p,x] h=some ((M9 a p).getD x,h)/\wN (.ob n) h=true:=by
 have hd:vA (.ob n) h=some a:=by unfold vA;dsimp only;rw[e]
 constructor
 ·unfold Ax;rw[hd];dsimp only[Option.bind_some];rw[oR];rfl
 ·unfold wN;rw[hd];rfl
structure Wx(h:MH)(ts:List D)(i:Nat)(rows:List Row)(t:D)(si ri:Nat):Prop where
 t0:ax (.lv ts) (av i) h=some (t,h)
 s:ax t (.str "size") h=some (.ob si,h)
 r:ax t (.str "row") h=some (.ob ri,h)
 sz:∀{st:List (Nat×Nat)} {lot:List Row},bD rows st=some lot->AN (.ob si) (bC (flat st)) h=some (av lot.length,h)
 rw:∀{st:List (Nat×Nat)} {lot:List Row} {k:Nat} {r:Row},bD rows st=some lot->lot[k]?=some r->AN (.ob ri) (bX st k) h=some (aH r,h)
 gt:∀{st:List (Nat×Nat)} {lot:List Row} {k:Nat},bD rows st=some lot->Ax (.ob ri) [bX st k,.bg] h=some (oC lot[k]?,h)/\wN (.ob ri) h=true
def gw.at_{P:Prog}{h:MH}{o q:Nat}{g:List D}(T:gw P h o q g){i:Nat}{d:df}(e:P.au[i]?=some d):∃t b c,Wx h g i d.2.2 t b c:=by
 obtain⟨t,s,⟨m,b,c,sz,n,rfl,l,v,f,_,_,_,u,j⟩⟩:=T i d e;apply⟨.ob m,b,c,L9 s,(rh l).1,(rh l).2,λ{st a} hl=>?_,λ{st a k r} hl hr=>?_,λ{st a k} hl=>?_⟩
 ·rw[Eo v,u];dsimp only;rw[vS,hl];rfl
 ·unfold bX;rw[Eo f,j];dsimp only;rw[oB,hl,WT,hr];rfl
 ·unfold bX;apply⟨?_,(Aw (p:=[]) (x:=.bg) f).2⟩;rw[(Aw f).1,j];dsimp only;rw[oB,hl,WT];cases a[k]? <;> rfl
def gA(st:List (Nat×Nat))(k:Nat)(h:MH)(hl:st.length<=1000):bH [bX st k] h=some (bX st (k+1),h):=by
 have c:Rn (bH [bX st k] h) λp=>p=(bX st (k+1),h):=by
  apply bj ?_;nofun;apply⟨_,rfl,rv (wj st k _) ?_⟩;exists jO _ _ _;nofun;apply rv (a:=(av (k+1),h)) rfl ?_;exists j7 (ys:=[av (k+1)]) (by rw[WA,nF];simp;lia);show(D.tup ((flat st).map av++[av (k+1)]),h)=(D.tup ((flat st++[k+1]).map av),h);rw[W6];rfl
 have⟨p,b,rfl⟩:=c;exact b
def Dp.fr(f:bp):Dp 2 (dI f):=Dp.tup (lT.cons (Dp.int _) (lT.cons (Dp.tup (lT.map λi _=>Dp.int i)) (lT.cons (Dp.tup (lT.map λi _=>Dp.int _)) lT.nil)))
def ne_nil{h:MH}{n m:Nat}{c:List D}(e:h[n]?=some (.lst c))(hd:lT m c)(hm:m<=60):g7 (.ob n) (.lv []) h=some (.bl (!c.isEmpty),h):=by
 have⟨d,g,k,_⟩:=hd;have f:cg (.ob n) h=none:=by unfold cg;dsimp only;rw[e]
 unfold g7 Ju;rw[f];show(Er (.ob n) (.lv []) h).map _=_;unfold Er;have hr:uZ h (.ob n)=some (.list d):=by unfold uZ;dsimp only;rw[e];dsimp only;rw[g];rfl
 rw[hr];show((if(PyData.list d).depth<=64/\(PyData.list []).depth<=64 then some (PyData.eqv (.list d) (.list []))else none).map _)=_;rw[WH ⟨by rw[PyData.depth];lia,by simp[PyData.depth,PyData.depthAll]⟩];cases c with
 |nil=>cases g;rfl
 |cons x c=>
  have⟨p,_,i⟩:=bc (show(je x).bind (λa=>(gX c).map λb=>a::b)=some d from g);have⟨j,_,rfl⟩:=dX i;rfl
def Cs{h:MH}{n:Nat}{fs:List bp}(e:h[n]?=some (.lst (fs.reverse.map dI))):g7 (.ob n) (.lv []) h=some (.bl (!fs.isEmpty),h):=by
 rw[ne_nil e (lT.map λf _=>Dp.fr f) {}];cases fs with
 |nil=>rfl
 |cons f fs=>simp
def DU{h:MH}{n:Nat}{b:List D}{y:D}(e:h[n]?=some (.lst (b++[y]))):ax (.ob n) (.int (-1)) h=some (y,h):=by
 have a:cg (.ob n) h=none:=by unfold cg;dsimp only;rw[e]
 unfold ax;rw[a];show((cq (.ob n) h).bind λp=>(fI p.1 (-1)).map λz=>(z,h))=_;rw[jL e];show((fI (b++[y]) (-1)).map λz=>(z,h))=_;rw[nO];rfl
def FI(P:Prog)(f:bp):Nat:=((bD (bW P f.aZ) f.rs.reverse).map List.length).getD 0
def FL(P:Prog):List bp->Prop
 |[]=>True
 |f::fs=>f.k<=FI P f/\∀g∈fs,g.k<FI P g
def FL.pop{P:Prog}{f g:bp}{a:List bp}(h:FL P (f::g::a)):FL P ({g with k:=g.k+1}::a):=⟨h.2 g WI,λx b=>h.2 x (WG _ b)⟩
def jU{P:Prog}{f:bp}{d:df}{a:List Row}(e:P.au[f.aZ]?=some d)(hl:bD d.2.2 f.rs.reverse=some a):FI P f=a.length:=by
 unfold FI;rw[cv e,hl];rfl
noncomputable def DW(fs:List bp):Nat:=(fs.map λf=>f.rs.length+1).sum
def jj(f:bp)(fs:List bp):DW (f::fs)=f.rs.length+1+DW fs:=rfl
def SH(r:Row)(h:MH):yS (.str (cY r)) (.tup [.str "within",.str "all"]) h=some (.bl (nA r),h):=by cases r <;> rfl
def Qc(r:Row)(h:MH):∃b,bx (.str (cY r)) (.str "ask") h=some (.bl b,h)/\∀l,bq r l=(nA r||(b&&l==0)):=by
 cases r with
 |ask _ _ _=>exact⟨true,rfl,λl=>by show(l==0)=(false||(true&&l==0));simp⟩
 |within _ _=>exact⟨false,rfl,λ_=>rfl⟩
 |all _ _=>exact⟨false,rfl,λ_=>rfl⟩
 |_=>exact⟨false,rfl,λ_=>rfl⟩
def Pd{a b c:EM}{d:DS}{h:MH}{x y z:Bool}(k:a d h=some (.bl x,h))(j:b d h=some (.bl y,h))(i:c d h=some (.bl z,h)):Sm.Dg (ao a) (Sm.ib (ao b) (ao c)) d h=some (x||(y&&z),h):=by
 have g:ao a d h=some (x,h):=by unfold ao;rw[k];rfl
 have f:ao b d h=some (y,h):=by unfold ao;rw[j];rfl
 have e:ao c d h=some (z,h):=by unfold ao;rw[i];rfl
 unfold Sm.Dg Sm.ib;rw[g];cases x with
 |true=>rfl
 |false=>
  show((ao b d h).bind _)=_;rw[f];cases y with
  |true=>exact e
  |false=>rfl
def Js(r:Row)(h:MH):bx (.str (cY r)) (.str "again") h=some (.bl (jX r),h):=by cases r <;> rfl
def cE{h:MH}{n:Nat}{o:MO}(hn:n<h.length):(h.set n o)[n]?=some o:=Xk hn
def mj{P:Prog}{fs:List bp}{h:MH}{lo hi n:Nat}{J:List D}(T:gw P h lo hi J)(hn:h[n]?=some (.lst (fs.reverse.map dI)))(hlo:¬(lo<=n/\n<hi))(ok:∀f∈fs,en P f)(fl:FL P fs)(hl:fs.length<=1000)(hm:DW fs<1000000):
  b5 [.lv J,.ob n] h=some (.ob n,h.set n (.lst ((gL P fs).reverse.map dI))):=by
 have H:=(WB.mp hn).1;have Tm:∀o,gw P (h.set n o) lo hi J:=λo=>T.mono λi h1 h2=>WQ (λz=>hlo (by rw[z];exact⟨h1,h2⟩));have e0:Rn (b5 [.lv J,.ob n] h) λp=>p=(.ob n,h.set n (.lst ((gL P fs).reverse.map dI))):=by
  apply bj ?_;apply jb ?_;apply xY (λm δ h'=>∃(a:List bp)(d2 d3 d4 d5 d6 d7 d8:Option D),m=DW a/\a.length<=1000/\(∀f∈a,en P f)/\FL P a/\δ=[some (.lv J),some (.ob n),d2,d3,d4,d5,d6,d7,d8]/\h'=h.set n (.lst (a.reverse.map dI))/\gL P a=gL P fs) ?_ _ (DW fs) _ _ hm ⟨fs,_,_,_,_,_,_,_,rfl,hl,ok,fl,rfl,(mm hn).symm,rfl⟩;rintro m δ h' ⟨a,d2,d3,d4,d5,d6,d7,d8,rfl,A,C,Q,rfl,rfl,S⟩;nofun;apply rv (Cs (cE H)) ⟨_,rfl,?_⟩;apply⟨λc=>?_,λc=>?_⟩
  ·cases a with
   |nil=>cases c
   |cons f a=>
    have⟨d,j,R,I,f3⟩:=C f WI;have er:bW P f.aZ=d.2.2:=cv R;have hk:f.k<=j.length:=by have:=Q.1;rw[jU R I]at this;exact this
    have X:(f::a).reverse.map dI=a.reverse.map dI++[dI f]:=by rw[Xv,W6];rfl
    have⟨t,si,ri,F⟩:=(Tm (.lst ((f::a).reverse.map dI))).at_ R;have N:∀x,ax (.ob n) (.int (-1)) (h.set n (.lst (a.reverse.map dI++[x])))=some (x,h.set n (.lst (a.reverse.map dI++[x]))):=λx=>DU (cE H);rw[X]at F ⊢;exists N _;rw[gB f];exists jO _ _ _;nofun;rw[<-gB f];apply rv (N _) ?_;rw[gB f];nofun;rw[<-gB f];apply rv F.t0 ?_;exists F.s;exists N _;rw[gB f];nofun;apply⟨_,rfl,rv (wj _ _ _) ?_⟩;rw[<-gB f];exists F.sz I;nofun;apply rv (AQ _ _ _) ⟨_,rfl,λc1=>?_,λc1=>?_⟩
    ·have O:f.k=j.length:=by have:=YM.mp c1;exact Int.ofNat.inj this
     have w:j[f.k]?=none:=X9.mpr (Aak O.symm);have ap:∀(x:D),bu (.ob n) [x] (h.set n (.lst (a.reverse.map dI)))=some (.bg,h.set n (.lst (a.reverse.map dI++[x]))):=λx=>by
      rw[bF (cE H) (by rw[WA,X7,show sizeLine=16777216 from rfl];rw[WW]at A;exact WO A {}),Yj]
     have ls:∀xs:List D,bL (.ob n) (h.set n (.lst xs))=true:=λxs=>cf (cE H);nofun;apply gp ?_;nofun;apply⟨ls _,?_⟩;exists jS (cE H);rw[Yj,gB f];exists IT _ _ _;cases q:f.rs with
     |nil=>
      have hp:pQ (bW P f.aZ) f.rs f.k=none:=by rw[q]at I ⊢;rw[er];exact qW I w
      nofun;apply⟨_,rfl,λc2=>?_,λc2=>?_⟩
      ·exact absurd c2 (by simp)
      ·nofun;apply rv (Cs (cE H)) ⟨_,rfl,λG=>?_,λG=>?_⟩
       ·cases a with
        |nil=>cases G
        |cons g a=>
         have⟨dg,lg,k1,k2,k3⟩:=C g (WG _ WI);have hys:(g::a).reverse.map dI=a.reverse.map dI++[dI g]:=by rw[Xv,W6];rfl
         rw[hys];nofun;apply gp ?_;nofun;apply⟨ls _,?_⟩;exists jS (cE H);rw[Yj,gB g];nofun;apply gp ?_;nofun;apply⟨ls _,?_⟩;exists gA g.rs.reverse g.k _ (by rw[X7];exact k3);exists bF (cE H) (by rw[WA,X7,show sizeLine=16777216 from rfl];rw[WW,WW]at A;lia);rw[Yj];apply⟨DW (g::a),by rw[jj f];simp,{g with k:=g.k+1}::a,_,_,_,_,_,_,_,rfl,Z1 A,λx E=>?_,Q.pop,rfl,?_,?_⟩
         ·rcases WV.mp E with rfl |E
          ·exact⟨dg,lg,k1,k2,k3⟩
          ·exact C x (WG _ (WG _ E))
         ·rw[Xv,W6];rfl
         ·rw[<-S];show f7 P a {g with k:=g.k+1}=f7 P (g::a) f;rw[nD hp]
       ·cases a with
        |cons g a=>cases G
        |nil=>
         nofun;exact⟨0,by rw[jj f];exact YH _,[],_,_,_,_,_,_,_,rfl,Xg _,λx E=>(nomatch E),True.intro,rfl,rfl,by rw[<-S];exact(jo hp).symm⟩
     |cons s e=>
      rw[q]at I f3;have⟨l,r,g1,g2,g3⟩:=nz I;have L:pQ (bW P f.aZ) f.rs f.k=if bq r s.2 then some (s::e,f.k)else pQ (bW P f.aZ) e (if jX r then s.1 else s.1+1):=by rw[q,er];exact yc I w g1 g2
      have⟨t2,si2,ri2,F2⟩:=(Tm (.lst (a.reverse.map dI))).at_ R;have⟨ba,eba,Y⟩:=Qc r (h.set n (.lst (a.reverse.map dI)));rw[Xv]at*;nofun;apply⟨true,by congr 1;simp;lia,tt ?_⟩;exists F2.t0;exists F2.r;nofun;apply⟨_,rfl,rv (jP e.reverse s.1 s.2 f.k _) ?_⟩;exists F2.rw g1 g2;exists b9 r _;have ret:bq r s.2=true->gL P fs=f::a:=λG=>by
       rw[<-S];show f7 P a f=_;rw[G,WH rfl]at L;rw[fT L];congr 1;rw[<-q]
      have efr:dI f=.tup [av f.aZ,.tup (f.nums.map D.int),bX (e.reverse++[s]) f.k]:=by rw[gB,q,Xv]
      apply jb (DA (rv (Pd (x:=nA r) (y:=ba) (z:=s.2==0) (SH r _) eba ?_) ⟨λG=>?_,λG=>?_⟩))
      ·show(ax (bX (e.reverse++[s]) f.k) (.int (-2)) _).bind _=_;rw[Ig e.reverse s.1 s.2];show some (D.bl ((s.2:Int)==0),_)=_;congr 3;cases s.2 <;> rfl
      ·have c4:bq r s.2=true:=(Y s.2).trans G;nofun;apply gp ?_;nofun;apply⟨ls _,?_⟩;exists ap _;nofun;rw[<-efr,ret c4,Xv,W6];rfl
      ·have c4:bq r s.2=false:=(Y s.2).trans G;rw[c4,WM Xi]at L;have Z:s.1<l.length:=(WB.mp g2).1;have fok:∀v,en P {f with rs:=e,k:=v}:=λv=>⟨d,l,R,g1,Z1 f3⟩;have U:∀v,v<=l.length->pQ (bW P f.aZ) f.rs f.k=pQ (bW P f.aZ) e v->∃m',m'<DW (f::a)/\∃(u:List bp)(d2 d3 d4 d5 e6 e7 e8:Option D),m'=DW u/\u.length<=1000/\(∀f∈u,en P f)/\FL P u/\([some (.lv J),some (.ob n),some (av f.aZ),some (.tup (f.nums.map D.int)),some (bX (e.reverse++[s]) f.k),some (.str (cY r)),d6,d7,d8]:DS)=[some (.lv J),some (.ob n),d2,d3,d4,d5,e6,e7,e8]/\h.set n (.lst (a.reverse.map dI++[.tup [av f.aZ,.tup (f.nums.map D.int),bX e.reverse v]]))=h.set n (.lst (u.reverse.map dI))/\gL P u=gL P fs:=λv hk' hp=>by
        apply⟨DW ({f with rs:=e,k:=v}::a),by rw[jj,jj,q,WW];simp,{f with rs:=e,k:=v}::a,_,_,_,_,_,_,_,rfl,A,λx E=>?_,⟨?_,Q.2⟩,rfl,?_,?_⟩
        ·rcases WV.mp E with rfl |E
         ·exact fok v
         ·exact C x (WG _ E)
        ·rw[jU (f:={f with rs:=e,k:=v}) R g1];exact hk'
        ·rw[Xv,W6];rfl
        ·rw[<-S];show f7 P a {f with rs:=e,k:=v}=f7 P a f;cases a with
         |nil=>unfold f7;rw[hp]
         |cons g a=>unfold f7;rw[hp]
       nofun;apply gp ?_;nofun;apply⟨ls _,?_⟩;nofun;have ea:(cY r==Str.ofString "again")=jX r:=by
        have z:=Js r h;exact congrArg (λo:Option (D×MH)=>match o with |some (.bl b,_)=>b |_=>false) z
       rw[ea];apply⟨_,rfl,λc5=>?_,λc5=>?_⟩
       ·rw[c5,WH rfl]at L;nofun;apply⟨_,rfl,rv (jP e.reverse s.1 s.2 f.k _) ?_⟩;exists ap _;exact U s.1 (XN Z) L
       ·rw[c5,WM Xi]at L;nofun;apply⟨_,rfl,rv (jP e.reverse s.1 s.2 f.k _) ?_⟩;exists gA e.reverse s.1 _ (by rw[X7];exact Z1 f3);exists ap _;exact U (s.1+1) Z L
    ·have O:f.k<j.length:=by
      apply ZV hk λz=>?_;rw[z]at c1;simp at c1
     have M:j[f.k]?=some j[f.k]:=WK O;have hp:pQ (bW P f.aZ) f.rs f.k=some (f.rs,f.k):=fW (er ▸ I) M;nofun;rw[<-X];have hfin:gL P fs=f::a:=by rw[<-S];show f7 P a f=_;rw[fT hp]
     rw[hfin]
  ·cases a with
   |cons f a=>cases c
   |nil=>
    apply⟨λz=>(nomatch z),λ_=>?_⟩;nofun;rw[<-S];rfl
 have⟨p,e1,rfl⟩:=e0;exact e1
def eq_nil{h:MH}{n m:Nat}{c:List D}(e:h[n]?=some (.lst c))(hd:lT m c)(hm:m<=60):bx (.ob n) (.lv []) h=some (.bl c.isEmpty,h):=by
 have⟨d,g,k,_⟩:=hd;have f:cg (.ob n) h=none:=by unfold cg;dsimp only;rw[e]
 unfold bx Ju;rw[f];show(Er (.ob n) (.lv []) h).map _=_;unfold Er;have hr:uZ h (.ob n)=some (.list d):=by unfold uZ;dsimp only;rw[e];dsimp only;rw[g];rfl
 rw[hr];show((if(PyData.list d).depth<=64/\(PyData.list []).depth<=64 then some (PyData.eqv (.list d) (.list []))else none).map _)=_;rw[WH ⟨by rw[PyData.depth];lia,by simp[PyData.depth,PyData.depthAll]⟩];cases c with
 |nil=>cases g;rfl
 |cons x c=>
  have⟨p,_,i⟩:=bc (show(je x).bind (λa=>(gX c).map λb=>a::b)=some d from g);have⟨j,_,rfl⟩:=dX i;rfl
def P5{h:MH}{n:Nat}{fs:List bp}(e:h[n]?=some (.lst (fs.reverse.map dI))):bx (.ob n) (.lv []) h=some (.bl fs.isEmpty,h):=by
 rw[eq_nil e (lT.map λf _=>Dp.fr f) {}];cases fs with
 |nil=>rfl
 |cons f fs=>simp
def oX{h:MH}{n:Nat}{f:bp}{fs:List bp}(e:h[n]?=some (.lst ((f::fs).reverse.map dI))):ax (.ob n) (.int (-1)) h=some (dI f,h):=by
 rw[Xv,W6]at e;exact DU e
def L3(P:Prog):List bp->Prop
 |[]=>True
 |f::_=>en P f
def qu.hd{P:Prog}{fs:List bp}(h:qu P fs):L3 P fs:=by
 cases fs with
 |nil=>trivial
 |cons f fs=>exact h.1.ok
def f6{P:Prog}{h:MH}{i j n:Nat}{c:List D}{fs:List bp}{hd:List (List aq)}(T:gw P h i j c)(e:h[n]?=some (.lst (fs.reverse.map dI)))(ok:L3 P fs):eR [.lv c,.ob n] h=some (oC (sg P (fs,hd)),h):=by
 apply fF ?_;apply bj ?_;exists P5 e;cases fs with
 |nil=>
  apply⟨true,rfl,tt ?_⟩;nofun;rfl
 |cons f fs=>
  have⟨d,a,g,b,o⟩:=ok;have⟨t,l,m,F⟩:=T.at_ g;apply⟨false,rfl,ff ?_⟩;nofun;apply gp ?_;exists oX e;rw[gB f];exists F.t0;exists F.r;apply⟨(F.gt b (k:=0)).2,?_⟩;exists oX e;rw[gB f];nofun;apply rv (F.gt b).1 ?_;show(oC a[f.k]?,h)=(oC (bz P f),h);unfold bz;rw[cv g,b];rfl
theorem tw{w:Str}:∀(b:List Str)(ns:List Int)(a:List (Key×D)),b.Nodup->b.length<=ns.length->(w∈b->dE (fc a (pC b ns)) (.inr w)=(ns[b.idxOf w]?).map D.int)/\(w∉b->dE (fc a (pC b ns)) (.inr w)=dE a (.inr w))
 |[],_,a,_,_=>⟨λz=>(nomatch z),λ_=>rfl⟩
 |p::b,[],a,_,hl=>absurd hl (by simp)
 |p::b,n::ns,a,nd,hl=>by
  have⟨n1,n2⟩:=Y3.mp nd;have c:=tw (w:=w) b ns (putD a (.inr p) (.int n)) n2 (AbL hl);have f:fc a (pC (p::b) (n::ns))=fc (putD a (.inr p) (.int n)) (pC b ns):=rfl;rw[f]
  by_cases z:w=p
  ·subst z;apply⟨λ_=>?_,λq=>absurd WI q⟩;rw[c.2 n1,lW,WH rfl,Aa8,YL];rfl
  ·have d:(p==w)=false:=ZP.mpr λq=>z q.symm;apply⟨λq=>?_,λq=>?_⟩
   ·rw[c.1 ((WV.mp q).resolve_left z),Aa8,d];rfl
   ·rw[c.2 (λe=>q (WG _ e)),lW,WM (λq=>z (Sum.inr.inj q))]
def Kz{P:Prog}{f:bp}{d:df}{t:Term}(e:P.au[f.aZ]?=some d)(nd:d.2.1.Nodup)(hl:d.2.1.length<=f.nums.length)(ht:cP (bQ P f) t)(hn:¬t.1=""):t.1∈d.2.1/\∃z,f.nums[d.2.1.idxOf t.1]?=some z/\cW (bQ P f) t=z+t.2:=by
 have⟨z,a⟩:=ht.resolve_left hn;have hm:t.1∈d.2.1:=Yo λq=>by
  have:=(tw (w:=t.1) d.2.1 f.nums [] nd hl).2 q;unfold bQ at a;rw[jQ e,this]at a;cases a
 apply⟨hm,z,?_,?_⟩
 ·have b:=(tw (w:=t.1) d.2.1 f.nums [] nd hl).1 hm;unfold bQ at a;rw[jQ e,b]at a;have⟨y,g,c⟩:=dX a;cases c;exact g
 ·unfold cW;rw[WM hn,a];rfl
theorem depth_strs':∀a:List Str,PyData.depthAll (a.map PyData.str)=0
 |[]=>rfl
 |w::a=>by rw[WN,PyData.depthAll,depth_strs' a];rfl
theorem pyL_strs':∀c:List Str,gX (c.map D.str)=some (c.map PyData.str)
 |[]=>rfl
 |w::c=>by show(je (.str w)).bind (λa=>(gX (c.map D.str)).map λb=>a::b)=_;rw[pyL_strs' c];rfl
theorem findIdx_strs'(w:Str):∀a:List Str,w∈a->(a.map PyData.str).findIdx? (λb=>PyData.eqv b (.str w))=some (a.idxOf w)
 |x::r,h=>by
  rw[WN,AaQ,Aa8]
  by_cases z:x=w
  ·subst z;simp[PyData.eqv]
  ·have hm:w∈r:=(WV.mp h).resolve_left λq=>z q.symm;have c:(x==w)=false:=ZP.mpr z;rw[findIdx_strs' w r hm,c];simp[PyData.eqv,z]
def AG{a:List Str}{w:Str}{h:MH}(m:w∈a):q9 (.tup (a.map D.str)) [.str w] h=some (av (a.idxOf w),h):=by
 unfold q9;simp only[uZ,je,pyL_strs',WT];rw[WH ⟨by simp[PyData.depth],by rw[depth_strs'];exact Xg _⟩,findIdx_strs' w a m];rfl
def p9{a:List Str}{w:Str}{h:MH}(m:w∈a):jT (.lv (a.map D.str)) [.str w] h=some (av (a.idxOf w),h):=by
 unfold jT;simp only[dY,uZ,je,pyL_strs',WT];rw[WH ⟨by simp[PyData.depth],by rw[depth_strs'];exact Xg _⟩,findIdx_strs' w a m];rfl
def Jf(f:bp)(r:List D):D:=.tup (av f.aZ::.tup (f.nums.map D.int)::r)
structure QX(P:Prog)(f:bp)(d:df):Prop where
 e:P.au[f.aZ]?=some d
 nd:d.2.1.Nodup
 hl:d.2.1.length<=f.nums.length
def eI{P:Prog}{f:bp}{d:df}{t:Term}{r:List D}{h:MH}(N:QX P f d)(ht:cP (bQ P f) t):a8 [aC P,Jf f r,aS t] h=some (.int (cW (bQ P f) t),h):=by
 apply fF ?_;apply bj ?_;unfold aS;nofun;apply⟨_,rfl,λc=>?_,λc=>?_⟩
 ·have a:t.1="":=by simpa using c
  nofun;unfold cW;rw[WH a]
 ·have a:¬t.1="":=by simpa using c
  have⟨hm,z,g,b⟩:=Kz N.e N.nd N.hl ht a;unfold Jf aC;nofun;apply gp ?_;exists eJ (by rw[WY,N.e];rfl);unfold eu;nofun;apply⟨rfl,?_⟩;exists AG hm;exists eJ (by rw[WY,g];rfl);nofun;rw[b]
theorem Aa:∀ks:List aq,Fj (ks.map dQ)=some ks
 |[]=>rfl
 |k::ks=>by show(HV (dQ k)).bind (λa=>(Fj (ks.map dQ)).map λb=>a::b)=_;rw[Aa ks];rfl
theorem uh(a:List (Key×D)):∀(ls:List Lock)(b:List aq),(ls.map λl=>(l.1,cW a l.2)).foldl zm b=ls.foldl (kS a) b
 |[],_=>rfl
 |l::ls,b=>by rw[WN,Y4,Y4];exact uh a ls _
def Uo:EM:=aj aA (a2 v0 (aj a8 (a3 v3 v2 v1)))
theorem vM{P:Prog}{f:bp}{d:df}{r:List D}{h:MH}(N:QX P f d):∀(ls:List Lock)(o1 a:Option D),(∀l∈ls,cP (bQ P f) l.2)->aX [] (gT 2 (ak (gN 0) (ak (gN 1) bE))) bI Uo (ls.map aD) [o1,a,some (Jf f r),some (aC P)] h=some (ls.map (λl=>dQ (l.1,cW (bQ P f) l.2)),h)
 |[],o1,a,_=>rfl
 |l::ls,o1,a,hw=>by
  have c:Uo [some (.str l.1),some (aS l.2),some (Jf f r),some (aC P)] h=some (dQ (l.1,cW (bQ P f) l.2),h):=by
   apply fF ?_;unfold Uo;exists eI N (hw l WI);nofun;rfl
  rw[WN,WN];show(if hZ [] h then((gT 2 (ak (gN 0) (ak (gN 1) bE))) (aD l) [o1,a,some (Jf f r),some (aC P)] h).bind _ else none)=_;rw[WH (show hZ [] h=true from rfl),show(gT 2 (ak (gN 0) (ak (gN 1) bE))) (aD l) [o1,a,some (Jf f r),some (aC P)] h=some ([some (.str l.1),some (aS l.2),some (Jf f r),some (aC P)],h) from rfl];show(Uo _ h).bind _=_;rw[c];dsimp only[Option.bind_some];rw[vM N ls _ _ λx b=>hw x (WG _ b)];rfl
def BX{m:EM}{b:DS}{h:MH}{Q:D×MH->Prop}(r:Rn (m b h) λp=>∃a ks,dY p.1 p.2=some a/\Fj a=some ks/\ks.length<=4/\Q (.lv ((i4 (EI ks)).map dQ),p.2)):Rn (j9 m b h) Q:=
 aW (r.imp λp ⟨a,ks,e,d,c,q⟩=>⟨_,by rw[e];dsimp only[Option.bind_some];rw[d];dsimp only[Option.bind_some];rw[WH c],q⟩)
def lS(r:Row):Bool:=nA r||bq r 0
def EW(r:Row)(ht:lS r=true)(h:MH):∃b x,(cY r==Str.ofString "all")=b/\ax (aH r) (.int 1) h=some (x,h)/\(b=true->x=.tup ((cD r).map aD))/\(b=false->D.tup [x]=.tup ((cD r).map aD)):=by
 cases r with
 |all ls b=>exact⟨true,.tup (ls.map aD),rfl,by rw[aH];rfl,λ_=>rfl,λz=>(nomatch z)⟩
 |within l b=>exact⟨false,aD l,rfl,by rw[aH];rfl,λz=>(nomatch z),λ_=>rfl⟩
 |ask l a b=>exact⟨false,aD l,rfl,by rw[aH];rfl,λz=>(nomatch z),λ_=>rfl⟩
 |_=>cases ht
def kT{P:Prog}{f:bp}{d:df}{r:Row}{x:List D}{h:MH}(N:QX P f d)(er:bz P f=some r)(ht:lS r=true)(g:∀l∈cD r,cP (bQ P f) l.2)(a:(cD r).length<=4):fx [aC P,Jf f x,aH r] h=some (bZ (lF P f),h):=by
 apply fF ?_;apply bj ?_;have⟨b,y,k,e,j,i⟩:=EW r ht h;exists b9 r _;nofun;rw[k];apply⟨_,rfl,?_⟩;have go:j9 (fz (cj [none,none,some 1,some 0] (fe v3) (gT 2 (ak (gN 0) (ak (gN 1) bE))) bI (aj aA (a2 v0 (aj a8 (a3 v3 v2 v1)))))) [some (aC P),some (Jf f x),some (aH r),some (.tup ((cD r).map aD))] h=some (.lv ((lF P f).map dQ),h):=by
  apply fF ?_;apply BX ?_;nofun;apply dW ?_;nofun;apply⟨_,_,rfl,?_⟩;apply rv (vM N (cD r) none none g) ⟨by rw[WA,show sizeLine=16777216 from rfl];exact WL a {},?_⟩;nofun;apply⟨_,(cD r).map λl=>(l.1,cW (bQ P f) l.2),rfl,?_,by rw[WA];exact a,?_⟩
  ·rw[<-Aa,YU];rfl
  unfold EI lF;rw[uh,er];rfl
 apply⟨λc=>?_,λc=>?_⟩
 ·exists e;rw[j c];exists go;exists rfl;rfl
 ·exists e;nofun;rw[i c];apply rv go ?_;exists rfl;rfl
structure dH(h:MH)(b:Nat)(S:List Hand):Prop where
 w:h[b]?=some (.lst ((List.range S.length).map λi=>.ob (b+3*i+3)))
 x:∀(i:Nat)(x:Hand),S[i]?=some x->h[b+3*i+1]?=some (.lst (x.1.reverse.map dI))/\h[b+3*i+2]?=some (.lst (x.2.map bZ))/\h[b+3*i+3]?=some (.lst [.ob (b+3*i+1),.ob (b+3*i+2)])
def HG{n:Nat}{u:GI}{d:D}{b:DS}{h:MH}{a:List D}{Q:DS×MH->Prop}(e:dY d h=some a)(hn:a.length=n)(r:Rn (u a b h) Q):Rn (P4 n u d b h) Q:=by
 unfold P4;rw[e,WT,WH hn];exact r
def yB{h:MH}{n:Nat}{a:List D}(e:h[n]?=some (.lst a)):dY (.ob n) h=some a:=by unfold dY;dsimp only;rw[e]
def El{h:MH}{n i:Nat}{a:List D}{d:D}(e:h[n]?=some (.lst a))(q:a[i]?=some d):ax (.ob n) (av i) h=some (d,h):=by
 have b:cg (.ob n) h=none:=by unfold cg;dsimp only;rw[e]
 unfold ax;rw[b];show((cq (.ob n) h).bind λp=>(fI p.1 (i:Int)).map λz=>(z,h))=_;rw[jL e];show((fI a (i:Int)).map λz=>(z,h))=_;rw[ke q];rfl
def dH.at_{h:MH}{b i:Nat}{S:List Hand}{x:Hand}(W:dH h b S)(e:S[i]?=some x):ax (.ob b) (av i) h=some (.ob (b+3*i+3),h)/\ax (.ob (b+3*i+3)) (.int 0) h=some (.ob (b+3*i+1),h):=
 ⟨El W.w (by rw[WY,YG (WB.mp e).1];rfl),El (i:=0) (W.x i x e).2.2 rfl⟩
def kU{h:MH}{b:Nat}{S:List Hand}{l:aq}(W:dH h b S):de [.ob b,dQ l] h=some (Kq (S.findIdx? (nB l)),h):=by
 apply fF ?_;apply bj ?_;nofun;apply mS ?_;nofun;apply⟨_,_,_,rfl,jL W.w,?_⟩;apply cO (λi f r=>r=h/\(∃(d2 y v o:Option D),f=[some (.ob b),some (dQ l),d2,y,v,o])/\∀(j:Nat)(x:Hand),j<i->S[j]?=some x->nB l x=false) ⟨rfl,⟨_,_,_,_,rfl⟩,λj x hj=>absurd hj (XB _)⟩ (λ_ _ _ _ z=>by rw[z.1];exact CL W.w) ?_ ?_
 ·rintro i x f r s ⟨rfl,⟨d2,y,v,o,rfl⟩,d⟩;have⟨j,hj,rfl⟩:=nG s;have e:=(WB.mp hj).1;rw[W3]at e;rw[YG e]at hj;cases hj;have C:S[i]?=some S[i]:=WK e;have⟨J,A,G⟩:=W.x i _ C;nofun;apply HG (yB G) rfl ?_;nofun;apply dW ?_;nofun;apply⟨_,_,jL A,?_⟩;apply cO (λk f n=>n=r/\(∃(o:Option D),f=[some (.ob b),some (dQ l),some (av i),some (.ob (b+3*i+1)),some (.ob (b+3*i+2)),o])/\∀(j:Nat)(q:List aq),j<k->S[i].2[j]?=some q->l∉q) ⟨rfl,⟨_,rfl⟩,λj x hj=>absurd hj (XB _)⟩ (λ_ _ _ _ z=>by rw[z.1];exact CL A) ?_ ?_
  ·rintro k x f n p ⟨rfl,⟨o,rfl⟩,a⟩;rw[WY]at p;have⟨q,E,rfl⟩:=dX p;nofun;apply rv (yR l q _) ⟨_,rfl,λc=>?_,λc=>?_⟩
   ·have hl:nB l S[i]=true:=Zh.mpr ⟨q,WE E,c⟩;have I:S.findIdx? (nB l)=some i:=by
     rw[YR];apply⟨e,hl,λj hj=>?_⟩;have:=d j (S[j]'()) hj (WK _);rw[this];exact Xi
    rw[I];nofun;rfl
   ·nofun;apply⟨rfl,⟨_,rfl⟩,λj H hj m=>?_⟩;rcases Z6.mp hj with z |z
    ·exact a j H z m
    ·subst z;rw[E]at m;cases m;exact AaL c
  ·rintro f n ⟨rfl,⟨o,rfl⟩,a⟩;rw[WA]at a;apply⟨rfl,⟨_,_,_,_,rfl⟩,λj x hj g=>?_⟩;rcases Z6.mp hj with z |z
   ·exact d j x z g
   ·subst z;rw[C]at g;cases g;apply Bool.eq_false_iff.mpr λz=>?_;have⟨q,u,t⟩:=Zh.mp z;have⟨k,F⟩:=XU.mp u;exact a k q (WB.mp F).1 F (XR t)
 ·rintro f r ⟨rfl,⟨d2,y,v,o,rfl⟩,d⟩;rw[cF,WA,W3]at d;have:S.findIdx? (nB l)=none:=by
   rw[Abm];intro x s;have⟨j,hj⟩:=XU.mp s;exact d j x (WB.mp hj).1 hj
  rw[this];nofun;rfl
def Sy:TM:=ao (ag iV (aj de (a2 v1 v0)) (eK .bg))
def Py{h:MH}{b:Nat}{S:List Hand}{l:aq}(W:dH h b S):Sy [some (dQ l),some (.ob b)] h=some (cT S l,h):=by
 apply fF ?_;unfold Sy;exists kU W;nofun;unfold cT;cases S.findIdx? (nB l)with
 |none=>exact rv rfl ⟨_,rfl,rfl⟩
 |some i=>exact rv rfl ⟨_,rfl,rfl⟩
theorem yw{h:MH}{b:Nat}{S:List Hand}(W:dH h b S):∀(ls:List aq)(o:Option D),aX [] (gN 0) Sy v0 (ls.map dQ) [o,some (.ob b)] h=some ((ls.filter (cT S)).map dQ,h)
 |[],o=>rfl
 |l::ls,o=>by
  rw[WN];show(Sy [some (dQ l),some (.ob b)] h).bind _=_;rw[Py W,ZH];cases c:cT S l with
  |false=>exact yw W ls _
  |true=>
   show(aX [] (gN 0) Sy v0 (ls.map dQ) [some (dQ l),some (.ob b)] h).map _=_;rw[yw W ls _];rfl
def IQ{P:Prog}{f:bp}{r:Row}(er:bz P f=some r)(a:(cD r).length<=4):(lF P f).length<=4:=by
 unfold lF;rw[er,(eY _).length_eq];have:=jZ (bQ P f) (cD r) [];simp at this ⊢;exact WL this a
structure V7(P:Prog)(f:bp):Prop where
 n:∃d,QX P f d
 t:∀r,bz P f=some r->MC P f r
def tE{P:Prog}{h:MH}{m p b i:Nat}{g:List D}{S:List Hand}{x:Hand}(T:gw P h m p g)(W:dH h b S)(e:S[i]?=some x)(ok:L3 P x.1)(q:∀f fs,x.1=f::fs->V7 P f):iN [aC P,.lv g,.ob b,av i] h=some (bZ (uy P S x),h):=by
 have⟨a,u,s⟩:=W.x i x e;have⟨o,n⟩:=W.at_ e;apply fF ?_;apply bj ?_;exists o;exists n;exists f6 (hd:=x.2) T a ok;exists yF _ _;cases er:sg P x with
 |none=>
  apply⟨true,rfl,tt (tt ?_)⟩;nofun;have⟨fs,hd⟩:=x;cases fs with
  |nil=>rfl
  |cons f fs=>
   have er:bz P f=none:=er;show(bZ [],h)=(bZ (uy P S (f::fs,hd)),h);unfold uy;dsimp only;rw[er]
 |some r=>
  have⟨fs,hd⟩:=x;cases fs with
  |nil=>cases er
  |cons f fs=>
   have er:bz P f=some r:=er;obtain⟨⟨d,N⟩,t⟩:=q f fs rfl;have⟨_,l,j⟩:=t r er;apply⟨false,rfl,ff ?_⟩;exists b9 r _;exists Hq r _;cases c:nA r with
   |false=>
    apply⟨true,rfl,tt ?_⟩;nofun;show(bZ [],h)=(bZ (uy P S (f::fs,hd)),h);unfold uy;dsimp only;rw[er];dsimp only;rw[c];rfl
   |true=>
    apply⟨false,rfl,ff ?_⟩;nofun;apply dW ?_;exists oX a;exists kT (x:=[bX f.rs.reverse f.k]) N er (by unfold lS;rw[c];rfl) l j;apply⟨(lF P f).map dQ,[],rfl,?_⟩;apply rv (yw W (lF P f) none) ⟨?_,?_⟩
    ·have w:=AbV (cT S) (lF P f);have v:=IQ er j;rw[WA,show sizeLine=16777216 from rfl]
     lia
    exists rfl;show(bZ ((lF P f).filter (cT S)),h)=(bZ (uy P S (f::fs,hd)),h);unfold uy;dsimp only;rw[er];dsimp only;rw[c];rfl
def gb{h g:MH}{n:Nat}{o:MO}(e:h[n]?=some o):(h++g)[n]?=some o:=by rw[W0 (WB.mp e).1,e]
def dH.app{h g:MH}{b:Nat}{S:List Hand}(W:dH h b S):dH (h++g) b S:=⟨gb W.w,λi x e=>let⟨a,b,c⟩:=W.x i x e;⟨gb a,gb b,gb c⟩⟩
def gw.app{P:Prog}{h g:MH}{c f:Nat}{b:List D}(T:gw P h c f b):gw P (h++g) c f b:=λi d e=>by
 obtain⟨t,m,⟨j,k,l,sz,a,q,p,o,n,r⟩⟩:=T i d e;exact⟨t,m,⟨j,k,l,sz,a,q,gb p,gb o,gb n,r⟩⟩
def PD{h:MH}{n:Nat}{b:List D}(e:h[n]?=some (.lst b)):cz [.ob n] h=some (.int (b.length:Int),h):=by
 have a:cg (.ob n) h=none:=by unfold cg;dsimp only;rw[e]
 unfold cz;dsimp only;rw[a];dsimp only;rw[jL e];rfl
def IU{H g:MH}{a:List D}{m:Nat}(hm:H.length<=m)(e:(H++g)[m]?=some (.lst a))(c:gu H.length (.lv a)=true):leave H (.ob m) (H++g)=some (.lv a,H):=by
 have b:Bw H.length (H++g) (.ob m)=.lv a:=by
  unfold Bw;dsimp only;rw[WM (Aaj.mpr hm),e]
 unfold leave;rw[b,Aa2 (WJ _),X1,c,Gu];rfl
theorem JF(n:Nat):∀a:List (Nat×Nat),dh n (a.map qH)=true
 |[]=>rfl
 |m::a=>by rw[WN];show(gu n (qH m)&&dh n (a.map qH))=true;rw[JF n a];rfl
def Pq{P:Prog}{S:List Hand}{i:Nat}{x:Hand}(e:S[i]?=some x):Aq P S i=(nM P S x).map λc=>(i,c):=by unfold Aq;rw[e];rfl
def IF(P:Prog)(S:List Hand)(i:Nat):(List.range (i+1)).flatMap (Aq P S)=(List.range i).flatMap (Aq P S)++Aq P S i:=by
 rw[List.range_succ,List.flatMap_append,List.flatMap_cons,List.flatMap_nil,XC]
theorem yt(P:Prog)(S:List Hand):∀i,((List.range i).flatMap (Aq P S)).length<=2*i
 | 0=>WJ _
 |i+1=>by
  rw[IF,WR];have b:=yt P S i;have a:(Aq P S i).length<=2:=by
   unfold Aq;rw[WA];cases S[i]? with
   |none=>exact Xg _
   |some x=>exact EC P S x
  lia
def Md(l:List aq)(h:MH):Mb (bZ l) (.tup []) h=some (.bl l.isEmpty,h):=by cases l <;> rfl
def LS(r:Row)(h:qK r=true):nA r=false:=by cases r <;> first |rfl |cases h
def NA{P:Prog}{S:List Hand}{f:bp}{fs:List bp}{hd:List (List aq)}{r:Row}(er:bz P f=some r)(c:qK r=true):uy P S (f::fs,hd)=[]:=by
 unfold uy;dsimp only;rw[er];dsimp only;rw[LS r c];rfl
def za{P:Prog}{S:List Hand}{f:bp}{fs:List bp}{hd:List (List aq)}{a b:Bool}(d:((bz P f).map qK).getD false=a)(c:(uy P S (f::fs,hd)).isEmpty=b):nM P S (f::fs,hd)=if a then[0,1]else if b then[0]else[]:=by
 subst d;subst c;rfl
structure V3(P:Prog)(S:List Hand):Prop where
 hl:S.length<=1000
 fr:∀(i:Nat)(x:Hand),S[i]?=some x->L3 P x.1/\∀f fs,x.1=f::fs->V7 P f
def jm{P:Prog}{h:MH}{A F b:Nat}{l:List D}{S:List Hand}(T:gw P h A F l)(W:dH h b S)(O:V3 P S):fQ [aC P,.lv l,.ob b] h=some (.lv ((FD P S).map qH),h):=by
 have J:=O.hl;apply fF ?_;apply sP ?_;nofun;apply eZ ?_;exists PD W.app.w;rw[WA,W3];nofun;apply⟨(S.length:Int),rfl,by simp,by lia,?_⟩;apply cO (λi k n=>n=h++[.lst (((List.range i).flatMap (Aq P S)).map qH)]/\∃(p o:Option D),k=[some (aC P),some (.lv l),some (.ob b),some (.ob h.length),p,o]) ⟨rfl,_,_,rfl⟩ (λ_ _ _ _ _=>rfl) ?_ ?_
 ·rintro i x k n E ⟨rfl,p,o,rfl⟩;have⟨j,hj,rfl⟩:=dX (by rw[<-WY];exact E);have d:=(WB.mp hj).1;rw[W3,Xd]at d;rw[Xd,YG d]at hj;cases hj;have e:S[i]?=some S[i]:=WK d;have⟨ok,G⟩:=O.fr i _ e;have Wr:=yt P S i;have s:=W.app (g:=[.lst (((List.range i).flatMap (Aq P S)).map qH)]);have y:=T.app (g:=[.lst (((List.range i).flatMap (Aq P S)).map qH)]);have⟨t,I,H⟩:=s.x i _ e;have⟨v,u⟩:=s.at_ e;rw[IF,Pq e];generalize C:S[i]=x at*;exists v;exists u;exists f6 (hd:=x.2) y t ok;exists v;exists u;exists Cs t;have⟨fs,hd⟩:=x;cases fs with
  |nil=>
   apply⟨false,rfl,ff (ff ?_)⟩;nofun;exact⟨by rw[show nM P S ([],hd)=[] from rfl,Ye,XC],_,_,rfl⟩
  |cons f fs=>
   apply⟨true,rfl,tt ?_⟩;exists tE y s e ok G;nofun;apply rv (Md _ _) ⟨_,rfl,λc=>?_,λc=>?_⟩
   ·nofun;apply gp ?_;nofun;apply⟨cf (g0 rfl),?_⟩;exists bF (g0 rfl) (by rw[WA,show sizeLine=16777216 from rfl];lia);rw[BE rfl];exists Am _ _;have m:sg P (f::fs,hd)=bz P f:=rfl;rw[m];cases er:bz P f with
    |none=>
     apply⟨false,rfl,ff (ff ?_)⟩;nofun;apply⟨?_,_,_,rfl⟩;have:nM P S (f::fs,hd)=[0]:=za (a:=false) (by rw[er];rfl) c;rw[this,W6];rfl
    |some r=>
     apply⟨true,rfl,tt ?_⟩;exists b9 r _;nofun;apply rv (Hr r _) ⟨_,rfl,λq=>?_,λq=>?_⟩
     ·nofun;apply gp ?_;nofun;apply⟨cf (g0 rfl),?_⟩;exists bF (g0 rfl) (by rw[WR,WA,show sizeLine=16777216 from rfl,WW,XZ];lia);rw[BE rfl];nofun;apply⟨?_,_,_,rfl⟩;have:nM P S (f::fs,hd)=[0,1]:=za (a:=true) (by rw[er];exact q) c;rw[this,W6,Xo];rfl
     ·nofun;apply⟨?_,_,_,rfl⟩;have:nM P S (f::fs,hd)=[0]:=za (a:=false) (by rw[er];exact q) c;rw[this,W6];rfl
   ·nofun;apply⟨?_,_,_,rfl⟩;have hn:∀r,bz P f=some r->qK r=false:=λr er=>Bool.eq_false_iff.mpr λz=>by rw[NA er z]at c;cases c
    have:nM P S (f::fs,hd)=[]:=za (a:=false) (by
     cases er:bz P f with
     |none=>rfl
     |some r=>exact hn r er) c
    rw[this,Ye,XC]
 ·rintro k n ⟨rfl,p,o,rfl⟩;rw[WA,W3,Xd];exists IU (WJ _) (g0 rfl) (by show dh _ _=true;exact JF _ _);rfl
noncomputable def QZ(p:Str×List Int):D:=.tup [.str p.1,.tup (p.2.map D.int)]
def MB(P:Prog)(t:CV):Prop:=∀p∈t,∃d∈P.au,d.1=p.1/\d.2.1.length=p.2.length
theorem Nl(n:Nat):∀t:CV,dh n (t.map QZ)=true
 |[]=>rfl
 |p::t=>by
  show((true&&(dh n (p.2.map D.int)&&true))&&dh n (t.map QZ))=true;rw[y7,Nl n t];rfl
def Qu{h h0:MH}{s c R:Nat}{cs:List Int}{P:Prog}{f:Int}{Q:D×MH->Prop}(dr:Dr P)(A:Sb s c cs h0 (R+30) h)(C:Cl h)(m0:0<f)(m1:f<=4)(k:∀(t:CV)(M:MH),MB P t->t.length<=4->Sb s c cs h0 R M->Cl M->Q (Ul t,M)):Rn (jD [.ob s,aC P,.int f] h) Q:=by
 have⟨X,G⟩:=A.S.lt;have h6:=dr.six;have v:=dr.pos;apply sP ?_;nofun;apply eZ ?_;nofun;apply dZ (R:=R+29) (A.S.more [.lst []]).sb m0 (by exact XX m1 {}) λr M r0 r1 A1=>?_;have⟨hb1,rfl,b1⟩:=A1.b.app X;have S1:=A1.S.cut (by rw[b1.1];exact X) (by rw[b1.1];exact G);nofun;apply⟨1+r,rfl,by lia,by lia,?_⟩;apply cO (λi δ u=>∃(t:CV)(v4 v5 v6 v7 v8:Option D)(m:MH),δ=[some (.ob s),some (aC P),some (.int f),some (.ob h.length),v4,v5,v6,v7,v8]/\u=m++[.lst (t.map QZ)]/\t.length=i/\MB P t/\Sb s c cs h (R+29-5*i) m)
  ⟨[],_,_,_,_,_,hb1,rfl,rfl,rfl,λ_ z=>(nomatch z),⟨S1,b1⟩⟩ (λ_ _ _ _ _=>rfl) ?_ ?_
 ·rintro i x δ u L ⟨t,v4,v5,v6,v7,v8,m,rfl,rfl,hl,O,B⟩;have hi:i<4:=by
   have:=(WB.mp L).1;rw[WA,W3]at this;clear L;lia
  rw[UN hi]at B;have o:s<m.length:=by rw[B.b.1];exact X
  have Z:c<m.length:=by rw[B.b.1];exact G
  nofun;apply rv (a:=(.tup (P.au.map eu),_)) rfl ?_;nofun;apply Gr (R:=R+29-5*(i+1)+4) (B.S.more [.lst (t.map QZ)]).sb (.inr rfl) (by rw[WA];exact v) (by rw[WA];exact WL h6 {}) λx h2 U A2=>?_;have⟨d,hd,rfl⟩:=Xe.mp U;have⟨jd,Y⟩:=XU.mp hd;have F:=dr.par Y;unfold eu;nofun;apply dZ (R:=R+29-5*(i+1)+3) A2 {} {} λq h3 f0 f1 A3=>?_;nofun;have⟨I,rfl,b3⟩:=A3.b.app o;have l:I.length=h.length:=b3.1.trans B.b.1;apply gp ?_;nofun;apply⟨cf (g0 l),?_⟩;nofun;apply dW ?_;nofun;apply⟨_,_,rfl,?_⟩;obtain⟨⟨ys,h4⟩,e4,a4,δ4,_,J⟩:=mT (ws:=[]) (g:=gN 0) (e:=aj aG (af (aM 2) (af (fz (af (jw dG (eK (.int 2))) (af (jw dG (eK (.int 1))) (af (eK (.int 0)) (af (eK (.int 0)) (af (eK (.int 1)) (af (eK (.int 1)) (af (eK (.int 2)) (af (eK (.int 3)) (af (aM 1) aV)))))))))) aV))) (λ_ y=>∃i,y=.int i/\True)
   (xs:=d.2.1.map D.str) (δ:=[none,some (.int (q-99)),some (.ob s)]) (h:=I++[.lst (t.map QZ)]) (λj δ u=>(∃d0,δ=[d0,some (.int (q-99)),some (.ob s)])/\Sb s c cs (m++[.lst (t.map QZ)]) (R+29-5*(i+1)+3-j) u) ⟨⟨_,rfl⟩,A3⟩ (λ_ _ _ _ _=>rfl) (by
    rintro j x δ u L ⟨⟨d0,rfl⟩,J⟩;have hj:j<3:=by
     have:=(WB.mp L).1;rw[WA]at this;exact WL this F
    nofun;exact jx (R:=R+29-5*(i+1)+3-(j+1)) (is:=[-2,-1,0,0,1,1,2,3,q-99]) (λ_=>True) (λ_ _=>trivial) (J.le (G0 (Zo _ hj))) λi h7 _ _ A7=>⟨⟨i,rfl,trivial⟩,⟨_,rfl⟩,A7⟩)
  have T:=a4.length;have⟨js,rfl,_⟩:=rg (P:=λ_=>True) λy hy=>(let⟨_,_,r⟩:=a4.right y hy;r);dsimp only at T;rw[WA,WA]at T;rw[WA]at J;apply rv e4 ⟨by dsimp only;rw[WA,show sizeLine=16777216 from rfl];lia,?_⟩;have⟨H,rfl,N⟩:=J.b.app o;have E:H.length=h.length:=N.1.trans B.b.1;have S4:=J.S.cut (by rw[N.1];exact o) (by rw[N.1];exact Z);nofun;apply rv (a:=(.tup (js.map D.int),_)) rfl ?_;exists bF (g0 E) (by rw[WA,show sizeLine=16777216 from rfl];lia);rw[BE E];nofun;apply⟨t++[(d.1,js)],_,_,_,_,_,H,rfl,by rw[W6];rfl,by rw[WR,hl];rfl,λp hp=>?_,⟨S4.le (KD _ F),B.b.trans N⟩⟩;rcases Xw.mp hp with z |z
  ·exact O p z
  ·rw[WU.mp z];exact⟨d,hd,rfl,T.symm⟩
 ·rintro δ u ⟨t,v4,v5,v6,v7,v8,m,rfl,rfl,hl,O,B⟩;rw[WA,W3]at hl B;rw[<-hl]at B;have l:t.length<=4:=by lia
  have w:=B.b.1;have Cb:=C.but B.S B.b;exists oZ (g0 w);exact rv (jl w Cb (λn z=>(nomatch z)) (Nl _ t)) (k t m O l ⟨B.S.le (KD R (k:=29) (WL (AaF 5 l) {})),A.b.trans B.b⟩ Cb)
def tF{h:MH}{b:Nat}{S:List Hand}(W:dH h b S)(r:S.length<=1000):iO [.ob b] h=some (cU S,h):=by
 apply fF ?_;apply bj ?_;nofun;apply dW ?_;nofun;apply⟨_,_,jL W.w,?_⟩;obtain⟨⟨d,s⟩,l,n,rfl,c,-⟩:=x6 (ws:=[(b,.lst ((List.range S.length).map λi=>.ob (b+3*i+3)))]) (g:=P4 2 (ak (gN 0) (ak (gN 1) bE))) (e:=aj aA (a2 (aj bw (a1 v0)) (aj bw (a1 v1)))) (xs:=(List.range S.length).map λi=>.ob (b+3*i+3)) (δ:=[none,none]) (h:=h)
  (λi d δ f=>f=h/\d=(S.take i).map qc/\∃m d1,δ=[m,d1]) ⟨rfl,rfl,_,_,rfl⟩ (λi d δ f z=>by rw[z.1];exact CL W.w) (by
   rintro i x d δ f k ⟨rfl,rfl,m,d1,rfl⟩;rw[WY]at k;have⟨j,hj,rfl⟩:=dX k;have a:=(WB.mp hj).1;rw[W3]at a;rw[YG a]at hj;cases hj;have c:S[i]?=some S[i]:=WK a;have⟨q,p,o⟩:=W.x i _ c;apply HG (yB o) rfl ?_;exists oZ q;exists oZ p;nofun;apply⟨rfl,?_,_,_,rfl⟩;rw[Z2,c,Zu,W6];rfl)
 rw[WA,W3,X1]at c;dsimp only at c l;subst c;apply rv l ⟨by dsimp only;rw[WA,show sizeLine=16777216 from rfl];exact WL r {},?_⟩;exists rfl;rfl
def Nc(b i:Nat)(x:Hand):MH:=[.lst (x.1.reverse.map dI),.lst (x.2.map bZ),.lst [.ob (b+3*i+1),.ob (b+3*i+2)]]
def hG(b:Nat):Nat->List Hand->MH
 |_,[]=>[]
 |i,x::S=>Nc b i x++hG b (i+1) S
noncomputable def Ci(b n:Nat):List D:=(List.range n).map λi=>.ob (b+3*i+3)
def Bo(b:Nat)(S:List Hand):MH:=.lst (Ci b S.length)::hG b 0 S
theorem yK(b:Nat):∀(i:Nat)(S:List Hand),(hG b i S).length=3*S.length
 |_,[]=>rfl
 |i,x::S=>by
  show(Nc b i x++hG b (i+1) S).length=_;rw[WR,yK b (i+1) S,WW];show 3+_=_
  lia
theorem D7(b:Nat)(y:Hand):∀(i:Nat)(S:List Hand),hG b i (S++[y])=hG b i S++Nc b (i+S.length) y
 |i,[]=>by show Nc b i y++[]=_;rw[XC];rfl
 |i,x::S=>by
  show Nc b i x++hG b (i+1) (S++[y])=(Nc b i x++hG b (i+1) S)++_;rw[D7 b y (i+1) S,Xo,WW,show i+1+S.length=i+(S.length+1) by lia]
theorem Nd(b:Nat):∀(i:Nat)(S:List Hand)(j:Nat)(x:Hand),S[j]?=some x->(hG b i S)[3*j]?=some (.lst (x.1.reverse.map dI))/\(hG b i S)[3*j+1]?=some (.lst (x.2.map bZ))/\(hG b i S)[3*j+2]?=some (.lst [.ob (b+3*(i+j)+1),.ob (b+3*(i+j)+2)])
 |i,y::S,0,x,e=>by cases e;exact⟨rfl,rfl,rfl⟩
 |i,y::S,j+1,x,e=>by
  have⟨a,c,d⟩:=Nd b (i+1) S j x e;have f:∀k,(hG b i (y::S))[3*(j+1)+k]?=(hG b (i+1) S)[3*j+k]?:=λk=>by
   show(Nc b i y++hG b (i+1) S)[3*(j+1)+k]?=_;rw[W4 (by show 3<=_;lia)];congr 1;show 3*(j+1)+k-3=_
   lia
  apply⟨(f 0).trans a,(f 1).trans c,(f 2).trans ?_⟩;rw[d,show i+1+j=i+(j+1) by lia]
def dH.new(h:MH)(S:List Hand):dH (h++Bo h.length S) h.length S:=by
 have d:∀k,(h++Bo h.length S)[h.length+k+1]?=(hG h.length 0 S)[k]?:=λk=>by
  rw[W4 (),show h.length+k+1-h.length=k+1 by lia];rfl
 apply⟨?_,λi x e=>?_⟩
 ·rw[W4 (WJ _),Zg];rfl
 ·have⟨a,b,c⟩:=Nd h.length 0 S i x e;apply⟨(d _).trans a,(d _).trans b,(d (3*i+2)).trans ?_⟩;rw[c,YZ]
theorem pb{h:MH}:∀(a:List df)(o:Option D),aX [] (gN 0) bI (ag ax v0 (ki 0)) (a.map eu) [o] h=some ((a.map (·.1)).map D.str,h)
 |[],o=>rfl
 |d::a,o=>by
  rw[WN];show((aX [] (gN 0) bI (ag ax v0 (ki 0)) (a.map eu) [some (eu d)] h).map _)=_;rw[pb a _];rfl
def tG{P:Prog}{h:MH}{w q:Nat}{j:List D}{t:CV}(u:Dr P)(T:gw P h w q j)(A:q<=h.length)(v:MB P t)(ht:t.length<=1000):iP [aC P,.lv j,Ul t] h=some (.ob h.length,h++Bo h.length (t.map (ue P (eG P)))):=by
 have E:=u.six;apply fF ?_;apply bj ?_;unfold aC;nofun;apply dW ?_;nofun;apply⟨_,_,rfl,?_⟩;apply rv (pb P.au none) ⟨by dsimp only;rw[WA,WA,show sizeLine=16777216 from rfl];exact WL E {},?_⟩;unfold Ul;nofun;apply dW ?_;nofun;apply⟨_,_,rfl,?_⟩;apply cO (λi e l=>l=h++Bo h.length ((t.take i).map (ue P (eG P)))/\∃(n m:Option D),e=[some (.tup [.tup (P.names.map D.str),.tup (P.au.map eu)]),some (.lv j),some (.tup (t.map λp=>.tup [.str p.1,.tup (p.2.map D.int)])),some (.lv ((P.au.map (·.1)).map D.str)),some (.ob h.length),n,m]) ⟨rfl,_,_,rfl⟩ (λ_ _ _ _ _=>rfl) ?_ ?_
 ·rintro i x e l o ⟨rfl,n,m,rfl⟩;rw[WY]at o;have⟨p,hp,rfl⟩:=dX o;have y:=(WB.mp hp).1;have⟨d,hd,d1,d2⟩:=v p (WE hp);have⟨H,c⟩:=XU.mp hd;have b:P.au[eG P p.1]?=some d:=by rw[<-d1,u.num c];exact c
  have a:((t.take i).map (ue P (eG P))).length=i:=by rw[WA,Xm];lia
  have r:Bo h.length ((t.take i).map (ue P (eG P)))=.lst (Ci h.length i)::hG h.length 0 ((t.take i).map (ue P (eG P))):=by unfold Bo;rw[a]
  have G:(h++Bo h.length ((t.take i).map (ue P (eG P)))).length=h.length+3*i+1:=by rw[WR,r,WW,yK,a];rfl
  have s:∀g,((h++Bo h.length ((t.take i).map (ue P (eG P))))++g)[h.length]?=some (.lst (Ci h.length i)):=λg=>by
   rw[Xo,W4 (WJ _),Zg,r];rfl
  nofun;apply gp ?_;nofun;apply⟨cf (by have:=s [];rw[XC]at this;exact this),?_⟩;nofun;apply gp ?_;nofun;apply⟨rfl,?_⟩;exists p9 (Xe.mpr ⟨d,hd,d1⟩);exists mj (fs:=[{aZ:=eG P p.1,nums:=p.2,rs:=[],k:=0}]) (T.app.app) (g0 rfl) (by rw[G];lia) (λf C=>by rw[WU.mp C];exact⟨d,d.2.2,b,rfl,Xg _⟩) ⟨Xg _,λ_ z=>(nomatch z)⟩ (show 1<=1000 by decide) (show 1<1000000 by decide);rw[BE rfl];exists bF (by rw[Xo,Xo];exact s _) (by unfold Ci;rw[WA,W3,show sizeLine=16777216 from rfl];lia);nofun;apply⟨?_,_,_,rfl⟩;rw[Z2,hp,Zu,W6];show _=h++Bo h.length ((t.take i).map (ue P (eG P))++[ue P (eG P) p]);unfold Bo;rw[D7,WR,a,Xo,Xo,Xo,Y6 _ _ (WJ _),Zg,YZ];simp only[WR,WW,XZ,yK,a];have F:Ci h.length (i+(0+1))=Ci h.length i++[D.ob (h.length+(3*i+1)+(0+1)+(0+1))]:=by
   unfold Ci;rw[show i+(0+1)=i+1 from rfl,List.range_succ,W6];rfl
  rw[F];rfl
 ·rintro e l ⟨rfl,n,m,rfl⟩;rw[WA,X1];nofun
theorem DI{d:List Row}:∀{rs:List (Nat×Nat)} {k:Nat} {a:List Row} {p:List (Nat×Nat)×Nat},bD d rs.reverse=some a->k<=a.length->pQ d rs k=some p->∃f,bD d p.1.reverse=some f/\p.2<=f.length
 |[],k,a,p,e,g,b=>by
  cases q:a[k]? with
  |none=>rw[qW e q]at b;cases b
  |some r=>rw[fW e q]at b;cases b;exact⟨a,e,g⟩
 |s::rs,k,a,p,e,g,b=>by
  cases q:a[k]? with
  |some r=>rw[fW e q]at b;cases b;exact⟨a,e,g⟩
  |none=>
   have⟨l,r,g1,g2,g3⟩:=nz e;have hl:=(WB.mp g2).1;rw[yc e q g1 g2]at b
   by_cases c:bq r s.2=true
   ·rw[WH c]at b;cases b;exact⟨a,e,g⟩
   ·rw[WM c]at b;exact DI g1 (by split <;> lia) b
theorem Eg{P:Prog}:∀{fs:List bp} {f:bp},en P f->(∀g∈fs,en P g)->FL P (f::fs)->FL P (f7 P fs f)
 |fs,f,⟨d,a,f1,f2,t⟩,b,hf=>by
  have l:f.k<=a.length:=by rw[<-jU f1 f2];exact hf.1
  cases q:pQ (bW P f.aZ) f.rs f.k with
  |some p=>
   rw[fT q];rw[cv f1]at q;have⟨s,o,n⟩:=DI f2 l q;exact⟨by rw[jU (f:={f with rs:=p.1,k:=p.2}) f1 o];exact n,hf.2⟩
  |none=>cases fs with
   |nil=>rw[jo q];trivial
   |cons g m=>
    have⟨r,c,i,h,e⟩:=b g WI;rw[nD q];exact Eg (fs:=m) (f:={g with k:=g.k+1}) ⟨r,c,i,h,e⟩ (λx j=>b x (WG _ j)) hf.pop
theorem Ed{P:Prog}:∀{fs:List bp},(∀g∈fs,en P g)->FL P fs->FL P (gL P fs)
 |[],_,_=>trivial
 |f::fs,h,hf=>Eg (h f WI) (λg a=>h g (WG _ a)) hf
def KW{P:Prog}{f:bp}{r:Row}(st:iI P f)(er:bz P f=some r):f.k<FI P f:=by
 obtain⟨d,d1,⟨b,a,c⟩,e⟩:=st;unfold bz at er;rw[cv d1,a]at er;rw[jU d1 a];exact(WB.mp er).1
def Jw{P:Prog}{f:bp}(st:iI P f)(er:bz P f=none):∃s a,f.rs=s::a/\xq f={f with rs:=a,k:=s.1+1}/\s.1+1<=FI P (xq f):=by
 obtain⟨d,d1,⟨e,h,g⟩,n⟩:=st;unfold bz at er;rw[cv d1,h]at er;rcases g with⟨r,hr⟩ |⟨_,s,a,l,r,c,j,i,m⟩
 ·exact absurd (hr.symm.trans er) (λz=>nomatch z)
 ·have b:xq f={f with rs:=a,k:=s.1+1}:=by unfold xq;rw[c]
  apply⟨s,a,c,b,?_⟩;rw[b,jU (f:={f with rs:=a,k:=s.1+1}) d1 j];exact(WB.mp i).1
def L5{P:Prog}{S:List Hand}{c j:Nat}{f:bp}{fs:List bp}{hd:List (List aq)}(st:iI P f)(b:FL P (f::fs)):FL P (gone P S (f::fs,hd) c j).1:=by
 cases er:bz P f with
 |none=>
  have⟨s,i,p,o,n⟩:=Jw st er;have d:(gone P S (f::fs,hd) c j).1=xq f::fs:=by unfold gone;dsimp only;rw[er]
  rw[d];exact⟨by rw[show(xq f).k=s.1+1 by rw[o]];exact n,b.2⟩
 |some r=>
  have e:=KW st er
  by_cases a:tJ r=true
  ·cases r with
   |call w h=>
    have d:(gone P S (f::fs,hd) c j).1=vE P f j h::f::fs:=by unfold gone;dsimp only;rw[er]
    rw[d];exact⟨Xg _,λg m=>(WV.mp m).elim (λz=>z ▸ e) (b.2 g)⟩
   |_=>cases a
  ·rw[jY er (by simpa using a)];cases fG P S f c r with
   |none=>exact⟨e,b.2⟩
   |some l=>exact⟨Xg _,b.2⟩
structure SL(P:Prog)(n:Nat)(S:List Hand):Prop where
 s:Q7 P n S
 f:∀x∈S,FL P x.1
section
variable {P:Prog} (D:Dr P)
include D
theorem wB{n:Nat}{f:bp}{fs:List bp}{hd:List (List aq)}(g:gQ P n (f::fs,hd)):∃c,P.au[jW P (f::fs,hd)]?=some c/\∀w a,bz P f=some (.call w a)->(qB P (jW P (f::fs,hd))).length<=a.length:=by
 have⟨d,b,_⟩:=g.fr.1;have hp:=D.pos;have hr:sg P (f::fs,hd)=bz P f:=rfl;cases er:bz P f with
 |none=>exact⟨P.au[0],by unfold jW;rw[hr,er];exact WK hp,λ_ _ z=>(nomatch z)⟩
 |some r=>
  have⟨T,B,C⟩:=D.row b (g.nm f WI) er;cases r with
  |call w a=>
   obtain⟨⟨c,e,m,i⟩,l,k⟩:=C w a rfl;have hj:jW P (f::fs,hd)=eG P w:=by unfold jW;rw[hr,er]
   rw[hj];exact⟨c,e,λj h z=>by cases z;rw[jQ e,i];exact WJ _⟩
  |_=>exact⟨P.au[0],by unfold jW;rw[hr,er];exact WK hp,λ_ _ z=>(nomatch z)⟩
theorem SL.step{n:Nat}{S:List Hand}(s:SL P n S)(hn:n<=900){i c:Nat}{f:bp}{fs:List bp}{hd:List (List aq)}(e:S[i]?=some (f::fs,hd))(q:c∈nM P S (f::fs,hd)):
  SL P (n+1) (S.set i (yG P S (f::fs,hd) c))/\(∀g∈(gone P S (f::fs,hd) c (jW P (f::fs,hd))).1,en P g)/\(gone P S (f::fs,hd) c (jW P (f::fs,hd))).1.length<=1000/\FL P (gone P S (f::fs,hd) c (jW P (f::fs,hd))).1:=by
 have hm:=WE e;have b:=s.s.h _ hm;have⟨r,k,d⟩:=wB D b;have⟨p,m,o⟩:=b.next (S:=S) (c:=c) hn d k λ_ _ _=>Qr q;have fl:=L5 (S:=S) (c:=c) (j:=jW P (f::fs,hd)) (hd:=hd) b.fr.1 (s.f _ hm);apply⟨⟨⟨λy a=>?_,by rw[XY];exact s.s.l⟩,λy a=>?_⟩,m,o,fl⟩
 ·rcases ZZ a with z |z
  ·exact(s.s.h y z).up
  ·rw[z];exact p
 ·rcases ZZ a with z |z
  ·exact s.f y z
  ·rw[z];exact Ed m fl
theorem SL.Ww{t:CV}(i:MB P t)(hl:t.length<=10):SL P 0 (t.map (ue P (eG P))):=by
 have hd:∀p∈t,∃d,P.au[eG P p.1]?=some d/\d.1=p.1/\d.2.1.length=p.2.length:=λp hp=>by
  have⟨d,hd,a,f⟩:=i p hp;have⟨j,hj⟩:=XU.mp hd;exact⟨d,by rw[<-a,D.num hj];exact hj,a,f⟩
 have b:∀p∈t,∀g∈[({aZ:=eG P p.1,nums:=p.2,rs:=[],k:=0}:bp)],en P g:=λp hp g e=>by
  have⟨d,a,f,h⟩:=hd p hp;rw[WU.mp e];exact⟨d,d.2.2,a,rfl,Xg _⟩
 apply⟨⟨λx c=>?_,by rw[WA];exact hl⟩,λx c=>?_⟩
 ·have⟨p,hp,rfl⟩:=Xe.mp c;have⟨d,a,f,h⟩:=hd p hp;have fn:∀g∈[({aZ:=eG P p.1,nums:=p.2,rs:=[],k:=0}:bp)],Gz P 0 g:=λg e=>by
   rw[WU.mp e];exact⟨by rw[jQ a,h];exact WJ _,WJ _⟩
  have⟨m,l⟩:=Eb (b p hp);exact⟨m,Ec (b p hp) fn,l,WJ _,(AI (b p hp)).trans rfl⟩
 ·have⟨p,hp,rfl⟩:=Xe.mp c;exact Ed (b p hp) ⟨Xg _,λ_ z=>(nomatch z)⟩
theorem Dr.np{i:Nat}{d:df}(e:P.au[i]?=some d):d.2.1.Nodup:=let⟨_,_,_,ok,o⟩:=D.ex;ok.np _ (WE (o.dd i d e).2.1)
theorem SL.ow{n:Nat}{S:List Hand}(s:SL P n S):V3 P S:=by
 apply⟨by have:=s.s.l;exact WL this {},λi x e=>?_⟩;have a:=s.s.h _ (WE e);apply⟨a.fr.hd,λf fs g=>?_⟩;have c:=a.fr;have b:=a.nm;rw[g]at c b;have⟨d,hd,_⟩:=c.1;have hn:=b f WI;exact⟨⟨d,hd,Dr.np D hd,by have:=hn.nm;rw[jQ hd]at this;exact this⟩,λr er=>(D.row hd hn er).1⟩
end
noncomputable def isIn:Row->Bool
 |.vF _ _ _ _ _=>true
 |.either _ _=>true
 |.again _=>true
 |_=>false
def qJ{P:Prog}{S:List Hand}{f:bp}{d:df}{r:Row}{x:List D}{c:Nat}{h:MH}(N:QX P f d)(j:isIn r=true)(B:VH (bQ P f) r):fu [aC P,Jf f x,aH r,av c] h=some (Kq (fG P S f c r),h):=by
 apply fF ?_;apply bj ?_;cases r with
 |vF s t a b z=>
  rw[aH];nofun;apply⟨true,by ac_nf,tt ?_⟩;exists eI N B.1;exists eI N B.2;nofun;apply⟨_,_,rfl,?_⟩;exists rfl;exists rfl;nofun;show(D.int ((if decide (cW (bQ P f) t<=cW (bQ P f) s)=true then(1:Int)else 0)+(if decide (cW (bQ P f) t<cW (bQ P f) s)=true then(1:Int)else 0)),h)=(av (To (bQ P f) s t),h);unfold To av;congr 2
  by_cases e:cW (bQ P f) s<cW (bQ P f) t
  ·rw[WM (by simp;exact e),WM (by simp;exact ZU e),WH e];rfl
  ·by_cases i:cW (bQ P f) s=cW (bQ P f) t
   ·rw[WH (by simp;lia),WM (by simp;lia),WM e,WH i];rfl
   ·rw[WH (by simp;clear i;lia),WH (by simp;lia),WM e,WM i];rfl
 |either a b=>
  rw[aH];nofun;apply⟨false,by ac_nf,ff ?_⟩;nofun;apply⟨true,by ac_nf,tt ?_⟩;nofun;rfl
 |again a=>
  rw[aH];nofun;apply⟨false,by ac_nf,ff ?_⟩;nofun;apply⟨false,by ac_nf,ff ?_⟩;nofun;apply rv (AQ c 1 _) ⟨_,rfl,λz=>?_,λz=>?_⟩
  ·have g:c=1:=by have:=eq_of_beq z;clear z;lia
   nofun;subst g;rfl
  ·have g:¬c=1:=λq=>by subst q;cases z
   nofun;show(D.bg,h)=(Kq (if c=1 then some 0 else none),h);rw[WM g];rfl
 |_=>cases j
theorem II{m:Nat}:∀fs:List bp,(∀f∈fs,f.rs.length<=m)->DW fs<=fs.length*(m+1)
 |[],_=>Xg _
 |f::fs,h=>by
  have c:=h f WI;have b:=II fs λg a=>h g (WG _ a);rw[jj,WW,Nat.succ_mul]
  lia
abbrev lY:SM:=(ai (aJ 12 (Gd (ao (ag tW Kw (eK .bg))) (aj bH (a1 EO)) (ag aN EO (aj aA (a2 Kw (ki 0))))))
  (ai (b8 (eM bL bu v6 (a1 (aj aA (a3 v10 v11 EO)))))
  (ai (b8 (aj b5 (a2 v1 v6)))
  (aP v9))))
def oW{P:Prog}{h:MH}{lo hi n:Nat}{ts:List D}{gs:List bp}{g:bp}{X ev:D}{o:Option Nat}{v u t s r p j e:Option D}{Q:D×MH->Prop}{b:DS}(m:b=[some (aC P),some (.lv ts),v,u,t,s,some (.ob n),r,p,some ev,some (av g.aZ),some (.tup (g.nums.map D.int)),some X,some (Kq o),j,e])(T:gw P h lo hi ts)(hn:h[n]?=some (.lst (gs.reverse.map dI)))(c:¬(lo<=n/\n<hi))
  (hp:match (generalizing:=false) o with |none=>bH [X] h=some (bX g.rs.reverse g.k,h) |some l=>aN X (.tup [av l,.int 0]) h=some (bX g.rs.reverse g.k,h))
  (ok:∀f∈g::gs,en P f) (fl:FL P (g::gs)) (hl:(g::gs).length<=1000) (hm:DW (g::gs)<1000000) (q:Q (ev,h.set n (.lst ((gL P (g::gs)).reverse.map dI)))):
  Rn (lY b h) (mN Q):=by
 subst m;have w:=(WB.mp hn).1;have d:∀(b:DS),b=[some (aC P),some (.lv ts),v,u,t,s,some (.ob n),r,p,some ev,some (av g.aZ),some (.tup (g.nums.map D.int)),some (bX g.rs.reverse g.k),some (Kq o),j,e]->
   Rn ((ai (b8 (eM bL bu v6 (a1 (aj aA (a3 v10 v11 EO))))) (ai (b8 (aj b5 (a2 v1 v6))) (aP v9))) b h) (mN Q):=by
  rintro b rfl;nofun;apply gp ?_;nofun;apply⟨cf hn,?_⟩;exists bF hn (by rw[WA,X7,show sizeLine=16777216 from rfl];rw[WW]at hl;exact WO hl {});nofun;have A:gs.reverse.map dI++[D.tup [av g.aZ,D.tup (g.nums.map D.int),bX g.rs.reverse g.k]]=(g::gs).reverse.map dI:=by rw[Xv,W6];rfl
  rw[A];apply rv (mj (T.mono λi y x=>WQ (λz=>c (by rw[z];exact⟨y,x⟩))) (cE w) c ok fl hl hm) ?_;rw[Yj];nofun;exact q
 unfold lY;nofun;cases o with
 |none=>
  apply rv (a:=(.bl true,h)) rfl ⟨true,rfl,tt ?_⟩;exists hp;exact d _ rfl
 |some l=>
  apply rv (a:=(.bl false,h)) rfl ⟨false,rfl,ff ?_⟩;exists hp;exact d _ rfl
def DY{a b j:Nat}(i k:Nat)(h:j<a)(c:a<=b):b+3*i+(k+1)≠j:=by lia
def ne3{b i j:Nat}(p q:Nat)(z:¬i=j)(h:0<p/\p<4/\0<q/\q<4):b+3*i+p≠b+3*j+q:=by lia
def IB{c a b:Nat}(i k:Nat)(d:a<=b):¬(c<=b+3*i+k/\b+3*i+k<a):=by lia
def dH.RF{h:MH}{b i:Nat}{S:List Hand}{x:Hand}(W:dH h b S)(e:S[i]?=some x)(fs:List bp):dH (h.set (b+3*i+1) (.lst (fs.reverse.map dI))) b (S.set i (fs,x.2)):=by
 have k:=(WB.mp e).1;have g:=(WB.mp (W.x i x e).1).1;apply⟨?_,λj y f=>?_⟩
 ·rw[WQ (),W.w,XY]
 ·by_cases z:i=j
  ·subst z;rw[Xk k]at f;cases f;have⟨a,c,d⟩:=W.x i x e;exact⟨cE g,by rw[WQ (Xa (XQ _))];exact c,by rw[WQ (by simp)];exact d⟩
  ·rw[WQ z]at f;have⟨a,c,d⟩:=W.x j y f;exact⟨by rw[WQ (ne3 1 1 z {})];exact a,by rw[WQ (ne3 1 2 z {})];exact c,by rw[WQ (ne3 1 3 z {})];exact d⟩
def dH.UY{h:MH}{b i:Nat}{S:List Hand}{x:Hand}(W:dH h b S)(e:S[i]?=some x)(hd:List (List aq)):dH (h.set (b+3*i+2) (.lst (hd.map bZ))) b (S.set i (x.1,hd)):=by
 have k:=(WB.mp e).1;have g:=(WB.mp (W.x i x e).2.1).1;apply⟨?_,λj y f=>?_⟩
 ·rw[WQ (),W.w,XY]
 ·by_cases z:i=j
  ·subst z;rw[Xk k]at f;cases f;have⟨a,c,d⟩:=W.x i x e;exact⟨by rw[WQ (ZF _)];exact a,cE g,by rw[WQ (Xa (XQ _))];exact d⟩
  ·rw[WQ z]at f;have⟨a,c,d⟩:=W.x j y f;exact⟨by rw[WQ (ne3 2 1 z {})];exact a,by rw[WQ (ne3 2 2 z {})];exact c,by rw[WQ (ne3 2 3 z {})];exact d⟩
def dD(h:MH)(b i:Nat)(x:Hand):MH:=(h.set (b+3*i+1) (.lst (x.1.reverse.map dI))).set (b+3*i+2) (.lst (x.2.map bZ))
def dH.put{h:MH}{b i:Nat}{S:List Hand}{x:Hand}(W:dH h b S)(e:S[i]?=some x)(y:Hand):dH (dD h b i y) b (S.set i y):=by
 have a:=(WB.mp e).1;have:=(W.RF e y.1).UY (i:=i) (x:=(y.1,x.2)) (Xk a) y.2;rw[Yj]at this;exact this
def xn{h:MH}{b i:Nat}{S:List Hand}{x:Hand}(W:dH h b S)(e:S[i]?=some x)(fs:List bp):h.set (b+3*i+1) (.lst (fs.reverse.map dI))=dD h b i (fs,x.2):=by
 unfold dD;exact(mm (by rw[WQ (Xa (XQ _))];exact(W.x i x e).2.1)).symm
def EA(n:Nat)(bs:List (List aq)):dh n (bs.map bZ)=true:=by
 have:=Mn n ([],bs);have a:(true&&(dh n (bs.map bZ)&&true))=true:=this
 simpa using a
theorem Cl.dD{h:MH}(C:Cl h)(b i:Nat)(x:Hand):Cl (dD h b i x):=by
 unfold Mi.dD;exact(C.set (o:=.lst (x.1.reverse.map dI)) (y8 _ _)).set (o:=.lst (x.2.map bZ)) (EA _ _)
def rq(h:MH)(b i:Nat)(x:Hand):(dD h b i x).length=h.length:=by unfold dD;rw[XY,XY]
section
variable {P:Prog} {h:MH} {lo hi b n i c:Nat} {ts:List D} {S:List Hand} {f:bp} {fs:List bp} {hd:List (List aq)} (T:gw P h lo hi ts) (hb:hi<=b) (W:dH h b S) (C:Cl h) (e:S[i]?=some (f::fs,hd))
include T hb W C e
theorem tP{r:Row}{ev:D}{X U R Q O N z y:Option D}{s:DS}{a:MH}(er:bz P f=some r)(v:tJ r=false)(H:f.rs.length<=1000)(I:∀n,ev≠.ob n)(L:gu h.length ev=true)
  (F:∀g∈(gone P S (f::fs,hd) c (jW P (f::fs,hd))).1,en P g) (E:(gone P S (f::fs,hd) c (jW P (f::fs,hd))).1.length<=1000) (fl:FL P (gone P S (f::fs,hd) c (jW P (f::fs,hd))).1) (A:DW (gone P S (f::fs,hd) c (jW P (f::fs,hd))).1<1000000)
  (m:s=[some (aC P),some (.lv ts),X,U,R,Q,some (.ob (b+3*i+1)),O,N,some ev,some (av f.aZ),some (.tup (f.nums.map D.int)),some (bX f.rs.reverse f.k),some (Kq (fG P S f c r)),z,y])
  (w:a=dD h b i (fs,(gone P S (f::fs,hd) c (jW P (f::fs,hd))).2)):
  Rn (lY s a) (mN λp=>Rn (leave h p.1 p.2) λp=>p=(ev,dD h b i (yG P S (f::fs,hd) c))):=by
 have t:=(WB.mp (W.x i _ e).1).1;have q:=jY (P:=P) (S:=S) (c:=c) (j:=jW P (f::fs,hd)) (fs:=fs) (hd:=hd) er v;have J:yG P S (f::fs,hd) c=(gL P (gone P S (f::fs,hd) c (jW P (f::fs,hd))).1,(gone P S (f::fs,hd) c (jW P (f::fs,hd))).2):=rfl;have go:∀(o:Option Nat)(g:bp),(gone P S (f::fs,hd) c (jW P (f::fs,hd))).1=g::fs->fG P S f c r=o->g.aZ=f.aZ->g.nums=f.nums->(match (generalizing:=false) o with |none=>bH [bX f.rs.reverse f.k] a=some (bX g.rs.reverse g.k,a) |some l=>aN (bX f.rs.reverse f.k) (.tup [av l,.int 0]) a=some (bX g.rs.reverse g.k,a))->
   Rn (lY s a) (mN λp=>Rn (leave h p.1 p.2) λp=>p=(ev,dD h b i (yG P S (f::fs,hd) c))):=λo g G d g1 g2 hp=>by
  rw[G]at F E fl A;rw[d,<-g1,<-g2]at m;have u:¬(lo<=b+3*i+1/\b+3*i+1<hi):=by lia
  apply oW (P:=P) (g:=g) (gs:=fs) (o:=o) (lo:=lo) (hi:=hi) (n:=b+3*i+1) (ts:=ts) m ?_ ?_ u hp F fl E A ?_
  ·rw[w];unfold dD;exact T.mono λj I a=>by rw[WQ (),WQ ()]
  ·rw[w];unfold dD;rw[WQ (ZF _),cE t]
  ·have M:a.set (b+3*i+1) (.lst ((gL P (g::fs)).reverse.map dI))=dD h b i (yG P S (f::fs,hd) c):=by
    rw[w,J,G];unfold dD;rw[AaI _ _ (ZF _),Yj]
   rw[M];exact rv (lI (rq h b i _) (C.dD b i _) I L) rfl
 cases d:fG P S f c r with
 |none=>
  rw[d]at q;exact go none {f with k:=f.k+1} (by rw[q]) d rfl rfl (gA _ _ _ (by rw[X7];exact H))
 |some l=>
  rw[d]at q;exact go (some l) {f with rs:=(f.k,l)::f.rs,k:=0} (by rw[q]) d rfl rfl (Lv _ _ _ _ H)
end
abbrev IL:SM:=(ai (aJ 15 (aj fx (a3 v0 (aj aA (a2 v10 v11)) v8)))
  (ai (aJ 13 (aj o6 (a1 (yV (ag bx (ag ax v8 (ki 0)) (ks "ask")) (ag iV (aj de (a2 v2 (ag ax Ro (ki 0)))) (eK .bg))))))
  (eS (ao (ag bx Kw (ki 0))) (b8 (eM bL bu v7 (a1 Ro))) bV)))
abbrev JP:SM:=(ai (aJ 14 (aj bw (a1 (fz (cj [none,some 10,some 11,some 0] (fe (ag ax v8 (ki 2))) (gN 0) bI (aj a8 (a3 v3 (aj aA (a2 v1 v2)) v0)))))))
  (ai (b8 (eM bL bu v6 (a1 (aj aA (a3 v10 v11 EO)))))
  (fC (aj aA (a3 (eM bL jT (fz (cj [none] (fe (ag ax v0 (ki 1))) (gN 0) bI (ag ax v0 (ki 0)))) (a1 (ag ax v8 (ki 1)))) Uj (aj aA (a1 (jw dG (ki 1)))))) (gT 3 (ak (gN 10) (ak (gN 11) (ak (gN 12) bE)))))))
abbrev P0:SM:=aJ 13 (aj fu (a4 v0 (aj aA (a2 v10 v11)) v8 v5))
abbrev Oc:SM:=aJ 9 (aj aA (a2 v4 (ag ax v8 (ki 1))))
abbrev Sw:SM:=eS (ao (ag bx (ag ax v8 (ki 0)) (ks "say"))) Oc (eS (ao (ag bx (ag ax v8 (ki 0)) (ks "call"))) JP (eS (ao (ag yS (ag ax v8 (ki 0)) (eK (.tup [.str "within",.str "all",.str "ask"])))) IL P0))
noncomputable def IY:Row->Bool
 |.say _=>true
 |_=>false
def Ob(r:Row)(h:MH):bx (.str (cY r)) (.str "say") h=some (.bl (IY r),h):=by cases r <;> ac_nf
def JL(r:Row)(h:MH):bx (.str (cY r)) (.str "call") h=some (.bl (tJ r),h):=by cases r <;> ac_nf
def KY(r:Row)(h:MH):yS (.str (cY r)) (.tup [.str "within",.str "all",.str "ask"]) h=some (.bl (lS r),h):=by cases r <;> ac_nf
def Pt{r:Row}{a:DS}{h:MH}{Q:Fl×DS×MH->Prop}(p:a[8]?=some (some (aH r)))(n:IY r=true->Rn (Oc a h) Q)(m:tJ r=true->Rn (JP a h) Q)(l:lS r=true->Rn (IL a h) Q)(j:IY r=false->tJ r=false->lS r=false->Rn (P0 a h) Q):Rn (Sw a h) Q:=by
 have q:ag ax v8 (ki 0) a h=some (.str (cY r),h):=by
  apply fF ?_;apply x4 ?_;apply gz p ?_;nofun;exact rv (b9 r h) rfl
 have t:∀{f:D->D->MH->Option (D×MH)} {k:D} {b:Bool} {x y:SM},f (.str (cY r)) k h=some (.bl b,h)->(b=true->Rn (x a h) Q)->(b=false->Rn (y a h) Q)->Rn (eS (ao (ag f (ag ax v8 (ki 0)) (eK k))) x y a h) Q:=λ{f k b x y} o i g=>by
  apply DA (HK (x4 (rv q (Q1 (rv o ⟨b,rfl,i,g⟩)))))
 exact t (Ob r h) n λe=>t (JL r h) m λd=>t (KY r h) l λc=>j e d c
theorem DX{P:Prog}{f:bp}{d:df}{h:MH}(N:QX P f d):∀(a:List Term)(o:Option D),(∀t∈a,cP (bQ P f) t)->aX [] (gN 0) bI (aj a8 (a3 v3 (aj aA (a2 v1 v2)) v0)) (a.map aS) [o,some (av f.aZ),some (.tup (f.nums.map D.int)),some (aC P)] h=some ((a.map (cW (bQ P f))).map D.int,h)
 |[],o,_=>rfl
 |t::a,o,hw=>by
  have b:=DX N (h:=h) a (some (aS t)) (λx c=>hw x (WG _ c));rw[WN];show(a8 [aC P,Jf f [],aS t] h).bind (λy=>(aX [] (gN 0) bI (aj a8 (a3 v3 (aj aA (a2 v1 v2)) v0)) (a.map aS) [some (aS t),some (av f.aZ),some (.tup (f.nums.map D.int)),some (aC P)] y.2).map λz=>(y.1::z.1,z.2))=_;rw[eI N (hw t WI)];show(aX [] (gN 0) bI (aj a8 (a3 v3 (aj aA (a2 v1 v2)) v0)) (a.map aS) [some (aS t),some (av f.aZ),some (.tup (f.nums.map D.int)),some (aC P)] h).map _=_;rw[b];rfl
section
variable {P:Prog} {h:MH} {lo hi b n i c:Nat} {ts:List D} {S:List Hand} {f:bp} {fs:List bp} {hd:List (List aq)} {d:df} {r:Row} (N:QX P f d) (T:gw P h lo hi ts) (hb:hi<=b) (W:dH h b S) (C:Cl h) (e:S[i]?=some (f::fs,hd))
 (er:bz P f=some r) (hf:f.rs.length<=1000)
  (k2:∀g∈(gone P S (f::fs,hd) c (jW P (f::fs,hd))).1,en P g) (k3:(gone P S (f::fs,hd) c (jW P (f::fs,hd))).1.length<=1000) (fl:FL P (gone P S (f::fs,hd) c (jW P (f::fs,hd))).1) (km:DW (gone P S (f::fs,hd) c (jW P (f::fs,hd))).1<1000000)
  {e3:Option D} {δ:DS} {h2:MH}
  (eδ:δ=[some (aC P),some (.lv ts),some (.ob b),e3,some (av i),some (av c),some (.ob (b+3*i+1)),some (.ob (b+3*i+2)),some (aH r),some .bg,some (av f.aZ),some (.tup (f.nums.map D.int)),some (bX f.rs.reverse f.k),some .bg,none,none])
  (eh:h2=h.set (b+3*i+1) (.lst (fs.reverse.map dI)))
include er in
theorem D3(a:tJ r=false)(j:lS r=false):(gone P S (f::fs,hd) c (jW P (f::fs,hd))).2=hd:=by
 rw[jY er a];cases fG P S f c r with
 |none=>rfl
 |some l=>dsimp only;rw[show(nA r||bq r 0)=false from j];rfl
include T hb W C e er hf k2 k3 fl km eδ eh
theorem Jb(a:IY r=true):Rn (Oc δ h2) (i0 lY (mN λp=>Rn (leave h p.1 p.2) λp=>p=(Ni i (some r),dD h b i (yG P S (f::fs,hd) c)))):=by
 cases r with
 |say w=>
  subst eδ;have j:ax (aH (Row.say w)) (.int 1) h2=some (.str w,h2):=by rw[aH];rfl
  apply Rn.imp (Q:=λz=>z=(.nx,[some (aC P),some (.lv ts),some (.ob b),e3,some (av i),some (av c),some (.ob (b+3*i+1)),some (.ob (b+3*i+2)),some (aH (Row.say w)),some (.tup [av i,.str w]),some (av f.aZ),some (.tup (f.nums.map D.int)),some (bX f.rs.reverse f.k),some .bg,none,none],h2)) ?_ ?_
  ·walk_at "g";apply rv j ?_;nofun;rfl
  ·rintro _ rfl;apply tP (c:=c) (ev:=.tup [av i,.str w]) T hb W C e er rfl hf (λn z=>(nomatch z)) rfl k2 k3 fl km rfl ?_;rw[eh,D3 er rfl rfl];exact xn W e fs
 |_=>cases a
include N in
theorem Jd(B:VH (bQ P f) r)(m:IY r=false)(j:tJ r=false)(l:lS r=false):Rn (P0 δ h2) (i0 lY (mN λp=>Rn (leave h p.1 p.2) λp=>p=(Ni i (some r),dD h b i (yG P S (f::fs,hd) c)))):=by
 have a:isIn r=true:=by cases r <;> first |rfl |(cases m;done) |(cases j;done) |(cases l;done)
 have ev:Ni i (some r)=.bg:=by cases r <;> first |rfl |(cases m;done)
 rw[ev];subst eδ;apply Rn.imp (Q:=λz=>z=(.nx,[some (aC P),some (.lv ts),some (.ob b),e3,some (av i),some (av c),some (.ob (b+3*i+1)),some (.ob (b+3*i+2)),some (aH r),some .bg,some (av f.aZ),some (.tup (f.nums.map D.int)),some (bX f.rs.reverse f.k),some (Kq (fG P S f c r)),none,none],h2)) ?_ ?_
 ·exists qJ (S:=S) (x:=[]) N a B;rfl
 ·rintro _ rfl;apply tP (c:=c) (ev:=.bg) T hb W C e er j hf (λn z=>(nomatch z)) rfl k2 k3 fl km rfl ?_;rw[eh,D3 er j l];exact xn W e fs
include N in
theorem FY(w:∀l∈cD r,cP (bQ P f) l.2)(F:(cD r).length<=4)(ht:lS r=true)(hl:hd.length<=1000):Rn (IL δ h2) (i0 lY (mN λp=>Rn (leave h p.1 p.2) λp=>p=(Ni i (some r),dD h b i (yG P S (f::fs,hd) c)))):=by
 have j:tJ r=false:=by cases r <;> first |rfl |(cases ht;done)
 have ev:Ni i (some r)=.bg:=by cases r <;> first |rfl |(cases ht;done)
 have t:h2[b+3*i+2]?=some (.lst (hd.map bZ)):=by rw[eh,WQ (Xa (XQ _))];exact(W.x i _ e).2.1
 have L:dH h2 b (S.set i (fs,hd)):=by rw[eh];exact W.RF e fs
 have E:∀l,cT (S.set i (fs,hd)) l=cT S l:=Ja (I9 (y:=(fs,hd)) e rfl);obtain⟨q,G,H,J⟩:∃q:Bool,(aj o6 (a1 (yV (ag bx (ag ax v8 (ki 0)) (ks "ask")) (ag iV (aj de (a2 v2 (ag ax Ro (ki 0)))) (eK .bg))))) [some (aC P),some (.lv ts),some (.ob b),e3,some (av i),some (av c),some (.ob (b+3*i+1)),some (.ob (b+3*i+2)),some (aH r),some .bg,some (av f.aZ),some (.tup (f.nums.map D.int)),some (bX f.rs.reverse f.k),some .bg,none,some (bZ (lF P f))] h2=some (av (if q then 1 else 0),h2)/\fG P S f c r=some (if q then 1 else 0)/\(gone P S (f::fs,hd) c (jW P (f::fs,hd))).2=if q then hd else hd++[lF P f]:=by
  have u:∀q:Bool,fG P S f c r=some (if q then 1 else 0)->(gone P S (f::fs,hd) c (jW P (f::fs,hd))).2=if q then hd else hd++[lF P f]:=λq z=>by
   rw[jY er j,z];dsimp only;rw[show(nA r||bq r 0)=true from ht];cases q <;> rfl
  have A:(bx (.str (cY r)) (.str "ask") h2=some (.bl false,h2)/\fG P S f c r=some 0)\/∃l a o,r=.ask l a o:=by
   cases r with
   |within l a=>exact .inl ⟨by ac_nf,rfl⟩
   |all l a=>exact .inl ⟨by ac_nf,rfl⟩
   |ask l a o=>exact .inr ⟨_,_,_,rfl⟩
   |_=>cases ht
  rcases A with⟨v,s⟩ |⟨l,a,o,rfl⟩
  ·apply⟨false,?_,s,u false s⟩;apply fF ?_;walk_at "g";apply rv (b9 _ _) ?_;walk_at "g";apply rv v ⟨false,rfl,ff ?_⟩;nofun;exact rv rfl rfl
  ·apply⟨(lF P f).any (cT S),?_,rfl,u _ rfl⟩;have I:=LJ er;apply fF ?_;walk_at "g";apply rv (b9 _ _) ?_;walk_at "g";apply rv (a:=(.bl true,h2)) (by ac_nf) ⟨true,rfl,tt ?_⟩;rw[I];walk_at "g";apply rv (a:=(dQ (l.1,cW (bQ P f) l.2),h2)) rfl ?_;walk_at "g";apply rv (kU L) ?_;walk_at "g";have m:=E (l.1,cW (bQ P f) l.2);unfold cT at m;rw[Yw,List.any_nil,AaK];unfold cT;rw[<-m];cases(S.set i (fs,hd)).findIdx? (nB (l.1,cW (bQ P f) l.2))with
   |none=>
    apply rv rfl ?_;nofun;exact rv rfl rfl
   |some k=>
    apply rv rfl ?_;nofun;exact rv rfl rfl
 rw[ev];subst eδ;apply Rn.imp (Q:=λz=>z=(.nx,[some (aC P),some (.lv ts),some (.ob b),e3,some (av i),some (av c),some (.ob (b+3*i+1)),some (.ob (b+3*i+2)),some (aH r),some .bg,some (av f.aZ),some (.tup (f.nums.map D.int)),some (bX f.rs.reverse f.k),some (av (if q then 1 else 0)),none,some (bZ (lF P f))],if q then h2 else h2.set (b+3*i+2) (.lst (hd.map bZ++[bZ (lF P f)])))) ?_ ?_
 ·exists kT (x:=[]) N er ht w F;apply By (jb ?_);apply HD (rv G ?_);apply By ?_;cases q with
  |true=>
   walk_at "g";apply rv (a:=(.bl false,h2)) rfl ⟨false,rfl,ff ?_⟩;walk_at "g";rfl
  |false=>
   walk_at "g";apply rv (a:=(.bl true,h2)) rfl ⟨true,rfl,tt ?_⟩;walk_at "g";apply gp ?_;walk_at "g";apply⟨cf t,?_⟩;walk_at "g";apply rv (bF t (by rw[WA,show sizeLine=16777216 from rfl];exact Xj hl {})) ?_;walk_at "g";rfl
 ·rintro _ rfl;apply tP (c:=c) (ev:=.bg) T hb W C e er j hf (λn z=>(nomatch z)) rfl k2 k3 fl km (by rw[H];rfl) ?_;rw[eh,J];cases q with
  |true=>exact xn W e fs
  |false=>
   unfold dD;dsimp only;rw[WM {},WM {},W6];rfl
include N in
theorem FZ{w:Str}{tt:List Term}{s:df}(H:r=.call w tt)(y:∀t∈tt,cP (bQ P f) t)(F:tt.length<=3)(hj:P.au[eG P w]?=some s)(m:s.1=w)(E:P.au.length<=6)(q:fs.length<=1000):Rn (JP δ h2) (i0 lY (mN λp=>Rn (leave h p.1 p.2) λp=>p=(Ni i (some r),dD h b i (yG P S (f::fs,hd) c)))):=by
 subst H;have k:=(WB.mp (W.x i _ e).1).1;have A:jW P (f::fs,hd)=eG P w:=by unfold jW;rw[show sg P (f::fs,hd)=bz P f from rfl,er]
 have v:gone P S (f::fs,hd) c (jW P (f::fs,hd))=(vE P f (eG P w) tt::f::fs,hd):=by rw[A];unfold gone;dsimp only;rw[er]
 rw[v]at k2 k3 fl km;have u:h2[b+3*i+1]?=some (.lst (fs.reverse.map dI)):=by rw[eh,cE k]
 have l:¬(lo<=b+3*i+1/\b+3*i+1<hi):=IB i 1 hb;rw[aH]at eδ;subst eδ;apply Rn.imp (Q:=λz=>z=(.nx,[some (aC P),some (.lv ts),some (.ob b),e3,some (av i),some (av c),some (.ob (b+3*i+1)),some (.ob (b+3*i+2)),some (.tup [.str "call",.str w,.tup (tt.map aS)]),some .bg,some (av (vE P f (eG P w) tt).aZ),some (.tup ((vE P f (eG P w) tt).nums.map D.int)),some (.tup [.int (-1)]),some (Kq none),some (.tup ((vE P f (eG P w) tt).nums.map D.int)),none],h2.set (b+3*i+1) (.lst (fs.reverse.map dI++[dI f])))) ?_ ?_
 ·nofun;apply rv (a:=(tt.map aS,[],h2)) rfl ?_;apply rv (DX N tt none y) ⟨by rw[WA,WA,show sizeLine=16777216 from rfl];exact WL F {},?_⟩;exists rfl;nofun;apply gp ?_;nofun;apply⟨cf u,?_⟩;exists bF u (by rw[WA,X7,show sizeLine=16777216 from rfl];exact Xj q {});nofun;apply gp ?_;unfold aC;nofun;apply rv (a:=(P.au.map eu,[],_)) rfl ?_;apply rv (pb P.au none) ⟨by dsimp only;rw[WA,WA,show sizeLine=16777216 from rfl];exact WL E {},?_⟩;nofun;apply⟨rfl,?_⟩;exists p9 (Xe.mpr ⟨s,WE hj,m⟩);nofun;rfl
 ·rintro _ rfl;have I:h2.set (b+3*i+1) (.lst (fs.reverse.map dI++[dI f]))=h.set (b+3*i+1) (.lst ((f::fs).reverse.map dI)):=by rw[eh,Yj,Xv,W6];rfl
  rw[I];apply oW (P:=P) (g:=vE P f (eG P w) tt) (gs:=f::fs) (o:=none) (lo:=lo) (hi:=hi) (n:=b+3*i+1) (ts:=ts) (X:=.tup [.int (-1)]) (ev:=.bg) rfl (T.mono λj J h2=>WQ (DY i 0 h2 hb)) (by rw[cE k]) l (by ac_nf) k2 fl k3 km ?_;rw[Yj];have G:h.set (b+3*i+1) (.lst ((gL P (vE P f (eG P w) tt::f::fs)).reverse.map dI))=dD h b i (yG P S (f::fs,hd) c):=by
   unfold yG;rw[v];exact xn W e _
  rw[G];exact rv (lI (rq h b i _) (C.dD b i _) (λn z=>(nomatch z)) rfl) rfl
include N in
theorem Jc{m:Nat}(o:Dr P)(a:gQ P m (f::fs,hd))(hm:m<=100)(s:∀l∈cD r,cP (bQ P f) l.2)(q:(cD r).length<=4):Rn (Sw δ h2) (i0 lY (mN λp=>Rn (leave h p.1 p.2) λp=>p=(Ni i (some r),dD h b i (yG P S (f::fs,hd) c)))):=by
 have⟨_,B,A⟩:=o.row N.e (a.nm f WI) er;have z:=o.six;have k:fs.length<=1000:=by have:=a.fl;dsimp only at this;rw[WW]at this;lia
 have j:hd.length<=1000:=by have:=a.hl;dsimp only at this;lia
 apply Pt (r:=r) (by rw[eδ];rfl) (Jb T hb W C e er hf k2 k3 fl km eδ eh) ?_ (λht=>FY N T hb W C e er hf k2 k3 fl km eδ eh s q ht j) (Jd N T hb W C e er hf k2 k3 fl km eδ eh B);intro y;cases r with
 |call w tt=>
  obtain⟨⟨F,x,v,E⟩,u,t⟩:=A w tt rfl;exact FZ N T hb W C e er hf k2 k3 fl km eδ eh rfl t u x v z k
 |_=>cases y
end
set_option maxHeartbeats 400000 in
def vp{P:Prog}{h:MH}{lo hi b n i c:Nat}{ts:List D}{S:List Hand}{f:bp}{fs:List bp}{hd:List (List aq)}(H:Dr P)(T:gw P h lo hi ts)(E:hi<=b)(W:dH h b S)(s:SL P n S)(hn:n<=100)(C:Cl h)(e:S[i]?=some (f::fs,hd))(cm:c∈nM P S (f::fs,hd)):
  jG [aC P,.lv ts,.ob b,qH (i,c)] h=some (Ni i (sg P (f::fs,hd)),dD h b i (yG P S (f::fs,hd) c)):=by
 have l:=s.s.h _ (WE e);have a:=l.fr.1;have⟨s1,O,M,fl⟩:=s.step H (WL hn {}) e cm;have⟨dj,hdj,A⟩:=wB H l;have kp:=(lK (S:=S) (c:=c) a l.nm l.ct A).1;have L:DW (gone P S (f::fs,hd) c (jW P (f::fs,hd))).1<1000000:=by
  have F:=II _ λg hg=>(kp g hg).rs;have u:=(lK (S:=S) (c:=c) a l.nm l.ct A).2.1;have Z:=l.fl;dsimp only at Z;rw[WW]at Z;have h4:(gone P S (f::fs,hd) c (jW P (f::fs,hd))).1.length<=102:=by lia
  exact Xj (WL F (Abf h4 (show n+1+1<=102 by lia))) {}
 have⟨G,Y,x3⟩:=W.x i _ e;have⟨i1,i2⟩:=W.at_ e;have⟨_,hT⟩:=(s.ow H).fr i _ e;obtain⟨⟨d,N⟩,RT⟩:=hT f fs rfl;have J:=(WB.mp G).1;have nl2:=(WB.mp Y).1;have Q:¬(lo<=b+3*i+1/\b+3*i+1<hi):=IB i 1 E;have I:h[b+3*i+1]?=some (.lst (fs.reverse.map dI++[dI f])):=by rw[G,Xv,W6];rfl
 have q:f.rs.length<=1000:=let⟨_,_,_,_,z⟩:=a.ok;z;apply fF ?_;apply sP ?_;unfold qH;exists i1;nofun;apply HG (yB x3) rfl ?_;exists f6 (hd:=hd) T G l.fr.hd;nofun;apply⟨_,_,rfl,?_⟩;nofun;apply gp ?_;nofun;apply⟨cf G,?_⟩;exists jS I;rw[gB f];exists yF _ _;have hr:sg P (f::fs,hd)=bz P f:=rfl;rw[hr];have T1:∀o,gw P (h.set (b+3*i+1) o) lo hi ts:=λo=>T.mono λj F u=>WQ (DY i 0 u E);have R:∀{ev:D} {y:Hand},(∀n,ev≠.ob n)->gu h.length ev=true->leave h ev (dD h b i y)=some (ev,dD h b i y):=λ{ev y} F u=>lI (rq h b i y) (C.dD b i y) F u;cases er:bz P f with
 |none=>
  apply⟨true,rfl,tt ?_⟩;have t:=l.ct;dsimp only at t;rw[eA,(Eu a er).1]at t;have p:hd≠[]:=by
   rintro rfl;rw[XZ]at t
   lia
  have⟨w,m,e1,e2,e3⟩:=Jw a er;have eh:hd=hd.dropLast++[hd.getLast p]:=(Aa9 p).symm;have U:gone P S (f::fs,hd) c (jW P (f::fs,hd))=(xq f::fs,hd.dropLast):=by unfold gone;dsimp only;rw[er]
  rw[e2]at U;rw[U]at O M fl L;have v:(h.set (b+3*i+1) (.lst (fs.reverse.map dI)))[b+3*i+2]?=some (.lst (hd.dropLast.map bZ++[bZ (hd.getLast p)])):=by
   rw[WQ (Xa (XQ _)),Y];dsimp only
   conv=>lhs;rw[eh]
   rw[W6];rfl
  nofun;apply gp ?_;nofun;apply⟨cf v,?_⟩;exists jS v;nofun;rw[e1,Xv];apply⟨_,rfl,rv (jP m.reverse w.1 w.2 f.k _) ?_⟩;apply By ?_;apply oW (P:=P) (g:={f with rs:=m,k:=w.1+1}) (gs:=fs) (o:=none) (lo:=lo) (hi:=hi) (n:=b+3*i+1) (ts:=ts) (X:=bX m.reverse w.1) (ev:=.bg) rfl (T.mono λj F u=>by rw[WQ (DY i 1 u E),WQ (DY i 0 u E)]) (by rw[WQ (ZF _),cE J]) Q ?_ O fl M L ?_
  ·exact gA _ _ _ (by rw[X7];rw[e1,WW]at q;exact XN q)
  ·have ew:((h.set (b+3*i+1) (.lst (fs.reverse.map dI))).set (b+3*i+2) (.lst (hd.dropLast.map bZ))).set (b+3*i+1) (.lst ((gL P ({f with rs:=m,k:=w.1+1}::fs)).reverse.map dI))=dD h b i (yG P S (f::fs,hd) c):=by
    unfold dD yG;rw[U,AaI _ _ (),Yj]
   rw[ew];exact rv (R (λn z=>(nomatch z)) rfl) rfl
 |some r=>
  apply⟨false,rfl,ff ?_⟩;have⟨_,t1,t2⟩:=RT r er;exact Jc (e3:=some (.tup [av i,av c])) N T E W C e er q O M fl L rfl rfl H l () t1 t2
def F9{h:MH}{m:Nat}{c:List D}(hd:lT m c)(hm:m<=60):bx (.lv c) (.lv []) h=some (.bl c.isEmpty,h):=by
 have⟨d,e,i,_⟩:=hd;unfold bx Ju;show(Er (.lv c) (.lv []) h).map _=_;unfold Er;have hr:uZ h (.lv c)=some (.list d):=by show(gX c).map PyData.list=_;rw[e];rfl
 rw[hr];show((if(PyData.list d).depth<=64/\(PyData.list []).depth<=64 then some (PyData.eqv (.list d) (.list []))else none).map _)=_;rw[WH ⟨by rw[PyData.depth];lia,by simp[PyData.depth,PyData.depthAll]⟩];cases c with
 |nil=>cases e;rfl
 |cons x c=>
  have⟨p,_,f⟩:=bc (show(je x).bind (λa=>(gX c).map λb=>a::b)=some d from e);have⟨g,_,rfl⟩:=dX f;rfl
def St.as{s c R:Nat}{cs:List Int}{h a:MH}(S:St s c cs R h)(d:a[s]?=h[s]?)(b:a[c]?=h[c]?):St s c cs R a:=by
 have⟨n,t,e,r⟩:=S.st;exact⟨⟨n,t,d.trans e,r⟩,b.trans S.ce,S.ne⟩
def dH.as{h a:MH}{b:Nat}{S:List Hand}(W:dH h b S)(k:∀i,b<=i->a[i]?=h[i]?):dH a b S:=
 ⟨(k _ (WJ _)).trans W.w,λi x e=>let⟨a1,a2,a3⟩:=W.x i x e;⟨(k _ ()).trans a1,(k _ ()).trans a2,(k _ ()).trans a3⟩⟩
theorem SL.up{P:Prog}{n m:Nat}{S:List Hand}(s:SL P n S)(h:n<=m):SL P m S:=by
 induction h with
 |refl=>exact s
 |step _ a=>exact⟨⟨λx b=>(a.s.h x b).up,a.s.l⟩,a.f⟩
def DV{P:Prog}{n:Nat}{S:List Hand}(s:Q7 P n S):((FD P S).map qH).length<=20:=by
 rw[WA];have:=yt P S S.length;have:=s.l;unfold FD
 lia
def xo{h:MH}{b j:Nat}(i:Nat)(x:Hand)(k:j<=b):(dD h b i x)[j]?=h[j]?:=by
 unfold dD;rw[WQ (),WQ ()]
structure WS(P:Prog)(lo hi b s c:Nat)(cs:List Int)(ts:List D)(n R:Nat)(S:List Hand)(h:MH):Prop where
 l:SL P n S
 T:gw P h lo hi ts
 W:dH h b S
 S:St s c cs R h
 C:Cl h
section
variable {P:Prog} {lo hi b s c n m R:Nat} {cs:List Int} {ts:List D} {S:List Hand} {h:MH} (dr:Dr P) (hs:s<lo) (hc:c<lo) (hh:lo<=hi) (hb:hi<=b)
include dr hs hc hh hb
theorem Qt{Q:D×MH->Prop}(A:WS P lo hi b s c cs ts n (R+m) S h)(hn:n+m<=100)(k:∀d e,WS P lo hi b s c cs ts (n+m) R d e->Q (.ob b,e)):Rn (jC [.ob s,aC P,.lv ts,.ob b,.int m] h) Q:=by
 apply bj ?_;nofun;apply eZ ?_;nofun;apply⟨(m:Int),rfl,by simp,by lia,?_⟩;apply cO (λi u e=>∃(d:List Hand)(v5 v6:Option D),u=[some (.ob s),some (aC P),some (.lv ts),some (.ob b),some (.int m),v5,v6]/\WS P lo hi b s c cs ts (n+i) (R+m-i) d e) ⟨S,_,_,rfl,A⟩ (λ_ _ _ _ _=>rfl) ?_ ?_
 ·rintro i x u e L ⟨d,v5,v6,rfl,B⟩;have w:i<m:=by
   have:=(WB.mp L).1;rw[WA,W3]at this;exact this
  exists jm B.T B.W (B.l.ow dr);nofun;apply rv (F9 (m:=1) (lT.map λp _=>Dp.tup (lT.cons (Dp.int _) (lT.cons (Dp.int _) lT.nil))) {}) ⟨_,rfl,λz=>?_,λz=>?_⟩
  ·nofun;exact k d e ⟨B.l.up (),B.T,B.W,B.S.le (),B.C⟩
  ·have o:0<((FD P d).map qH).length:=by
    cases q:(FD P d).map qH with
    |nil=>rw[q]at z;cases z
    |cons _ _=>exact YH _
   have v:=DV B.l.s;nofun;apply Gr (R:=R+m-(i+1)) ((B.S.le (G0 (Zo R w))).sb) (.inl rfl) o (WL v {}) λd1 E y r=>?_;have⟨a,M,rfl⟩:=Xe.mp y;obtain⟨⟨fs,hd⟩,ex,F⟩:=LC.mp M;cases fs with
   |nil=>cases F
   |cons f fs=>
    have g:s<b:=WO hs (WL hh hb);have I:gw P E lo hi ts:=B.T.mono λj t G=>r.b.2 j (YI (WO hs t));have H:dH E b d:=B.W.as λj t=>r.b.2 j (YI (WO g t));have J:Cl E:=B.C.but r.S r.b;exists vp dr I hb H B.l () J ex F;nofun;apply⟨_,_,_,rfl,(B.l.step dr () ex F).1,?_,H.put ex _,?_,J.dD _ _ _⟩
    ·exact I.mono λj t G=>xo _ _ (WL (XN G) hb)
    ·exact r.S.as (xo _ _ (XN g)) (xo _ _ (XN (WO hc (WL hh hb))))
 ·rintro u e ⟨d,v5,v6,rfl,B⟩;rw[WA,W3,Xd]at B;nofun;exact k d e ⟨B.l,B.T,B.W,B.S.le (by simp),B.C⟩
end
end Mi
namespace Pg
open PySem Sm L2
def plain:Nat->D->Prop
 | 0,_=>False
 |n+1,.tup xs=>xs.length<=100000/\∀x∈xs,plain n x
 |_+1,.str _=>True
 |_+1,.int _=>True
 |_+1,.bg=>True
 |_+1,_=>False
theorem Ae:∀{n m:Nat} {d:D},plain n d->n<=m->plain m d
 | 0,_,_,h,_=>h.elim
 |n+1,0,_,_,hm=>absurd hm ()
 |n+1,m+1,.tup xs,h,hm=>⟨h.1,λx a=>Ae (h.2 x a) (XS hm)⟩
 |n+1,m+1,.str _,h,hm=>trivial
 |n+1,m+1,.int _,h,hm=>trivial
 |n+1,m+1,.bg,h,hm=>trivial
 |n+1,m+1,.bl _,h,hm=>h.elim
 |n+1,m+1,.lv _,h,hm=>h.elim
 |n+1,m+1,.ro _,h,hm=>h.elim
 |n+1,m+1,.dv _,h,hm=>h.elim
 |n+1,m+1,.ob _,h,hm=>h.elim
 |n+1,m+1,.ty _,h,hm=>h.elim
def Fq{b:Type}{n:Nat}{f:b->D}{a:List b}(hl:a.length<=100000)(h:∀x∈a,plain n (f x)):plain (n+1) (.tup (a.map f)):=
 ⟨by rw[WA];exact hl,λy c=>by have⟨x,d,rfl⟩:=Xe.mp c;exact h x d⟩
end Pg
namespace Mi
open PySem Sm L2 Pg
theorem vH:∀a:List D,oq a a=a.map λx=>.tup [x,x]
 |[]=>rfl
 |x::r=>by rw[WN,<-vH r];rfl
theorem Be{b:Type}:∀a:List b,vG (a.map λ_=>D.bl true)=some (a.map λ_=>true)
 |[]=>rfl
 |x::r=>by rw[WN];show(vG (r.map _)).map _=_;rw[Be r];rfl
def Jo{b:Type}(a:List b)(h:MH):Qa [.lv (a.map λ_=>D.bl true)] h=some (.bl true,h):=by
 show(vG (a.map λ_=>D.bl true)).map _=_;rw[Be];simp
theorem same_refl:∀(n:Nat)(d:D)(h:MH),plain n d->dc n [d,d] h=some (.bl true,h)
 | 0,_,_,hp=>hp.elim
 |n+1,d,h,hp=>by
  have e:Rn (dc (n+1) [d,d] h) λp=>p=(.bl true,h):=by
   unfold dc;apply bj ?_;cases d with
   |tup xs=>
    nofun;apply rv rfl ⟨true,rfl,λ_=>?_,λz=>(nomatch z)⟩;nofun;apply rv rfl ⟨true,rfl,λz=>(nomatch z),λ_=>?_⟩;nofun;apply⟨false,by simp,λz=>(nomatch z),λ_=>?_⟩;nofun;apply OD ?_;nofun;apply⟨_,_,_,_,_,_,rfl,rfl,rfl,?_⟩;rw[vH];apply rv (Mj rfl (λx=>.tup [x,x]) (λ_=>.bl true) (λc=>∃a b,c=[a,b]) xs ⟨_,_,rfl⟩ ?_) ⟨?_,?_⟩
    ·rintro x f c ⟨a,b,rfl⟩;nofun;apply⟨rfl,⟨_,_,rfl⟩,?_⟩;nofun;exact rv (same_refl n x h (hp.2 x f)) rfl
    ·dsimp only;rw[WA,show sizeLine=16777216 from rfl];have:=hp.1;exact WL this {}
    ·exists Jo xs h;nofun
   |str x=>
    nofun;apply rv rfl ⟨false,rfl,λz=>(nomatch z),λ_=>?_⟩;nofun;apply rv rfl ⟨false,rfl,λz=>(nomatch z),λ_=>?_⟩;nofun;apply rv rfl ⟨true,rfl,λ_=>?_,λz=>(nomatch z)⟩;nofun;apply rv rfl ⟨true,rfl,λ_=>?_,λz=>(nomatch z)⟩;nofun;simp
   |int x=>
    nofun;apply rv rfl ⟨false,rfl,λz=>(nomatch z),λ_=>?_⟩;nofun;apply rv rfl ⟨false,rfl,λz=>(nomatch z),λ_=>?_⟩;nofun;apply rv rfl ⟨false,rfl,λz=>(nomatch z),λ_=>?_⟩;nofun;apply rv rfl ⟨true,rfl,λ_=>?_,λz=>(nomatch z)⟩;nofun;apply rv rfl ⟨false,rfl,⟨_,rfl,λ_=>?_,λz=>(nomatch z)⟩⟩;nofun;simp
   |bg=>
    nofun;apply rv rfl ⟨false,rfl,λz=>(nomatch z),λ_=>?_⟩;nofun;apply rv rfl ⟨true,rfl,λ_=>?_,λz=>(nomatch z)⟩;nofun;exact rv rfl rfl
   |bl _=>exact hp.elim
   |lv _=>exact hp.elim
   |ro _=>exact hp.elim
   |dv _=>exact hp.elim
   |ob _=>exact hp.elim
   |ty _=>exact hp.elim
  have⟨p,g,rfl⟩:=e;exact g
def Wy(cs:List Int):Cl [.lst (cs.map D.int),.lst [.int 0,.ob 0,.int 0]]:=by
 intro o a;rcases WV.mp a with rfl |a
 ·exact iD _ D.int (λ_=>rfl) _
 ·rw[WU.mp a];rfl
theorem Nm{n b:Nat}:∀(i:Nat)(S:List Hand),b+3*(i+S.length)<n->∀o∈hG b i S,zt n o=true
 |_,[],_,o,a=>(nomatch a)
 |i,x::S,hn,o,a=>by
  rw[WW]at hn;have a:o∈Nc b i x++hG b (i+1) S:=a;rcases Xw.mp a with z |z
  ·rcases WV.mp z with rfl |z
   ·exact y8 _ _
   ·rcases WV.mp z with rfl |z
    ·exact EA _ _
    ·rw[WU.mp z];show(decide (b+3*i+1<n)&&(decide (b+3*i+2<n)&&true))=true;rw[Xf (),Xf ()];rfl
  ·exact Nm (i+1) S () o z
def Cl.wd{h:MH}(C:Cl h)(S:List Hand):Cl (h++Bo h.length S):=by
 have hl:(h++Bo h.length S).length=h.length+(3*S.length+1):=by rw[WR];unfold Bo;rw[WW,yK]
 intro o c;rw[hl];rcases Xw.mp c with z |z
 ·exact JG (by simp) o (C o z)
 ·rcases WV.mp z with rfl |z
  ·have:∀l:List Nat,(∀i∈l,i<S.length)->dh (h.length+(3*S.length+1)) (l.map λi=>.ob (h.length+3*i+3))=true:=λl=>by
    induction l with
    |nil=>exactλ_=>rfl
    |cons i l b=>
     intro a;have d:=a i WI;rw[WN];show(decide (h.length+3*i+3<_)&&dh _ _)=true;rw[Xf (),b λj hj=>a j (WG _ hj)];rfl
   exact this _ λi a=>XM.mp a
  ·exact Nm 0 S (by simp) o z
def Fp{P:Prog}{n:Nat}{S:List Hand}(s:Q7 P n S):plain 8 (.tup ((FD P S).map qH)):=
 Ae (Fq (n:=2) (by have:=DV s;rw[WA]at this;exact WL this {}) λm _=>⟨by show 2<=100000;decide,λx a=>by
  rcases WV.mp a with rfl |a
  ·trivial
  ·rw[WU.mp a];trivial⟩) {}
def law_true(ns:List Int)(hn:ns.length<=63):∃u,Bn [.ro (ns.map D.int)] []=some (.bl true,u):=by
 have e:Rn (Bn [.ro (ns.map D.int)] []) λp=>p.1=.bl true:=by
  have⟨cs,ed,S0⟩:=CF ns hn 90000 {};apply bj ?_;exists ed;nofun;apply eZ ?_;nofun;apply rv (a:=(.int (ns.length:Int),_)) (by show some (D.int ((ns.map D.int).length:Int),_)=_;rw[WA]) ?_;exists Ej _ _ _;exists j6 _ _ _;nofun;apply⟨_,rfl,XX {} (Int.le_max_left 2 _),YN (Int.max_le.mpr ⟨(by decide:(2:Int)<=6),Int.min_le_left _ _⟩) {},?_⟩;apply cO (λi v h=>∃(v2 v3 v4 v5 v6 v7 v8 v9:Option D),v=[some (.ro (ns.map D.int)),some (.ob 1),v2,v3,v4,v5,v6,v7,v8,v9]/\St 1 0 cs (90000-10000*i) h/\Cl h)
   ⟨_,_,_,_,_,_,_,_,rfl,S0,Wy cs⟩ (λ_ _ _ _ _=>rfl) ?_ ?_
  ·rintro i x v h hx ⟨v2,v3,v4,v5,v6,v7,v8,v9,rfl,S,C⟩;have hi:i<6:=by
    have:=(WB.mp hx).1;rw[WA,W3]at this;clear S;lia
   nofun;apply jx (R:=90000-10000*(i+1)+9000) (is:=[6,15,25,40]) (λi=>0<=i/\i<=40) {} ((S.le ((by decide:∀i<6,90000-10000*(i+1)+9000+1<=90000-10000*i) i hi)).sb) λq h1 hm _ A1=>?_;nofun;apply jx (R:=90000-10000*(i+1)+8000) (is:=[0,4,12]) (λi=>0<=i/\i<=12) {} (A1.le ()) λodd h2 X _ J=>?_;nofun;have⟨q,rfl⟩:=YC hm.1;have F:q<=40:=by exact Int.ofNat_le.mp hm.2
   apply Gq (R:=90000-10000*(i+1)+1000) (J.le ()) (C.but J.S J.b) X.1 (XX X.2 {}) λW fl P h3 ok o A3 C3=>?_;have w:Dr P:=⟨W,fl,odd,ok,o.nm,o.dl,o.dd,WL o.ct (WL F {})⟩;clear ok o;nofun;apply Qu (R:=90000-10000*(i+1)+900) w (A3.le ()) C3 {} {} λt c N M A4 C4=>?_;nofun;have G:=w.fit;have⟨_,et,L,g,rfl,T,tsl,C5⟩:=zB (P:=P) (h:=c) (λd hd=>⟨WL (G.nd d hd) {},WL (Di hd) G.ct⟩) G.dl C4;apply rv et ?_;nofun;have Y:(c++g).length=c.length+g.length:=WR;apply rv (tG w T (by rw[Y];exact WJ _) N (WL M {})) ?_;have O:=SL.Ww w N (WL M {});generalize t.map (ue P (eG P))=f at O;have Z:=(A4.S.more g).more (Bo (c++g).length f);have I:=T.app (g:=Bo (c++g).length f);have H:=dH.new (c++g) f;have C6:=C5.wd f;have⟨l1,E⟩:=A4.S.lt;have y:c.length+g.length<=(c++g).length:=by rw[Y];exact WJ _
   generalize (c++g)++Bo (c++g).length f=h5 at Z I H C6;generalize (c++g).length=b at I H y;nofun;apply eZ ?_;nofun;apply dZ (R:=90000-10000*(i+1)+800) ((Z.le ()).sb) {} {} λr h6 r0 r1 A=>?_;nofun;apply⟨1+r,rfl,by lia,by lia,?_⟩;apply cO (λj v u=>∃(S:List Hand)(v7 v8 v9:Option D),v=[some (.ro (ns.map D.int)),some (.ob 1),some x,some (aC P),some (Ul t),some (.lv L),some (.ob b),v7,v8,v9]/\WS P c.length (c.length+g.length) b 1 0 cs L j (90000-10000*(i+1)+800-j) S u)
    ⟨f,_,_,_,rfl,O,I.mono λk k1 k2=>A.b.2 k (by clear E;lia),H.as λk k1=>A.b.2 k (by clear E;lia),A.S,C6.but A.S A.b⟩ (λ_ _ _ _ _=>rfl) ?_ ?_
   ·rintro j z v u U ⟨S,w7,w8,w9,rfl,B⟩;have hj:j<41:=by
     have:=(WB.mp U).1;rw[WA,W3]at this;clear U;lia
    have Q:=λh=>B.l.s.moves w () h;have hS:=B.l.s.l;exists jm B.T B.W (B.l.ow w);nofun;apply rv (a:=(.tup ((FD P S).map qH),u)) rfl ?_;exists tF B.W (WL hS {});exists Q _;nofun;apply rv (same_refl 8 _ _ (Fp B.l.s)) ⟨true,rfl,ff ?_⟩;exists Q _;nofun;apply rv (F3 ((Dp.tup (lT.map λp _=>Dp.tup (n:=0) (lT.cons (Dp.int _) (lT.cons (Dp.int _) lT.nil)))).up {})) ⟨false,rfl,ff ?_⟩;nofun;apply Qt (m:=1) (R:=90000-10000*(i+1)+800-(j+1)) w l1 E (Xh _ _) y ⟨B.l,B.T,B.W,B.S.le (G0 (Zo _ (WO hj {}))),B.C⟩ () λS' h7 B'=>?_;nofun;exact⟨_,_,_,_,rfl,B'⟩
   ·rintro v u ⟨S,w7,w8,w9,rfl,B⟩;rw[WA,W3]at B;exact⟨_,_,_,_,_,_,_,_,rfl,B.S.le (),B.C⟩
  ·rintro v h ⟨v2,v3,v4,v5,v6,v7,v8,v9,rfl,S,C⟩;nofun
 obtain⟨⟨_,u⟩,e1,rfl⟩:=e;exact⟨u,e1⟩
end Mi
open PySem PySem.W PyProof.Rows
def Mi.Vv:defOf Mi.view "law"=some (Hd.sN "law" Mi.mx,[]):=by ac_nf
def Mi.hp:PySem.Program.theDef Mi.pw "law"=some (L2.nI Mi.mx,L2.gD Mi.mx,L2.ah Mi.mx):=by ac_nf
theorem PySem.Challenge.cw_neverstuck_k18_moves_that_can_be_holds : PySem.Challenge.rw_neverstuck_k18_moves_that_can_be.Holds := by
 apply holds_law Mi.Od λOd=>?_;apply PySem.W.holds_open (q:=Mi.view) (loose:=["SHAPES"]) (Xt:=Mi.Xt) (XP:=XL Mi.view []) (Yf:=Mi.Yf) (Ya:=Mi.ya) (YP:=λw h=>Hd.tabAt h "SHAPES"=Mi.ya w) (N:=20000) (d:=Hd.sN "law" Mi.mx) (kwd:=[]) Mi.left (λ_ _ e=>e) (λ_ _ _ y k=>Hd.Bx k y) (λs e=>xl_of s (Xb.mp e).1) XL.keeps Mi.Vv Mi.hp (by ac_nf) (λs e=>recFacts_of (Xb.mp e).2) (by ac_nf) Od (by decide+kernel) ⟨rfl,rfl,rfl,rfl,rfl,by decide+kernel⟩ (by w_witness2) ?_;exact Hd.P2 (k:=28) (by ac_nf) (by ac_nf) ⟨rfl,by decide,by decide⟩ λw s₀ mg a h G Y=>Mi.all_mk G.T Y Mi.law_true
