import PyProof.Rows.All
import Wide.All
import OpenK.AllK
import Wide.FinOn
import Lean
import PyProof.EqAt
import PyProof.EqKinds
import PyProof.TupleCall
import PyProof.AttrMissHeap
import KE.KDictOf
import PyProof.ConsumeWalk
import PyProof.ZipIter
import PyProof.EnumMake
import KE.KEqDict
import KE.KDictSum
import KE.KItemsList
import KE.KSortTup
import PyProof.CallStr
import PyProof.CollectIter
import PyProof.DictFindH
import PyProof.DictRoadsH
import PyProof.FString
import PyProof.FString5
import PyProof.FactsAll.tuple_2
import PyProof.FactsAll.zip_1
import PyProof.ListMulRoad
import PyProof.ListRange
import PyProof.MeetsStr
import PyProof.NeKinds
import PyProof.P3Eq
import PyProof.Rows.Range3
import PyProof.Rows.ReprOcc
import PyProof.Rows.RuleDivmod
import PyProof.Rows.SortShell
import PyProof.Rows.StrWeight2
import PyProof.StrCalls2
import PyProof.StrCalls5
import PyProof.StrWalks
import PyProof.WalksMore
import PySem.Challenge.RW_neverstuck_k22_ends_of_lots
set_option Elab.async false
set_option linter.all false
set_option maxRecDepth 100000
set_option maxHeartbeats 4000000
set_option compiler.small 0
set_option compiler.extract_closed false
set_option compiler.reuse false
noncomputable section
local macro_rules | `(tactic| ac_nf) => `(tactic| kernel_rfl)
local macro_rules | `(tactic| nofun) => `(tactic| walk_at "r")
abbrev V8:=@PySem.wpAny_bind
abbrev V9:=@List.getElem?_eq_some_iff
abbrev Wa:=@PySem.Heap.get?_push_of_some
abbrev Wb:=@PySem.wpAny_pure
abbrev Wc:=@List.length_map
abbrev We:=@List.mem_cons_self
abbrev Wf:=@List.mem_cons_of_mem
abbrev Wg:=@if_pos
abbrev Wh:=@if_neg
abbrev Wj:=@Nat.le_refl
abbrev Wk:=@List.mem_of_getElem?
abbrev Wl:=@List.getElem?_eq_getElem
abbrev Wm:=@List.getElem?_set_ne
abbrev Wn:=@List.length_append
abbrev Wo:=@List.map_cons
abbrev Wq:=@List.length_cons
abbrev Wr:=@List.mem_singleton
abbrev Ws:=@List.mem_cons
abbrev Wt:=@List.getElem?_map
abbrev Wu:=@PySem.Heap.lt_size
abbrev Wv:=@List.map_append
abbrev Ww:=@PySem.Heap.get?_push_size
abbrev Wx:=@List.getElem?_append_left
abbrev Wy:=@List.getElem?_append_right
abbrev Wz:=@Option.bind_some
abbrev WA:=@Bool.false_eq_true
abbrev WB:=@List.size_toArray
abbrev WC:=@Bool.and_eq_true
abbrev WD:=@decide_eq_false
abbrev WE:=@Bool.and_eq_true_iff
abbrev WG:=@Nat.ne_of_lt
abbrev WH:=@List.reverse_cons
abbrev WI:=@decide_eq_true
abbrev WJ:=@List.length_take
abbrev WK:=@List.length_range
abbrev WL:=@Nat.zero_le
abbrev WM:=@List.length_reverse
abbrev WN:=@Nat.lt_of_lt_of_le
abbrev WO:=@List.getElem?_eq_none
abbrev WQ:=@Nat.le_trans
abbrev WR:=@Bool.false_ne_true
abbrev WT:=@Int.toNat_natCast
abbrev WU:=@PySem.wpAny_holding
abbrev WV:=@Array.getElem?_eq_getElem
abbrev WW:=@List.getElem?_set_self
abbrev WX:=@List.getElem?_take_of_lt
abbrev WY:=@List.mem_map
abbrev WZ:=@List.mem_append_right
abbrev W0:=@PySem.wpAny_field
abbrev W3:=@PySem.wpAny_call_entry
abbrev W4:=@PySem.wpAny_callSpecial?_slot
abbrev W8:=@List.append_assoc
abbrev W9:=@Nat.le_add_right
abbrev Xa:=@List.mem_append
abbrev Xb:=@List.append_nil
abbrev Xc:=@PySem.wpAny_newObj_type
abbrev Xd:=@PySem.Heap.size_push
abbrev Xe:=@PySem.Around.under_plainId
abbrev Xf:=@List.take_length
abbrev Xg:=@List.mem_iff_getElem?
abbrev Xh:=@Nat.not_lt_zero
abbrev Xi:=@Option.map_eq_some_iff
abbrev Xj:=@List.lookup_cons
abbrev Xk:=@of_decide_eq_true
abbrev Xl:=@List.length_set
abbrev Xm:=@List.length_nil
abbrev Xn:=@PySem.wpAny_mono
abbrev Xo:=@PySem.wpAny_seqItems
abbrev Xp:=@List.find?_cons
abbrev Xq:=@List.getElem?_cons_succ
abbrev Xr:=@Nat.le_succ_of_le
abbrev Xs:=@PySem.codeAny_builtin
abbrev Xu:=@PySem.PassesOwn.never
abbrev Xv:=@PyProof.Rows.slot_tuple_getitem
abbrev Xw:=@List.getElem?_eq_none_iff
abbrev Xx:=@if_false
abbrev Xy:=@Ne.symm
abbrev Xz:=@Nat.lt_irrefl
abbrev XA:=@PyProof.Rows.callWith_type1
abbrev XB:=@PySem.W.kia_one
abbrev XC:=@Classical.byContradiction
abbrev XD:=@decide_eq_true_eq
abbrev XE:=@List.mem_range
abbrev XF:=@Bool.not_true
abbrev XG:=@PySem.wpAny_rule
abbrev XH:=@List.all_eq_true
abbrev XI:=@bne_self_eq_false
abbrev XJ:=@List.set_set
abbrev XM:=@List.getD_eq_getElem?_getD
abbrev XN:=@PySem.mem_of_lookup
abbrev XO:=@Option.map_some
abbrev XQ:=@Bool.or_eq_true
abbrev XR:=@PySem.wpAny_standAt
abbrev XS:=@PySem.wpAny_setState_of
abbrev XT:=@PySem.F.slot_tuple_hash
abbrev XU:=@PySem.F.slot_dict_get
abbrev XW:=@Array.getElem?_toList
abbrev XX:=@PySem.sizeLine_eq
abbrev XY:=@List.any_cons
abbrev XZ:=@PySem.Heap.get?_update_self
abbrev X0:=@Array.mem_toList_iff
abbrev X1:=@PySem.wpAny_isInstance
abbrev X2:=@PySem.plainId_quiet
abbrev X3:=@List.nodup_cons
abbrev X4:=@List.replicate_succ
abbrev X5:=@Nat.zero_add
abbrev X6:=@Nat.sub_self
abbrev X7:=@PySem.wpAny_truthy_bool
abbrev X8:=@beq_self_eq_true
abbrev X9:=@PySem.wpAny_specialOf
abbrev Yb:=@Nat.lt_succ_self
abbrev Yc:=@Array.forIn_toList
abbrev Yd:=@PySem.Heap.get?_update_other
abbrev Ye:=@List.findIdx?_eq_some_iff_getElem
abbrev Yg:=@PySem.wpAny_askSetting
abbrev Yh:=@List.mem_or_eq_of_mem_set
abbrev Yi:=@Nat.le_of_succ_le
abbrev Yj:=@List.flatten_cons
abbrev Yk:=@List.ext_getElem?
abbrev Yl:=@beq_eq_false_iff_ne
abbrev Ym:=@PySem.F.slot_zip_next
abbrev Yn:=@List.getElem?_range
abbrev Yo:=@List.filterMap_cons
abbrev Yp:=@PySem.F.plainAttrs_list
abbrev Yq:=@List.length_drop
abbrev Yr:=@List.cons_append
abbrev Ys:=@List.any_eq_true
abbrev Yt:=@decide_eq_true_iff
abbrev Yu:=@PySem.F.entry_dict_get
abbrev Yv:=@Nat.lt_or_ge
abbrev Yw:=@Nat.le_of_lt
abbrev Yx:=@List.take_of_length_le
abbrev Yy:=@PySem.wpAny_forIn_list
abbrev Yz:=@List.foldl_cons
abbrev YA:=@Nat.add_assoc
abbrev YB:=@List.all_cons
abbrev YC:=@List.length_singleton
abbrev YD:=@PySem.wpAny_typeOf
abbrev YE:=@PySem.tupleKind_room_in1
abbrev YF:=@PySem.wpAny_passesOwn
abbrev YG:=@Nat.le_succ
abbrev YH:=@List.take_succ
abbrev YI:=@Array.getElem?_eq_some_iff
abbrev YJ:=@PySem.wpAny_attempt
abbrev YK:=@PySem.F.slot_enumerate_next
abbrev YL:=@List.not_mem_nil
abbrev YM:=@PySem.wpAny_pyIter_list
abbrev YN:=@List.drop_eq_getElem_cons
abbrev YO:=@Array.length_toList
abbrev YQ:=@PySem.isSubtype_stop
abbrev YR:=@PySem.F.slot_tuple_iterator_next
abbrev YS:=@Option.isSome_iff_exists
abbrev YT:=@PySem.F.called_set
abbrev YU:=@PySem.Around.in1_units
abbrev YV:=@Option.toList_some
abbrev YW:=@if_true
abbrev YX:=@PySem.SeqAt.eqAt_reads
abbrev YY:=@PySem.F.slot_list_append
abbrev YZ:=@List.take_add_one
abbrev Y0:=@List.map_map
abbrev Y1:=@PySem.wpAny_pyIter_tuple
abbrev Y2:=@PySem.wpAny_Call_Name_kw
abbrev Y3:=@PySem.wpAny_getItem_str_slice
abbrev Y4:=@List.set_append_right
abbrev Y5:=@List.getElem_mem
abbrev Y6:=@List.filter_cons
abbrev Y7:=@List.take_append_of_le_length
abbrev Y8:=@Nat.min_le_left
abbrev Y9:=@List.forIn_cons
abbrev Za:=@Int.emod_nonneg
abbrev Zb:=@PySem.hashByValue_scannable
abbrev Zc:=@PySem.builtinLookup_eq_fast
abbrev Zd:=@List.map_nil
abbrev Ze:=@of_decide_eq_false
abbrev Zf:=@beq_iff_eq
abbrev Zg:=@List.pairwise_cons
abbrev Zh:=@List.drop_zero
abbrev Zi:=@Int.emod_lt_of_pos
abbrev Zj:=@PySem.F.slot_dict_getitem
abbrev Zk:=@PySem.F.plain_extend_loop
abbrev Zl:=@Nat.lt_succ_of_lt
abbrev Zm:=@PySem.codeAny_mono
abbrev Zn:=@PySem.F.type_list_append
abbrev Zo:=@PySem.F.args_tuple_add_2
abbrev Zq:=@Nat.lt_succ_iff_lt_or_eq
abbrev Zr:=@Bool.true_and
abbrev Zs:=@PySem.wpAny_newTuple
abbrev Zt:=@PySem.Obj.data_mapFields
abbrev Zu:=@PySem.F.slot_list_index
abbrev Zv:=@PySem.F.entry_tuple_add
abbrev Zw:=@PySem.F.args_dict_get_3
abbrev Zx:=@Option.bind_eq_some_iff
abbrev Zy:=@Nat.add_sub_cancel_left
abbrev Zz:=@List.length_eq_zero_iff
abbrev ZA:=@List.isEmpty_nil
abbrev ZC:=@PySem.F.slot_tuple_add
abbrev ZD:=@Nat.succ_pos
abbrev ZE:=@Nat.ne_of_gt
abbrev ZF:=@Nat.lt_trans
abbrev ZG:=@PySem.wpAny_letGo
abbrev ZH:=@PySem.Heap.get?_push_ne
abbrev ZI:=@PySem.F.args_zip_next_1
abbrev ZJ:=@Nat.zero_lt_one
abbrev ZK:=@Bool.eq_iff_iff
abbrev ZL:=@PySem.wpAny_comprehension_free
abbrev ZM:=@List.take_append_drop
abbrev ZN:=@or_false
abbrev ZO:=@PySem.Heap.size_update
abbrev ZP:=@PySem.F.slot_zip_getattribute
abbrev ZQ:=@PySem.F.entry_zip_next
abbrev ZR:=@List.mem_of_mem_take
abbrev ZS:=@List.length_dropLast
abbrev ZT:=@List.forIn_nil
abbrev ZU:=@Bool.and_false
abbrev ZV:=@PySem.wpAny_pyNext_list_item
abbrev ZW:=@PySem.call_meetsIn
abbrev ZX:=@PySem.call_meets
abbrev ZY:=@PySem.SetTable.insertAt_perm
abbrev ZZ:=@PySem.Calls.callWith_builtin
abbrev Z0:=@Int.toNat_of_nonneg
abbrev Z1:=@PySem.wpAny_execs_nil
abbrev Z2:=@PySem.typeLookup_type
abbrev Z3:=@PySem.post_val_or_str
abbrev Z4:=@List.set_comm
abbrev Z5:=@Bool.or_false
abbrev Z6:=@PySem.wpAny_pyNext_list_end
abbrev Z7:=@PySem.wpAny_callSpecialIfBoundUnlessNone?_slot
abbrev Z8:=@Nat.lt_of_le_of_lt
abbrev Z9:=@Nat.add_sub_cancel
abbrev Aaa:=@List.mem_filterMap
abbrev Aab:=@List.getElem_range
abbrev Aac:=@List.findIdx?_cons
abbrev Aad:=@PySem.wpAny_updateSeq_pair
abbrev Aae:=@Option.isSome_map
abbrev Aaf:=@Nat.lt_trichotomy
abbrev Aag:=@List.pairwise_map
abbrev Aah:=@List.nodup_append
abbrev Aai:=@List.getElem?_inj
abbrev Aaj:=@List.any_map
abbrev Aak:=@PyProof.Rows.F.plain_set_update_loop
abbrev Aal:=@PySem.wpAny_setEntries_of
abbrev Aam:=@PySem.Heap.SameBut.update
abbrev Aan:=@Nat.succ_le_succ
abbrev Aao:=@Array.toList_inj
abbrev Aap:=@PySem.wpAny_onRaise
abbrev Aaq:=@List.eq_nil_of_length_eq_zero
abbrev Aar:=@PySem.wpAny_tupleItemsOf
abbrev Aas:=@List.sum_append
abbrev Aat:=@List.of_mem_zip
abbrev Aau:=@List.nil_append
abbrev Aav:=@List.idxOf_cons
abbrev Aaw:=@List.dropLast_concat_getLast
abbrev Aax:=@Array.getD_eq_getD_getElem?
abbrev Aay:=@PySem.fits_of_scanBound
abbrev Aaz:=@PySem.eqIsQuiet_byValue
abbrev AaA:=@Nat.mul_le_mul
abbrev AaB:=@Nat.mod_lt
abbrev AaC:=@List.take_zero
abbrev AaD:=@List.nodup_nil
abbrev AaE:=@List.length_eraseIdx_of_lt
abbrev AaF:=@List.findIdx?_eq_none_iff
abbrev AaG:=@PySem.noFill_tuple_add
abbrev AaH:=@PySem.entryFor_of_tree
abbrev AaI:=@PySem.F.slot_tuple_mul
abbrev AaJ:=@PySem.F.slot_tuple_index
abbrev AaK:=@List.map_take
abbrev AaL:=@List.map_drop
abbrev AaM:=@List.Pairwise.imp_of_mem
abbrev AaN:=@Bool.false_or
abbrev AaO:=@decide_eq_false_iff_not
abbrev AaP:=@PySem.F.type_list_index
abbrev AaQ:=@PySem.F.plainAttrs_dict
abbrev AaR:=@PySem.F.args_dict_get_2
abbrev AaS:=@Option.join_eq_some_iff
abbrev AaT:=@List.getElem?_replicate
abbrev AaU:=@List.getElem?_cons_zero
abbrev AaV:=@PySem.wpAny_updateSeq
abbrev AaW:=@PySem.codeAny_of_tree
abbrev AaX:=@PySem.W.cellsFrom_some
abbrev AaY:=@PySem.F.args_tuple_iterator_next_1
abbrev AaZ:=@Nat.sub_zero
abbrev Aa0:=@List.find?_cons_of_neg
abbrev Aa1:=@List.drop_eq_nil_of_le
abbrev Aa2:=@Array.getElem?_eq_none
abbrev Aa3:=@PySem.F.type_dict_get
abbrev Aa4:=@PySem.F.entry_tuple_iterator_next
abbrev Aa5:=@PyProof.Rows.assignInOrder_cons
abbrev Aa6:=@List.length_filter_le
abbrev Aa7:=@List.getElem?_toArray
abbrev Aa8:=@Array.mem_of_getElem?
abbrev Aba:=@PySem.Calls.Name_function_global
abbrev Abb:=@Nat.pow_le_pow_right
abbrev Abd:=@List.mem_append_left
abbrev Abe:=@List.dropLast_concat
abbrev Abf:=@Array.getElem_of_mem
set_option hygiene false
set_option hygiene true
abbrev FR:=PySem.W.Frag
namespace Hd
open PySem PySem.W PySem.Spec PyProof.Rows
noncomputable def DY:List Value->Option (List Int)
 | []=>some []
 | .int i _::r=>(DY r).map λa=>i::a
 | _=>none
noncomputable def Ej(v:Value)(t:String):Bool:=match v with
 | .type s=>decide (s=t)
 | _=>false
def rowAt(h:Heap)(e:DictEntry):Option (Str×Int×List Int):=match e.key with
 | .str x _=>match e.val with
  | .ref t=>match h.get? t with
   | some u=>if Ej u.cls "tuple"&&u.dict.isNone then(match u.data with
     | .seq a _=>if a.size<=100 then(DY a.toList).map λb=>(x,e.hash,b) else none
     | _=>none) else none
   | none=>none
  | _=>none
 | _=>none
def mY(h:Heap):List DictEntry->Option (List (Str×Int×List Int))
 | []=>some []
 | e::r=>(rowAt h e).bind λx=>(mY h r).map λa=>x::a
def tabAt(h:Heap)(nm:Str):Option (List (Str×Int×List Int)):=match h.nsMap mainGlobals nm with
 | some (.ref a)=>if a==sysModules then none else(match h.get? a with
  | some o=>if Ej o.cls "dict"&&o.dict.isNone&&decide (o.slots=#[]) then(match o.data with
    | .dict es _=>mY h es.toList
    | _=>none) else none
  | none=>none)
 | _=>none
theorem Ll(row:String)(h:∀w:World,(fencedOpening treeTable p w N).map (λs₀=>(topFrom treeTable p (w.withFollow row false) N s₀).map (λs=>(openSeen q loose (importedModules p.main.body) Xt true s,Yf s)))=some (some (openGood q loose,Ya (w.withFollow row false))))(g:∀w:World,(fencedOpening treeTable p w N).map (λs₀=>(topFrom treeTable p (w.withFollow row true) N s₀).map (λs=>(openSeen q loose (importedModules p.main.body) Xt true s,Yf s)))=some (some (openGood q loose,Ya (w.withFollow row true)))):LeftO p q loose Xt Yf Ya N true:=λw=>by
 obtain⟨s₀,a,d⟩:=Xi.mp (h w);obtain⟨b,a1,c⟩:=Xi.mp (g w);have e:=World.withFollow_self w row;unfold openEnds;cases f:w.params.followText row <;> rw[f] at e
 ·rw[a];rw[e] at d;exact d
 ·rw[a1];rw[e] at c;exact c
end Hd
namespace Mi
open PySem
abbrev pw:Program:=PySem.Challenge.pw_neverstuck_k22_ends_of_lots
noncomputable def top(i:Nat):Stmt:=pw.main.body.getD i (.Pass ⟨0,0,0,0⟩)
noncomputable def lM:List (Str×List Int):=[("say",[2,0]),("call",[3,0]),("within",[2,1]),("all",[2,1]),("ask",[2,2]),("by",[3,3]),("either",[1,2]),("again",[1,1])]
def view:Program:={pw with main:={pw.main with body:=[top 1,top 2,top 4,top 5,top 6,top 8,top 9,top 10,top 11,top 13,top 14,top 15,top 16,top 17,top 18,top 19,top 20,top 21,top 22,top 23,top 24,top 25,top 26,top 28,top 29,top 30,top 31,top 32,top 33,top 34,top 35,top 36,top 37,top 39,top 40,top 41,top 42,top 43,top 44,top 45,top 46,top 47,top 48,top 49,top 50,top 51,top 52,top 53,top 54,top 55,top 56,top 57,top 58,top 59,top 60,top 61,top 62]}}
end Mi
local macro_rules | `(tactic| walk_at "s") => `(tactic| exact⟨rfl, rfl, rfl, by decide +kernel, rfl, by decide +kernel, by decide +kernel⟩)
namespace Mi
open PySem PySem.W PyProof.Rows
abbrev ya(w:World):=some (lM.map λx:Str×List Int=>(x.1,hashStr w x.1,x.2))
abbrev Xt:Shared->Bool:=λs=>xlAt view [] s&&recOk (RowW.records (OpenRow.toRowW PySem.Challenge.rw_neverstuck_k22_ends_of_lots.row)) s
abbrev Yf:Shared->Option (List (Str×Int×List Int)):=λs=>Hd.tabAt s.heap "SHAPES"
theorem R9(w:World):(fencedOpening treeTable pw w 20000).map (λs₀=>(topFrom treeTable pw (w.withFollow "special-get-raises" false) 20000 s₀).map (λs=>(openSeen view (["SHAPES"]:List Str) (importedModules pw.main.body) Xt true s,Yf s)))=some (some (openGood view (["SHAPES"]:List Str),(ya) (w.withFollow "special-get-raises" false))):=by ac_nf
theorem R8(w:World):(fencedOpening treeTable pw w 20000).map (λs₀=>(topFrom treeTable pw (w.withFollow "special-get-raises" true) 20000 s₀).map (λs=>(openSeen view (["SHAPES"]:List Str) (importedModules pw.main.body) Xt true s,Yf s)))=some (some (openGood view (["SHAPES"]:List Str),(ya) (w.withFollow "special-get-raises" true))):=by ac_nf
theorem left:LeftO pw view (["SHAPES"]:List Str) Xt Yf (ya) 20000:=Hd.Ll "special-get-raises" R9 R8
theorem NM:PySem.Challenge.rw_neverstuck_k22_ends_of_lots.wellSaid=true:=by
 unfold OpenLaw.wellSaid
 repeat(with_reducible refine look_both ?_ (by decide+kernel))
 unfold OpenRow.wellSaid
 repeat(with_reducible refine look_both ?_ (by decide+kernel))
 unfold OpenRow.partSaid
 repeat(with_reducible refine look_both ?_ (by decide+kernel))
 unfold looksOpen
 repeat(with_reducible refine look_both ?_ (by decide+kernel))
 decide+kernel
end Mi
def cX{a:Type}{p:a}{C:Prop}(h:none=some p):C:=nomatch h
section
open PySem PySem.Spec
namespace L2
open PyProof.Rows
abbrev Key:=Sum Int Str
noncomputable def xg:Key->Value->Bool
 | .inl k,v=>Value.isInt k v
 | .inr x,v=>Value.isStrOf x v
noncomputable def Pd(w:World):Key->Int
 | .inl k=>hashInt k
 | .inr x=>hashStr w x
theorem cu:∀{k:Key} {v:Value},xg k v=true->(∃i t,k=Sum.inl i/\v=Value.int i t)\/(∃x t,k=Sum.inr x/\v=Value.str x t)
 | .inl i,v,h=>by
  obtain⟨t,e⟩:=Value.isInt_shape (k:=i) (v:=v) h;exact .inl ⟨i,t,rfl,e⟩
 | .inr x,v,h=>by
  obtain⟨t,e⟩:=Value.isStrOf_shape (x:=x) (v:=v) h;exact .inr ⟨x,t,rfl,e⟩
def FG(i:Int)(t:Tok):xg (.inl i) (.int i t)=true:=by simp[xg,Value.isInt]
def FF(x:Str)(t:Tok):xg (.inr x) (.str x t)=true:=by simp[xg,Value.isStrOf]
def Pc(a b:Int):decide ((Sum.inl a:Key)=Sum.inl b)=(a==b):=by
 by_cases e:a=b
 ·subst e;simp
 ·have h:¬(Sum.inl a:Key)=Sum.inl b:=λq=>e (Sum.inl.inj q);rw[WD h];exact(Yl.mpr e).symm
def O9(a b:Str):decide ((Sum.inr a:Key)=Sum.inr b)=decide (a=b):=by
 by_cases e:a=b
 ·subst e;simp
 ·have h:¬(Sum.inr a:Key)=Sum.inr b:=λq=>e (Sum.inr.inj q);rw[WD h,WD e]
def Pb(a:Int)(b:Str):decide ((Sum.inl a:Key)=Sum.inr b)=false:=WD (λq=>nomatch q)
def Pa(a:Str)(b:Int):decide ((Sum.inr a:Key)=Sum.inl b)=false:=WD (λq=>nomatch q)
def bg(prog:Program)(w:World):PySem.KeyKind prog w Key where
 is:=xg
 hash:=Pd w
 inj:=λv a b l f=>by
  rcases cu l with⟨i,t,rfl,rfl⟩ |⟨x,t,rfl,rfl⟩
  ·rcases cu f with⟨j,u,rfl,e⟩ |⟨y,u,rfl,e⟩
   ·injection e with c _;rw[c]
   ·exact nomatch e
  ·rcases cu f with⟨j,u,rfl,e⟩ |⟨y,u,rfl,e⟩
   ·exact nomatch e
   ·injection e with c _;rw[c]
 byValue:=λk v h=>by
  rcases cu h with⟨i,t,rfl,rfl⟩ |⟨x,t,rfl,rfl⟩ <;> rfl
 pyHash:=λd h=>by
  rcases cu d with⟨i,t,rfl,rfl⟩ |⟨x,t,rfl,rfl⟩
  ·exact wpAny_pyHash_int h
  ·exact wpAny_pyHash_str h
 eqBool:=λg d h=>by
  rcases cu g with⟨i,t,rfl,rfl⟩ |⟨x,t,rfl,rfl⟩
  ·rcases cu d with⟨j,u,rfl,rfl⟩ |⟨y,u,rfl,rfl⟩
   ·rw[Pc] at h;exact wpAny_eqBool_int h
   ·rw[Pb] at h;exact SeqAt.EqAt.int_str i t y u _ _ _ _ h
  ·rcases cu d with⟨j,u,rfl,rfl⟩ |⟨y,u,rfl,rfl⟩
   ·rw[Pa] at h;exact SeqAt.EqAt.str_int x t j u _ _ _ _ h
   ·rw[O9] at h;exact wpAny_eqBool_str h
 «strs»:=λk x t v h=>by
  rcases cu h with⟨i,u,rfl,e⟩ |⟨y,u,rfl,e⟩
  ·exact nomatch e
  ·injection e with c _
   subst c;cases v <;> rfl
def k7(prog:Program)(w:World)(i:Int)(t:Tok):(bg prog w).is (.inl i) (.int i t)=true:=FG i t
def kZ(prog:Program)(w:World)(x:Str)(t:Tok):(bg prog w).is (.inr x) (.str x t)=true:=FF x t
inductive V where
 | bb | bl (b:Bool) | int (i:Int) | str (x:Str) | byt (b:Array UInt8) | Qy (b:UInt64) | ref (a:Addr) | ty (n:String)
 deriving DecidableEq
def RelV:V->Value->Prop
 | .bb,u=>u=Value.none
 | .bl b,u=>u=Value.bool b
 | .int i,u=>∃t,u=Value.int i t
 | .str x,u=>∃t,u=Value.str x t
 | .byt b,u=>∃t,u=Value.bytes b t
 | .Qy b,u=>∃t,u=Value.float b t
 | .ref a,u=>u=Value.ref a
 | .ty n,u=>u=Value.type n
abbrev Vals:List V->List Value->Prop:=Paired RelV
theorem Vals.length(r:Vals xs us):xs.length=us.length:=Paired.length r
theorem Vals.get:∀{xs:List V} {us:List Value} {i:Nat} {x:V},Vals xs us->xs[i]?=some x->∃u,us[i]?=some u/\RelV x u
 | _,_,_,_,.nil,e=>by simp at e
 | _,_,0,_,.cons r _,e=>by simp at e;subst e;exact⟨_,rfl,r⟩
 | _,_,i+1,x,.cons _ t,e=>by
  obtain⟨u,b,a⟩:=Vals.get (i:=i) (x:=x) t (by simpa using e);exact⟨u,by simpa using b,a⟩
theorem Vals.set(r:RelV x u):∀{xs:List V} {us:List Value} (i:Nat),Vals xs us->Vals (xs.set i x) (us.set i u)
 | _,_,_,.nil=>.nil
 | _,_,0,.cons _ t=>.cons r t
 | _,_,i+1,.cons q t=>.cons q (Vals.set r i t)
theorem Vals.append:∀{xs ys:List V} {us ws:List Value},Vals xs us->Vals ys ws->Vals (xs++ys) (us++ws)
 | _,_,_,_,.nil,s=>s
 | _,_,_,_,.cons r t,s=>.cons r (Vals.append t s)
theorem Vals.take:∀{xs:List V} {us:List Value} (n:Nat),Vals xs us->Vals (xs.take n) (us.take n)
 | _,_,0,_=>.nil
 | _,_,_+1,.nil=>.nil
 | _,_,n+1,.cons r t=>.cons r (Vals.take n t)
theorem Vals.drop:∀{xs:List V} {us:List Value} (n:Nat),Vals xs us->Vals (xs.drop n) (us.drop n)
 | _,_,0,r=>r
 | _,_,_+1,.nil=>.nil
 | _,_,n+1,.cons _ t=>Vals.drop n t
def qM:Option V->Option Value->Prop
 | some v,some u=>RelV v u
 | none,none=>True
 | _,_=>False
def KV{κ:Type}:List (κ×V)->List (κ×Value)->Prop:=Paired λ(p:κ×V)(q:κ×Value)=>p.1=q.1/\RelV p.2 q.2
noncomputable def kV:Key->V
 | .inl i=>.int i
 | .inr x=>.str x
inductive HO where
 | lst (xs:List V)
 | tup (xs:List V)
 | dK (kvs:List (Key×V)) | dT (kvs:List (List Key×V))
 | set (S:Int->Bool) (n:Nat)
 | ins (C dx:Addr) (fs:List (Str×V))
 | own (x:Addr)
 | xd (fs:List (Str×V))
 | met (f x:Addr)
 | Ux (lo hi:Int)
 | D8 (o:Obj) (u:HO)
 | Nt (ps:Array Value)
 | ext (φ:Heap->Prop)
 | JQ (φ:World->Heap->Prop)
abbrev Hp:=Addr->Option HO
noncomputable def upd(H:Hp)(a:Addr)(o:HO):Hp:=λb=>if b=a then some o else H b
def aH:upd H a o a=some o:=by unfold upd;rw[Wg rfl]
def az(h:b≠a):upd H a o b=H b:=by unfold upd;rw[Wh h]
def JV:upd (upd H a o) a u=upd H a u:=by
 funext b;unfold upd;split <;> rfl
def RL{H:Hp}{a b:Addr}{o u:HO}(h:H a=some o)(h':H b=some u)(d:o≠u):a≠b:=by
 intro e;subst e;rw[h] at h';exact d (Option.some.inj h')
def aJ{H:Hp}{a b:Addr}{o:HO}(h:H a=some o)(h':H b=none):a≠b:=by
 intro e;subst e;rw[h] at h';cases h'
def wD(h:Heap)(a:Addr)(items:Array Value):Prop:=∃o,h.get? a=some o/\o.cls=.type "tuple"/\(∃n,o.data=.seq items n)/\o.dict=none
def wD.tup(x:wD h a items):IsTup h a items:=let⟨o,e,c,d,_⟩:=x;⟨o,e,c,d⟩
def wD.new(h:Heap)(items:Array Value):wD (h.push {cls:=.type "tuple",data:=.seq items}) h.objs.size items:=⟨_,Ww _ rfl,rfl,⟨_,rfl⟩,rfl⟩
section
variable (P:Program) (w:World)
def cD(H:Hp)(h:Heap)(a:Addr):HO->Prop
 | .lst d=>d.length<=sizeLine/\∃(c:List Value)(n:Nat),Vals d c/\h.get? a=some {cls:=.type "list",data:=.seq c.toArray n}
 | .tup d=>d.length<=sizeLine/\∃c:List Value,Vals d c/\wD h a c.toArray
 | .dK b=>b.length<=sizeLine/\(a==sysModules)=false/\∃l,KV b l/\h.DictOf (bg P w) a l
 | .dT b=>b.length<=sizeLine/\(a==sysModules)=false/\∃d:List (List Key×Addr×Value),
   Paired (λ(p:List Key×V)(q:List Key×Addr×Value)=>p.1=q.1/\H q.2.1=some (.tup (p.1.map kV))/\RelV p.2 q.2.2) b d/\
   ∃o es s,h.get? a=some o/\o.ExactDict/\o.data=.dict es s/\es.toList=d.map (entryOfKey (tupleKind (bg P w)))/\(d.map (·.1)).Nodup
 | .set S n=>h.SetOf (intKind P w) a S n
 | .ins C k fs=>H k=some (.own a)/\fs.length<=1000/\k≠a/\h.get? a=some (PySem.W.instObj C k)/\
   ∃g,h.Ns1 k g/\(∀f,qM (fs.lookup f) (g f))/\PySem.Within g (fs.map (·.1))
 | .own _=>∃o,h.get? a=some o
 | .xd fs=>∃g,h.Ns1 a g/\∀f,qM (fs.lookup f) (g f)
 | .Ux lo r=>∃t u v,h.get? a=some {cls:=.type "range",data:=.fields #[.int lo t,.int r u,.int 1 v]}
 | .D8 o u=>h.get? a=some o/\cD H h a u
 | .Nt m=>h.get? a=some {cls:=.none,data:=.fields m}
 | .met f x=>h.get? a=some (PySem.W.methodObj (.ref f) (.ref x))
 | .ext e=>e h/\(∃o,h.get? a=some o)/\∀j i:Heap,e j->(∀o,j.get? a=some o->i.get? a=some o)->e i
 | .JQ e=>e w h/\(∃o,h.get? a=some o)/\∀j i:Heap,e w j->(∀o,j.get? a=some o->i.get? a=some o)->e w i
def iw(H:Hp)(h:Heap):Prop:=∀a o,H a=some o->cD P w H h a o
end
theorem cD.lt(x:cD P w H h a o):a < h.objs.size:=by
 cases o with
 | lst xs=>obtain⟨_,_,_,_,e⟩:=x;exact Wu e
 | tup xs=>obtain⟨_,_,_,p⟩:=x;exact p.tup.lt
 | dK b=>obtain⟨_,_,_,_,o,_,_,e,_⟩:=x;exact Wu e
 | dT b=>obtain⟨_,_,_,_,o,_,_,e,_⟩:=x;exact Wu e
 | set S n=>obtain⟨o,_,_,_,e,_⟩:=x;exact Wu e
 | ins C i fs=>obtain⟨_,_,_,e,_⟩:=x;exact Wu e
 | own y=>obtain⟨_,e⟩:=x;exact Wu e
 | xd fs=>obtain⟨_,⟨_,_,_,e,_⟩,_⟩:=x;exact Wu e
 | Ux lo g=>obtain⟨_,_,_,e⟩:=x;exact Wu e
 | D8 ob u=>obtain⟨e,_⟩:=x;exact Wu e
 | Nt d=>exact Wu (show h.get? a=some _ from x)
 | met f y=>exact Wu (show h.get? a=some _ from x)
 | ext c=>obtain⟨_,⟨_,e⟩,_⟩:=x;exact Wu e
 | JQ c=>obtain⟨_,⟨_,e⟩,_⟩:=x;exact Wu e
theorem Paired.Ld:∀{d:List α} {c:List β},Paired F d c->(∀a b,F a b->G a b)->Paired G d c
 | _,_,.nil,_=>.nil
 | _,_,.cons r t,f=>.cons (f _ _ r) (Paired.Ld t f)
def Paired.imp'(f:∀a b,F a b->G a b)(r:Paired F d c):Paired G d c:=Paired.Ld r f
def cD.xO(x:cD P w H h a o)(k:∀b u,(b=a\/H b=some (.own a))->h.get? b=some u->h'.get? b=some u)
  (I:∀b,H b=some (.own a)->H' b=some (.own a)) (G:∀b xs,H b=some (.tup xs)->H' b=some (.tup xs)):cD P w H' h' a o:=by
 induction o with
 | lst xs=>obtain⟨z,i,n,r,e⟩:=x;exact⟨z,i,n,r,k _ _ (.inl rfl) e⟩
 | tup xs=>obtain⟨z,i,r,ob,e,c⟩:=x;exact⟨z,i,r,ob,k _ _ (.inl rfl) e,c⟩
 | dK m=>obtain⟨z,y,E,r,ob,es,g,e,c⟩:=x;exact⟨z,y,E,r,ob,es,g,k _ _ (.inl rfl) e,c⟩
 | dT m=>
  obtain⟨z,y,xs,r,ob,es,g,e,c⟩:=x;exact⟨z,y,xs,Paired.Ld r λp q z=>⟨z.1,G _ _ z.2.1,z.2.2⟩,ob,es,g,k _ _ (.inl rfl) e,c⟩
 | set S n=>obtain⟨ob,es,g,t,e,c⟩:=x;exact⟨ob,es,g,t,k _ _ (.inl rfl) e,c⟩
 | ins C M fs=>
  obtain⟨d,z,ne,e,l,⟨j,es,g,J,c⟩,r⟩:=x;exact⟨I _ d,z,ne,k _ _ (.inl rfl) e,l,⟨j,es,g,k _ _ (.inr d) J,c⟩,r⟩
 | own y=>obtain⟨ob,e⟩:=x;exact⟨ob,k _ _ (.inl rfl) e⟩
 | xd fs=>obtain⟨l,⟨j,es,g,e,c⟩,r⟩:=x;exact⟨l,⟨j,es,g,k _ _ (.inl rfl) e,c⟩,r⟩
 | Ux lo L=>obtain⟨t,u,v,e⟩:=x;exact⟨t,u,v,k _ _ (.inl rfl) e⟩
 | D8 ob u F=>obtain⟨e,q⟩:=x;exact⟨k _ _ (.inl rfl) e,F q⟩
 | Nt s=>
  have e:h.get? a=some {cls:=.none,data:=.fields s}:=x;show h'.get? a=some {cls:=.none,data:=.fields s};exact k a _ (.inl rfl) e
 | met f y=>
  have e:h.get? a=some (PySem.W.methodObj (.ref f) (.ref y)):=x;show h'.get? a=some (PySem.W.methodObj (.ref f) (.ref y));exact k a _ (.inl rfl) e
 | ext A=>obtain⟨p,⟨o,e⟩,st⟩:=x;exact⟨st _ _ p λo q=>k _ _ (.inl rfl) q,⟨o,k _ _ (.inl rfl) e⟩,st⟩
 | JQ A=>obtain⟨p,⟨o,e⟩,st⟩:=x;exact⟨st _ _ p λo q=>k _ _ (.inl rfl) q,⟨o,k _ _ (.inl rfl) e⟩,st⟩
theorem iw.lt(x:iw P w H h)(e:H a=some o):a < h.objs.size:=(x a o e).lt
def iw.fresh(x:iw P w H h)(e:h.objs.size<=a):H a=none:=by
 cases q:H a with
 | none=>rfl
 | some u=>exact absurd (WN (x.lt q) e) (Xz _)
def iw.kept(x:iw P w H h)(k:∀b u,h.get? b=some u->h'.get? b=some u):iw P w H h':=λa o e=>
 (x a o e).xO (λb u _ q=>k b u q) (λ_ q=>q) λ_ _ q=>q
def iw.laid(x:iw P w H h)(k:∀b u,h.get? b=some u->h'.get? b=some u)(hp:h.objs.size<=a)(new:cD P w (upd H a o) h' a o):iw P w (upd H a o) h':=λb u e=>by
 have hn:=x.fresh hp
 by_cases d:b=a
 ·subst d;rw[aH] at e;cases e;exact new
 ·rw[az d] at e;exact(x b u e).xO (λc v _ q=>k c v q) (λc q=>by rw[az (aJ q hn)];exact q) λc f q=>by rw[az (aJ q hn)];exact q
def Rd(H:Hp)(a:Addr)(u:HO):Prop:=H a=some u\/∃o,H a=some (.D8 o u)
def Rd.ok(r:Rd H a u)(x:iw P w H h):cD P w H h a u:=by
 rcases r with r |⟨o,r⟩
 ·exact x a u r
 ·obtain⟨_,q⟩:=x a _ r;exact q
def Tu:Option HO->Prop
 | some (.lst _)=>True
 | some (.dK _)=>True
 | some (.dT _)=>True
 | some (.set _ _)=>True
 | some (.ins _ _ _)=>True
 | some (.ext _)=>True
 | some (.JQ _)=>True
 | _=>False
def iw.write(ok:iw P w H h)(i:Tu (H x))(p:e=x\/H e=some (.own x))(k:∀b u,b≠e->h.get? b=some u->h'.get? b=some u)(m:∃u,h'.get? e=some u)
  (new:cD P w (upd H x o) h' x o):iw P w (upd H x o) h':=λb u q=>by
 have d:∀c y,H c=some (.own y)->c≠x:=λc y r z=>by subst z;rw[r] at i;exact i
 have f:∀c g,H c=some (.tup g)->c≠x:=λc g r z=>by subst z;rw[r] at i;exact i
 by_cases l:b=x
 ·subst l;rw[aH] at q;cases q;exact new
 ·rw[az l] at q
  by_cases a:b=e
  ·have n:H b=some (.own x):=by
    rcases p with z | z
    ·exact absurd (a.trans z) l
    ·rw[a];exact z
   rw[q] at n;cases n;obtain⟨v,s⟩:=m;exact⟨v,by rw[a];exact s⟩
  ·refine(ok b u q).xO (λc v j r=>k c v ?_ r) (λc r=>by rw[az (d c b r)];exact r) λc g r=>by rw[az (f c g r)];exact r
   rcases j with rfl | j
   ·exact a
   ·rintro rfl;rcases p with z | z
    ·exact d c b j z
    ·rw[j] at z;cases z;exact l rfl
structure Un(fs ex:List Addr)(H H':Hp)(h h':Heap):Prop where
 keep:∀b o,h.get? b=some o->H b=none->b∉fs->b∉ex->h'.get? b=some o
 slot:∀b o,h.get? b=some o->H b=none->b∈fs->b∉ex->∃sl,h'.get? b=some {o with slots:=sl}
 free:∀b o,h.get? b=some o->H b=none->b∉ex->H' b=none
 there:∀b o,h.get? b=some o->b∉ex->∃o',h'.get? b=some o'
 rp:∀b xs,H b=some (.tup xs)->H' b=some (.tup xs)
 wo:∀b o u,H b=some (.D8 o u)->H' b=some (.D8 o u)
 xI:∀b ps,H b=some (.Nt ps)->∃more,H' b=some (.Nt (ps++more))
def Un.any(u:Un fs ex H H1 h e)(q:h.get? b=some ob)(n:H b=none)(a:b∉ex):∃d,e.get? b=some {ob with slots:=d}:=by
 by_cases c:b∈fs
 ·exact u.slot b ob q n c a
 ·exact⟨ob.slots,u.keep b ob q n c a⟩
def Un.kept(k:∀b u,h.get? b=some u->h'.get? b=some u):Un fs ex H H h h':=
 ⟨λb ob q _ _ _=>k b ob q,λb ob q _ _ _=>⟨ob.slots,k b ob q⟩,λ_ _ _ n _=>n,λb ob q _=>⟨ob,k b ob q⟩,λ_ _ q=>q,λ_ _ _ q=>q,λ_ a q=>⟨#[],by rw[q];simp⟩⟩
def Un.refl:Un fs ex H H h h:=Un.kept λ_ _ q=>q
def Un.laid(k:∀b u,h.get? b=some u->h'.get? b=some u)(hp:h.objs.size<=a)(hn:H a=none):Un fs ex H (upd H a o) h h' where
 keep:=λb u q _ _ _=>k b u q
 slot:=λb u q _ _ _=>⟨u.slots,k b u q⟩
 free:=λb u q n _=>by rw[az (WG (WN (Wu q) hp))];exact n
 there:=λb u q _=>⟨u,k b u q⟩
 rp:=λb c q=>by rw[az (aJ q hn)];exact q
 wo:=λb u c q=>by rw[az (aJ q hn)];exact q
 xI:=λb d q=>⟨#[],by rw[az (aJ q hn),q];simp⟩
def Un.write(c:Tu (H x))(j:e=x\/H e=some (.own x))(k:∀b u,b≠e->h.get? b=some u->h'.get? b=some u)(d:∃u,h'.get? e=some u):Un fs ex H (upd H x o) h h':=by
 have f:∀b,H b=none->b≠x:=λb n z=>by subst z;rw[n] at c;exact c
 have g:∀b,H b=none->b≠e:=λb n z=>by
  subst z;rcases j with r | r
  ·exact f b n r
  ·rw[n] at r;cases r
 have hm:∀b u,H b=some u->¬Tu (some u)->b≠x:=λb u q nm z=>by subst z;rw[q] at c;exact nm c
 refine⟨λb u q n _ _=>k b u (g b n) q,λb u q n _ _=>⟨u.slots,k b u (g b n) q⟩,λb u q n _=>by rw[az (f b n)];exact n,λb u q _=>?_,
  λb i q=>by rw[az (hm b _ q λz=>z)];exact q,λb u i q=>by rw[az (hm b _ q λz=>z)];exact q,λb l q=>⟨#[],by rw[az (hm b _ q λz=>z),q];simp⟩⟩
 by_cases a:b=e
 ·subst a;exact d
 ·exact⟨u,k b u a q⟩
noncomputable def TC(h:Heap)(H:Hp):List Addr:=(List.range h.objs.size).filter λa=>(H a).isSome
def yM(h:Heap)(H:Hp):Heap:=PySem.W.hideAll h (TC h H)
def FO(h:Heap)(H:Hp):(yM h H).objs.size=h.objs.size:=PySem.W.hideAll_size _ _
def IC(e:h.get? b=some o)(n:H b=none):(yM h H).get? b=some o:=
 PySem.W.hideAll_get _ e λhm=>by
  have q:(H b).isSome=true:=(List.mem_filter.mp hm).2;rw[n] at q;simp at q
def K9(e:(yM h H).get? b=some o):h.get? b=some o/\H b=none:=by
 have a:h.get? b=some o:=PySem.W.of_hideAll (TC h H) e;refine⟨a,?_⟩;cases q:H b with
 | none=>rfl
 | some x=>
  have hm:b∈TC h H:=List.mem_filter.mpr ⟨XE.mpr (Wu a),by simp[q]⟩;have z:(yM h H).get? b=none:=PySem.W.hideAll_none (TC h H) hm;rw[z] at e;cases e
structure Mod(K:FR)(mg:Str->Option Value)(base:Heap):Prop where
 U1:K.In base
 glob:base.Ns mainGlobals mg
 blt:∃mb,base.Ns builtinsNs mb/\∀x:Str,x≠"__name__"->mb x=bootBuiltins x
 nolimit:base.NoLimit
structure Cx where
 prog:Program
 w:World
 K:FR
 mg:Str->Option Value
 base:Heap
 A:Around
 N:List Str
 s₀:Shared
 H₀:Hp
 env:Env
 outer:List Env
 stack:List Env
 ex:List Addr
 fn:Str->Bool
 calm:Bool
 pn:List (Addr×Obj)
 xe:Value->Shared->Prop
noncomputable def Gr(l:List Env):List Addr:=l.filterMap (·.frame)
abbrev Cx.fs(X:Cx):List Addr:=Gr X.outer
def SV(a:Scope)(x:Str):Prop:=a.names.lookup x=some .local\/a.names.lookup x=some .cell\/a.names.lookup x=some .free
def Loc(a:Scope)(x:Str):Prop:=a.names.lookup x=some .local\/a.names.lookup x=some .cell
def Look(env:Env)(h:Heap)(m:Str->Option Value)(x:Str)(u:Value):Prop:=
 (env.kindOf x=some .local/\m x=some u)\/((env.kindOf x=some .cell\/env.kindOf x=some .free)/\∃c,env.cells.lookup x=some c/\h.IsCell c (some u))
structure Cx.Ok(X:Cx):Prop where
 mod:Mod X.K X.mg X.base
 kind:X.env.scope.kind=.function
 glob:X.env.globals=mainGlobals
 blt:X.env.builtins=builtinsNs
 above:X.s₀.heap.objs.size<=X.env.locals
 inj:∀x y c,X.env.cells.lookup x=some c->X.env.cells.lookup y=some c->x=y
 has:∀x,(X.env.kindOf x=some .cell\/X.env.kindOf x=some .free)->∃c,X.env.cells.lookup x=some c
 Sq:∀x c,X.fn x=true->X.env.cells.lookup x=some c->X.s₀.heap.objs.size<=c
 hd:X.calm=true->X.A.handled=none
 frames:X.A.frames=some X.stack
 TH:X.stack=X.outer\/(X.stack=X.env::X.outer/\X.env.frame=some X.env.locals)
 Vv:∀b∈X.ex,b≠X.env.locals/\∀x c,X.env.cells.lookup x=some c->c≠b
 bs:∀b o,X.base.get? b=some o->X.s₀.heap.get? b=some o/\X.H₀ b=none
 M7:X.base.objs.size<=X.s₀.heap.objs.size
 Ik:∀b o,X.base.get? b=some o->b∉X.ex
 LO:∀b∈X.ex,b∉X.fs
 uK:X.s₀.heap.FunFrames X.base X.outer
 Qx:∀b∈X.fs,X.H₀ b=none
structure Inv(X:Cx)(pins:List (Addr×Obj))(σ:List (Option V))(H:Hp)(s:Shared):Prop where
 ok:X.Ok
 os:s.os=X.s₀.os
 bare:AllBare s.gens
 base:Un X.fs X.ex X.H₀ H X.s₀.heap s.heap
 loc:∃m,s.heap.Ns X.env.locals m/\∀(i:Nat)(x:Str)(v:V),X.N[i]?=some x->σ[i]?=some (some v)->SV X.env.scope x->∃u,RelV v u/\Look X.env s.heap m x u
 cell:∀x c,X.env.cells.lookup x=some c->∃v,s.heap.IsCell c v
 free:H X.env.locals=none
 lu:∀x c,X.env.cells.lookup x=some c->H c=none
 pin:∀p∈X.pn++pins,s.heap.get? p.1=some p.2/\H p.1=none/\p.1≠X.env.locals/\p.1∉X.fs/\∀v,p.2.data≠.cell v
 bL:iw X.prog X.w H s.heap
 len:σ.length=X.N.length
section
variable {X:Cx} {pins:List (Addr×Obj)} {σ:List (Option V)} {H H':Hp} {s:Shared} {h':Heap}
def Cx.Ok.UW(ok:X.Ok)(e:X.base.get? b=some o):b∉X.fs:=λa=>by
 have:=(ok.uK.mem a).1;rw[e] at this;cases this
theorem Inv.bs(I:Inv X pins σ H s):∀b o,X.base.get? b=some o->s.heap.get? b=some o/\H b=none:=λb o e=>
 ⟨I.base.keep b o (I.ok.bs b o e).1 (I.ok.bs b o e).2 (I.ok.UW e) (I.ok.Ik b o e),I.base.free b o (I.ok.bs b o e).1 (I.ok.bs b o e).2 (I.ok.Ik b o e)⟩
def Inv.bk(I:Inv X pins σ H s):∀b o,X.base.get? b=some o->s.heap.get? b=some o:=λb o e=>(I.bs b o e).1
theorem Inv.mod(I:Inv X pins σ H s):Mod X.K X.mg X.base:=I.ok.mod
def Inv.xh(I:Inv X pins σ H s):X.K.In s.heap:=I.ok.mod.U1.keeps I.bk
theorem Inv.lt(I:Inv X pins σ H s):X.env.locals < s.heap.objs.size:=let⟨_,hn,_⟩:=I.loc;hn.lt
def Inv.sz(I:Inv X pins σ H s):X.s₀.heap.objs.size<=s.heap.objs.size:=WQ I.ok.above (Yw I.lt)
def Inv.UU(I:Inv X pins σ H s)(h:s.heap.objs.size<=a):a∉X.fs:=λc=>by
 obtain⟨_,o,b,_⟩:=I.ok.uK.mem c;exact absurd (WN (Wu b) (WQ I.sz h)) (Xz _)
def Inv.P0(I:Inv X pins σ H s):∀x c,X.env.cells.lookup x=some c->c≠X.env.locals:=λx c e z=>by
 obtain⟨v,o,d,hd⟩:=I.cell x c e;obtain⟨m,⟨f,es,g,a,b,_⟩,_⟩:=I.loc;rw[z,a] at d;cases d;rw[b] at hd;cases hd
theorem Inv.uK(I:Inv X pins σ H s):s.heap.FunFrames X.base X.outer:=by
 have all:∀(l:List Env),(∀b∈Gr l,b∈X.fs)->X.s₀.heap.FunFrames X.base l->s.heap.FunFrames X.base l:=by
  intro l
  induction l with
  | nil=>intro _ _;trivial
  | cons env r g=>
   intro f hl;obtain⟨i,⟨L,o,a,hn,h,hd⟩,hr⟩:=hl;have d:L∈X.fs:=f L (by unfold Gr;rw[Yo,a];exact We);obtain⟨j,e⟩:=I.base.slot L o h (I.ok.Qx L d) d λz=>I.ok.LO L z d;exact⟨i,⟨L,_,a,hn,e,hd⟩,g (λb c=>f b (by unfold Gr;rw[Yo,a];exact Wf _ c)) hr⟩
 exact all X.outer (λ_ c=>c) I.ok.uK
theorem Inv.stack(I:Inv X pins σ H s):s.heap.FunFrames X.base X.stack:=by
 rcases I.ok.TH with e |⟨e,a⟩
 ·rw[e];exact I.uK
 ·rw[e];obtain⟨m,hn,_⟩:=I.loc;refine .cons (by rw[I.ok.kind];decide) a hn ?_ I.uK;exact Heap.get?_none_of_le (WQ I.ok.M7 I.ok.above)
def Inv.pG(I:Inv X pins σ H s):∀b∈Gr X.stack,b∈X.env.locals::X.fs:=λb a=>by
 rcases I.ok.TH with e |⟨e,c⟩
 ·rw[e] at a;exact Wf _ a
 ·rw[e] at a;unfold Gr at a;rw[Yo,c] at a;exact a
def Inv.C8(I:Inv X pins σ H s):∀b∈Gr X.stack,H b=none:=λb a=>by
 rcases Ws.mp (I.pG b a) with e | a
 ·rw[e];exact I.free
 ·obtain⟨_,o,c,_⟩:=I.ok.uK.mem a;exact I.base.free b o c (I.ok.Qx b a) λz=>I.ok.LO b z a
def Inv.step{g':Array GenState}{t':Nat}{d':Drawn}{ch:List Addr}(I:Inv X pins σ H s)
  (g:∀b∈ch,(b∈X.ex\/X.s₀.heap.objs.size<=b)/\b≠X.env.locals/\(∀x c,X.env.cells.lookup x=some c->c≠b)/\∀p∈X.pn++pins,p.1≠b)
  (keep:∀b o,b≠X.env.locals->b∉X.fs->b∉ch->s.heap.get? b=some o->H b=none->h'.get? b=some o)
  (slot:∀b o,b≠X.env.locals->b∈X.fs->b∉ch->s.heap.get? b=some o->H b=none->∃J,h'.get? b=some {o with slots:=J}) (free:∀b o,b∉ch->s.heap.get? b=some o->H b=none->H' b=none)
  (there:∀b o,b∉ch->s.heap.get? b=some o->∃C,h'.get? b=some C)
  (rp:∀b xs,H b=some (.tup xs)->H' b=some (.tup xs)) (wo:∀b o u,H b=some (.D8 o u)->H' b=some (.D8 o u)) (xI:∀b ps,H b=some (.Nt ps)->∃more,H' b=some (.Nt (ps++more)))
  (ns:∀m,s.heap.Ns X.env.locals m->h'.Ns X.env.locals m) (bL:iw X.prog X.w H' h') (P:AllBare g'):
  Inv X pins σ H' {s with heap:=h',gens:=g',drawn:=d',toks:=t'}:=by
 have E:∀b o,X.s₀.heap.get? b=some o->b≠X.env.locals:=λb o e=>WG (WN (Wu e) I.ok.above);have j:∀b o,X.s₀.heap.get? b=some o->b∉X.ex->b∉ch:=λb o e a y=>by
  rcases(g b y).1 with z | z
  ·exact a z
  ·exact absurd (WN (Wu e) z) (Xz _)
 have h:∀x c,X.env.cells.lookup x=some c->∀v,s.heap.IsCell c v->h'.IsCell c v:=λx c e v ⟨o,A,hd⟩=>by
  have f:c∉ch:=λz=>(g c z).2.2.1 x c e rfl
  by_cases M:c∈X.fs
  ·obtain⟨J,q⟩:=slot c o (I.P0 x c e) M f A (I.lu x c e);exact⟨_,q,hd⟩
  ·exact⟨o,keep c o (I.P0 x c e) M f A (I.lu x c e),hd⟩
 refine⟨I.ok,I.os,P,⟨λb o e n y a=>?_,λb o e n y a=>?_,λb o e n a=>?_,λb o e a=>?_,λb xs e=>rp b xs (I.base.rp b xs e),λb o xs e=>wo b o xs (I.base.wo b o xs e),λb ps e=>?_⟩,?_,λx c e=>?_,?_,λx c e=>?_,λp hp=>?_,bL,I.len⟩
 ·exact keep b o (E b o e) y (j b o e a) (I.base.keep b o e n y a) (I.base.free b o e n a)
 ·obtain⟨J,t⟩:=I.base.slot b o e n y a;obtain⟨G,F⟩:=slot b _ (E b o e) y (j b o e a) t (I.base.free b o e n a);exact⟨G,F⟩
 ·obtain⟨C,t⟩:=I.base.there b o e a;exact free b C (j b o e a) t (I.base.free b o e n a)
 ·obtain⟨C,t⟩:=I.base.there b o e a;exact there b C (j b o e a) t
 ·obtain⟨O,t⟩:=I.base.xI b ps e;obtain⟨N,F⟩:=xI b _ t;exact⟨O++N,by rw[F,Array.append_assoc]⟩
 ·obtain⟨m,hn,hl⟩:=I.loc;refine⟨m,ns m hn,λi x v t F Q=>?_⟩;obtain⟨u,r,l⟩:=hl i x v t F Q;refine⟨u,r,?_⟩;rcases l with l |⟨k,c,e,z⟩
  ·exact .inl l
  ·exact .inr ⟨k,c,e,h x c e _ z⟩
 ·obtain⟨v,z⟩:=I.cell x c e;exact⟨v,h x c e v z⟩
 ·obtain⟨m,⟨o,_,_,A,_⟩,_⟩:=I.loc;exact free _ o (λz=>(g _ z).2.1 rfl) A I.free
 ·obtain⟨v,o,A,hd⟩:=I.cell x c e;exact free c o (λz=>(g c z).2.2.1 x c e rfl) A (I.lu x c e)
 ·obtain⟨e,n,ne,L,d⟩:=I.pin p hp;have f:p.1∉ch:=λz=>(g p.1 z).2.2.2 p hp rfl;exact⟨keep p.1 p.2 ne L f e n,free p.1 p.2 f e n,ne,L,d⟩
def Inv.un{t':Nat}(I:Inv X pins σ H s)(u:Un X.fs [] H H' s.heap h')(bL:iw X.prog X.w H' h'):Inv X pins σ H' {s with heap:=h',toks:=t'}:=by
 obtain⟨m,⟨o,es,q,g,r⟩,_⟩:=id I.loc;obtain⟨j,i⟩:=u.any g I.free (by simp);exact I.step (g':=s.gens) (d':=s.drawn) (ch:=[]) (λ_ z=>nomatch z) (λb o _ c _ e n=>u.keep b o e n c (by simp)) (λb o _ c _ e n=>u.slot b o e n c (by simp)) (λb o _ e n=>u.free b o e n (by simp)) (λb o _ e=>u.there b o e (by simp)) u.rp u.wo u.xI (λl hm=>by
  obtain⟨k,d,f,a,h⟩:=hm;rw[g] at a;cases a;exact⟨_,d,f,i,h⟩) bL I.bare
def Inv.call{g':Array GenState}{t':Nat}{d':Drawn}{ch:List Addr}(I:Inv X pins σ H s)(u:Un (Gr X.stack) ch H H' s.heap h')(bL:iw X.prog X.w H' h')(l:AllBare g')
  (f:∀b∈ch,(b∈X.ex\/X.s₀.heap.objs.size<=b)/\b≠X.env.locals/\(∀x c,X.env.cells.lookup x=some c->c≠b)/\∀p∈X.pn++pins,p.1≠b):
  Inv X pins σ H' {s with heap:=h',gens:=g',drawn:=d',toks:=t'}:=by
 obtain⟨m,⟨o,es,A,j,r⟩,_⟩:=id I.loc;obtain⟨t,g⟩:=u.any j I.free λz=>(f _ z).2.1 rfl;exact I.step (ch:=ch) f (λb o g q a e n=>u.keep b o e n (λz=>(Ws.mp (I.pG b z)).elim g q) a) (λb o _ _ a e n=>u.any e n a) (λb o a e n=>u.free b o e n a) (λb o a e=>u.there b o e a) u.rp u.wo u.xI (λy hm=>by
  obtain⟨v,h,i,d,k⟩:=hm;rw[j] at d;cases d;exact⟨_,h,i,g,k⟩) bL l
def Inv.turned{t':Nat}{it:Addr}(I:Inv X pins σ H s)(k:∀b o,b≠it->s.heap.get? b=some o->h'.get? b=some o)(hn:H it=none)(f:it≠X.env.locals)
  (l:it∈X.ex\/X.s₀.heap.objs.size<=it) (j:∀x c,X.env.cells.lookup x=some c->c≠it) (i:∀p∈X.pn++pins,p.1≠it):Inv X pins σ H {s with heap:=h',toks:=t'}:=by
 have d:∀b u,H b=some u->b≠it:=λb u e z=>by rw[z,hn] at e;cases e
 refine I.step (g':=s.gens) (d':=s.drawn) (ch:=[it]) (λb h=>?_) (λb o _ _ a e _=>k b o (λz=>a (by simp[z])) e) (λb o _ _ a e _=>⟨o.slots,k b o (λz=>a (by simp[z])) e⟩) (λ_ _ _ _ n=>n)
  (λb o a e=>⟨o,k b o (λz=>a (by simp[z])) e⟩) (λ_ _ e=>e) (λ_ _ _ e=>e) (λb w e=>⟨#[],by rw[e];simp⟩) (λm hm=>?_) (λb u e=>?_) I.bare
 ·have e:b=it:=by simpa using h
  subst e;exact⟨l,f,j,i⟩
 ·obtain⟨o,es,t,g,r⟩:=hm;exact⟨o,es,t,k _ o (Xy f) g,r⟩
 ·refine(I.bL b u e).xO (λc v a q=>k c v ?_ q) (λ_ q=>q) λ_ _ q=>q;rcases a with z | z
  ·rw[z];exact d b u e
  ·exact d c _ z
def Inv.tok(I:Inv X pins σ H s)(t:Nat):Inv X pins σ H {s with toks:=t}:=I.un (h':=s.heap) (t':=t) Un.refl I.bL
theorem Inv.kept(I:Inv X pins σ H s)(k:∀b u,s.heap.get? b=some u->h'.get? b=some u):Inv X pins σ H {s with heap:=h',toks:=t'}:=I.un (Un.kept k) (I.bL.kept k)
theorem Inv.laid(I:Inv X pins σ H s)(k:∀b u,s.heap.get? b=some u->h'.get? b=some u)(hp:s.heap.objs.size<=a)(new:cD X.prog X.w (upd H a o) h' a o):
  Inv X pins σ (upd H a o) {s with heap:=h',toks:=t'}:=I.un (Un.laid k hp (I.bL.fresh hp)) (I.bL.laid k hp new)
theorem Inv.write(I:Inv X pins σ H s)(c:Tu (H x))(d:e=x\/H e=some (.own x))(k:∀b u,b≠e->s.heap.get? b=some u->h'.get? b=some u)(a:∃u,h'.get? e=some u)(new:cD X.prog X.w (upd H x o) h' x o):Inv X pins σ (upd H x o) {s with heap:=h',toks:=t'}:=I.un (Un.write c d k a) (I.bL.write c d k a new)
def Inv.DH(I:Inv X pins σ H s)(h:∀p∈a,s.heap.get? p.1=some p.2/\H p.1=none/\p.1≠X.env.locals/\p.1∉X.fs/\∀v,p.2.data≠.cell v):Inv X a σ H s:=
 ⟨I.ok,I.os,I.bare,I.base,I.loc,I.cell,I.free,I.lu,λp hp=>(Xa.mp hp).elim (λz=>I.pin p (Abd _ z)) (h p),I.bL,I.len⟩
def An{N:List Str}(c:N.Nodup){i j:Nat}{x:Str}(a:N[i]?=some x)(b:N[j]?=some x):i=j:=by
 obtain⟨g,e⟩:=V9.mp a;obtain⟨f,d⟩:=V9.mp b;exact(List.getElem_inj c).mp (e.trans d.symm)
def wL{M:Model}{A:Around}{E:Value->Shared->Prop}{i:Nat}{x:Str}{v:V}{u:Value}{Q:Unit->Shared->Prop}(I:Inv X pins σ H s)(hN:X.N.Nodup)(hi:X.N[i]?=some x)(C:Loc X.env.scope x)(r:RelV v u)
  (h:∀s',Inv X pins (σ.set i (some v)) H s'->(∃a,Heap.SameBut a s.heap s'.heap/\(a=X.env.locals\/X.env.cells.lookup x=some a))->Q () s') (hf:X.fn x=true\/X.env.scope.names.lookup x=some .local:=by first | exact .inl rfl | exact .inr rfl | assumption):wpAny M A (storeName X.env x u) Q E s:=by
 obtain⟨m,hn,hl⟩:=id I.loc;have U:(X.env.scope.kind==.class||(X.env.scope.kind==.module&&X.env.locals !=X.env.globals))=false:=by rw[I.ok.kind];rfl
 have L:i < σ.length:=by rw[I.len];exact(V9.mp hi).1
 have P0:=I.P0;have g:∀{a:Addr} {h':Heap},(∃o,s.heap.get? a=some o/\H a=none)->Heap.SameBut a s.heap h'->iw X.prog X.w H h':=λ{a h'} ha f b ob e=>by
  obtain⟨_,_,F⟩:=ha;refine(I.bL b ob e).xO (λc w' t q=>(f.2 c ?_).trans q) (λ_ q=>q) λ_ _ q=>q;rintro rfl;rcases t with rfl | t
  ·rw[F] at e;cases e
  ·rw[F] at t;cases t
 rcases C with J | J
 ·refine wpAny_storeName_local J hn (λh' hn' f=>?_) U;obtain⟨oL,_,_,hoL,_⟩:=id hn;refine h _ ⟨I.ok,I.os,I.bare,⟨λb o e n R C=>?_,λb o e n R C=>?_,I.base.free,λb o e C=>?_,I.base.rp,I.base.wo,I.base.xI⟩,⟨_,hn',λj y v' l G e3=>?_⟩,λy c e=>?_,I.free,I.lu,λp hp=>?_,g ⟨oL,hoL,I.free⟩ f,by simpa using I.len⟩ ⟨_,f,.inl rfl⟩
  ·exact(f.2 b (WG (WN (Wu e) I.ok.above))).trans (I.base.keep b o e n R C)
  ·obtain⟨sl,l⟩:=I.base.slot b o e n R C;exact⟨sl,(f.2 b (WG (WN (Wu e) I.ok.above))).trans l⟩
  ·obtain⟨o',l⟩:=I.base.there b o e C;exact⟨o',(f.2 b (WG (WN (Wu e) I.ok.above))).trans l⟩
  ·by_cases O:j=i
   ·subst O;rw[hi] at l;cases l;rw[WW L] at G;cases G;exact⟨u,r,.inl ⟨J,by simp⟩⟩
   ·rw[Wm (Xy O)] at G;obtain⟨u',r',q⟩:=hl j y v' l G e3;refine⟨u',r',?_⟩;rcases q with⟨k,e⟩ |⟨k,c,e,z⟩
    ·refine .inl ⟨k,?_⟩;have:y≠x:=λe=>O (An hN l (e ▸ hi));simp[this,e]
    ·exact .inr ⟨k,c,e,z.sameBut f (P0 y c e)⟩
  ·obtain⟨w',z⟩:=I.cell y c e;exact⟨w',z.sameBut f (P0 y c e)⟩
  ·obtain⟨e,n,ne,nf,d⟩:=I.pin p hp;exact⟨(f.2 p.1 ne).trans e,n,ne,nf,d⟩
 ·have P:X.fn x=true:=by
   rcases hf with z | z
   ·exact z
   ·rw[z] at J;cases J
  obtain⟨c,t⟩:=I.ok.has x (.inl J);obtain⟨w',z⟩:=I.cell x c t;refine wpAny_storeName_cell I.ok.kind J t z (λh' Z f=>?_);obtain⟨oc,T,S⟩:=id z;refine h {s with heap:=h'} ⟨I.ok,I.os,I.bare,⟨λb o e n R C=>?_,λb o e n R C=>?_,I.base.free,λb o e C=>?_,I.base.rp,I.base.wo,I.base.xI⟩,⟨m,hn.sameBut f (Xy (P0 x c t)),λj y v' l G e3=>?_⟩,λy c' e=>?_,I.free,I.lu,λp hp=>?_,g ⟨oc,T,I.lu x c t⟩ f,by simpa using I.len⟩ ⟨c,f,.inr t⟩
  ·exact(f.2 b (WG (WN (Wu e) (I.ok.Sq x c P t)))).trans (I.base.keep b o e n R C)
  ·obtain⟨sl,l⟩:=I.base.slot b o e n R C;exact⟨sl,(f.2 b (WG (WN (Wu e) (I.ok.Sq x c P t)))).trans l⟩
  ·obtain⟨o',l⟩:=I.base.there b o e C;exact⟨o',(f.2 b (WG (WN (Wu e) (I.ok.Sq x c P t)))).trans l⟩
  ·by_cases O:j=i
   ·subst O;rw[hi] at l;cases l;rw[WW L] at G;cases G;exact⟨u,r,.inr ⟨.inl J,c,t,Z⟩⟩
   ·rw[Wm (Xy O)] at G;obtain⟨u',r',q⟩:=hl j y v' l G e3;refine⟨u',r',?_⟩;rcases q with q |⟨k,c',e,z'⟩
    ·exact .inl q
    ·refine .inr ⟨k,c',e,z'.sameBut f ?_⟩;rintro rfl;exact O (An hN l (I.ok.inj _ _ _ e t ▸ hi))
  ·by_cases Y:c'=c
   ·subst Y;exact⟨_,Z⟩
   ·obtain⟨w2,z2⟩:=I.cell y c' e;exact⟨w2,z2.sameBut f Y⟩
  ·obtain⟨e,n,ne,nf,d⟩:=I.pin p hp;refine⟨(f.2 p.1 ?_).trans e,n,ne,nf,d⟩;intro q;rw[q,T] at e;have q':oc=p.2:=Option.some.inj e;exact d w' (by rw[<-q'];exact S)
def nQ(I:Inv X pins σ H s)(c:X.N.Nodup)(hi:X.N[i]?=some x)(a:Loc X.env.scope x)(r:RelV v u)(h:∀s',Inv X pins (σ.set i (some v)) H s'->Q () s')(b:X.fn x=true\/X.env.scope.names.lookup x=some .local:=by first | exact .inl rfl | exact .inr rfl | assumption):wpAny M A (storeName X.env x u) Q E s:=
 wL I c hi a r (λs' d _=>h s' d) b
def Inv.call'(I:Inv X pins σ H s)(i:s'.os=s.os)(u:Un (Gr X.stack) ch H H' s.heap s'.heap)(bL:iw X.prog X.w H' s'.heap)(j:AllBare s'.gens)(a:∀b∈ch,(b∈X.ex\/X.s₀.heap.objs.size<=b)/\b≠X.env.locals/\(∀x c,X.env.cells.lookup x=some c->c≠b)/\∀p∈X.pn++pins,p.1≠b):Inv X pins σ H' s':=by
 obtain⟨h',f,g,d,h⟩:=s';have e:h=s.os:=i;subst e;exact I.call (g':=f) (t':=d) (d':=g) u bL j a
end
abbrev XK:=Value->Option Addr->Hp->Prop
abbrev St:=List (Option V)
abbrev VK:=V->Hp->Prop
abbrev TE:=St->Hp->VK->Prop
abbrev TT:=St->Hp->(Bool->Hp->Prop)->Prop
abbrev TA:=St->Hp->(List V->Hp->Prop)->Prop
structure Ends where
 nx:St->Hp->Prop
 rt:VK
 bk:St->Hp->Prop:=λ_ _=>False
 ct:St->Hp->Prop:=λ_ _=>False
abbrev TS:=Ends->St->Hp->Prop
inductive VJ(X:Cx)(pins:List (Addr×Obj))(σ:St)(Q:VK)(u:Value)(s':Shared):Prop where
 | mk (v H'):Inv X pins σ H' s'->RelV v u->Q v H'->VJ X pins σ Q u s'
def EP(X:Cx)(a:List (Addr×Obj))(σ:St)(Q:VK)(u:Value)(s':Shared):Prop:=VJ X a σ Q u s'
def TP(X:Cx)(a:List (Addr×Obj))(σ:St)(Q:Bool->Hp->Prop)(b:Bool)(s':Shared):Prop:=∃c,Inv X a σ c s'/\Q b c
inductive VL(X:Cx)(pins:List (Addr×Obj))(σ:St)(Q:List V->Hp->Prop)(us:List Value)(s':Shared):Prop where
 | mk (vs H'):Inv X pins σ H' s'->Vals vs us->Q vs H'->VL X pins σ Q us s'
def AP(X:Cx)(a:List (Addr×Obj))(σ:St)(Q:List V->Hp->Prop)(us:List Value)(s':Shared):Prop:=VL X a σ Q us s'
def SP(X:Cx)(b:List (Addr×Obj))(D:Ends)(f:Flow)(s':Shared):Prop:=
 match f with
 | .next=>∃a c,Inv X b a c s'/\D.nx a c
 | .brk=>∃a c,Inv X b a c s'/\D.bk a c
 | .cont=>∃a c,Inv X b a c s'/\D.ct a c
 | .ret u=>∃v a c,Inv X b a c s'/\RelV v u/\D.rt v c
def PE(X:Cx)(e:Expr)(t:TE):Prop:=
 ∀(a:List (Addr×Obj)) (s:Shared) (b:St) (H:Hp) (Q:VK),Inv X a b H s->t b H Q->wpAny (model X.prog X.w) X.A (eval e X.env) (EP X a b Q) X.xe s
def PT(X:Cx)(e:Expr)(t:TT):Prop:=
 ∀(a:List (Addr×Obj)) (s:Shared) (b:St) (H:Hp) (Q:Bool->Hp->Prop),Inv X a b H s->t b H Q->wpAny (model X.prog X.w) X.A (isTrue e X.env (eval e X.env)) (TP X a b Q) X.xe s
def PW(X:Cx)(e:Expr)(t:TT):Prop:=
 ∀(b:Sem Value)(a:List (Addr×Obj)) (s:Shared) (c:St) (H:Hp) (Q:Bool->Hp->Prop),Inv X a c H s->t c H Q->wpAny (model X.prog X.w) X.A (isTrue e X.env b) (TP X a c Q) X.xe s
def PW.pt(h:PW X e t):PT X e t:=h _
def PA(X:Cx)(es:List Expr)(t:TA):Prop:=
 ∀(pos:Pos)(a:List (Addr×Obj)) (s:Shared) (b:St) (H:Hp) (Q:List V->Hp->Prop),Inv X a b H s->t b H Q->wpAny (model X.prog X.w) X.A (spliced (backTo pos (starEach es X.env))) (AP X a b Q) X.xe s
def PS(X:Cx)(st:Stmt)(t:TS):Prop:=
 ∀(a:List (Addr×Obj)) (s:Shared) (b:St) (H:Hp) (D:Ends),Inv X a b H s->t D b H->wpAny (model X.prog X.w) X.A (exec st X.env) (SP X a D) X.xe s
def Bd(X:Cx)(st:List Stmt)(t:TS):Prop:=
 ∀(a:List (Addr×Obj)) (s:Shared) (b:St) (H:Hp) (D:Ends),Inv X a b H s->t D b H->wpAny (model X.prog X.w) X.A (execs st X.env) (SP X a D) X.xe s
def cU(h:wpAny M A t Q E s)(b:∀a s,Q a s->c a s):wpAny M A t c E s:=Xn h b λ_ _ x=>x
section
variable {X:Cx}
def Ua(i:Nat):TE:=λa H Q=>∃v,a[i]?=some (some v)/\Q v H
def tC(v:V):TE:=λ_ H Q=>Q v H
def Ov(o:X.N[i]?=some x)(n:SV X.env.scope x)(hd:(x==("__debug__":Str))=false:=by decide)(g:(x==("__classdict__":Str))=false:=by decide):PE X (.Name x pos) (Ua i):=by
 intro f s k H Q I h;obtain⟨v,e,h⟩:=h;obtain⟨m,hn,hl⟩:=I.loc;obtain⟨u,r,l⟩:=hl i x v o e n;have d:EP X f k Q u s:=⟨v,H,I,r,h⟩;rcases l with⟨b,hm⟩ |⟨b,c,j,a⟩
 ·exact wpAny_Name (wpAny_loadName_local I.ok.kind b hn hm d) hd
 ·rcases b with b | b
  ·exact wpAny_Name (wpAny_loadName_cell I.ok.kind b j a d) hd
  ·exact wpAny_Name (wpAny_loadName_free I.ok.kind b j a d g) hd
def OD{i j pos}:PE X (.Constant (.int i) j pos) (tC (.int i)):=λ_ _ _ H _ I h=>wpAny_Constant_int ⟨.int i,H,I.tok _,⟨_,rfl⟩,h⟩
def RD{b j pos}:PE X (.Constant (.bool b) j pos) (tC (.bl b)):=λ_ _ _ H _ I h=>Constant_bool ⟨.bl b,H,I,rfl,h⟩
def OB{j pos}:PE X (.Constant .none j pos) (tC .bb):=λ_ _ _ H _ I h=>Constant_none ⟨.bb,H,I,rfl,h⟩
def Oy{x j pos}:PE X (.Constant (.str x) j pos) (tC (.str x)):=λ_ _ _ H _ I h=>Calls.Constant_str ⟨.str x,H,I.tok _,⟨_,rfl⟩,h⟩
def Gl(X:Cx)(x:Str):Prop:=X.env.kindOf x=some .globalImplicit
def DU(I:Inv X pins σ H s)(a:Gl X x)(hm:X.mg x=some u)(h:Q u s)(hd:(x==("__debug__":Str))=false:=by decide):wpAny (model X.prog X.w) X.A (eval (.Name x pos) X.env) Q E s:=
 Aba I.ok.kind a (Calls.loadGlobal_global (by rw[I.ok.glob];exact I.mod.glob.keeps I.bk) hm h) hd
def jN(I:Inv X pins σ H s)(b:Gl X x)(hm:X.mg x=none)(a:bootBuiltins x=some u)(h:Q u s)(hn:x≠"__name__":=by decide)(hd:(x==("__debug__":Str))=false:=by decide):wpAny (model X.prog X.w) X.A (eval (.Name x pos) X.env) Q E s:=by
 obtain⟨e,d,c⟩:=I.mod.blt;exact Aba I.ok.kind b (Calls.loadGlobal_builtin (by rw[I.ok.glob];exact I.mod.glob.keeps I.bk) hm (by rw[I.ok.blt];exact d.keeps I.bk) ((c x hn).trans a) h) hd
def K2(b:Gl X x)(hm:X.mg x=none)(a:bootBuiltins x=some u)(r:RelV v u)(hn:x≠"__name__":=by decide)(hd:(x==("__debug__":Str))=false:=by decide):PE X (.Name x pos) (tC v):=
 λ_ _ _ H _ I h=>jN I b hm a ⟨v,H,I,r,h⟩ hn hd
variable {a b:Expr} {ta tb:TE} {pos:Pos}
variable {tA tB':TT} {rest:List Expr}
def nO(t u:TT):TT:=λd H Q=>t d H λc e=>if c=true then u d e Q else Q false e
def ET(t u:TT):TT:=λd H Q=>t d H λc e=>if c=true then Q true e else u d e Q
def rq(t:TT):TT:=λd H Q=>t d H λc e=>Q (!c) e
def Kx(g:PT X a tA):PW X (.BoolOp .And [a] pos) tA:=by
 intro i d s f H Q I h;refine isTrue_and (cU (g d s f H Q I h) λc j e=>?_);cases c with
 | true=>exact isTrue_and_nil e
 | false=>exact e
def Od(g:PT X a tA):PW X (.BoolOp .Or [a] pos) tA:=by
 intro i d s f H Q I h;refine isTrue_or (cU (g d s f H Q I h) λc j e=>?_);cases c with
 | false=>exact isTrue_or_nil e
 | true=>exact e
def Oe(k:PT X a tA)(j:PW X (.BoolOp .And (b::rest) pos) tB'):PW X (.BoolOp .And (a::b::rest) pos) (nO tA tB'):=by
 intro i d s e H Q I h;refine isTrue_and (cU (k d s e H _ I h) λc s1 ⟨H1,g,f⟩=>?_);cases c with
 | true=>exact j i d s1 e H1 Q g f
 | false=>exact⟨H1,g,f⟩
def Rw(k:PT X a tA)(j:PW X (.BoolOp .Or (b::rest) pos) tB'):PW X (.BoolOp .Or (a::b::rest) pos) (ET tA tB'):=by
 intro i d s e H Q I h;refine isTrue_or (cU (k d s e H _ I h) λc s1 ⟨H1,g,f⟩=>?_);cases c with
 | true=>exact⟨H1,g,f⟩
 | false=>exact j i d s1 e H1 Q g f
def Og(f:PT X a tA):PT X (.UnaryOp .Not a pos) (rq tA):=by
 intro d s e H Q I h;exact isTrue_not (f d s e H (λc g=>Q (!c) g) I h)
def QX(ta tb:TE):TE:=λd H Q=>ta d H λx e=>∃c,x=.bl c/\if c=true then tb d e Q else Q (.bl false) e
def Ud(ta tb:TE):TE:=λd H Q=>ta d H λx e=>∃c,x=.bl c/\if c=true then Q (.bl true) e else tb d e Q
def QR(ta:TE):TE:=λd H Q=>ta d H λx e=>∃c,x=.bl c/\Q (.bl (!c)) e
def Oz{op}(h:PE X a t):PE X (.BoolOp op [a] pos) t:=λc s d H Q I e=>BoolOp_one (h c s d H Q I e)
def OF(k:PE X a ta)(j:PE X (.BoolOp .And (b::rest) pos) tb):PE X (.BoolOp .And (a::b::rest) pos) (QX ta tb):=by
 intro d s f H Q I h;refine BoolOp_and (cU (k d s f H _ I h) λv s1 ⟨x,H1,g,i,e⟩=>?_);obtain⟨c,rfl,e⟩:=e;cases i;refine X7 ?_;cases c with
 | true=>exact j d s1 f H1 Q g e
 | false=>exact⟨.bl false,H1,g,rfl,e⟩
def Rz(k:PE X a ta)(j:PE X (.BoolOp .Or (b::rest) pos) tb):PE X (.BoolOp .Or (a::b::rest) pos) (Ud ta tb):=by
 intro d s f H Q I h;refine BoolOp_or (cU (k d s f H _ I h) λv s1 ⟨x,H1,g,i,e⟩=>?_);obtain⟨c,rfl,e⟩:=e;cases i;refine X7 ?_;cases c with
 | false=>exact j d s1 f H1 Q g e
 | true=>exact⟨.bl true,H1,g,rfl,e⟩
def OA(i:PE X a ta):PE X (.UnaryOp .Not a pos) (QR ta):=by
 intro d s f H Q I h;refine UnaryOp_ (cU (i d s f H _ I h) λv s1 ⟨x,H1,j,g,e⟩=>?_);obtain⟨c,rfl,e⟩:=e;cases g;exact not_of (X7 ⟨.bl (!c),H1,j,rfl,e⟩)
def VR(t:TT)(ta tb:TE):TE:=λd H Q=>t d H λc e=>if c=true then ta d e Q else tb d e Q
def HS(j:PT X c tA)(l:PE X a ta)(k:PE X b tb):PE X (.IfExp c a b pos) (VR tA ta tb):=by
 intro e s f H Q I h;refine wpAny_IfExp (cU (j e s f H _ I h) λd s1 ⟨H1,i,g⟩=>?_);cases d with
 | true=>exact l e s1 f H1 Q i g
 | false=>exact k e s1 f H1 Q i g
end
def fN(K:FR)(H:Hp)(a:Addr)(xs:List V):Prop:=
 Rd H a (.lst xs)\/
  ∃(o:Obj)(b:Array Value)(n:Nat),K.lookup a=some o/\o.cls=.type "list"/\o.dict=none/\o.data=.seq b n/\b.size<=sizeLine/\Vals xs b.toList
def jc(K:FR)(H:Hp)(a:Addr)(xs:List V):Prop:=
 Rd H a (.tup xs)\/
  ∃(o:Obj)(b:Array Value)(n:Nat),K.lookup a=some o/\o.cls=.type "tuple"/\o.data=.seq b n/\b.size<=sizeLine/\Vals xs b.toList/\o.dict=none
noncomputable def Vi:Value->Option V
 | .none=>some .bb
 | .bool b=>some (.bl b)
 | .int i _=>some (.int i)
 | .str x _=>some (.str x)
 | .bytes b _=>some (.byt b)
 | .float b _=>some (.Qy b)
 | .ref a=>some (.ref a)
 | .type n=>some (.ty n)
 | _=>none
def RelV.abs(r:RelV x u):Vi u=some x:=by
 cases x with
 | bb=>cases r;rfl
 | bl _=>cases r;rfl
 | int _=>obtain⟨t,rfl⟩:=r;rfl
 | str _=>obtain⟨t,rfl⟩:=r;rfl
 | byt _=>obtain⟨t,rfl⟩:=r;rfl
 | Qy _=>obtain⟨t,rfl⟩:=r;rfl
 | ref _=>cases r;rfl
 | ty _=>cases r;rfl
theorem RelV.inj(r:RelV x u)(q:RelV y u):x=y:=Option.some.inj (r.abs.symm.trans q.abs)
theorem Vals.inj:∀{xs ys:List V} {us:List Value},Vals xs us->Vals ys us->xs=ys
 | _,_,_,.nil,.nil=>rfl
 | _,_,_,.cons r t,.cons b a=>by rw[r.inj b,Vals.inj t a]
def fN.of{K:FR}(h:H a=some (.lst xs)):fN K H a xs:=.inl (.inl h)
def Inv.list(I:Inv X pins σ H s)(h:fN X.K H a xs):∃its:List Value,Vals xs its/\PlainL s.heap a its.toArray/\xs.length<=sizeLine:=by
 rcases h with h |⟨o,its,n,c,d,hd,b,f,r⟩
 ·obtain⟨z,its,n,r,e⟩:=h.ok I.bL;exact⟨its,r,⟨_,n,e,rfl,rfl,rfl⟩,z⟩
 ·refine⟨its.toList,r,⟨o,n,I.xh a o c,d,hd,by simpa using b⟩,?_⟩;have e:=r.length;simp only[YO] at e
  lia
def Inv.tuple(I:Inv X pins σ H s)(h:jc X.K H a xs):∃its:List Value,Vals xs its/\IsTup s.heap a its.toArray/\xs.length<=sizeLine:=by
 rcases h with h |⟨o,its,n,c,d,b,f,r,_⟩
 ·obtain⟨z,its,r,p⟩:=h.ok I.bL;exact⟨its,r,p.tup,z⟩
 ·refine⟨its.toList,r,⟨o,I.xh a o c,d,n,by simpa using b⟩,?_⟩;have e:=r.length;simp only[YO] at e
  lia
def Inv.Gy(I:Inv X pins σ H s)(h:jc X.K H a xs):∃its:List Value,Vals xs its/\wD s.heap a its.toArray/\xs.length<=sizeLine:=by
 rcases h with h |⟨o,its,n,c,d,b,f,r,hd⟩
 ·obtain⟨z,its,r,p⟩:=h.ok I.bL;exact⟨its,r,p,z⟩
 ·refine⟨its.toList,r,⟨o,I.xh a o c,d,⟨n,by simpa using b⟩,hd⟩,?_⟩;have e:=r.length;simp only[YO] at e
  lia
def Inv.Ay(I:Inv X pins σ H s)(h:fN X.K H a xs)(h':fN X.K H a ys):xs=ys:=by
 obtain⟨c,r,⟨o,n,e,_,_,d⟩,_⟩:=I.list h;obtain⟨b,i,⟨j,k,f,_,_,g⟩,_⟩:=I.list h';rw[e] at f;cases f;rw[d] at g;injection g with d1 _
 have:c=b:=by simpa using congrArg Array.toList d1
 subst this;exact r.inj i
def Inv.wI(I:Inv X pins σ H s)(h:jc X.K H a xs)(h':jc X.K H a ys):xs=ys:=by
 obtain⟨c,r,⟨o,e,_,n,d⟩,_⟩:=I.tuple h;obtain⟨b,i,⟨j,f,_,k,g⟩,_⟩:=I.tuple h';rw[e] at f;cases f;rw[d] at g;injection g with d1 _
 have:c=b:=by simpa using congrArg Array.toList d1
 subst this;exact r.inj i
abbrev Cx.vk(X:Cx)(E:Value->Shared->Prop):Cx:={X with xe:=E}
abbrev Cx.Qw(X:Cx):Cx:=X.vk λ_ _=>False
theorem Cx.Ok.vk{X:Cx}(ok:X.Ok)(E:Value->Shared->Prop):(X.vk E).Ok:=
 ⟨ok.mod,ok.kind,ok.glob,ok.blt,ok.above,ok.inj,ok.has,ok.Sq,ok.hd,ok.frames,ok.TH,ok.Vv,ok.bs,ok.M7,ok.Ik,ok.LO,ok.uK,ok.Qx⟩
def Cx.Ok.kj{X:Cx}{E:Value->Shared->Prop}(ok:(X.vk E).Ok):X.Ok:=
 ⟨ok.mod,ok.kind,ok.glob,ok.blt,ok.above,ok.inj,ok.has,ok.Sq,ok.hd,ok.frames,ok.TH,ok.Vv,ok.bs,ok.M7,ok.Ik,ok.LO,ok.uK,ok.Qx⟩
theorem Inv.vk(I:Inv X pins σ H s)(E:Value->Shared->Prop):Inv (X.vk E) pins σ H s:=⟨I.ok.vk E,I.os,I.bare,I.base,I.loc,I.cell,I.free,I.lu,I.pin,I.bL,I.len⟩
theorem Inv.kj(I:Inv (X.vk E) pins σ H s):Inv X pins σ H s:=⟨I.ok.kj,I.os,I.bare,I.base,I.loc,I.cell,I.free,I.lu,I.pin,I.bL,I.len⟩
theorem SP.kj(h:SP (X.vk E) pins D f s'):SP X pins D f s':=by
 cases f with
 | next=>obtain⟨a,b,I,q⟩:=h;exact⟨a,b,I.kj,q⟩
 | brk=>obtain⟨a,b,I,q⟩:=h;exact⟨a,b,I.kj,q⟩
 | cont=>obtain⟨a,b,I,q⟩:=h;exact⟨a,b,I.kj,q⟩
 | ret u=>obtain⟨v,a,b,I,r,q⟩:=h;exact⟨v,a,b,I.kj,r,q⟩
theorem Bd.Qw{st:List Stmt}{t:TS}(h:Bd X.Qw st t):Bd X st t:=λa s b H D I c=>
 Xn (h a s b H D (I.vk _) c) (λ_ _ q=>q.kj) λ_ _ z=>False.elim z
section
variable {X:Cx} {st:Stmt} {rest:List Stmt} {t u:TS} {e:Expr} {te:TE} {pos:Pos}
def QS:TS:=λD a H=>D.nx a H
def QN(t u:TS):TS:=λD a H=>t {D with nx:=u D} a H
def KC:Bd X [] QS:=λ_ _ a H _ I h=>Z1 ⟨a,H,I,h⟩
def HD(i:PS X st t)(g:Bd X rest u):Bd X (st::rest) (QN t u):=by
 intro a s c H D I h;refine wpAny_execs_cons (cU (i a s c H {D with nx:=u D} I h) λf d q=>?_);cases f with
 | next=>
  obtain⟨b,k,j,q⟩:=q;exact g a d b k D j q
 | ret v=>exact q
 | brk=>exact q
 | cont=>exact q
def KA(c:PS X st t):Bd X [st] t:=by
 intro a s b H D I h;refine wpAny_execs_cons (cU (c a s b H D I h) λf d q=>?_);cases f with
 | next=>exact Z1 q
 | ret v=>exact q
 | brk=>exact q
 | cont=>exact q
def Ny:TS:=λD a H=>D.bk a H
def HH:PS X (.Break pos) Ny:=λ_ _ a H _ I h=>wpAny_Break ⟨a,H,I,h⟩
def Inv.quiet(I:Inv X pins σ H s):interactive X.env=false:=by simp[interactive,I.ok.kind]
def QU(te:TE):TS:=λD a H=>te a H λ_ b=>D.nx a b
def KH(f:PE X e te)(d:swapsWith e none pos.line X.env=pure false:=by rfl):PS X (.Expr e pos) (QU te):=by
 intro a s b H D I h;exact wpAny_Expr_any (cU (f a s b H _ I h) λv s1 ⟨x,H1,g,i,c⟩=>⟨b,H1,g,c⟩) I.quiet d
def Uc(te:TE):TS:=λD a H=>te a H D.rt
def Oi(f:PE X e te):PS X (.Return (some e) pos) (Uc te):=by
 intro a s b H D I h;exact wpAny_Return_some (cU (f a s b H _ I h) λv s1 ⟨x,H1,g,c,d⟩=>⟨x,b,H1,g,c,d⟩)
def Ui(c:TT)(t u:TS):TS:=λD a H=>c a H λb d=>if b=true then t D a d else u D a d
def Rx(k:PT X c tc)(m:Bd X a t)(l:Bd X b u):PS X (.If c a b pos) (Ui tc t u):=by
 intro f s g H D I h;refine wpAny_If (cU (k f s g H _ I h) λd s1 ⟨H1,j,i⟩=>?_);cases d with
 | true=>exact m f s1 g H1 D j i
 | false=>exact l f s1 g H1 D j i
def Nu:TS:=λ_ _ _=>False
def HF:PS X st Nu:=λ_ _ _ _ _ _ h=>h.elim
end
abbrev TG:=V->St->Hp->(St->Hp->Prop)->Prop
abbrev Nb:=List V->St->Hp->(St->Hp->Prop)->Prop
def PG(X:Cx)(a:Expr)(t:TG):Prop:=
 ∀(b:List (Addr×Obj)) (s:Shared) (d:St) (H:Hp) (v:V) (u:Value) (Q:St->Hp->Prop),Inv X b d H s->RelV v u->t v d H Q->
  wpAny (model X.prog X.w) X.A (assign a X.env u) (λ_ f=>∃c e,Inv X b c e f/\Q c e) X.xe s
def Mo(X:Cx)(ts:List Expr)(t:Nb):Prop:=
 ∀(a:List (Addr×Obj)) (s:Shared) (c:St) (H:Hp) (d:List V) (us:List Value) (Q:St->Hp->Prop),Inv X a c H s->Vals d us->t d c H Q->
  wpAny (model X.prog X.w) X.A (assignInOrder ((assignEach ts X.env).map (·.2)) us) (λ_ f=>∃b e,Inv X a b e f/\Q b e) X.xe s
abbrev S8:=V->V->V->Hp->(Hp->Prop)->Prop
def Mn(X:Cx)(t:S8):Prop:=
 ∀(a:List (Addr×Obj)) (s:Shared) (b:St) (H:Hp) (o i v:V) (ov c u:Value) (Q:Hp->Prop),Inv X a b H s->RelV o ov->RelV i c->RelV v u->t o i v H Q->
  wpAny (model X.prog X.w) X.A (setItem ov c u) (λ_ e=>∃d,Inv X a b d e/\Q d) X.xe s
def AD(i:Nat):TG:=λv a H Q=>Q (a.set i (some v)) H
def KZ(d:X.N.Nodup)(hi:X.N[i]?=some x)(b:Loc X.env.scope x)(c:X.fn x=true\/X.env.scope.names.lookup x=some .local:=by first | exact .inl rfl | exact .inr rfl | assumption):PG X (.Name x pos) (AD i):=by
 intro a s f H v u Q I r h;exact wpAny_assign_Name (nQ I d hi b r (λg e=>⟨_,H,e,h⟩) c)
noncomputable def U7:Nb:=λb a H Q=>b=[]/\Q a H
def Sd(t:TG)(u:Nb):Nb:=λc b H Q=>∃v r,c=v::r/\t v b H λa d=>u r a d Q
def KY:Mo X [] U7:=by
 intro a s b H c us Q I r h;obtain⟨e,h⟩:=h;subst e;cases r;exact assignInOrder_nil ⟨b,H,I,h⟩
def HM(j:PG X e t)(i:Mo X es u)(g:(assignEach (e::es) X.env).map (·.2)=assign e X.env::(assignEach es X.env).map (·.2):=by rfl):Mo X (e::es) (Sd t u):=by
 intro a s c H m us Q I r h;obtain⟨v,n,k,h⟩:=h;subst k;cases r with
 | cons r d=>
  rw[g];refine Aa5 (cU (j a s c H _ _ _ I r h) λ_ s1 ⟨b,H1,l,f⟩=>?_);exact i a s1 b H1 _ _ Q l d f
def U6(K:FR)(n:Nat)(t:Nb):TG:=λv c H Q=>∃a b,v=.ref a/\jc K H a b/\b.length=n/\t b c H Q
def Ot(q:X.calm=true)(h:Mo X es t)(hn:(assignEach es X.env).length=n:=by rfl)(f:(assignEach es X.env).findIdx? (·.1)=none:=by rfl):PG X (.Tuple es k pos) (U6 X.K n t):=by
 intro c s g H v u Q I r d;obtain⟨a,i,x,p,hl,d⟩:=d;subst x;cases r;obtain⟨j,rv,m,A⟩:=I.tuple p;refine assign_Tuple_tuple (I.ok.hd q) m (by simp[hn,<-hl,rv.length]) f λw l=>?_;have y:Inv X c g H {s with heap:=w}:=I.kept (t':=s.toks) λb o e=>l b o (WG (Wu e)) e;exact h c _ g H i _ Q y (by simpa using rv) d
def yO(b c:TE)(t:S8):TG:=λv a H Q=>b a H λo f=>c a f λi e=>t o i v e λd=>Q a d
def HN (m:PE X o to) (hi:PE X i d) (l:Mn X t) (n:∀v,assign (.Subscript o i pos) X.env v=(do
   let ov<-holding [v] (eval o X.env);let b<-holding [v,ov] (eval i X.env)
   standAt pos
   holding [v,ov,b] (setItem ov b v)
   release [v,ov,b] []):=by intro _;rfl):PG X (.Subscript o i pos) (yO to d t):=by
 intro a s c H v u Q I r h;rw[n];refine V8 (WU (cU (m a s c H _ I h) λov s1 ⟨x,H1,w,f,k⟩=>?_));refine V8 (WU (cU (hi a s1 c H1 _ w k) λb s2 ⟨y,A,q,e,j⟩=>?_));refine V8 (XR (V8 (WU (cU (l a s2 c A x y v ov b u _ q f e r j) λ_ s3 ⟨z,p,g⟩=>?_))));exact wpAny_release ⟨c,z,p,g⟩
def J2(te:TE)(g:TG):TS:=λD a H=>te a H λx b=>g x a b D.nx
def Ol(l:PE X e te)(k:PG X b g)(j:swapsWithSole [b] e pos.line X.env=pure false:=by rfl)(i:swappedStores [b] e X.env=pure none:=by rfl)(m:(assignEach [b] X.env).map (·.2)=[assign b X.env]:=by rfl):PS X (.Assign [b] e pos) (J2 te g):=by
 intro a s c H D I h;refine wpAny_Assign_stores (cU (l a s c H _ I h) λv s1 ⟨x,H1,n,d,f⟩=>?_) j i;rw[m];exact cU (k a s1 c H1 x v _ n d f) λ_ o q=>q
def Oh(l:X.N.Nodup)(hi:X.N[i]?=some x)(f:Loc X.env.scope x)(k:PE X e te)(g:swapsWith e (some (.Name x pos')) pos.line X.env=pure false:=by rfl)(j:X.fn x=true\/X.env.scope.names.lookup x=some .local:=by first | exact .inl rfl | exact .inr rfl | assumption):
  PS X (.Assign [.Name x pos'] e pos) (J2 te (AD i)):=by
 intro a s b H D I h;refine wpAny_Assign_Name (cU (k a s b H _ I h) λv s1 ⟨y,H1,n,c,d⟩=>?_) g;exact nQ n l hi f c (λo m=>⟨_,H1,m,d⟩) j
def QP(i j:Nat)(c:TA):TS:=λD a H=>c a H λb d=>∃v w,b=[v,w]/\D.nx ((a.set i (some v)).set j (some w)) d
def yj{kt k d}(R:X.calm=true)(z:X.N.Nodup)(hi:X.N[i]?=some x)(Q:X.N[j]?=some y)(m:i≠j)(u:X.env.scope.names.lookup x=some .local)(t:X.env.scope.names.lookup y=some .local)(S:PA X [a,b] F)(O:swappedStores [.Tuple [.Name x r,.Name y py] kt pt] (.Tuple [a,b] k d) X.env=pure (some [x,y]))(P:swapsWithSole [.Tuple [.Name x r,.Name y py] kt pt] (.Tuple [a,b] k d) pos.line X.env=pure false:=by rfl):
  PS X (.Assign [.Tuple [.Name x r,.Name y py] kt pt] (.Tuple [a,b] k d) pos) (QP i j F):=by
 intro c s n H D I h;rw[exec_Assign_arm];refine V8 (XR ?_);rw[P];refine V8 (Wb ?_);rw[Wh (by decide)];refine V8 (Tuple_ (cU (S _ c s n H _ I h) λus s1 ⟨vs,H1,I1,J,g⟩=>?_));obtain⟨v,w,T,g⟩:=g;subst T;obtain⟨u1,u2,rfl,rv,f⟩:∃u1 u2,us=[u1,u2]/\RelV v u1/\RelV w u2:=by
  cases J with
  | cons p q=>
   cases q with
   | cons M L=>
    cases L;exact⟨_,_,rfl,p,M⟩
 refine Xc ?_ (by show 2<=sizeLine;decide);have Z:Inv X c n H1 {s1 with heap:=s1.heap.push {cls:=.type "tuple",data:=.seq [u1,u2].toArray}}:=I1.kept (t':=s1.toks) λb o e=>Wa _ e;rw[O];refine V8 (Wb ?_);show wpAny (model X.prog X.w) X.A (do rule "assign.swapped-stores";let items<-unpackItems (.ref s1.heap.objs.size) 2 none;assignInOrder [λv=>bindName X.env y v,λv=>bindName X.env x v] items.reverse;pure Flow.next) _ _ _;refine V8 (XG (V8 (unpackItems_tuple (items:=#[u1,u2]) (I.ok.hd R) (IsTup.new s1.heap _) λC l=>?_)));have Y:=Z.kept (h':=C) (t':=s1.toks) λb o e=>l b o (WG (Wu e)) e;show wpAny _ _ (assignInOrder [λv=>bindName X.env y v,λv=>bindName X.env x v] [u2,u1] >>=λ_=>pure Flow.next) _ _ _;refine V8 (Aa5 (wpAny_bindName (nQ Y z Q (.inl t) f (λs2 U=>?_) (.inr t))));refine Aa5 (wpAny_bindName (nQ U z hi (.inl u) rv (λs3 E=>assignInOrder_nil (Wb ?_)) (.inr u)));rw[Z4 _ _ (Xy m)] at E;exact⟨_,H1,E,g⟩
def GA(c:TT)(h:TS):TS:=λD a H=>∃W:Nat->St->Hp->Prop,(∃m,W m a H)/\∀m a H,W m a H->
 c a H λb f=>if b=true then ∃N:St->Hp->Prop,(∀d g,N d g->∃e,e < m/\W e d g)/\h {D with nx:=N,ct:=N,bk:=D.nx} a f else D.nx a f
def HE(hp:PassesOwn (model X.prog X.w) X.A X.env X.xe)(M:PT X c tc)(O:Bd X body F):PS X (.While c body [] pos) (GA tc F):=by
 intro d s z H D I h;obtain⟨W,⟨L,E⟩,i⟩:=h;refine wpAny_While (codeAny_whileLoop (λn J=>∃g y,Inv X d g y J/\W n g y) ?_ L ⟨z,H,I,E⟩);rintro n G ⟨e,x,P,C⟩;refine YF hp (cU (M d G e x _ P (i n e x C)) λb s2 ⟨u,t,l⟩=>?_);cases b with
 | true=>
  obtain⟨N,r,l⟩:=l;rw[Wg rfl];refine YF hp (cU (O d s2 e u _ t l) λf Q k=>?_);cases f with
  | next=>
   obtain⟨a,j,q,o⟩:=k;obtain⟨p,hm,m⟩:=r a j o;exact⟨p,hm,a,j,q,m⟩
  | cont=>
   obtain⟨a,j,q,o⟩:=k;obtain⟨p,hm,m⟩:=r a j o;exact⟨p,hm,a,j,q,m⟩
  | brk=>exact k
  | ret v=>exact k
 | false=>
  rw[Wh WR];exact Z1 ⟨e,u,t,l⟩
structure It where
 go:Nat->Hp->Prop
 Mw:Nat->Hp->V->Hp->Prop
 stop:Nat->Hp->Prop
def fE(X:Cx)(a:List (Addr×Obj))(H:Hp)(b:Addr):Prop:=
 H b=none/\b≠X.env.locals/\b∉X.fs/\(b∈X.ex\/X.s₀.heap.objs.size<=b)/\(∀x c,X.env.cells.lookup x=some c->c≠b)/\∀p∈X.pn++a,p.1≠b
def Inv.wq(I:Inv X pins σ H s)(a:s.heap.objs.size<=b)(hn:H' b=none):fE X pins H' b:=by
 refine⟨hn,ZE (WN I.lt a),I.UU a,.inr (WQ I.sz a),λx c e z=>?_,λp hp z=>?_⟩
 ·obtain⟨v,q⟩:=I.cell x c e;exact absurd (WN q.lt (by rw[z];exact a)) (Xz _)
 ·exact absurd (WN (Wu (I.pin p hp).1) (by rw[z];exact a)) (Xz _)
structure Turn(P:Program)(w:World)(K:FR)(tg:Expr)(J:It)(fp:List Addr)(it:Addr)(tn:Nat->Heap->Prop):Prop where
 mem:it∈fp
 obj:∀i h,tn i h->∀b∈fp,∃o,h.get? b=some o/\∀v,o.data≠.cell v
 keep:∀i h h',tn i h->(∀b∈fp,∀o,h.get? b=some o->h'.get? b=some o)->tn i h'
 item:∀(X:Cx),X.prog=P->X.w=w->X.K=K->X.calm=true->∀(i:Nat)(pins:List (Addr×Obj)) (s:Shared) (σ:St) (H:Hp) (E:Value->Shared->Prop),Inv X pins σ H s->(∀b∈fp,fE X pins H b)->tn i s.heap->J.go i H->
  wpAny (model P w) X.A (pyNext (.ref it)) (λr s1=>∃u,r=some u/\
   wpAny (model P w) X.A (letOwnedTupleGo tg (.ref it) u) (λ_ s2=>∃x H',Inv X pins σ H' s2/\RelV x u/\J.Mw i H x H'/\tn (i+1) s2.heap/\∀b∈fp,H' b=none) E s1) E s
 done:∀(X:Cx),X.prog=P->X.w=w->X.K=K->X.calm=true->∀(i:Nat)(pins:List (Addr×Obj)) (s:Shared) (σ:St) (H:Hp) (E:Value->Shared->Prop),Inv X pins σ H s->(∀b∈fp,fE X pins H b)->tn i s.heap->J.stop i H->
  wpAny (model P w) X.A (pyNext (.ref it)) (λr s1=>r=none/\Inv X pins σ H s1) E s
 self:∀(A:Around)(i:Nat)(s:Shared)(Q:Value->Shared->Prop)(E:Value->Shared->Prop),tn i s.heap->Q (.ref it) s->wpAny (model P w) A (pyIter (.ref it)) Q E s
abbrev TI:=St->Hp->(It->Hp->Prop)->Prop
def Vl(X:Cx)(a:List (Addr×Obj))(σ:St)(i:Expr)(R:It->Hp->Prop)(c:Value)(f:Shared):Prop:=
 ∃(g:Addr)(h:List Addr)(e:Nat->Heap->Prop)(J:It)(d:Hp),c=.ref g/\Inv X a σ d f/\Turn X.prog X.w X.K i J h g e/\e 0 f.heap/\(∀b∈h,fE X a d b)/\R J d
def PI(X:Cx)(e b:Expr)(d:TI):Prop:=
 ∀(a:List (Addr×Obj)) (s:Shared) (c:St) (H:Hp) (R:It->Hp->Prop),Inv X a c H s->d c H R->
  wpAny (model X.prog X.w) X.A (eval b X.env) (λv f=>wpAny (model X.prog X.w) X.A (pyIter v) (Vl X a c e R) X.xe f) X.xe s
def D1(c:s.heap.get? it=some o)(d:o.cls=.type n)(hd:o.data=.fields vs)(hn:["enumerate","zip","dict_itemiterator","dict_reverseitemiterator","odict_iterator","itertools.zip_longest","itertools.pairwise"].contains n=false)(a:Q () s):wpAny M A (letOwnedTupleGo b (.ref it) u) Q E s:=by
 unfold letOwnedTupleGo;cases b <;> first
  | exact Wb a
  |(cases u <;> first
    | exact Wb a
    |(refine V8 (wpAny_load c ?_);rw[d,hd];show wpAny M A (if(["enumerate","zip","dict_itemiterator","dict_reverseitemiterator","odict_iterator","itertools.zip_longest","itertools.pairwise"].contains n&&vs[0]?==some (rawInt _))=true then _ else _) Q E s;rw[Wh (by intro h;rw[hn,Bool.false_and] at h;cases h)];exact Wb a))
noncomputable def Vn(K:FR)(a:Addr):It:=
 ⟨λi H=>∃b x,fN K H a b/\b[i]?=some x,λi H x c=>c=H/\∀b,fN K H a b->b[i]?=some x,λi H=>∃b,fN K H a b/\b.length<=i⟩
noncomputable def Vm(K:FR)(a:Addr):It:=
 ⟨λi H=>∃b x,jc K H a b/\b[i]?=some x,λi H x c=>c=H/\∀b,jc K H a b->b[i]?=some x,λi H=>∃b,jc K H a b/\b.length<=i⟩
noncomputable def TV(lo:Int)(n:Nat):It:=⟨λi _=>i < n,λi H x a=>a=H/\x=.int (lo+i),λi _=>n<=i⟩
def EL{P:Program}{w:World}{K:FR}{Q:Expr}(a it:Addr):Turn P w K Q (Vn K a) [it] it (λi h=>h.IsListIter it a i) where
 mem:=by simp
 obj:=λi h st b g=>by
  have e:b=it:=by simpa using g
  subst e;obtain⟨o,e,c,d⟩:=st;exact⟨o,e,λv z=>by rw[d] at z;cases z⟩
 keep:=λi h n st k=>st.at λo e=>k it (by simp) o e
 item:=by
  intro X A t C N i f s M H E I m st y;subst A t C;obtain⟨O,x,l,r⟩:=y;obtain⟨q,rv,p,T⟩:=I.list l;obtain⟨u,Y,S⟩:=rv.get r;obtain⟨f0,L,Z,J,G,F⟩:=m it (by simp);refine ZV st p.isList (x:=u) (by simpa using Y) λn j sb=>?_;have I1:Inv X f M H {s with heap:=n}:=I.turned (t':=s.toks) (λb o g e=>(sb.2 b g).trans e) f0 L J G F;obtain⟨o,e,c,d⟩:=id j;exact⟨u,rfl,D1 (s:={s with heap:=n}) e c d (by decide) ⟨x,H,I1,S,⟨rfl,λys U=>by rw[I.Ay U l];exact r⟩,j,λb g=>(m b g).1⟩⟩
 done:=by
  intro X A t C N i f s M H E I m st y;subst A t C;obtain⟨O,l,r⟩:=y;obtain⟨q,rv,p,T⟩:=I.list l;obtain⟨f0,L,Z,J,G,F⟩:=m it (by simp);have hl:=rv.length;exact Z6 (I.ok.hd N) st p.isList (by simp;lia) λn eb=>⟨rfl,I.turned (t':=s.toks) (λb o g e=>eb b o g e) f0 L J G F⟩
 self:=λ_ _ _ _ _ st h=>wpAny_pyIter_listiter st h
def Bj{P:Program}{w:World}{K:FR}{Q:Expr}(a it:Addr):Turn P w K Q (Vm K a) [it] it (λi h=>h.IsTupleIter it a i) where
 mem:=by simp
 obj:=λi h st b j=>by
  have e:b=it:=by simpa using j
  subst e;obtain⟨o,e,c,d⟩:=st;exact⟨o,e,λv z=>by rw[d] at z;cases z⟩
 keep:=λi h q st k=>st.at λo e=>k it (by simp) o e
 item:=by
  intro X A t C N i f s M H E I n st y;subst A t C;obtain⟨O,x,m,r⟩:=y;obtain⟨g,rv,p,T⟩:=I.tuple m;obtain⟨u,Y,S⟩:=rv.get r;obtain⟨f0,L,Z,J,G,F⟩:=n it (by simp);refine wpAny_pyNext_tuple_item st (show s.heap.IsTuple a g.toArray from p) (x:=u) (by simpa using Y) λq l sb=>?_;have I1:Inv X f M H {s with heap:=q}:=I.turned (t':=s.toks) (λb o j e=>(sb.2 b j).trans e) f0 L J G F;obtain⟨o,e,c,d⟩:=id l;exact⟨u,rfl,D1 (s:={s with heap:=q}) e c d (by decide) ⟨x,H,I1,S,⟨rfl,λys U=>by rw[I.wI U m];exact r⟩,l,λb j=>(n b j).1⟩⟩
 done:=by
  intro X A t C N i f s M H E I n st y;subst A t C;obtain⟨O,m,r⟩:=y;obtain⟨g,rv,p,T⟩:=I.tuple m;obtain⟨f0,L,Z,J,G,F⟩:=n it (by simp);have hl:=rv.length;exact wpAny_pyNext_tuple_end (I.ok.hd N) st (show s.heap.IsTuple a g.toArray from p) (by simp;lia) λq eb=>⟨rfl,I.turned (t':=s.toks) (λb o j e=>eb b o j e) f0 L J G F⟩
 self:=λ_ _ _ _ _ st h=>wpAny_pyIter_tupleiter st h
def Bk{P:Program}{w:World}{K:FR}{G:Expr}(it:Addr)(lo:Int)(n:Nat):Turn P w K G (TV lo n) [it] it (λi h=>IsRangeIter h it (lo+(i:Nat)*1) ((n:Int)-(i:Nat)) 1) where
 mem:=by simp
 obj:=λi h st b c=>by
  have e:b=it:=by simpa using c
  subst e;exact⟨_,st,λv z=>by
   have F:Data.fields _=Data.cell v:=z;cases F⟩
 keep:=λi h g st k=>k it (by simp) _ st
 item:=by
  intro X p j q m i a s A H E I f st l;subst p j q;obtain⟨f0,y,M,x,u,r⟩:=f it (by simp);have W:=Walks.range (prog:=X.prog) (w:=X.w) (I.ok.hd m) it lo 1 n;refine W.item i s _ _ l st λv g C L d J=>?_;obtain⟨t,rfl⟩:=L;have O:Inv X a A H {s with heap:=g,toks:=C}:=I.turned (λb o c e=>J b o (by simpa using c) e) f0 y x u r;refine⟨_,rfl,D1 (s:={s with heap:=g,toks:=C}) (n:="range_iterator") d rfl rfl (by decide) ⟨.int (lo+i),H,O,⟨t,?_⟩,⟨rfl,rfl⟩,d,λb c=>(f b c).1⟩⟩;rw[Int.mul_one]
 done:=by
  intro X p j q m i a s A H E I f st l;subst p j q;obtain⟨f0,y,M,x,u,r⟩:=f it (by simp);exact wpAny_pyNext_range_end (I.ok.hd m) st (by have:n<=i:=l;lia) λg N=>⟨rfl,I.turned (t':=s.toks) (λb o c e=>N b o c e) f0 y x u r⟩
 self:=λ_ _ _ _ _ st h=>wpAny_pyIter_rangeiter st h
def Hr{a:List (Addr×Obj)}{σ:St}{H:Hp}{s:Shared}{R:It->Hp->Prop}{E:Value->Shared->Prop}{lo hi:Int}{t u v:Tok}{c:Nat}(I:Inv X a σ H s)(j:-(2^62)<=lo)(i:lo < 2^62)(h:-(2^62)<=hi)(g:hi < 2^62)
  (q:R (TV lo (hi-lo).toNat) H):wpAny (model X.prog X.w) X.A (pyIter (.ref s.heap.objs.size)) (Vl X a σ m R) E {s with heap:=s.heap.push {cls:=.type "range",data:=.fields #[.int lo t,.int hi u,.int 1 v]},toks:=c}:=by
 refine wpAny_pyIter_range (IsRange.new ..) (small_one j i h g) ?_;have d:Inv X a σ H {s with heap:=s.heap.push {cls:=.type "range",data:=.fields #[.int lo t,.int hi u,.int 1 v]},toks:=c}:=I.kept λb o e=>Wa _ e;refine⟨(s.heap.push {cls:=.type "range",data:=.fields #[.int lo t,.int hi u,.int 1 v]}).objs.size,[(s.heap.push {cls:=.type "range",data:=.fields #[.int lo t,.int hi u,.int 1 v]}).objs.size],_,_,H,rfl,
  d.kept (t':=c) λb o e=>Wa _ e,Bk _ lo (hi-lo).toNat,?_,λb f=>?_,q⟩
 ·have l:lo+((0:Nat):Int)*1=lo:=by simp
  have k:(((hi-lo).toNat:Nat):Int)-((0:Nat):Int)=Builtin.Range.rangeSize lo hi 1:=by rw[rangeSize_one];split <;> lia
  show IsRangeIter _ _ (lo+((0:Nat):Int)*1) ((((hi-lo).toNat:Nat):Int)-((0:Nat):Int)) 1;rw[l,k];exact Ww _ rfl
 ·have e:b=(s.heap.push {cls:=.type "range",data:=.fields #[.int lo t,.int hi u,.int 1 v]}).objs.size:=by simpa using f
  subst e;exact d.wq (Wj _) (d.bL.fresh (Wj _))
def RY(c:TA):TI:=λa H R=>c a H λb d=>∃j:Int,b=[.int j]/\-(2^62)<=j/\j < 2^62/\R (TV 0 j.toNat) d
def Fo{a:Expr}{d:TA}{p pos:Pos}(m:Gl X "range")(hm:X.mg "range"=none)(n:PA X [a] d)(l:starEach [a] X.env=[(false,eval a X.env)]:=by rfl):PI X v (.Call (.Name "range" p) [a] [] pos) (RY d):=by
 intro b s f H R I h;refine Call_ (jN I m hm boot_range (XA (cU (n pos b s f H _ I h) λus s1 ⟨u,H1,o,i,c⟩=>?_) l rfl));obtain⟨j,e,c,k,q⟩:=c;subst e;cases i with
 | cons r g=>
  cases g;obtain⟨t,rfl⟩:=r;exact call_range_1 (Hr o (by lia) (by lia) c k (by simpa using q))
def QT(f:TI)(g:TG)(h:TS):TS:=λD a H=>f a H λJ k=>∃W:Nat->Nat->St->Hp->Prop,(∃m,W 0 m a k)/\∀i m a H,W i m a H->
 (J.stop i H/\D.nx a H)\/(J.go i H/\∃N:St->Hp->Prop,(∀b c,N b c->∃e,e < m/\W (i+1) e b c)/\∀x c,J.Mw i H x c->g x a c λd j=>h {D with nx:=N,ct:=N,bk:=D.nx} d j)
noncomputable def p5(fp:List Addr)(h:Heap):List (Addr×Obj):=fp.filterMap λb=>(h.get? b).map λo=>(b,o)
def fz(a:b∈fp)(e:h.get? b=some o):(b,o)∈p5 fp h:=Aaa.mpr ⟨b,a,by rw[e];rfl⟩
def Fx(hp:p∈p5 fp h):p.1∈fp/\h.get? p.1=some p.2:=by
 obtain⟨b,a,e⟩:=Aaa.mp hp;cases q:h.get? b with
 | none=>rw[q] at e;cases e
 | some o=>
  rw[q] at e;have c:(b,o)=p:=Option.some.inj e;subst c;exact⟨a,q⟩
def Inv.pinned(I:Inv X pins σ H s)(g:∀b∈fp,fE X pins H b)(f:∀b∈fp,∃o,s.heap.get? b=some o/\∀v,o.data≠.cell v):Inv X (pins++p5 fp s.heap) σ H s:=
 I.DH λp hp=>(Xa.mp hp).elim (λz=>I.pin p (WZ _ z)) λz=>by
  obtain⟨a,e⟩:=Fx z;obtain⟨f0,i,h,_⟩:=g p.1 a;obtain⟨o,c,d⟩:=f p.1 a;rw[e] at c;cases c;exact⟨e,f0,i,h,d⟩
def Inv.kl(I:Inv X (pins++pl) σ H s):Inv X pins σ H s:=I.DH λp hp=>I.pin p (WZ _ (Abd _ hp))
def Oj(hp:PassesOwn (model X.prog X.w) X.A X.env X.xe)(hc:X.calm=true)(hi:PI X tg iter wi)(hg:PG X tg g)(p:Bd X body tb)(hs:∀x,foldedSetIterable iter X.env x=pure x:=by intro _;rfl):PS X (.For tg iter body [] pos) (QT wi g tb):=by
 intro c s Y H D I h;refine wpAny_For (cU (hi c s Y H _ I h) λv s1 h1=>cU h1 λitv s2 h2=>?_) hs;obtain⟨it,M,Z,J,H2,e,I2,T,Q,f2,W,⟨m0,w0⟩,E⟩:=h2;subst e;have l:∀{y:Hp},(∀b∈M,y b=none)->∀b∈M,fE X c y b:=λhn b p=>⟨hn b p,(f2 b p).2⟩;refine codeAny_forLoop_any (λn s'=>∃i k y,Inv X c k y s'/\Z i s'.heap/\(∀b∈M,y b=none)/\W i n k y) ?_ m0 ⟨0,Y,H2,I2,Q,λb p=>(f2 b p).1,w0⟩;rintro n s3 ⟨i,j,O,I3,F,L,w3⟩;rcases E i n j O w3 with⟨stop,qn⟩ |⟨go,N,hN,step⟩
 ·refine YF hp (cU (T.done X rfl rfl rfl hc i c s3 j O X.xe I3 (l L) F stop) λr s4 ⟨hr,I4⟩=>?_);subst hr;exact Z1 ⟨j,O,I4,qn⟩
 ·refine YF hp (cU (T.item X rfl rfl rfl hc i c s3 j O X.xe I3 (l L) F go) λr s4 ⟨u,hr,h4⟩=>?_);subst hr;refine YF hp (cU h4 λ_ s5 ⟨x,H5,I5,r5,y5,C,S⟩=>?_);have U:=I5.pinned (l S) (T.obj _ _ C);refine YF hp (cU (hg _ s5 j H5 x u _ U r5 (step x H5 y5)) λ_ s6 ⟨P,H6,I6,q6⟩=>?_);refine YF hp (cU (p _ s6 P H6 _ I6 q6) λf R z=>?_);have again:∀{a:St} {t:Hp},Inv X (c++p5 M s5.heap) a t R->N a t->∃m,m < n/\∃i k y,Inv X c k y R/\Z i R.heap/\(∀b∈M,y b=none)/\W i m k y:=λ{a t} q G=>by
   obtain⟨m',hm,w7⟩:=hN a t G;refine⟨m',hm,i+1,a,t,q.kl,T.keep _ _ _ C λb p o e=>(q.pin (b,o) (WZ _ (WZ _ (fz p e)))).1,λb p=>?_,w7⟩;obtain⟨o,e,d⟩:=T.obj _ _ C b p;exact(q.pin (b,o) (WZ _ (WZ _ (fz p e)))).2.1
  cases f with
  | next=>obtain⟨a,t,q,G⟩:=z;exact again q G
  | cont=>obtain⟨a,t,q,G⟩:=z;exact again q G
  | brk=>obtain⟨a,t,q,z⟩:=z;exact⟨a,t,q.kl,z⟩
  | ret v=>obtain⟨x7,a,t,q,r7,z⟩:=z;exact⟨x7,a,t,q.kl,r7,z⟩
abbrev R2:=V->V->Hp->VK->Prop
def pA(X:Cx)(f:Value->Value->Sem Value)(r:R2):Prop:=
 ∀(a:List (Addr×Obj)) (s:Shared) (b:St) (H:Hp) (x y:V) (v u:Value) (Q:VK),Inv X a b H s->RelV x v->RelV y u->r x y H Q->
  wpAny (model X.prog X.w) X.A (f v u) (EP X a b Q) X.xe s
def SX(X:Cx)(f:Value->Sem Value)(r:V->Hp->VK->Prop):Prop:=
 ∀(a:List (Addr×Obj)) (s:Shared) (b:St) (H:Hp) (x:V) (v:Value) (Q:VK),Inv X a b H s->RelV x v->r x H Q->
  wpAny (model X.prog X.w) X.A (f v) (EP X a b Q) X.xe s
def fX(X:Cx)(f:Value)(r:List V->Hp->VK->Prop):Prop:=
 ∀(a:List (Addr×Obj)) (s:Shared) (b:St) (H:Hp) (c:List V) (us:List Value) (Q:VK),Inv X a b H s->Vals c us->r c H Q->
  wpAny (model X.prog X.w) X.A (call f us) (EP X a b Q) X.xe s
def Vk(X:Cx)(r:V->Hp->(Bool->Hp->Prop)->Prop):Prop:=
 ∀(a:List (Addr×Obj)) (s:Shared) (b:St) (H:Hp) (x:V) (v:Value) (Q:Bool->Hp->Prop),Inv X a b H s->RelV x v->r x H Q->
  wpAny (model X.prog X.w) X.A (truthy v) (TP X a b Q) X.xe s
def QQ(r:R2)(c b:TE):TE:=λa H Q=>c a H λx e=>b a e λy d=>r x y d Q
def VN(r:V->Hp->VK->Prop)(b:TE):TE:=λa H Q=>b a H λx c=>r x c Q
def rI(C:Int->Int->Prop)(g:Int->Int->V):R2:=λx y H Q=>∃i j,x=.int i/\y=.int j/\C i j/\Q (g i j) H
def Kv(g:Int->Int->V):R2:=λx y H Q=>∃i j,x=.int i/\y=.int j/\Q (g i j) H
def rU(g:Int->V):V->Hp->VK->Prop:=λx H Q=>∃i,x=.int i/\Q (g i) H
def Qf(r:PE X a l)(q:PE X b k){c:List (Addr×Obj)}{s:Shared}{σ:St}{H:Hp}{R:V->V->Hp->Prop}(I:Inv X c σ H s)
  (h:l σ H λx j=>k σ j λy d=>R x y d) {Q:Value->Shared->Prop} {f:Value->Value->Sem Value}
  (hf:∀v u i x y d,Inv X c σ d i->RelV x v->RelV y u->R x y d->wpAny (model X.prog X.w) X.A (f v u) Q X.xe i):
  wpAny (model X.prog X.w) X.A (eval a X.env) (λv g=>wpAny (model X.prog X.w) X.A (eval b X.env) (λu e=>wpAny (model X.prog X.w) X.A (f v u) Q X.xe e) X.xe g) X.xe s:=by
 refine cU (r c s σ H _ I h) λv s1 ⟨x,j,z,n,p⟩=>?_;refine cU (q c s1 σ j _ z p) λu i ⟨y,d,t,m,o⟩=>?_;exact hf v u i x y d t n m o
def RA{d:Operator}{r:R2}(l:pA X (binaryOp d) r)(n:PE X a g)(m:PE X b f):PE X (.BinOp a d b pos) (QQ r g f):=by
 intro c s e H Q I h;exact wpAny_BinOp (Qf n m I h λv u i x y p o k j q=>l c i e p x y v u Q o k j q)
def Ry(g:SX X (unaryOp op) r)(i:PE X a d):PE X (.UnaryOp op a pos) (VN r d):=by
 intro b s c H Q I h;exact UnaryOp_ (cU (i b s c H _ I h) λv s1 ⟨x,H1,j,e,f⟩=>g b s1 c H1 x v Q j e f)
def TJ{f:Value->Value->Sem Value}{C:Int->Int->Prop}{g:Int->Int->Int}
  (rule:∀(i j:Int)(t u:Tok)(s:Shared)(Q:Value->Shared->Prop)(E:Value->Shared->Prop),C i j->Q (.int (g i j) s.toks) {s with toks:=s.toks+1}->wpAny (model X.prog X.w) X.A (f (.int i t) (.int j u)) Q E s):
  pA X f (rI C λi j=>.int (g i j)):=by
 intro a s k H x y v u Q I d c h;obtain⟨i,j,rfl,rfl,e,q⟩:=h;obtain⟨t,rfl⟩:=d;obtain⟨b,rfl⟩:=c;exact rule i j t b s _ _ e ⟨.int (g i j),H,I.tok _,⟨_,rfl⟩,q⟩
def RK{f:Value->Value->Sem Value}{g:Int->Int->Int}
  (rule:∀(i j:Int)(t u:Tok)(s:Shared)(Q:Value->Shared->Prop)(E:Value->Shared->Prop),Q (.int (g i j) s.toks) {s with toks:=s.toks+1}->wpAny (model X.prog X.w) X.A (f (.int i t) (.int j u)) Q E s):
  pA X f (Kv λi j=>.int (g i j)):=by
 intro a s e H x y v u Q I d c h;obtain⟨i,j,rfl,rfl,q⟩:=h;obtain⟨t,rfl⟩:=d;obtain⟨b,rfl⟩:=c;exact rule i j t b s _ _ ⟨.int (g i j),H,I.tok _,⟨_,rfl⟩,q⟩
def K8{f:Value->Value->Sem Value}{g:Int->Int->Bool}
  (rule:∀(i j:Int)(t u:Tok)(s:Shared)(Q:Value->Shared->Prop)(E:Value->Shared->Prop),Q (.bool (g i j)) s->wpAny (model X.prog X.w) X.A (f (.int i t) (.int j u)) Q E s):
  pA X f (Kv λi j=>.bl (g i j)):=by
 intro a s e H x y v u Q I d c h;obtain⟨i,j,rfl,rfl,q⟩:=h;obtain⟨t,rfl⟩:=d;obtain⟨b,rfl⟩:=c;exact rule i j t b s _ _ ⟨.bl (g i j),H,I,rfl,q⟩
def Vp(i j:Int):Prop:=0<=j/\j<=1000000/\i.natAbs < 2^64
def Qt(i j:Int):Prop:=(-(2^64) < i/\i < 2^64)\/(-(2^64) < j/\j < 2^64)
def Qt.ok(h:Qt i j):IntMulOk i j:=by
 rcases h with⟨b,a⟩ |⟨b,a⟩
 ·exact .of_left (intBits_le_64 b a)
 ·exact .of_right (intBits_le_64 b a)
def OW:pA X (binaryOp .Add) (Kv λi j=>.int (i+j)):=RK λ_ _ _ _ _ _ _ q=>add_int q
def OQ:pA X (binaryOp .Sub) (Kv λi j=>.int (i-j)):=RK λ_ _ _ _ _ _ _ q=>sub_int q
def OS:pA X (binaryOp .Mult) (rI Qt λi j=>.int (i*j)):=TJ λ_ _ _ _ _ _ _ a q=>mul_int q a.ok
def OT:pA X (binaryOp .Mod) (rI (λ_ j=>0 < j) λi j=>.int (i % j)):=TJ λi j _ _ _ _ _ a q=>by
 have b:(0:Int) < j:=a;exact mod_int' (by lia) (by rw[Int.fmod_eq_emod_of_nonneg i (by lia)];exact q)
def OR:pA X (binaryOp .Pow) (rI Vp λi j=>.int (i^j.toNat)):=TJ λ_ _ _ _ _ _ _ a q=>pow_int_small a.1 a.2.1 a.2.2 q
def VM{f:Value->Sem Value}{g:Int->Int}
  (rule:∀(i:Int)(t:Tok)(s:Shared)(Q:Value->Shared->Prop)(E:Value->Shared->Prop),Q (.int (g i) s.toks) {s with toks:=s.toks+1}->wpAny (model X.prog X.w) X.A (f (.int i t)) Q E s):
  SX X f (rU λi=>.int (g i)):=by
 intro a s c H x v Q I b h;obtain⟨i,rfl,q⟩:=h;obtain⟨t,rfl⟩:=b;exact rule i t s _ _ ⟨.int (g i),H,I.tok _,⟨_,rfl⟩,q⟩
def Nm:SX X (unaryOp .USub) (rU λi=>.int (-i)):=VM λ_ _ _ _ _ q=>neg_int q
def IP(I:Inv X pins σ H s)(q:Q (.bl k) H)(e:k=a):EP X pins σ Q (.bool a) s:=by
 subst e;exact⟨.bl k,H,I,rfl,q⟩
def RG:pA X (compareOp .Lt) (Kv λi j=>.bl (decide (i < j))):=K8 λ_ _ _ _ _ _ _ q=>lt_int q
def RH:pA X (compareOp .LtE) (Kv λi j=>.bl (decide (i<=j))):=K8 λ_ _ _ _ _ _ _ q=>le_int q
def RI:pA X (compareOp .Gt) (Kv λi j=>.bl (decide (j < i))):=K8 λ_ _ _ _ _ _ _ q=>gt_int q
def RJ:pA X (compareOp .GtE) (Kv λi j=>.bl (decide (j<=i))):=K8 λ_ _ _ _ _ _ _ q=>ge_int q
def OU:pA X (compareOp .Is) (λx y H Q=>y=.bb/\Q (.bl (decide (x=.bb))) H):=by
 intro b s d H x y v u Q I a c h;obtain⟨rfl,q⟩:=h;cases c;refine is_none_gen (IP I q ?_);cases x <;> first
  |(cases a;rfl)
  |(obtain⟨t,rfl⟩:=a;rfl)
def K6:pA X (compareOp .IsNot) (λx y H Q=>y=.bb/\Q (.bl (!decide (x=.bb))) H):=by
 intro b s d H x y v u Q I a c h;obtain⟨rfl,q⟩:=h;cases c;refine isnot_none_gen (IP I q ?_);cases x <;> first
  |(cases a;rfl)
  |(obtain⟨t,rfl⟩:=a;rfl)
def qk(b:Expr)(h:op≠.In:=by decide)(a:op≠.NotIn:=by decide):behindInMarks op b=false:=by
 have d:(op==CmpOp.In)=false:=by cases op <;> first | rfl | exact absurd rfl h
 have c:(op==CmpOp.NotIn)=false:=by cases op <;> first | rfl | exact absurd rfl a
 cases b <;> simp[behindInMarks,d,c]
def K0{d:CmpOp}{r:R2}(l:pA X (compareOp d) r)(n:PE X a g)(m:PE X b f)(hm:behindInMarks d b=false):PE X (.Compare a [d] [b] pos) (QQ r g f):=by
 intro c s e H Q I h;exact wpAny_Compare1 (Qf n m I h λv u i x y p o k j q=>l c i e p x y v u Q o k j q) hm
def QM(t:TE):TT:=λa H Q=>t a H λx b=>∃k,x=.bl k/\Q k b
def Ky(q:pA X (compareOp op) r)(w:PE X a i)(t:PE X b g)(hm:behindInMarks op b=false):PT X (.Compare a [op] [b] pos) (QM (QQ r i g)):=by
 intro d s f H Q I h;refine wpAny_isTrue_Compare1 (cU (w d s f H _ I h) λv s1 ⟨x,H1,E,m,p⟩=>cU (t d s1 f H1 _ E p) λu s2 ⟨y,G,C,l,o⟩=>
  cU (q d s2 f G x y v u _ C m l o) λc s3 ⟨z,F,A,j,k,e,n⟩=>?_) hm
 subst e;cases j;exact X7 ⟨F,A,n⟩
def GD(r f:R2)(e d tc:TE):TE:=λa H Q=>e a H λx i=>d a i λy h=>r x y h λz b=>∃k,z=.bl k/\
 (if k=true then tc a b λc g=>f y c g Q else Q (.bl false) b)
def HV(M:pA X (compareOp op) r)(j:pA X (compareOp i) F)(P:PE X a w)(O:PE X b t)(N:PE X c tc)(hm:lastMarks [op,i] [b,c]=false:=by with_unfolding_all rfl):PE X (.Compare a [op,i] [b,c] pos) (GD r F w t tc):=by
 intro f s g H Q I h;refine Compare_chain (cU (P f s g H _ I h) λv s1 ⟨x,H1,T,E,L⟩=>chain_link (cU (O f s1 g H1 _ T L) λu s2 ⟨y,Y,S,l,J⟩=>
  cU (M f s2 g Y x y v u _ S E l J) λd s3 ⟨z,o,n,C,k,e,m⟩=>?_)) hm
 subst e;cases C;refine X7 ?_;cases k with
 | false=>exact ite_ff ⟨.bl false,o,n,rfl,m⟩
 | true=>exact ite_tt (chain_last (cU (N f s3 g o _ n m) λq s4 ⟨p,U,R,A,G⟩=>j f s4 g U y p u q Q R l A G))
def Qj(K:FR)(x:V)(H:Hp)(k:Bool):Prop:=
 match x with
 | .bb=>k=false
 | .bl b=>k=b
 | .int i=>k=(i !=0)
 | .str y=>y.length<=sizeLine/\k=((y.length:Int) !=0)
 | .byt y=>y.size<=sizeLine/\k=((y.size:Int) !=0)
 | .ref p=>(∃a,fN K H p a/\k=!a.isEmpty)\/(∃a,jc K H p a/\k=!a.isEmpty)\/∃c,H p=some (.dK c)/\k=!c.isEmpty
 | _=>False
def Cq(r:KV kvs vs):(!vs.isEmpty)=!kvs.isEmpty:=by
 cases r <;> rfl
def uH(r:Vals xs its):(!its.toArray.isEmpty)=!xs.isEmpty:=by
 cases r <;> simp
def nq:(sizeLine:Nat) < 2^63:=by rw[XX];decide
def Nr:Vk X (λx H Q=>∃k,Qj X.K x H k/\Q k H):=by
 intro o s C H x v Q I g h;obtain⟨k,e,q⟩:=h;have hl:=nq;have E:sizeLine=16777216:=XX;cases x with
 | bb=>
  cases g;have a:k=false:=e;subst a;exact truthy_none ⟨H,I,q⟩
 | bl b=>
  cases g;have a:k=b:=e;subst a;exact X7 ⟨H,I,q⟩
 | int i=>
  obtain⟨t,rfl⟩:=g;have a:k=(i !=0):=e;subst a;exact PySem.P.truthy_int ⟨H,I,q⟩
 | str y=>
  obtain⟨t,rfl⟩:=g;obtain⟨z,a⟩:y.length<=sizeLine/\k=((y.length:Int) !=0):=e;subst a;exact PySem.P.truthy_str (by lia) ⟨H,I.tok _,q⟩
 | byt y=>
  obtain⟨t,rfl⟩:=g;obtain⟨z,a⟩:y.size<=sizeLine/\k=((y.size:Int) !=0):=e;subst a;exact PySem.W.truthy_bytes (by lia) ⟨H,I.tok _,q⟩
 | ref p=>
  cases g;have a:(∃f,fN X.K H p f/\k=!f.isEmpty)\/(∃f,jc X.K H p f/\k=!f.isEmpty)\/∃c,H p=some (.dK c)/\k=!c.isEmpty:=e;rcases a with⟨f,j,a⟩ |⟨f,j,a⟩ |⟨c,j,a⟩
  ·subst a;obtain⟨n,r,pl,u⟩:=I.list j;have d:=r.length;exact wpAny_truthy_list pl.isList (by simp only[WB];lia) ⟨H,I.tok _,by rw[uH r];exact q⟩
  ·subst a;obtain⟨n,r,pl,u⟩:=I.tuple j;have d:=r.length;exact truthy_tuple pl (by simp only[WB];lia) ⟨H,I.tok _,by rw[uH r];exact q⟩
  ·subst a;obtain⟨u,A,l,r,m⟩:c.length<=sizeLine/\(p==sysModules)=false/\∃l,KV c l/\s.heap.DictOf (bg X.prog X.w) p l:=I.bL p _ j;have d:c.length=l.length:=Paired.length r;exact wpAny_truthy_dict A m (by lia) ⟨H,I.tok _,by rw[Cq r];exact q⟩
 | _=>exact(show False from e).elim
def HC(i:PE X a d)(g:∀b,isTrue a X.env b=(do let v<-b;standAt a.pos;holding [v] (truthy v))):
  PT X a (λσ H Q=>d σ H λx H'=>∃k,Qj X.K x H' k/\Q k H'):=by
 intro c s σ H Q I h;exact isTrue_plain (cU (i c s σ H _ I h) λv s1 ⟨x,H1,j,e,f⟩=>Nr c s1 σ H1 x v Q j e f) (g _)
def B8:pA X (binaryOp .Add) (λx y H Q=>∃i j,x=.str i/\y=.str j/\i.length+j.length<=sizeLine/\Q (.str (i++j)) H):=by
 intro a s f H x y v u Q I d c h;obtain⟨i,j,rfl,rfl,e,q⟩:=h;obtain⟨t,rfl⟩:=d;obtain⟨b,rfl⟩:=c;exact add_str (λb g=>⟨.str (i++j),H,I.tok _,⟨_,rfl⟩,q⟩) e
def vals1(r:Vals [x] us):∃u,us=[u]/\RelV x u:=by
 cases r with
 | cons b a=>cases a;exact⟨_,rfl,b⟩
def vals2(r:Vals [x,y] us):∃u a,us=[u,a]/\RelV x u/\RelV y a:=by
 cases r with
 | cons e d=>
  cases d with
  | cons c b=>cases b;exact⟨_,_,rfl,e,c⟩
def Js:fX X (.builtin "abs") (λxs H Q=>∃i,xs=[.int i]/\Q (.int (if i < 0 then -i else i)) H):=by
 intro a s b H xs us Q I r h;obtain⟨i,rfl,q⟩:=h;obtain⟨u,rfl,t,rfl⟩:=vals1 r;exact call_abs_int λu c=>⟨.int (if i < 0 then -i else i),H,I.tok _,⟨_,rfl⟩,q⟩
def Gg(c:X.calm=true):fX X (.builtin "max") (λxs H Q=>∃i j,xs=[.int i,.int j]/\Q (.int (if j > i then j else i)) H):=by
 intro b s d H xs us Q I r h;obtain⟨i,j,rfl,q⟩:=h;obtain⟨u,e,rfl,⟨t,rfl⟩,⟨g,rfl⟩⟩:=vals2 r;refine max_two_ints (I.ok.hd c) λl f k=>⟨_,H,I.kept k,?_,q⟩
 by_cases a:j > i
 ·rw[Wg a,Wg a];exact⟨_,rfl⟩
 ·rw[Wh a,Wh a];exact⟨_,rfl⟩
def Gf(c:X.calm=true):fX X (.builtin "min") (λxs H Q=>∃i j,xs=[.int i,.int j]/\Q (.int (if j < i then j else i)) H):=by
 intro b s d H xs us Q I r h;obtain⟨i,j,rfl,q⟩:=h;obtain⟨u,e,rfl,⟨t,rfl⟩,⟨g,rfl⟩⟩:=vals2 r;refine min_two_ints (I.ok.hd c) λl f k=>⟨_,H,I.kept k,?_,q⟩
 by_cases a:j < i
 ·rw[Wg a,Wg a];exact⟨_,rfl⟩
 ·rw[Wh a,Wh a];exact⟨_,rfl⟩
structure Qp(h:Heap)(x dx C:Addr)(mA:Str->Option Value):Prop where
 obj:h.get? x=some (PySem.W.instObj C dx)
 ns:h.Ns1 dx mA
 ne:dx≠x
def FC{h:Heap}{f:Addr}{d:Str->Option Value}(n:h.Ns1 f d):∃c,h.get? f=some c/\∀name,PySem.W.lookIn name c=some (d name):=by
 obtain⟨o,es,l,i,hd,j,_,hm⟩:=n;refine⟨o,i,λname=>?_⟩;have e:=hm name;unfold nsFind findBy at e;rw[<-Array.find?_toList] at e;unfold PySem.W.lookIn;rw[hd];dsimp only
 split
 ·rename_i y q;rw[q] at e;exact congrArg some e
 ·rename_i q;rw[q] at e;have a:es.toList.any (·.refKey)=false:=by
   rw[List.any_eq_false];intro y g;obtain⟨z,t,b⟩:=j y (X0.mp g);simp[DictEntry.refKey,b]
  have k:¬es.toList.any (·.refKey)=true:=by rw[a];exact WR
  rw[Wh k];exact congrArg some e
def Qp.look(I:Qp h x d C b):∃a,PySem.W.InstAt h x (PySem.W.instObj C d) C (some a)/\∀name,PySem.W.lookIn name a=some (b name):=
 let⟨a,c,hl⟩:=FC I.ns
 ⟨a,⟨I.obj,rfl,rfl,c⟩,hl⟩
section
variable {prog:Program} {w:World} {A:Around} {E:Value->Shared->Prop} {s:Shared} {K:FR} {x dx C f:Addr} {mA:Str->Option Value} {name:Str} {v:Value}
end
def qM.some_of(r:qM (some v) o):∃u,o=some u/\RelV v u:=by
 cases o with
 | none=>exact(show False from r).elim
 | some u=>exact⟨u,rfl,r⟩
def Ly(bL:iw P w H h)(e:H a=some (.ins C c fs)):∃b,Qp h a c C b/\(∀f,qM (fs.lookup f) (b f))/\PySem.Within b (fs.map (·.1))/\fs.length<=1000/\H c=some (.own a):=by
 obtain⟨d,z,ne,ob,b,n,r,q⟩:=(show cD P w H h a (.ins C c fs) from bL a _ e);exact⟨b,⟨ob,n,ne⟩,r,q,z,d⟩
structure Vo(K:FR)(C:Addr):Prop where
 pg:PySem.W.plainGet K C Str.empty=true
 hd:PySem.W.hasDictIn K C=true
 po:PySem.W.plainOver K C=true
 sa:PySem.W.findIn K (.ref C) "__setattr__"=some (some (.builtin "object.__setattr__"))
def Vo.get{K:FR}{C:Addr}(c:Vo K C)(f:Str):PySem.W.plainGet K C f=true:=c.pg
inductive oV(K:FR)(H:Hp):V->Value->Prop where
 | bb:oV K H .bb (.type "NoneType")
 | bl (x:Bool):oV K H (.bl x) (.type "bool")
 | int (i:Int):oV K H (.int i) (.type "int")
 | str (x:Str):oV K H (.str x) (.type "str")
 | Qy (x:UInt64):oV K H (.Qy x) (.type "float")
 | lst {a:Addr} {xs:List V} (e:H a=some (.lst xs)):oV K H (.ref a) (.type "list")
 | D8 {a:Addr} {o:Obj} {xs:List V} (e:H a=some (.D8 o (.lst xs))):oV K H (.ref a) (.type "list")
 | tup {a:Addr} {xs:List V} (e:H a=some (.tup xs)):oV K H (.ref a) (.type "tuple")
 | dK {a:Addr} {kvs:List (Key×V)} (e:H a=some (.dK kvs)):oV K H (.ref a) (.type "dict")
 | dT {a:Addr} {kvs:List (List Key×V)} (e:H a=some (.dT kvs)):oV K H (.ref a) (.type "dict")
 | ins {a C dx:Addr} {fs:List (Str×V)} (e:H a=some (.ins C dx fs)) (cl:Vo K C) (ha:PySem.W.findIn K (.ref C) "__class__"=some (some (.builtin "object.__class__")))
   (hn:PySem.W.specialIn K (.builtin "object.__class__") "__get__"=some (some (.builtin "getset_descriptor.__get__"))) (htk:PySem.W.takesIn K (.builtin "object.__class__")=some true)
   (hm:PySem.W.mroIn K C (.type "object")=some true):oV K H (.ref a) (.ref C)
def FH(I:Inv X pins σ H s)(d:RelV x u)(ty:oV X.K H x t)(e:PySem.W.kitOne X.K t c=some b)(h:∀r,Q (.bool b) {s with toks:=r}):
  wpAny (model X.prog X.w) A (call (.builtin "isinstance") [u,c]) Q E s:=by
 cases ty with
 | bb=>cases(show u=Value.none from d);exact XB PySem.W.kitx_none I.xh True.intro e (λz=>nomatch z) h
 | bl y=>cases(show u=Value.bool y from d);exact XB PySem.W.kitx_bool I.xh True.intro e (λz=>nomatch z) h
 | int i=>obtain⟨t,q⟩:=(show ∃t,u=Value.int i t from d);cases q;exact XB PySem.W.kitx_int I.xh True.intro e (λz=>nomatch z) h
 | str y=>obtain⟨t,q⟩:=(show ∃t,u=Value.str y t from d);cases q;exact XB PySem.W.kitx_str I.xh True.intro e (λz=>nomatch z) h
 | Qy y=>obtain⟨t,q⟩:=(show ∃t,u=Value.float y t from d);cases q;exact XB PySem.W.kitx_float I.xh True.intro e (λz=>nomatch z) h
 | @lst a k f=>
  cases(show u=Value.ref a from d);obtain⟨_,_,n,_,g⟩:=(show cD X.prog X.w H s.heap a (.lst k) from I.bL a _ f);exact XB PySem.W.kitx_list I.xh ⟨_,g,rfl⟩ e (λz=>nomatch z) h
 | @D8 a ob k f=>
  cases(show u=Value.ref a from d);obtain⟨_,_,_,n,_,g⟩:=(show cD X.prog X.w H s.heap a (.D8 ob (.lst k)) from I.bL a _ f);exact XB PySem.W.kitx_list I.xh ⟨_,g,rfl⟩ e (λz=>nomatch z) h
 | @tup a k f=>
  cases(show u=Value.ref a from d);obtain⟨_,_,_,p⟩:=(show cD X.prog X.w H s.heap a (.tup k) from I.bL a _ f);obtain⟨o,g,l,_⟩:=p;exact XB PySem.W.kitx_tuple I.xh ⟨o,g,l⟩ e (λz=>nomatch z) h
 | @dK a j f=>
  cases(show u=Value.ref a from d);obtain⟨_,_,G,_,p⟩:=(show cD X.prog X.w H s.heap a (.dK j) from I.bL a _ f);obtain⟨o,es,F,g,l,_⟩:=p;exact XB PySem.W.kitx_dict I.xh ⟨o,g,l.1⟩ e (λz=>nomatch z) h
 | @dT a j f=>
  cases(show u=Value.ref a from d);obtain⟨_,_,k,_,o,es,F,g,l,_⟩:=(show cD X.prog X.w H s.heap a (.dT j) from I.bL a _ f);exact XB PySem.W.kitx_dict I.xh ⟨o,g,l.1⟩ e (λz=>nomatch z) h
 | @ins a C N fs f cl v hn m hm=>
  cases(show u=Value.ref a from d);obtain⟨M,O,_⟩:=Ly I.bL f;obtain⟨L,J,_⟩:=O.look;exact XB (PySem.W.kitx_own (cl.get _) cl.hd v hn m hm) I.xh J e (λz=>nomatch z) h
structure fD(k:Nat)(A:Around):Prop where
 hd:A.handled=none
 dp:A.depth+3*k+5 < recursionLimit
 un:A.units+16*k+200 < cLine
def fD.mono(r:fD k A)(h:j<=k):fD j A:=⟨r.hd,by have:=r.dp;lia,by have:=r.un;lia⟩
theorem fD.deeper(r:fD (k+1) A)(env:Env):fD k (A.deeper env):=
 ⟨r.hd,by have:=r.dp;show A.depth+1+3*k+5 < _;lia,by have:=r.un;show A.units+3+16*k+200 < _;lia⟩
theorem fD.depth(r:fD k A):A.depth < recursionLimit:=by have:=r.dp;lia
theorem fD.units(r:fD k A):A.units+64 < cLine:=by have:=r.un;lia
def Ue:TA:=λ_ H Q=>Q [] H
def QV(d:TE)(c:TA):TA:=λa H Q=>d a H λx f=>c a f λb e=>Q (x::b) e
def yk:PA X [] Ue:=λ_ _ _ _ H Q I h=>Calls.spliced_nil ⟨[],H,I,.nil,h⟩
def sF(j:PE X e te)(hr:PA X es t)(i:starEach (e::es) X.env=(false,eval e X.env)::starEach es X.env:=by rfl):PA X (e::es) (QV te t):=by
 intro pos a s b H Q I h;rw[i];show wpAny _ _ (spliced ((false,eval e X.env)::backTo pos (starEach es X.env))) _ _ s;refine Calls.spliced_cons (cU (j a s b H _ I h) λu s1 ⟨x,H1,l,d,g⟩=>?_);exact cU (hr pos a s1 b H1 _ l g) λus s2 ⟨xs,m,k,c,f⟩=>⟨x::xs,m,k,.cons d c,f⟩
def Ub(t:TA):TE:=λc H Q=>t c H λa b=>a.length<=sizeLine/\∀p,b p=none->Q (.ref p) (upd b p (.tup a))
def Uh(t:TA):TE:=λc H Q=>t c H λa b=>a.length<=sizeLine/\∀p,b p=none->Q (.ref p) (upd b p (.lst a))
def Ow{f}(h:PA X es t):PE X (.Tuple es f pos) (Ub t):=by
 intro a s d H Q I g;refine wpAny_Tuple_spliced (cU (h pos a s d H _ I g) λus s1 ⟨xs,H1,c,r,z,q⟩=>⟨by rw[<-r.length];exact z,?_⟩);have i:H1 s1.heap.objs.size=none:=c.bL.fresh (Wj _);refine⟨.ref s1.heap.objs.size,upd H1 s1.heap.objs.size (.tup xs),c.laid (t':=s1.toks) (λb u e=>Wa _ e) (Wj _) ?_,rfl,q _ i⟩;exact⟨z,us,r,⟨_,Ww _ rfl,rfl,⟨_,rfl⟩,rfl⟩⟩
def OC(h:PA X es t):PE X (.List es pos) (Uh t):=by
 intro a s d H Q I f;refine wpAny_List_spliced (cU (h pos a s d H _ I f) λus s1 ⟨xs,H1,c,r,z,q⟩=>⟨by rw[<-r.length];exact z,?_⟩);have g:H1 s1.heap.objs.size=none:=c.bL.fresh (Wj _);refine⟨.ref s1.heap.objs.size,upd H1 s1.heap.objs.size (.lst xs),c.laid (t':=s1.toks) (λb u e=>Wa _ e) (Wj _) ?_,rfl,q _ g⟩;exact⟨z,us,0,r,Ww _ rfl⟩
abbrev Sp:=List V->Hp->VK->XK->Prop
abbrev Mu:=List Env->Hp->Shared->XK->Value->Shared->Prop
structure Ms(P:Program)(w:World)(K:FR)(mg:Str->Option Value)(base:Heap)(A:Around)(outer:List Env)(s:Shared)(H:Hp):Prop where
 frames:A.frames=some outer
 mod:Mod K mg base
 bs:∀b o,base.get? b=some o->s.heap.get? b=some o/\H b=none
 M7:base.objs.size<=s.heap.objs.size
 uK:s.heap.FunFrames base outer
 Qx:∀b∈Gr outer,H b=none
 bL:iw P w H s.heap
 bare:AllBare s.gens
def CE(outer:List Env)(P:Program)(w:World)(H:Hp)(s:Shared)(Q:VK)(u:Value)(s':Shared):Prop:=
 ∃v a,s'.os=s.os/\AllBare s'.gens/\Un (Gr outer) [] H a s.heap s'.heap/\iw P w a s'.heap/\RelV v u/\Q v a
def CR(a:Mu)(outer:List Env)(P:Program)(w:World)(H:Hp)(s:Shared)(Q:VK)(E:XK)(r:Result)(s':Shared):Prop:=
 match r with
 | .ok (.ret u)=>CE outer P w H s Q u s'
 | .ok _=>False
 | .error e=>a outer H s E e s'
structure aV(P:Program)(w:World)(K:FR)(mg:Str->Option Value)(base:Heap)(CX:Mu)(k:Nat)(f:Addr)(fd:FuncData)(ps:List Str)(sp:Sp):Prop where
 len:∀vs H Q E,sp vs H Q E->vs.length=ps.length
 run:∀(A:Around)(outer:List Env)(s:Shared)(H:Hp)(args:Args)(us:List Value)(vs:List V)(Q:VK)(E:XK),fD k A->Ms P w K mg base A outer s H->BindsTo s fd args (ps.zip us)->Vals vs us->sp vs H Q E->
  codeAny (model P w) A (.call (.ref f) args) (CR CX outer P w H s Q E) s
def aV.imp{P:Program}{w:World}{K:FR}{mg:Str->Option Value}{base:Heap}{c:Mu}{k:Nat}{f:Addr}{b:FuncData}{ps:List Str}{sp a:Sp}(F:aV P w K mg base c k f b ps sp)
  (h:∀vs H Q E,a vs H Q E->sp vs H Q E):aV P w K mg base c k f b ps a:=
 ⟨λvs H Q E q=>F.len vs H Q E (h _ _ _ _ q),λA outer s H args us vs Q E hr g i d e=>F.run A outer s H args us vs Q E hr g i d (h _ _ _ _ e)⟩
def Inv.Va(I:Inv X pins σ H s):Ms X.prog X.w X.K X.mg X.base X.A X.stack s H:=
 ⟨I.ok.frames,I.ok.mod,I.bs,WQ I.ok.M7 I.sz,I.stack,I.C8,I.bL,I.bare⟩
def Inv.after(I:Inv X pins σ H s)(h:CE X.stack X.prog X.w H s Q u s'):EP X pins σ Q u s':=by
 obtain⟨v,c,os,bare,un,bL,r,q⟩:=h;obtain⟨hh,g,d,t,a⟩:=s';obtain rfl:a=s.os:=os;exact⟨v,c,I.call (h':=hh) (g':=g) (d':=d) (t':=t) (ch:=[]) un bL bare (λb z=>absurd z (by simp)),r,q⟩
def QW(sp:Sp)(a:List V)(E:XK)(t:TA):TE:=λb H Q=>t b H λc d=>sp (c++a) d Q E
def Binds(K:FR)(a:FuncData)(ps:List Str)(ds:List Value):Prop:=
 ∀(s:Shared)(us:List Value),K.In s.heap->(us++ds).length=ps.length->BindsTo s a ⟨us,[]⟩ (ps.zip (us++ds))
def Binds.all{K:FR}{a:FuncData}{ps:List Str}(h:∀us:List Value,us.length=ps.length->bindArgs a ⟨us,[]⟩=pure (ps.zip us)):Binds K a ps []:=λs us _ hl=>by
 rw[Xb] at hl ⊢;exact .of_eq (h us hl)
def Passes(d:Mu)(X:Cx)(E:XK):Prop:=∀(a:List (Addr×Obj)) (c:St) (H:Hp) (s:Shared) (e:Value) (b:Shared),Inv X a c H s->d X.stack H s E e b->X.xe e b
def NQ(F:aV X.prog X.w X.K X.mg X.base j k f fd ps sp)(hr:fD k X.A)(i:Binds X.K fd ps ds)(hd:Vals a ds)(g:Passes j X E)(I:Inv X pins σ H s)(r:Vals vs us)(h:sp (vs++a) H Q E):wpAny (model X.prog X.w) X.A (call (.ref f) us) (EP X pins σ Q) X.xe s:=by
 have c:Vals (vs++a) (us++ds):=r.append hd;have hl:(us++ds).length=ps.length:=by rw[<-c.length];exact F.len _ _ _ _ h
 refine wpAny_call (Zm (F.run X.A X.stack s H ⟨us,[]⟩ (us++ds) (vs++a) Q E hr I.Va (i s us I.xh hl) c h) λr d b=>?_);cases r with
 | error e=>exact g pins σ H s e d I b
 | ok fl=>
  cases fl with
  | ret u=>exact I.after b
  | next=>exact False.elim b
  | brk=>exact False.elim b
  | cont=>exact False.elim b
def K1(F:aV X.prog X.w X.K X.mg X.base v k f fd ps sp)(hr:fD k X.A)(m:Gl X x)(hm:X.mg x=some (.ref f))(l:PySem.W.keepIn X.K (.ref f)=true)(o:Binds X.K fd ps ds)(hd:Vals d ds)(j:Passes v X E)
  (u:PA X (e::es) t) (c:(x==("__debug__":Str))=false:=by decide) (n:starEach (e::es) X.env=(false,eval e X.env)::starEach es X.env:=by rfl) (b:(backTo pos (starEach es X.env)).any (·.1)=false:=by rfl):
  PE X (.Call (.Name x p) (e::es) [] pos) (QW sp d E t):=by
 intro a s i H Q I h;refine Y2 (DU I m hm ?_ c);refine PySem.W.callWith_K (h₀:=X.base) I.ok.mod.U1 l (cU (u pos a s i H _ I h) λus s1 ⟨y,H1,g,r,q⟩=>⟨g.xh,?_⟩) n b;exact NQ F hr o hd j g r q
structure ar(N P:List Str)(sc:Scope):Prop where
 kind:sc.kind=.function
 co:sc.isCoroutine=false
 gen:sc.isGenerator=false
 nd:N.Nodup
 pre:N.take P.length=P
 par:∀x∈P,sc.names.lookup x=some .local\/sc.names.lookup x=some .cell
 OY:∀y∈sc.names,y.2≠.free
theorem xt{a:Str->Option NameKind}{x:Str}:∀{binds:List (Str×Value)} {m:Str->Option Value},(∀v,(x,v)∉binds)->bindL a binds m x=m x
 | [],_,_=>rfl
 |(n,v)::r,m,h=>by
  unfold bindL;rw[xt λw b=>h w (Wf _ b)]
  split
  ·have:x≠n:=by rintro rfl;exact h v We
   simp[this]
  ·rfl
theorem xx{a:Str->Option NameKind}{x:Str}:∀{binds:List (Str×Value)} {m:Str->Option Value},(∀v,(x,v)∉binds)->bindC a binds m x=m x
 | [],_,_=>rfl
 |(n,v)::r,m,h=>by
  unfold bindC;rw[xx λw b=>h w (Wf _ b)]
  split
  ·rfl
  ·have:x≠n:=by rintro rfl;exact h v We
   simp[this]
theorem xw{a:Str->Option NameKind}{x:Str}{v:Value}:∀{P:List Str} {vs:List Value} {i:Nat} {m:Str->Option Value},P.Nodup->P[i]?=some x->vs[i]?=some v->a x=some .local->
  bindL a (P.zip vs) m x=some v
 | [],_,_,_,_,h,_,_=>by simp at h
 | _::_,[],_,_,_,_,h,_=>by simp at h
 | p::P,w::vs,0,m,nd,c,b,d=>by
  simp at c b;subst c;subst b;show bindL a ((p,w)::P.zip vs) m p=_;unfold bindL;rw[xt λv e=>(X3.mp nd).1 (Aat e).1,Wg d];simp
 | p::P,w::vs,i+1,m,nd,c,b,d=>by
  show bindL a ((p,w)::P.zip vs) m x=_;unfold bindL;exact xw (i:=i) (X3.mp nd).2 (by simpa using c) (by simpa using b) d
theorem xy{a:Str->Option NameKind}{x:Str}{v:Value}:∀{P:List Str} {vs:List Value} {i:Nat} {m:Str->Option Value},P.Nodup->P[i]?=some x->vs[i]?=some v->a x≠some .local->
  bindC a (P.zip vs) m x=some v
 | [],_,_,_,_,h,_,_=>by simp at h
 | _::_,[],_,_,_,_,h,_=>by simp at h
 | p::P,w::vs,0,m,nd,c,b,d=>by
  simp at c b;subst c;subst b;show bindC a ((p,w)::P.zip vs) m p=_;unfold bindC;rw[xx λv e=>(X3.mp nd).1 (Aat e).1,Wh d];simp
 | p::P,w::vs,i+1,m,nd,c,b,d=>by
  show bindC a ((p,w)::P.zip vs) m x=_;unfold bindC;exact xy (i:=i) (X3.mp nd).2 (by simpa using c) (by simpa using b) d
noncomputable def start(N:List Str)(vs:List V):St:=vs.map some++List.replicate (N.length-vs.length) none
abbrev AO(CX:Mu)(P:Program)(w:World)(K:FR)(mg:Str->Option Value)(base:Heap)(N:List Str)(qual:Str)(scope:Scope)(f:Addr)(cd:Value)(A:Around)(outer:List Env)(s:Shared)(H:Hp)(E:XK):Cx where
 prog:=P
 w:=w
 K:=K
 mg:=mg
 base:=base
 A:=A.deeper (envOfC qual scope s.heap.objs.size f cd)
 N:=N
 s₀:=s
 H₀:=H
 env:=envOfC qual scope s.heap.objs.size f cd
 outer:=outer
 stack:=envOfC qual scope s.heap.objs.size f cd::outer
 ex:=[]
 calm:=true
 fn:=λ_=>true
 pn:=[]
 xe:=λe s'=>wpAny (model P w) (A.deeper (envOfC qual scope s.heap.objs.size f cd)) (leaving (envOfC qual scope s.heap.objs.size f cd) e) (λ_ s''=>CX outer H s E e s'') (λe' s''=>CX outer H s E e' s'') s'
def AW{a:Scope}{n:Nat}{x:Str}(h:a.names.lookup x=some .cell):∃c,(cellsFrom n a.names []).lookup x=some c:=by
 have q:=AaX a.names n [] (.inl h);exact YS.mp q
def FI{M:Mu}{P:Program}{w:World}{K:FR}{mg:Str->Option Value}{base:Heap}{N ps:List Str}{g:Str}{d:Scope}{f:Addr}{G:Value}{A:Around}{outer:List Env}{s I:Shared}{H:Hp}{E:XK}{us:List Value}{vs:List V}
  (S:ar N ps d) (hd:A.handled=none) (l:Ms P w K mg base A outer s H) (hl:vs.length=ps.length) (r:Vals vs us)
  (x:InCallC s s.heap.objs.size (bindL (envOfC g d s.heap.objs.size f G).kindOf (ps.zip us) λ_=>none) (cellsFrom (s.heap.objs.size+1) d.names []) (bindC (envOfC g d s.heap.objs.size f G).kindOf (ps.zip us) λ_=>none) I):
  Inv (AO M P w K mg base N g d f G A outer s H E) [] (start N vs) H I:=by
 have O:ps.length<=N.length:=by have:=congrArg List.length S.pre;rw[WJ] at this;lia
 obtain⟨F,R,rfl,L⟩:=x.done;have m:∀b:Addr,b∉(AO M P w K mg base N g d f G A outer s H E).ex:=λb z=>absurd (show b∈([]:List Addr) from z) (by simp);refine⟨⟨l.mod,S.kind,rfl,rfl,Wj _,λy z c F j=>?_,λy o=>?_,λy c _ h=>?_,λ_=>hd,Around.frames_deeper l.frames,.inr ⟨rfl,rfl⟩,λb z=>absurd z (m b),l.bs,l.M7,λb _ _=>m b,λb z=>absurd z (m b),l.uK,l.Qx⟩,
  rfl,l.bare,Un.kept L,⟨_,x.toInCall.ns,λi y v F j T=>?_⟩,λy c h=>⟨_,x.cell y c h⟩,l.bL.fresh (Wj _),λy c h=>?_,λp hp=>absurd (show p∈([]:List (Addr×Obj)) from hp) (by simp),l.bL.kept L,?_⟩
 ·exact name_of_addr x.apart (XN F) (XN j)
 ·have o:d.names.lookup y=some .cell\/d.names.lookup y=some .free:=o;rcases o with o | o
  ·exact AW o
  ·exact absurd rfl (S.OY _ (XN o))
 ·exact Yw (x.above y c (XN h))
 ·have C:i < vs.length:=by
   unfold start at j
   by_cases C:i < vs.length
   ·exact C
   ·rw[Wy (by simpa using C)] at j;rw[AaT] at j
    split at j <;> cases j
  have Q:vs[i]?=some v:=by
   unfold start at j;rw[Wx (by simpa using C),Wt] at j;cases e:vs[i]? with
   | none=>rw[e] at j;cases j
   | some a=>rw[e] at j;cases j;rfl
  obtain⟨u,J,rv⟩:=r.get Q;have hp:ps[i]?=some y:=by
   rw[<-S.pre,WX (by lia)];exact F
  have t:ps.Nodup:=by rw[<-S.pre];exact S.nd.sublist (List.take_sublist _ _)
  refine⟨u,rv,?_⟩;rcases S.par y (Wk hp) with k | k
  ·exact .inl ⟨k,xw t hp J k⟩
  ·obtain⟨c,e⟩:=AW (n:=s.heap.objs.size+1) k;refine .inr ⟨.inl k,c,e,?_⟩;have q:=x.cell y c e;rw[xy t hp J (by show d.names.lookup y≠_;rw[k];decide)] at q;exact q
 ·exact l.bL.fresh (Yw (x.above y c (XN h)))
 ·unfold start;show _=N.length;rw[Wn,Wc,List.length_replicate]
  lia
def Se{F:Mu}{P:Program}{w:World}{K:FR}{mg:Str->Option Value}{base:Heap}{k:Nat}{f:Addr}{name c:Str}{params:Arguments}{g:List Stmt}{a:Scope}{U kV C T d ct oc:Value}{X Z:Option Addr}
  {L:Array (Option Value)} {N ps:List Str} {sp:Sp} (lk:K.lookup f=some ⟨oc,Z,.func (PySem.W.fnOf name c params g a U kV C T X d ct),L⟩) (O:PySem.W.codeIn K d c=true) (S:ar N ps a)
  (len:∀vs H Q E,sp vs H Q E->vs.length=ps.length)
  (j:∀(A:Around)(outer:List Env)(s:Shared)(H:Hp)(vs:List V)(Q:VK)(E:XK),fD k (A.deeper (envOfC c a s.heap.objs.size f d))->sp vs H Q E->
   ∃t,Bd (AO F P w K mg base N c a f d A outer s H E) g t/\t {nx:=λ_ H'=>Q .bb H',rt:=Q} (start N vs) H):
  aV P w K mg base F (k+1) f (PySem.W.fnOf name c params g a U kV C T X d ct) ps sp:=by
 refine⟨len,λA outer s H args us vs Q E hr z hb r m=>?_⟩;have hl:=len _ _ _ _ m;have Y:K.In s.heap:=z.mod.U1.keeps λb o e=>(z.bs b o e).1;have M:s.heap.NoLimit:=z.mod.nolimit.keeps λb o e=>(z.bs b o e).1;have i:∀y∈ps.zip us,a.names.lookup y.1=some .local\/(a.names.lookup y.1=some .cell/\((cellsFrom (s.heap.objs.size+1) a.names []).lookup y.1).isSome=true):=λ⟨n,v⟩ hy=>by
  rcases S.par n (Aat hy).1 with q | q
  ·exact .inl q
  ·exact .inr ⟨q,AaX _ _ _ (.inl q)⟩
 refine codeAny_call_function hr.depth (Y _ _ lk) rfl S.co S.gen rfl (PySem.W.codeRec_of Y O) (hb _ _ _ _ ?_);refine wpAny_newFunctionEnv_cells S.kind i λenv he R x=>?_;subst he;refine⟨M.keeps x.toInCall.keep,codeAny_func ?_⟩;obtain⟨t,ht,hq⟩:=j A outer s H vs Q E (hr.deeper _) m;have I:Inv (AO F P w K mg base N c a f d A outer s H E) [] (start N vs) H R:=FI S hr.hd z hl r x;refine Xn (ht [] R (start N vs) H _ I hq) (λfl G l=>?_) λe G l=>l;have p:∀{h:St} {H':Hp} {v:V} {u:Value},Inv (AO F P w K mg base N c a f d A outer s H E) [] h H' G->RelV v u->Q v H'->CE outer P w H s Q u G:=
  λ{h H' v u} J rv q=>⟨v,H',J.os,J.bare,J.base,J.bL,rv,q⟩
 cases fl with
 | ret u=>
  obtain⟨v,h,H',J,rv,q⟩:=l;exact p J rv q
 | next=>
  obtain⟨h,H',J,q⟩:=l;exact p (v:=V.bb) (u:=Value.none) J rfl q
 | brk=>
  obtain⟨_,_,_,q⟩:=l;exact False.elim q
 | cont=>
  obtain⟨_,_,_,q⟩:=l;exact False.elim q
section
variable {X:Cx} {x:Str} {p pos:Pos} {e:Expr} {es:List Expr} {t:TA} {id T:String} {r:List V->Hp->VK->Prop}
def Uj(r:List V->Hp->VK->Prop)(t:TA):TE:=λa H Q=>t a H λb c=>r b c Q
def uc(l:fX X (.builtin id) r)(k:Gl X x)(hm:X.mg x=none)(j:bootBuiltins x=some (.builtin id))(m:PA X (e::es) t)(hn:x≠"__name__":=by decide)(c:(x==("__debug__":Str))=false:=by decide)
  (he:starEach (e::es) X.env=(false,eval e X.env)::starEach es X.env:=by rfl) (b:(backTo pos (starEach es X.env)).any (·.1)=false:=by rfl):PE X (.Call (.Name x p) (e::es) [] pos) (Uj r t):=by
 intro a s d H Q I h;refine Y2 (jN I k hm j ?_ hn c);exact PyProof.Rows.callWith_builtin1 (cU (m pos a s d H _ I h) λus s1 ⟨f,H1,n,g,i⟩=>l a s1 d H1 f us Q n g i) he b
def p6(l:fX X (.type T) r)(k:Gl X x)(hm:X.mg x=none)(j:bootBuiltins x=some (.type T))(m:PA X (e::es) t)(hn:x≠"__name__":=by decide)(c:(x==("__debug__":Str))=false:=by decide)
  (he:starEach (e::es) X.env=(false,eval e X.env)::starEach es X.env:=by rfl) (b:(backTo pos (starEach es X.env)).any (·.1)=false:=by rfl):PE X (.Call (.Name x p) (e::es) [] pos) (Uj r t):=by
 intro a s d H Q I h;refine Y2 (jN I k hm j ?_ hn c);exact XA (cU (m pos a s d H _ I h) λus s1 ⟨f,H1,n,g,i⟩=>l a s1 d H1 f us Q n g i) he b
end
end L2
namespace HT
open PyProof.Rows
section
open PySem.SeqAt
open PySem.AutoSeq1 (wpAny_loadPart')
open PySem.MeetsSeq PySem.MeetsSeq2 PySem.MeetsSeq3
end
def L7(p:IsTup s.heap t vs.toArray)(q:IsTup s.heap b ws.toArray)(l:vs≠[])(u:ws=[]->Q (.ref t) s)(r:ws≠[]->Q (.ref s.heap.objs.size) {s with heap:=s.heap.push {cls:=.type "tuple",data:=.seq (vs++ws).toArray}})(hsz:vs.length+ws.length<=sizeLine):wpAny (model prog w) A (binaryOp .Add (.ref t) (.ref b)) Q E s:=by
 obtain⟨⟨cls,dd,data,k⟩,i,m,n,hd⟩:=id p;obtain⟨⟨o,g,j,c⟩,a,f,n2,d⟩:=id q;simp only at m hd f d;subst m hd f d;have e:vs.toArray++ws.toArray=(vs++ws).toArray:=by simp
 by_cases h:ws=[]
 ·exact concat_meets ⟨_,i,rfl⟩ ⟨_,a,rfl⟩ AaG seq_tuple_add ZC Zv (Zo _ _)
   (tuple_addW1 t b vs.toArray ws.toArray n n2 dd g k c (by simpa using l) (by simp[h])) ⟨i,a,u h⟩
 ·refine concat_meets ⟨_,i,rfl⟩ ⟨_,a,rfl⟩ AaG seq_tuple_add ZC Zv (Zo _ _)
   (tuple_addW2 t b vs.toArray ws.toArray n n2 dd g k c (by simpa using l) (by simpa using h) (by rw[WB,WB];exact hsz)) ⟨i,a,?_⟩
  rw[e];exact r h
noncomputable def cG(n d:Nat):Option Int->Nat
 | none=>d
 | some v=>if v < 0 then(v+(n:Int)).toNat else min v.toNat n
def tG(n d:Nat):cG n d none=d:=rfl
def Dm(n d k:Nat):cG n d (some (k:Int))=min k n:=by
 show(if(k:Int) < 0 then((k:Int)+(n:Int)).toNat else min (k:Int).toNat n)=min k n;rw[Wh (by lia),WT]
def NO(n d:Nat)(hd:d<=n)(o:Option Int):cG n d o<=n:=by
 cases o with
 | none=>exact hd
 | some v=>
  show(if v < 0 then(v+(n:Int)).toNat else min v.toNat n)<=n
  by_cases a:v < 0
  ·rw[Wg a];lia
  ·rw[Wh a];exact Nat.min_le_right _ _
def Ek(v:Int)(n d:Nat):(if v < 0 then max (v+(n:Int)) 0 else min v (n:Int))=((cG n d (some v):Nat):Int):=by
 show(if v < 0 then max (v+(n:Int)) 0 else min v (n:Int))=(((if v < 0 then(v+(n:Int)).toNat else min v.toNat n):Nat):Int)
 by_cases a:v < 0
 ·simp only[Wg a];lia
 ·simp only[Wh a];lia
def CP(lo hi:Option Int)(n:Nat):Builtin.Slice.sliceAdjust lo hi 1 (n:Int)=(((cG n 0 lo:Nat):Int),((cG n n hi:Nat):Int)):=by
 have a:¬((1:Int) < 0):=by lia
 unfold Builtin.Slice.sliceAdjust;simp only[a,Xx];refine Prod.ext ?_ ?_
 ·cases lo with
  | none=>rfl
  | some v=>exact Ek v n 0
 ·cases hi with
  | none=>rfl
  | some v=>exact Ek v n n
def BX(i j:Nat):Builtin.Slice.slicePlaces (i:Int) (j:Int) 1=j-i:=by
 unfold Builtin.Slice.slicePlaces;have a:(1:Int) > 0:=by lia
 simp only[a,YW,Int.ediv_one]
 split <;> lia
def td(p:IsPart v o)(h:Q o s):wpAny (model prog w) A (Builtin.Slice.slicePartIndex v) Q E s:=by
 cases p with
 | none=>exact slicePart_none h
 | int i t=>exact slicePart_int h
def iU{e:Addr}{d c:Value}{lo hi:Option Int}{n:Nat}{Q:Int×Int×Nat->Shared->Prop}(g:s.heap.IsSliceOf e d c .none)(pl:IsPart d lo)(f:IsPart c hi)
  (h:Q (((cG n 0 lo:Nat):Int),1,cG n n hi-cG n 0 lo) s):wpAny (model prog w) A (Builtin.Slice.sliceApplied (.ref e) (pure (n:Int))) Q E s:=by
 obtain⟨os,a,i,b⟩:=id g;unfold Builtin.Slice.sliceApplied Builtin.Slice.sliceFields;refine V8 (V8 (W0 a b (x:=d) rfl (V8 (W0 a b (x:=c) rfl (V8 (W0 a b (x:=.none) rfl (Wb ?_)))))));refine V8 (slicePart_none ?_);show wpAny _ _ (if((1:Int)==0)=true then _ else _) _ _ s;rw[Wh (by decide)];refine V8 (td pl (V8 (td f (V8 (Wb ?_)))));show wpAny _ _ (match Builtin.Slice.sliceAdjust lo hi 1 (n:Int) with |(lo,hi)=>pure (lo,(1:Int),Builtin.Slice.slicePlaces lo hi 1)) _ _ s;rw[CP lo hi n];show wpAny _ _ (pure (((cG n 0 lo:Nat):Int),(1:Int),Builtin.Slice.slicePlaces ((cG n 0 lo:Nat):Int) ((cG n n hi:Nat):Int) 1)) _ _ s;rw[BX];exact Wb h
def HL(xs:Array Value)(i k:Nat):((List.range k).filterMap λ(m:Nat)=>xs[((i:Int)+(m:Int)*1).toNat]?).toArray=((xs.toList.drop i).take k).toArray:=by
 have e:(λ(m:Nat)=>xs[((i:Int)+(m:Int)*1).toNat]?)=λm=>xs[i+m]?:=by
  funext m
  have:((i:Int)+(m:Int)*1).toNat=i+m:=by lia
  rw[this]
 rw[e];have:=pick_run xs i k;rw[List.filterMap_map] at this;have a:((λx=>xs[x]?)∘λx=>i+x)=λm=>xs[i+m]?:=rfl;rw[a] at this;rw[this]
def oB{t c:Addr}{items:Array Value}{j i:Value}{lo hi:Option Int}{Q:Value->Shared->Prop}(b:IsTup s.heap t items)(k:s.heap.IsSliceOf c j i .none)(pl:IsPart j lo)(l:IsPart i hi)
  (hw:¬(cG items.size 0 lo=0/\cG items.size items.size hi=items.size))
  (h:Q (.ref s.heap.objs.size) {s with heap:=s.heap.push {cls:=.type "tuple",data:=.seq ((items.toList.drop (cG items.size 0 lo)).take (cG items.size items.size hi-cG items.size 0 lo)).toArray}})
  (hsz:items.size<=sizeLine):wpAny (model prog w) A (getItem (.ref t) (.ref c)) Q E s:=by
 have a:sizeOk (.seq ((items.toList.drop (cG items.size 0 lo)).take (cG items.size items.size hi-cG items.size 0 lo)).toArray):=by
  show((items.toList.drop (cG items.size 0 lo)).take (cG items.size items.size hi-cG items.size 0 lo)).toArray.size<=sizeLine;rw[WB,WJ,Yq,YO]
  lia
 have r:cG items.size items.size hi<=items.size:=NO _ _ (Wj _) hi;obtain⟨os,d,f,n⟩:=id k;have g:s.TypeIs (.ref c) "slice":=⟨os,d,f⟩;unfold getItem
 try with_reducible refine WU ?_
 first | refine V8 (Wb ?_) | skip
 refine V8 (wpAny_sequenceKey b.typeIs (by decide) ?_);refine V8 (W4 (name:=Str.ofString "__getitem__") b.typeIs Xv
  (W3 Xv b.typeIs entry_tuple_getitem ?_ (args_tuple_getitem _ _)))
 show wpAny _ _ (Builtin.Tuple.tupleItemsOf (.ref t) >>=_) _ _ s;refine V8 (tupleItemsOf_ b ?_);refine V8 (YD g ?_);rw[Wg (by decide)];refine V8 (iU k pl l ?_);have e:¬((((cG items.size 0 lo:Nat):Int)==0&&(1:Int)==1&&(cG items.size items.size hi-cG items.size 0 lo)==items.size)=true):=by
  intro q;rw[WC,WC] at q;have p:((cG items.size 0 lo:Nat):Int)=0:=eq_of_beq q.1.1;have o:cG items.size items.size hi-cG items.size 0 lo=items.size:=eq_of_beq q.2;exact hw ⟨by lia,by lia⟩
 show wpAny _ _ (if(((cG items.size 0 lo:Nat):Int)==0&&(1:Int)==1&&(cG items.size items.size hi-cG items.size 0 lo)==items.size)=true then _ else _) _ _ s;rw[Wh e,HL]
 first
  | exact V8 (m:=Builtin.Tuple.tupleExact _) (Xc (Wb ⟨_,rfl,Wb h⟩) a)
  | exact V8 (m:=Builtin.Tuple.tupleExact _) (Xc (V8 (Wb (Wb ⟨_,rfl,Wb h⟩))) a)
  | exact V8 (V8 (m:=Builtin.Tuple.tupleExact _) (Xc (Wb (Wb ⟨_,rfl,Wb h⟩)) a))
  | exact V8 (V8 (m:=Builtin.Tuple.tupleExact _) (Xc (Wb ⟨_,rfl,Wb h⟩) a))
end HT
namespace L2
open PyProof.Rows
abbrev TO:=St->Hp->(Option Int->Hp->Prop)->Prop
def PO(X:Cx)(e:Option Expr)(t:TO):Prop:=
 ∀(a:List (Addr×Obj)) (s:Shared) (b:St) (H:Hp) (Q:Option Int->Hp->Prop),Inv X a b H s->t b H Q->
  wpAny (model X.prog X.w) X.A (evalPart e X.env) (λu d=>∃o c,Inv X a b c d/\IsPart u o/\Q o c) X.xe s
noncomputable def JY:TO:=λ_ H Q=>Q none H
def QO(t:TE):TO:=λa H Q=>t a H λx b=>∃i,x=.int i/\Q (some i) b
section
variable {X:Cx} {e:Expr} {te:TE} {lo hi:Option Expr} {tl th:TO} {pos p2:Pos}
def KO:PO X none JY:=by
 intro a s b H Q I h;rw[evalPart_none];exact Wb ⟨none,H,I,.none,h⟩
def KN(h:PE X e te):PO X (some e) (QO te):=by
 intro a s b H Q I f;rw[evalPart_some];refine cU (h a s b H _ I f) λu s1 ⟨x,H1,g,c,d⟩=>?_;obtain⟨i,rfl,q⟩:=d;obtain⟨t,rfl⟩:=c;exact⟨some i,H1,g,.int i t,q⟩
def Qk(X:Cx)(r:V->Option Int->Option Int->Hp->VK->Prop):Prop:=
 ∀(a:List (Addr×Obj)) (s:Shared) (b:St) (H:Hp) (x:V) (v d c:Value) (lo hi:Option Int) (f:Addr) (Q:VK),Inv X a b H s->RelV x v->s.heap.IsSliceOf f d c .none->IsPart d lo->IsPart c hi->r x lo hi H Q->
  ∃T g,typeLookup (.type T) "__getitem__"=pure (some (.builtin g))/\s.TypeIs v T/\wpAny (model X.prog X.w) X.A (getItem v (.ref f)) (EP X a b Q) X.xe s
def VO(r:V->Option Int->Option Int->Hp->VK->Prop)(te:TE)(tl th:TO):TE:=λa H Q=>te a H λx d=>tl a d λl c=>th a c λu b=>r x l u b Q
def HQ(hr:Qk X r)(t:PE X e te)(hl:PO X lo tl)(n:PO X hi th):PE X (.Subscript e (.Slice lo hi none p2) pos) (VO r te tl th):=by
 intro a s c H Q I h;refine Subscript_ (cU (t a s c H _ I h) λv s1 ⟨x,H1,F,i,m⟩=>?_);refine wpAny_Slice (cU (hl a s1 c H1 _ F m) λf s2 ⟨l,G,E,pl,k⟩=>cU (n a s2 c G _ E k) λd s3 ⟨u,g,C,pu,j⟩=>?_);rw[evalPart_none];refine Wb ?_;have z:Inv X a c g {s3 with heap:=s3.heap.push {cls:=.type "slice",data:=.fields #[f,d,.none]}}:=C.kept (t':=s3.toks) λb ob q=>Wa _ q;obtain⟨T,L,y,o,p⟩:=hr a {s3 with heap:=s3.heap.push {cls:=.type "slice",data:=.fields #[f,d,.none]}} c g x v f d l u s3.heap.objs.size Q z i (Heap.IsSliceOf.new ..) pl pu j;show wpAny (model X.prog X.w) X.A (subscriptTail e (.Slice lo hi none p2) v (.ref s3.heap.objs.size)) (EP X a c Q) X.xe {s3 with heap:=s3.heap.push {cls:=.type "slice",data:=.fields #[f,d,.none]}};exact tail_any (ops:=[.ref s3.heap.objs.size,v]) o y p (by with_unfolding_all rfl)
noncomputable def uS(xs:List V)(lo hi:Option Int):List V:=(xs.drop (HT.cG xs.length 0 lo)).take (HT.cG xs.length xs.length hi-HT.cG xs.length 0 lo)
def qY(xs:List V)(lo hi:Option Int):(uS xs lo hi).length<=xs.length:=by
 unfold uS;rw[WJ,Yq]
 lia
def UI(K:FR):V->Option Int->Option Int->Hp->VK->Prop:=λx lo hi H Q=>∃a b,x=.ref a/\jc K H a b/\
 ¬(HT.cG b.length 0 lo=0/\HT.cG b.length b.length hi=b.length)/\∀p,H p=none->Q (.ref p) (upd H p (.tup (uS b lo hi)))
def NF:Qk X (UI X.K):=by
 intro g s t H x v w u lo hi z Q I k p pl l h;obtain⟨a,d,rfl,m,n,q⟩:=h;cases k;obtain⟨f,r,j,i⟩:=I.tuple m;have c:f.toArray.size=d.length:=by rw[WB];exact r.length.symm
 refine⟨"tuple",_,Xv.lookup,j.typeIs,?_⟩;refine HT.oB j p pl l (by rw[c];exact n) ?_ (by rw[c];exact i);rw[c];refine⟨.ref s.heap.objs.size,_,I.laid (t':=s.toks) (o:=.tup (uS d lo hi)) (λb ob q=>Wa _ q) (Wj _) ?_,rfl,q _ (I.bL.fresh (Wj _))⟩;exact⟨WQ (qY d lo hi) i,_,(r.drop (HT.cG d.length 0 lo)).take (HT.cG d.length d.length hi-HT.cG d.length 0 lo),wD.new _ _⟩
def Rv(K:FR):R2:=λx y H Q=>∃a b d c,x=.ref a/\y=.ref b/\jc K H a d/\jc K H b c/\d≠[]/\d.length+c.length<=sizeLine/\
 (c=[]->Q (.ref a) H)/\(c≠[]->∀p,H p=none->Q (.ref p) (upd H p (.tup (d++c))))
def Vals.sJ(r:Vals xs us):us=[]↔xs=[]:=by
 cases r with
 | nil=>simp
 | cons _ _=>simp
def K7:pA X (binaryOp .Add) (Rv X.K):=by
 intro f s F H x y v u Q I m l h;obtain⟨a,b,k,j,rfl,rfl,E,C,A,i,p,n⟩:=h;cases m;cases l;obtain⟨t,d,r,_⟩:=I.tuple E;obtain⟨g,c,p2,_⟩:=I.tuple C;refine HT.L7 r p2 (λz=>A (d.sJ.mp z)) (λz=>⟨.ref a,H,I,rfl,p (c.sJ.mp z)⟩) (λz=>?_) (by rw[<-d.length,<-c.length];exact i);refine⟨.ref s.heap.objs.size,_,I.laid (t':=s.toks) (o:=.tup (k++j)) (λb ob q=>Wa _ q) (Wj _) ?_,rfl,n (λw=>z (c.sJ.mpr w)) _ (I.bL.fresh (Wj _))⟩;exact⟨by rw[Wn];exact i,_,d.append c,wD.new _ _⟩
end
noncomputable def wm(n:Nat)(i:Int):Option Nat:=if 0<=i then(if i < n then some i.toNat else none) else if -(n:Int)<=i then some (i+n).toNat else none
def hW{a:Type}(xs:List a)(i:Int):Option a:=(wm xs.length i).bind λj=>xs[j]?
def DX(h:wm n i=some j):seqIndex? i n=some j/\j < n/\-(n:Int)<=i/\i < n:=by
 unfold wm at h
 by_cases b:0<=i
 ·rw[Wg b] at h
  by_cases a:i < n
  ·rw[Wg a] at h;have e:i.toNat=j:=Option.some.inj h;exact⟨by rw[seqIndex_of b a,e],by lia,by lia,a⟩
  ·rw[Wh a] at h;cases h
 ·rw[Wh b] at h
  by_cases a:-(n:Int)<=i
  ·rw[Wg a] at h;have e:(i+n).toNat=j:=Option.some.inj h;exact⟨by rw[seqIndex_neg (by lia) a,e],by lia,a,by lia⟩
  ·rw[Wh a] at h;cases h
def sS(h:hW xs i=some v):∃j,seqIndex? i xs.length=some j/\xs[j]?=some v/\j < xs.length/\-(xs.length:Int)<=i/\i < xs.length:=by
 unfold hW at h;cases e:wm xs.length i with
 | none=>rw[e] at h;cases h
 | some j=>
  rw[e] at h;obtain⟨d,c,b,a⟩:=DX e;exact⟨j,d,h,c,b,a⟩
def oP{a:Type}{xs:List a}{j:Nat}{v:a}(h:xs[j]?=some v):hW xs (j:Int)=some v:=by
 have b:j < xs.length:=(V9.mp h).1;have e:wm xs.length (j:Int)=some j:=by
  unfold wm;rw[Wg (by lia),Wg (by lia)];simp
 unfold hW;rw[e];exact h
def u6(xs:List α)(v:α):hW (xs++[v]) (-1)=some v:=by
 have hl:(xs++[v]).length=xs.length+1:=by simp
 have e:wm (xs++[v]).length (-1)=some xs.length:=by
  unfold wm;rw[hl,Wh (by decide),Wg (by lia)];congr 1
  lia
 unfold hW;rw[e];show(xs++[v])[xs.length]?=some v;simp
def jY(b:Expr):Prop:=∀o i,subscripted b false o i=operate [o,i] (getItem o i)
def QB(X:Cx)(r:R2):Prop:=
 ∀(c a:Expr)(b:List (Addr×Obj)) (s:Shared) (d:St) (H:Hp) (x y:V) (v u:Value) (Q:VK),Inv X b d H s->RelV x v->RelV y u->r x y H Q->
  subscripted a false v u=operate [v,u] (getItem v u)->wpAny (model X.prog X.w) X.A (subscriptTail c a v u) (EP X b d Q) X.xe s
def Gs(X:Cx)(id:String)(r:V->List V->Hp->VK->Prop):Prop:=
 ∀(a:List (Addr×Obj)) (s:Shared) (b:St) (H:Hp) (x:V) (c:List V) (v:Value) (us:List Value) (Q:VK),Inv X a b H s->RelV x v->Vals c us->r x c H Q->
  wpAny (model X.prog X.w) X.A (call (.builtin id) (v::us)) (EP X a b Q) X.xe s
section
variable {X:Cx} {a b:Expr} {ta tb:TE} {pos:Pos}
def MM(hr:QB X r)(k:PE X a ta)(j:PE X b tb)(i:jY b):PE X (.Subscript a b pos) (QQ r ta tb):=by
 intro c s d H Q I h;exact Subscript_ (Qf k j I h λv u e x y m l g f q=>hr a b c e d m x y v u Q l g f q (i _ _))
def UQ(K:FR):R2:=λx y H Q=>∃p c i v,x=.ref p/\y=.int i/\fN K H p c/\hW c i=some v/\Q v H
def UO(K:FR):R2:=λx y H Q=>∃p c i v,x=.ref p/\y=.int i/\jc K H p c/\hW c i=some v/\Q v H
def UP:R2:=λx y H Q=>∃z i c,x=.str z/\y=.int i/\z.length<=sizeLine/\hW z.cps.toList i=some c/\Q (.str ⟨#[c]⟩) H
def Lr:QB X (UQ X.K):=by
 intro f g c s n H x y v u Q I G F h o;obtain⟨p,P,i,z,rfl,rfl,J,L,q⟩:=h;cases G;obtain⟨t,rfl⟩:=F;obtain⟨l,r,pl,R⟩:=I.list J;obtain⟨j,e,O,S,N,M⟩:=sS L;obtain⟨w,C,k⟩:=r.get O;have hl:=r.length;have hn:=nq;have d:EP X c n Q w s:=⟨z,H,I,k,q⟩
 by_cases A:0<=i
 ·have m:i.toNat=j:=by
   rw[seqIndex_of A M] at e;exact Option.some.inj e
  exact item_listR pl.isList A (by lia) (by rw[m];simpa using C) d o
 ·have m:(i+(l.toArray.size:Int)).toNat=j:=by
   rw[seqIndex_neg (by lia) N] at e;rw[WB,<-hl];exact Option.some.inj e
  exact subscriptTail_builtinR (x:=w) pl.isList.typeIs slot_list_getitem.lookup
   (wpAny_getItem_list_neg (Q:=λr E=>r=w/\EP X c n Q r E) pl.isList (by lia) (by rw[WB] <;> lia) (by lia) (by rw[m];simpa using C) ⟨rfl,d⟩) o
def Pe:QB X (UO X.K):=by
 intro d e c s k H x y v u Q I n m h A;obtain⟨p,L,i,z,rfl,rfl,C,E,q⟩:=h;cases n;obtain⟨t,rfl⟩:=m;obtain⟨o,r,pl,M⟩:=I.tuple C;obtain⟨j,G,F,P,O,N⟩:=sS E;obtain⟨w,J,f⟩:=r.get F;have hl:=r.length;have hn:=nq;have g:EP X c k Q w s:=⟨z,H,I,f,q⟩;exact subscriptTail_builtinR (x:=w) pl.typeIs Xv.lookup
  (getItem_tuple (j:=j) (Q:=λr l=>r=w/\EP X c k Q r l) pl (by lia) (by lia) (by rw[WB,<-hl];exact G) (by simpa using J) ⟨rfl,g⟩) A
def Pf:QB X UP:=by
 intro d e f s C H x y v u Q I l k h m;obtain⟨z,i,c,rfl,rfl,F,n,q⟩:=h;obtain⟨t,rfl⟩:=l;obtain⟨E,rfl⟩:=k;obtain⟨j,g,r,G,p,o⟩:=sS n;have hl:z.cps.toList.length=z.length:=by simp[Str.length]
 rw[hl] at g p o;have hn:=nq;exact tail_any (typeIs_str s z t) slot_str_getitem.lookup (getItem_str (c:=c) (by
  have A:decide (i < -(2^63:Int))=false:=WD (by lia);have w:decide (i≥2^63)=false:=WD (by lia);rw[A,w,Z5]) (by rw[g];simpa using r) ⟨.str ⟨#[c]⟩,H,I.tok _,⟨_,rfl⟩,q⟩) m
def Ck(its:List Value)(n j:Nat)(u:Value):Obj.mapSeq (·.setIfInBounds j u) {cls:=.type "list",data:=.seq its.toArray n}={cls:=.type "list",data:=.seq (its.set j u).toArray n}:=by
 simp[Obj.mapSeq]
theorem Inv.lst(I:Inv X pins σ H s)(h:H p=some (.lst xs)):
  ∃(its:List Value)(n:Nat),Vals xs its/\s.heap.get? p=some {cls:=.type "list",data:=.seq its.toArray n}/\xs.length<=sizeLine:=by
 obtain⟨z,its,n,r,e⟩:=I.bL p _ h;exact⟨its,n,r,e,z⟩
def Inv.O6{c:List (Addr×Obj)}{σ:St}{H:Hp}{s:Shared}{p:Addr}{xs ys:List V}{its its':List Value}{n d:Nat}{f:Obj->Obj}(I:Inv X c σ H s)(h:H p=some (.lst xs))
  (j:s.heap.get? p=some {cls:=.type "list",data:=.seq its.toArray n}) (g:f {cls:=.type "list",data:=.seq its.toArray n}={cls:=.type "list",data:=.seq its'.toArray d}) (r:Vals ys its') (i:ys.length<=sizeLine) (t:Nat):
  Inv X c σ (upd H p (.lst ys)) {s with heap:=s.heap.update p f,toks:=t}:=by
 have e:(s.heap.update p f).get? p=some {cls:=.type "list",data:=.seq its'.toArray d}:=by
  rw[XZ f j (by rw[g] <;> rfl),g]
 refine I.write (x:=p) (e:=p) (by rw[h];trivial) (.inl rfl) (λb u k q=>(Yd _ _ (Xy k)).trans q) ⟨_,e⟩ ?_;exact⟨i,its',d,r,e⟩
def Rr:V->V->V->Hp->(Hp->Prop)->Prop:=λo i v H Q=>∃p c k j,o=.ref p/\i=.int k/\H p=some (.lst c)/\wm c.length k=some j/\Q (upd H p (.lst (c.set j v)))
def set_list:Mn X Rr:=by
 intro c s y H o i v ov F u Q I ro A rv h;obtain⟨p,z,k,j,rfl,rfl,hp,E,q⟩:=h;cases ro;obtain⟨t,rfl⟩:=A;obtain⟨d,n,r,f,C⟩:=I.lst hp;obtain⟨e,G,m,l⟩:=DX E;have hl:=r.length;have hn:=nq;have x:Inv X c y (upd H p (.lst (z.set j v))) {s with heap:=s.heap.update p (Obj.mapSeq (·.setIfInBounds j u))}:=
  I.O6 hp f (Ck d n j u) (r.set rv j) (by rw[Xl];exact C) s.toks
 by_cases w:0<=k
 ·have g:k.toNat=j:=by
   rw[seqIndex_of w l] at e;exact Option.some.inj e
  exact PySem.W.ki_setAt f w (by lia) (by rw[WB,<-hl];exact l) (by rw[g];exact⟨_,x,q⟩)
 ·have g:(k+(d.toArray.size:Int)).toNat=j:=by
   rw[seqIndex_neg (by lia) m] at e;rw[WB,<-hl];exact Option.some.inj e
  exact PySem.W.ki_setBack f (by lia) (by rw[WB,<-hl];exact m) (by lia) (by rw[g];exact⟨_,x,q⟩)
def xP(lo hi:Option Int)(n:Nat):(sliceBounds lo hi none n).1=((HT.cG n 0 lo:Nat):Int)/\(sliceBounds lo hi none n).2.1=((HT.cG n n hi:Nat):Int)/\(sliceBounds lo hi none n).2.2=1:=by
 refine⟨?_,?_,rfl⟩
 ·cases lo with
  | none=>simp[sliceBounds,HT.cG]
  | some i=>
   simp only[sliceBounds,HT.cG,Option.getD_none,show(1:Int) > 0 by decide,YW]
   by_cases h:i < 0
   ·simp only[h,YW] <;> lia
   ·simp only[h,Xx] <;> lia
 ·cases hi with
  | none=>simp[sliceBounds,HT.cG]
  | some i=>
   simp only[sliceBounds,HT.cG,Option.getD_none,show(1:Int) > 0 by decide,YW]
   by_cases h:i < 0
   ·simp only[h,YW] <;> lia
   ·simp only[h,Xx] <;> lia
def vo(its:List Value)(lo hi:Option Int):slicePick its.toArray lo hi none=((its.drop (HT.cG its.length 0 lo)).take (HT.cG its.length its.length hi-HT.cG its.length 0 lo)).toArray:=by
 obtain⟨e,d,c⟩:=xP lo hi its.toArray.size;unfold slicePick;rw[e,d,c];simp only[sliceRange_one,pick_run,WB] <;> rfl
def UK(K:FR):V->Option Int->Option Int->Hp->VK->Prop:=λx d e H Q=>∃a c,x=.ref a/\fN K H a c/\∀p,H p=none->Q (.ref p) (upd H p (.lst (uS c d e)))
def Kg:Qk X (UK X.K):=by
 intro g s t H x v w u e f z Q I j p pl k h;obtain⟨a,c,rfl,n,q⟩:=h;cases j;obtain⟨l,r,i,m⟩:=I.list n;have d:=r.length;refine⟨"list",_,slot_list_getitem.lookup,i.isList.typeIs,?_⟩;refine wpAny_getItem_list_slice i.isList p pl k .none (by simp) ?_ (by rw[WB] <;> lia);rw[vo,<-d];refine⟨.ref s.heap.objs.size,_,I.laid (t':=s.toks) (o:=.lst (uS c e f)) (λb ob q=>Wa _ q) (Wj _) ?_,rfl,q _ (I.bL.fresh (Wj _))⟩;exact⟨WQ (qY c e f) m,_,0,(r.drop (HT.cG c.length 0 e)).take (HT.cG c.length c.length f-HT.cG c.length 0 e),Ww _ rfl⟩
def zg:fX X (.builtin "len") (λxs H Q=>∃p ys,xs=[.ref p]/\(fN X.K H p ys\/jc X.K H p ys)/\Q (.int ys.length) H):=by
 intro g s k H xs us Q I r h;obtain⟨p,ys,rfl,d,q⟩:=h;obtain⟨u,rfl,i⟩:=vals1 r;cases i;have hn:=nq;rcases d with d | d
 ·obtain⟨f,e,pl,j⟩:=I.list d;have c:=e.length;exact Calls.call_len_list pl.isList (by simp only[WB] <;> lia) ⟨.int ys.length,H,I.tok _,⟨s.toks+1,by rw[WB,c]⟩,q⟩
 ·obtain⟨f,e,pl,j⟩:=I.tuple d;have c:=e.length;exact len_tuple pl (by simp only[WB] <;> lia) ⟨.int ys.length,H,I.tok _,⟨s.toks+1,by rw[WB,c]⟩,q⟩
def zf:fX X (.builtin "len") (λxs H Q=>∃z,xs=[.str z]/\z.length<=sizeLine/\Q (.int z.length) H):=by
 intro c s d H xs us Q I r h;obtain⟨z,rfl,e,q⟩:=h;obtain⟨u,rfl,t,rfl⟩:=vals1 r;have hn:=nq;exact len_str (by lia) ⟨.int z.length,H,I.tok _,⟨_,rfl⟩,q⟩
def ze:fX X (.type "list") (λxs H Q=>∃p ys,xs=[.ref p]/\(fN X.K H p ys\/jc X.K H p ys)/\∀l,H l=none->Q (.ref l) (upd H l (.lst ys))):=by
 intro i s z H xs us Q I r h;obtain⟨p,ys,rfl,k,q⟩:=h;obtain⟨u,rfl,A⟩:=vals1 r;cases A;have t:∀(c:List Value),Vals ys c->ys.length<=sizeLine->∀(d:Heap)(g:Nat),(∀b y,s.heap.get? b=some y->d.get? b=some y)->
   d.get? s.heap.objs.size=some {cls:=.type "list",dict:=none,data:=.seq c.toArray g,slots:=#[]}->EP X i z Q (.ref s.heap.objs.size) {s with heap:=d}:=λc f j d g kp e=>
  ⟨.ref s.heap.objs.size,_,I.laid (t':=s.toks) kp (Wj _) (show cD X.prog X.w _ d _ (.lst ys) from⟨j,c,g,f,e⟩),rfl,q _ (I.bL.fresh (Wj _))⟩
 rcases k with k | k
 ·obtain⟨c,f,pl,j⟩:=I.list k;have m:=f.length;obtain⟨o,v,x,n,hd⟩:=pl.isList;exact call_list_seq p (.inl rfl) v x hd (λd g kp e=>t c f j d g kp e) (by simp only[WB] <;> lia)
 ·obtain⟨c,f,pl,j⟩:=I.tuple k;have m:=f.length;obtain⟨o,v,x,n,hd⟩:=pl;exact call_list_seq p (.inr rfl) v x hd (λd g kp e=>t c f j d g kp e) (by simp only[WB] <;> lia)
def wB:fX X (.type "tuple") (λxs H Q=>∃p ys,xs=[.ref p]/\((fN X.K H p ys/\∀l,H l=none->Q (.ref l) (upd H l (.tup ys)))\/(jc X.K H p ys/\Q (.ref p) H))):=by
 intro c s j H xs us Q I r h;obtain⟨p,ys,rfl,h⟩:=h;obtain⟨u,rfl,v⟩:=vals1 r;cases v;rcases h with⟨i,q⟩ |⟨i,q⟩
 ·obtain⟨d,g,pl,k⟩:=I.list i;have m:=g.length;refine call_tuple_list pl.isList (λf kp=>?_) (by simp only[WB] <;> lia);have n:Inv X c j H {s with heap:=f}:=I.kept (t':=s.toks) kp;have x:Inv X c j (upd H f.objs.size (.tup ys)) {s with heap:=f.push {cls:=.type "tuple",data:=.seq d.toArray}}:=
   n.laid (t':=s.toks) (λb o e=>Wa _ e) (Wj _) (show cD X.prog X.w _ _ _ (.tup ys) from⟨k,d,g,wD.new _ _⟩)
  exact⟨.ref f.objs.size,_,x,rfl,q _ (n.bL.fresh (Wj _))⟩
 ·obtain⟨d,g,pl,k⟩:=I.tuple i;exact call_tuple_same pl ⟨.ref p,H,I,rfl,q⟩
def My(K:FR)(T:String)(x:V)(H:Hp):Prop:=match x with
 | .str _=>T="str"
 | .int _=>T="int"
 | .ref p=>(T="list"/\∃e,fN K H p e)\/(T="tuple"/\∃o,K.lookup p=some o/\o.cls=.type "tuple"/\o.dict=none)\/
   (T="dict"/\((∃c,H p=some (.dK c))\/(∃c,H p=some (.dT c))\/∃d,H p=some (.JQ d)/\∀w h,d w h->∃o,h.get? p=some o/\o.ExactDict))\/(T="set"/\∃S n,H p=some (.set S n))
 | _=>False
def Gw(I:Inv X pins σ H s)(r:RelV x v)(ty:My X.K T x H):
  s.TypeIs v T/\∀a,v=.ref a->∃ob,s.heap.get? a=some ob/\ob.dict=none:=by
 cases x with
 | str z=>
  obtain⟨t,rfl⟩:=r;cases(show T="str" from ty);exact⟨typeIs_str s z t,λ_ e=>nomatch e⟩
 | int i=>
  obtain⟨t,rfl⟩:=r;cases(show T="int" from ty);exact⟨typeIs_int s i t,λ_ e=>nomatch e⟩
 | ref p=>
  cases r;rcases ty with⟨rfl,xs,k⟩ |⟨rfl,o,d,l,hd⟩ |⟨rfl,d⟩ |⟨rfl,S,n,d⟩
  ·obtain⟨j,_,pl,_⟩:=I.list k;refine⟨pl.isList.typeIs,λa e=>?_⟩;cases e;obtain⟨o,n,e,c,hd,_⟩:=pl;exact⟨o,e,hd⟩
  ·refine⟨⟨o,I.xh p o d,l⟩,λa e=>?_⟩;cases e;exact⟨o,I.xh _ o d,hd⟩
  ·have z:∃o,s.heap.get? p=some o/\o.ExactDict:=by
    rcases d with⟨f,d⟩ |⟨f,d⟩ |⟨m,d,g⟩
    ·obtain⟨_,_,_,_,o,_,_,e,ex,_⟩:=I.bL p _ d;exact⟨o,e,ex⟩
    ·obtain⟨_,_,_,_,o,_,_,e,ex,_⟩:=I.bL p _ d;exact⟨o,e,ex⟩
    ·obtain⟨q,_⟩:=I.bL p _ d;exact g _ _ q
   obtain⟨o,e,ex⟩:=z;refine⟨⟨o,e,ex.1⟩,λa h=>?_⟩;cases h;exact⟨o,e,ex.2.1⟩
  ·obtain⟨o,_,_,_,e,ex,_⟩:=I.bL p _ d;refine⟨⟨o,e,ex.1⟩,λa h=>?_⟩;cases h;exact⟨o,e,ex.2.1⟩
 | _=>exact False.elim ty
def Uk(K:FR)(T:String)(r:V->List V->Hp->VK->Prop)(e:TE):TE:=λd H Q=>e d H λx c=>My K T x c/\r x [] c Q
def VU(K:FR)(T:String)(r:V->List V->Hp->VK->Prop)(f:TE)(t:TA):TE:=λc H Q=>f c H λx d=>My K T x d/\t c d λe g=>r x e g Q
variable {o e:Expr} {es:List Expr} {to:TE} {t:TA} {name:Str} {apos cpos:Pos} {T id:String} {r:V->List V->Hp->VK->Prop}
def OE(m:PlainAttrs T)(slot:Slot T name id)(g:typeOf (.builtin id)=pure (.type "method_descriptor"))(hm:Gs X id r)(n:PE X o to)
  (f:attributeBase o name X.env (eval o X.env)=eval o X.env:=by rfl) (d:(apos.endLine==cpos.line)=true:=by rfl):PE X (.Call (.Attribute o name apos) [] [] cpos) (Uk X.K T r to):=by
 intro c s i H Q I h;refine wpAny_Call_method0_late f d (cU (n c s i H _ I h) λv s1 ⟨x,H1,k,j,ty,l⟩=>?_);obtain⟨q,p⟩:=Gw k j ty;exact⟨T,id,m,slot,g,q,p,ZZ rfl (PySem.evalArgs_none (hm c s1 i H1 x [] v [] Q k j .nil l))⟩
def RC(y:PlainAttrs T)(slot:Slot T name id)(k:typeOf (.builtin id)=pure (.type "method_descriptor"))(hm:Gs X id r)(A:PE X o to)(C:PA X (e::es) t)
  (g:attributeBase o name X.env (eval o X.env)=eval o X.env:=by rfl)
  (i:((backTo cpos (starEach (e::es) X.env)).all (λx=>!x.1)&&(backToKw cpos (keywordEach [] X.env)).all (λx=>x.1.isSome)
   &&decide ((e::es).length+([]:List Keyword).length+(if([]:List Keyword).isEmpty then 0 else 1) < 30))=true:=by rfl)
  (f:(apos.endLine==cpos.line)=true:=by rfl) (z:starEach (e::es) X.env=(false,eval e X.env)::starEach es X.env:=by rfl) (d:(backTo cpos (starEach es X.env)).any (·.1)=false:=by rfl):
  PE X (.Call (.Attribute o name apos) (e::es) [] cpos) (VU X.K T r to t):=by
 intro c s j H Q I h;refine wpAny_Call_method_late g i f rfl (cU (A c s j H _ I h) λv s1 ⟨x,H1,n,l,ty,w⟩=>?_);obtain⟨F,E⟩:=Gw n l ty;refine⟨T,id,y,slot,k,F,E,?_⟩;have m:=C cpos c s1 j H1 _ n w;rw[z] at m ⊢;refine ZZ (by show(false||(backTo cpos (starEach es X.env)).any (·.1))=false;rw[d] <;> rfl) (Calls.evalArgs_plain ?_);exact cU m λus s2 ⟨p,J,G,q,u⟩=>hm c s2 j J x p v us Q G l q u
end
def VE(X:Cx)(id:String)(r:V->List V->Hp->VK->Prop):Prop:=
 ∀(a:List (Addr×Obj)) (s:Shared) (b:St) (H:Hp) (x:V) (c:List V) (v:Value) (us:List Value) (Q:VK),Inv X a b H s->RelV x v->Vals c us->r x c H Q->
  wpAny (model X.prog X.w) X.A (call (.builtin id) (v::us)) (EP X a b Q) X.xe s
def Vals.one{x:V}{us:List Value}(h:Vals [x] us):∃u,us=[u]/\RelV x u:=by
 cases h with
 | cons r t=>cases t;exact⟨_,rfl,r⟩
def Vals.two{x y:V}{us:List Value}(h:Vals [x,y] us):∃u v,us=[u,v]/\RelV x u/\RelV y v:=by
 cases h with
 | cons r t=>cases t with
  | cons q z=>cases z;exact⟨_,_,rfl,r,q⟩
theorem Vals.zero:∀{us:List Value},Vals [] us->us=[]
 | _,.nil=>rfl
theorem Vals.dropLast(h:Vals xs us):Vals xs.dropLast us.dropLast:=by
 induction h with
 | nil=>exact .nil
 | cons r t a=>
  cases t with
  | nil=>exact .nil
  | cons q b=>exact .cons r a
theorem Vals.rep(h:Vals xs us):∀k:Nat,Vals (List.replicate k xs).flatten (List.replicate k us).flatten
 | 0=>.nil
 | k+1=>by
  rw[X4,X4,Yj,Yj];exact Vals.append h (Vals.rep h k)
def CB(l:List α):l.eraseIdx (l.length-1)=l.dropLast:=by
 induction l with
 | nil=>rfl
 | cons a r c=>
  cases r with
  | nil=>rfl
  | cons b r=>
   have e:(a::b::r).length-1=((b::r).length-1)+1:=by
    have f:(a::b::r).length=r.length+2:=rfl;have d:(b::r).length=r.length+1:=rfl
    lia
   rw[e,List.eraseIdx_cons_succ,c]
   all_goals rfl
theorem foldl_rep(its:List Value):∀(k:Nat)(acc:List Value),
  List.foldl (λb a=>b++a) acc.toArray (List.replicate k its.toArray)=(acc++(List.replicate k its).flatten).toArray
 | 0,acc=>by simp
 | k+1,acc=>by
  have e:acc.toArray++its.toArray=(acc++its).toArray:=by simp
  have c:(acc++its)++(List.replicate k its).flatten=acc++(List.replicate (k+1) its).flatten:=by
   rw[X4,Yj,W8]
  rw[<-c,<-foldl_rep its k (acc++its),<-e,X4,Yz]
def Inv.RP{its its':List Value}{n:Nat}{f:Array Value->Array Value}{t':Nat}(I:Inv X pins σ H s)(h:H l=some (.lst xs))
  (e:s.heap.get? l=some {cls:=.type "list",data:=.seq its.toArray n}) (d:f its.toArray=its'.toArray) (b:Vals ys its') (a:ys.length<=sizeLine):
  Inv X pins σ (upd H l (.lst ys)) {s with heap:=s.heap.update l (Obj.mapSeq f),toks:=t'}:=by
 have q:=PySem.IsL.update e f;rw[d] at q;refine I.write (x:=l) (e:=l) (by rw[h];exact trivial) (.inl rfl) (λi u g c=>(Yd s.heap (Obj.mapSeq f) (Xy g)).trans c) ⟨_,q⟩ ?_;exact⟨a,its',_,b,q⟩
def Inv.RQ(I:Inv X pins σ H s)(b:Vals ys its)(a:ys.length<=sizeLine):
  Inv X pins σ (upd H s.heap.objs.size (.lst ys)) {s with heap:=s.heap.push {cls:=.type "list",data:=.seq its.toArray},toks:=t'}:=
 I.laid (λ_ _ q=>Wa _ q) (Wj _) ⟨a,its,0,b,Ww _ rfl⟩
theorem Inv.fresh(I:Inv X pins σ H s):H s.heap.objs.size=none:=I.bL.fresh (Wj _)
def Inv.Lg(I:Inv X pins σ H s)(a:H l=some (.lst xs)):xs.length<=sizeLine/\∃(its:List Value)(n:Nat),Vals xs its/\xs.length=its.length/\s.heap.get? l=some {cls:=.type "list",data:=.seq its.toArray n}:=by
 obtain⟨z,its,n,r,e⟩:=I.bL l _ a;exact⟨z,its,n,r,r.length,e⟩
def Kw:V->List V->Hp->VK->Prop:=λx b H Q=>∃l a y,x=.ref l/\b=[y]/\H l=some (.lst a)/\a.length < sizeLine/\Q .bb (upd H l (.lst (a++[y])))
def xa:VE X "list.append" Kw:=by
 intro b s i H x k v us Q I f rv h;obtain⟨l,j,y,rfl,rfl,d,m,q⟩:=h;cases f;obtain⟨u,rfl,g⟩:=rv.one;obtain⟨z,a,n,r,hl,e⟩:=I.Lg d;refine ZX YY ⟨_,e,rfl⟩ F.entry_list_append (F.args_list_append_2 _ _) (PySem.list_append l a.toArray n u (by rw[WB];lia)) ⟨e,?_⟩;refine⟨.bb,_,I.RP (its':=a++[u]) d e (by simp) (r.append (.cons g .nil)) ?_,rfl,q⟩;rw[Wn,YC]
 lia
def UN:V->List V->Hp->VK->Prop:=λx b H Q=>∃l a y,x=.ref l/\b=[]/\H l=some (.lst a)/\a[a.length-1]?=some y/\Q y (upd H l (.lst a.dropLast))
def O1:VE X "list.pop" UN:=by
 intro d s o H x t v us Q I i rv h;obtain⟨l,p,y,rfl,rfl,g,k,q⟩:=h;cases i;have c:=rv.zero;subst c;obtain⟨z,a,n,r,hl,e⟩:=I.Lg g;obtain⟨u,m,j⟩:=r.get k;have b:a.toArray[a.toArray.size-1]?=some u:=by
  show a.toArray[a.length-1]?=some u;rw[<-XW,<-hl];exact m
 refine ZX F.slot_list_pop ⟨_,e,rfl⟩ F.entry_list_pop (F.args_list_pop_1 _) (MeetsSeq.list_pop_last l a.toArray n u b (by rw[WB];lia)) ⟨e,?_⟩;refine⟨y,_,I.RP (its':=a.dropLast) g e ?_ r.dropLast ?_,j,q⟩
 ·show a.toArray.eraseIdxIfInBounds (a.toArray.size-1)=a.dropLast.toArray;rw[WB,List.eraseIdxIfInBounds_toArray,CB]
 ·rw[ZS]
  lia
def UR:R2:=λx y H Q=>∃l b c a,x=.ref l/\y=.ref b/\H l=some (.lst c)/\H b=some (.lst a)/\c.length+a.length<=sizeLine/\∀p,H p=none->Q (.ref p) (upd H p (.lst (c++a)))
def OV:pA X (binaryOp .Add) UR:=by
 intro d s t H x y v u Q I g f h;obtain⟨l,b,C,w,rfl,rfl,k,m,F,q⟩:=h;cases g;cases f;obtain⟨z,c,n,r,hl,e⟩:=I.Lg k;obtain⟨A,a,n2,i,j,p⟩:=I.Lg m;refine PySem.P.add_list e p ?_ (by rw[WB,WB];lia);have o:c.toArray++a.toArray=(c++a).toArray:=by simp
 rw[o];exact⟨.ref _,_,I.RQ (t':=s.toks) (r.append i) (by rw[Wn];lia),rfl,q _ I.fresh⟩
def len_rep(xs:List α)(k:Nat):(List.replicate k xs).flatten.length=k*xs.length:=by
 induction k with
 | zero=>simp
 | succ k a=>rw[X4,Yj,Wn,a,Nat.succ_mul,Nat.add_comm]
section
variable {κ:Type} [DecidableEq κ]
noncomputable def kg(kvs:List (κ×V))(k:κ):Option V:=(kvs.find? λa=>decide (a.1=k)).map (·.2)
noncomputable def putK(kvs:List (κ×V))(k:κ)(v:V):List (κ×V):=
 if(kvs.any λa=>decide (a.1=k))=true then kvs.map (λa=>if a.1=k then(a.1,v) else a) else kvs++[(k,v)]
def sU{p:κ×V}{r:List (κ×V)}{k:κ}(e:p.1=k):kg (p::r) k=some p.2:=by simp[kg,Xp,e]
def nK{p:κ×V}{r:List (κ×V)}{k:κ}(e:¬p.1=k):kg (p::r) k=kg r k:=by simp[kg,Xp,e]
theorem zx(k:κ):∀kvs:List (κ×V),(kvs.any λa=>decide (a.1=k))=(kg kvs k).isSome
 | []=>rfl
 | p::r=>by
  rw[XY]
  by_cases e:p.1=k
  ·simp only[sU e,WI e,Bool.true_or,Option.isSome_some]
  ·rw[nK e,WD e,AaN];exact zx k r
def ij(kvs:List (κ×V))(k:κ)(v:V):(putK kvs k v).length<=kvs.length+1:=by
 unfold putK
 split
 ·rw[Wc];lia
 ·rw[Wn,Wq,Xm];lia
def qM.iZ(r:qM o u):o.isSome=u.isSome:=by
 cases o with
 | none=>cases u with
  | none=>rfl
  | some _=>exact(show False from r).elim
 | some _=>cases u with
  | none=>exact(show False from r).elim
  | some _=>rfl
theorem qM.getD(r:qM o u)(rd:RelV d d'):RelV (o.getD d) (u.getD d'):=by
 cases o with
 | none=>cases u with
  | none=>exact rd
  | some _=>exact(show False from r).elim
 | some _=>cases u with
  | none=>exact(show False from r).elim
  | some _=>exact r
def KV.val{kvs:List (κ×V)}{vs:List (κ×Value)}(r:KV kvs vs)(k:κ):qM (kg kvs k) (valueAt vs k):=by
 unfold KV at r
 induction r with
 | nil=>exact True.intro
 | @cons p q i a h t f=>
  obtain⟨d,g⟩:=h
  by_cases e:p.1=k
  ·have c:q.1=k:=d.symm.trans e;have b:valueAt (q::a) k=some q.2:=by simp[valueAt,Xp,c]
   rw[sU e,b];exact g
  ·have c:¬q.1=k:=λz=>e (d.trans z);have b:valueAt (q::a) k=valueAt a k:=by simp[valueAt,Xp,c]
   rw[nK e,b];exact f
theorem KV.any(r:KV kvs vs)(k:κ):(kvs.any λa=>decide (a.1=k))=vs.any λa=>decide (a.1=k):=by
 unfold KV at r
 induction r with
 | nil=>rfl
 | cons h t b=>rw[XY,XY,b,h.1]
def KV.NU(r:KV kvs vs)(k:κ)(c:RelV y u):
  KV (kvs.map λa=>if a.1=k then(a.1,y) else a) (vs.map λa=>if a.1=k then(a.1,u) else a):=by
 unfold KV at r ⊢
 induction r with
 | nil=>exact .nil
 | @cons p q i g h t d=>
  rw[Wo,Wo];refine .cons ?_ d;obtain⟨b,f⟩:=h
  by_cases e:p.1=k
  ·rw[Wg e,Wg (b.symm.trans e)];exact⟨b,c⟩
  ·rw[Wh e,Wh (λz=>e (b.trans z))];exact⟨b,f⟩
def KV.put(r:KV kvs vs)(k:κ)(a:RelV y u):KV (putK kvs k y) (stored vs k u):=by
 unfold putK stored;rw[r.any k]
 by_cases e:(vs.any λb=>decide (b.1=k))=true
 ·rw[Wg e,Wg e];exact r.NU k a
 ·rw[Wh e,Wh e];exact Paired.snoc r ⟨rfl,a⟩
theorem KV.length(r:KV kvs vs):kvs.length=vs.length:=Paired.length r
end
def lh(r:RelV (kV k) u):(bg P w).is k u=true:=by
 cases k with
 | inl i=>obtain⟨t,e⟩:=(show ∃t,u=Value.int i t from r);subst e;exact k7 P w i t
 | inr x=>obtain⟨t,e⟩:=(show ∃t,u=Value.str x t from r);subst e;exact kZ P w x t
theorem xi:∀{ks:List Key} {us:List Value},Vals (ks.map kV) us->ItemsAre (bg P w) ks us
 | [],_,r=>by rw[Zd] at r;cases r;exact .nil
 | k::ks,_,r=>by
  rw[Wo] at r;cases r with
  | cons h t=>exact .cons (lh h) (xi t)
abbrev KT(H:Hp):List (List Key×V)->List (List Key×Addr×Value)->Prop:=Paired λp q=>p.1=q.1/\H q.2.1=some (.tup (p.1.map kV))/\RelV p.2 q.2.2
def KT.val{H:Hp}{kvs:List (List Key×V)}{xs:List (List Key×Addr×Value)}(r:KT H kvs xs)(k:List Key):qM (kg kvs k) ((atKey xs k).map (·.2)):=by
 induction r with
 | nil=>exact True.intro
 | @cons p q i a h t f=>
  obtain⟨d,_,g⟩:=h
  by_cases e:p.1=k
  ·have c:q.1=k:=d.symm.trans e;have b:atKey (q::a) k=some q.2:=by simp[atKey,Xp,c]
   rw[sU e,b];exact g
  ·have c:¬q.1=k:=λz=>e (d.trans z);have b:atKey (q::a) k=atKey a k:=by simp[atKey,Xp,c]
   rw[nK e,b];exact f
def KT.NU(r:KT H kvs xs)(k:List Key)(d:RelV y u):
  KT H (kvs.map λb=>if b.1=k then(b.1,y) else b) (xs.map (putAt k u)):=by
 induction r with
 | nil=>exact .nil
 | @cons p q j i h t f=>
  rw[Wo,Wo];refine .cons ?_ f;obtain⟨a,c,g⟩:=h;unfold putAt
  by_cases e:p.1=k
  ·rw[Wg e,Wg (a.symm.trans e)];exact⟨a,c,d⟩
  ·rw[Wh e,Wh (λz=>e (a.trans z))];exact⟨a,c,g⟩
def KT.put(r:KT H kvs xs)(k:List Key)(d:H b=some (.tup (k.map kV)))(a:RelV y u):
  KT H (putK kvs k y) (storedH xs k b u):=by
 have e:(kvs.any λc=>decide (c.1=k))=(atKey xs k).isSome:=by
  rw[zx,(r.val k).iZ,Aae]
 unfold putK storedH;rw[e]
 by_cases q:(atKey xs k).isSome=true
 ·rw[Wg q,Wg q];exact r.NU k a
 ·rw[Wh q,Wh q];exact Paired.snoc r ⟨rfl,d,a⟩
def KT.keeps(r:KT H kvs xs)(a:∀b ys,H b=some (.tup ys)->H' b=some (.tup ys)):KT H' kvs xs:=
 Paired.Ld r λ_ _ z=>⟨z.1,a _ _ z.2.1,z.2.2⟩
def MJ(ok:iw P w H h)(e:Rd H a u):cD P w H h a u:=e.ok ok
def qX(ok:iw P w H h)(e:Rd H a (.dK kvs)):kvs.length<=sizeLine/\(a==sysModules)=false/\∃vs,KV kvs vs/\h.DictOf (bg P w) a vs:=
 show cD P w H h a (.dK kvs) from MJ ok e
def xp(ok:iw P w H h)(e:H a=some (.dK kvs)):kvs.length<=sizeLine/\(a==sysModules)=false/\∃vs,KV kvs vs/\h.DictOf (bg P w) a vs:=qX ok (.inl e)
def nu(ok:iw P w H h)(e:H a=some (.tup (ks.map kV))):(tupleKind (bg P w)).is h ks a:=by
 obtain⟨_,b,r,o,f,d,⟨n,c⟩,_⟩:=(show cD P w H h a (.tup (ks.map kV)) from ok a _ e);exact⟨o,b.toArray,n,f,d,c,by simpa using xi r⟩
def uP(ok:iw P w H h)(e:Rd H a (.dT kvs)):kvs.length<=sizeLine/\(a==sysModules)=false/\
  ∃xs,KT H kvs xs/\h.DictOfH (tupleKind (bg P w)) a xs:=by
 obtain⟨z,y,xs,r,o,es,n,k,j,i,g,f⟩:=(show cD P w H h a (.dT kvs) from MJ ok e);refine⟨z,y,xs,r,o,es,n,k,j,i,g,λx b=>?_,f⟩;have all:∀{l:List (List Key×V)} {m:List (List Key×Addr×Value)},KT H l m->∀x∈m,(tupleKind (bg P w)).is h x.1 x.2.1:=by
  intro l m q
  induction q with
  | nil=>intro x b;exact nomatch b
  | @cons p q u s c t d=>
   intro x b;rcases Ws.mp b with e | b
   ·subst e;exact nu ok (by rw[<-c.1];exact c.2.1)
   ·exact d x b
 exact all r x b
def Sj(ok:iw P w H h)(e:H a=some (.dT kvs)):kvs.length<=sizeLine/\(a==sysModules)=false/\
  ∃xs,KT H kvs xs/\h.DictOfH (tupleKind (bg P w)) a xs:=uP ok (.inl e)
def pv(H:Hp)(a:Addr)(y:V)(r:Option V):Prop:=
 (∃c k,Rd H a (.dK c)/\y=kV k/\r=kg c k)\/∃c k b,Rd H a (.dT c)/\y=.ref b/\H b=some (.tup (k.map kV))/\r=kg c k
def Mt(H:Hp)(a:Addr)(y v:V)(H':Hp):Prop:=
 (∃c k,H a=some (.dK c)/\y=kV k/\c.length < sizeLine/\H'=upd H a (.dK (putK c k v)))\/
 ∃c k b,H a=some (.dT c)/\y=.ref b/\H b=some (.tup (k.map kV))/\c.length < sizeLine/\H'=upd H a (.dT (putK c k v))
theorem pv.k{H:Hp}{a:Addr}{kvs:List (Key×V)}{k:Key}(e:H a=some (.dK kvs)):pv H a (kV k) (kg kvs k):=.inl ⟨kvs,k,.inl e,rfl,rfl⟩
theorem Mt.k{H:Hp}{a:Addr}{kvs:List (Key×V)}{k:Key}{v:V}(e:H a=some (.dK kvs))(hl:kvs.length < sizeLine):Mt H a (kV k) v (upd H a (.dK (putK kvs k v))):=.inl ⟨kvs,k,e,rfl,hl,rfl⟩
def Inv.big(I:Inv X pins σ H s):sysModules < s.heap.objs.size:=by
 have h:mainGlobals < s.heap.objs.size:=(I.mod.glob.keeps I.bk).lt;exact ZF (by decide) h
def F9(x:A.units+1 < cLine)(I:Inv X pins σ H s)(g:pv H a y (some v))(q:RelV y u)(h:∀f s',Inv X pins σ H s'->RelV v f->Q f s'):
  wpAny (model X.prog X.w) A (getItem (.ref a) u) Q E s:=by
 rcases g with⟨i,k,e,n,l⟩ |⟨i,k,b,e,n,C,l⟩
 ·subst n;obtain⟨z,hd,t,d,dd⟩:=qX I.bL e;obtain⟨f,j,c⟩:=qM.some_of (v:=v) (o:=valueAt t k) (by rw[l];exact d.val k);exact wpAny_getItem_of (lh q) dd.mapOf j (h f _ (I.tok _) c)
 ·subst n;cases(show u=Value.ref b from q);obtain⟨z,hd,r,d,dd⟩:=uP I.bL e;obtain⟨f,j,c⟩:=qM.some_of (v:=v) (o:=(atKey r k).map (·.2)) (by rw[l];exact d.val k);obtain⟨p,hp,m⟩:=Xi.mp j;refine wpAny_getItem_heap (YE x) (nu I.bL C) dd hp ?_;rw[m];exact h f _ (I.tok _) c
def Vc(j:A.units+1 < cLine)(I:Inv X pins σ H s)(g:pv H a y o)(i:RelV y u)(h:∀s',Inv X pins σ H s'->Q (.bool o.isSome) s'):
  wpAny (model X.prog X.w) A (compareOp .In u (.ref a)) Q E s:=by
 rcases g with⟨d,k,e,f,l⟩ |⟨d,k,b,e,f,m,l⟩
 ·subst f;obtain⟨z,hd,p,c,dd⟩:=qX I.bL e;refine wpAny_in_of (lh i) hd dd.mapOf ?_;rw[<-(c.val k).iZ,<-l];exact h _ (I.tok _)
 ·subst f;cases(show u=Value.ref b from i);obtain⟨z,hd,n,c,dd⟩:=uP I.bL e;refine wpAny_in_heap (YE j) (nu I.bL m) hd dd ?_;have q:=(c.val k).iZ;rw[Aae] at q;rw[<-q,<-l];exact h _ (I.tok _)
def LV(j:A.units+1 < cLine)(I:Inv X pins σ H s)(g:pv H a y o)(i:RelV y u)(h:∀s',Inv X pins σ H s'->Q (.bool (!o.isSome)) s'):
  wpAny (model X.prog X.w) A (compareOp .NotIn u (.ref a)) Q E s:=by
 rcases g with⟨d,k,e,f,l⟩ |⟨d,k,b,e,f,m,l⟩
 ·subst f;obtain⟨z,hd,p,c,dd⟩:=qX I.bL e;refine wpAny_notIn_of (lh i) hd dd.mapOf ?_;rw[<-(c.val k).iZ,<-l];exact h _ (I.tok _)
 ·subst f;cases(show u=Value.ref b from i);obtain⟨z,hd,n,c,dd⟩:=uP I.bL e;refine wpAny_notIn_heap (YE j) (nu I.bL m) hd dd ?_;have q:=(c.val k).iZ;rw[Aae] at q;rw[<-q,<-l];exact h _ (I.tok _)
def jT(I:Inv X pins σ H s)(c:Tu (H a))(d:Heap.SameBut a s.heap h')(f:∃q,h'.get? a=some q)(new:cD X.prog X.w (upd H a ob) h' a ob):
  Inv X pins σ (upd H a ob) {s with heap:=h',toks:=t'}:=
 I.write (x:=a) (e:=a) c (.inl rfl) (λb q g z=>(d.2 b g).trans z) f new
def yY(z:kvs.length<=sizeLine)(hd:(a==sysModules)=false)(b:KV kvs vs)(dd:h'.DictOf (bg P w) a vs):
  cD P w H' h' a (.dK kvs):=⟨z,hd,vs,b,dd⟩
def F8(M:A.units+1 < cLine)(I:Inv X pins σ H s)(g:Mt H a y v H')(x:RelV y u)(rv:RelV v r)(h:∀s',Inv X pins σ H' s'->Q () s'):
  wpAny (model X.prog X.w) A (setItem (.ref a) u r) Q E s:=by
 rcases g with⟨f,k,e,p,l,t⟩ |⟨f,k,b,e,p,G,l,t⟩
 ·subst p t;obtain⟨z,hd,L,d,dd⟩:=xp I.bL e;have m:L.length<=sizeLine:=by rw[<-d.length];exact z
  have hl:(putK f k v).length<=sizeLine:=by have:=ij f k v;lia
  refine wpAny_setItem_pairs (hsz:=m) (lh x) dd λC i o=>h _ ?_;have N:∃q,C.get? a=some q:=let⟨q,_,_,j,_⟩:=i;⟨q,j⟩;exact jT I (by rw[e];exact True.intro) o N (yY hl hd (d.put k rv) i)
 ·subst p t;cases(show u=Value.ref b from x);obtain⟨z,hd,J,d,dd⟩:=Sj I.bL e;have m:J.length<=sizeLine:=by rw[<-Paired.length d];exact z
  have hl:(putK f k v).length<=sizeLine:=by have:=ij f k v;lia
  refine wpAny_setItem_heap (hsz:=m) (YE M) (nu I.bL G) dd λC i o=>h _ ?_;obtain⟨q,es,T,j,S,R,P,_,O⟩:=i;refine jT I (by rw[e];exact True.intro) o ⟨q,j⟩ ⟨hl,hd,_,(d.put k G rv).keeps λc U F=>?_,q,es,T,j,S,R,P,O⟩;rw[az (RL F e (λz=>nomatch z))];exact F
def Sk(I:Inv X pins σ H s)(e:Rd H a (.dK kvs))(h:∀t s',Inv X pins σ H s'->Q (.int kvs.length t) s'):wpAny (model X.prog X.w) A (call (.builtin "len") [.ref a]) Q E s:=by
 obtain⟨z,hd,c,b,dd⟩:=qX I.bL e;refine call_len_dict hd dd (by rw[<-b.length];rw[XX] at z;lia) ?_;rw[<-b.length];exact h _ _ (I.tok _)
def Mq(i:Expr):Prop:=∀ov a,subscripted i false ov a=operate [ov,a] (getItem ov a)
def Ka{prog:Program}{w:World}{A:Around}{E:Value->Shared->Prop}{s:Shared}{env:Env}{b a:Expr}{pos:Pos}{T id:String}{Q:Value->Shared->Prop}
  (hl:typeLookup (.type T) "__getitem__"=pure (some (.builtin id))) (m:Mq a)
  (h:wpAny (model prog w) A (eval b env) (λo f=>wpAny (model prog w) A (eval a env) (λi c=>c.TypeIs o T/\wpAny (model prog w) A (getItem o i) Q E c) E f) E s):
  wpAny (model prog w) A (eval (.Subscript b a pos) env) Q E s:=by
 refine Subscript_ (Xn h (λo f k=>Xn k (λi c d=>?_) λ_ _ x=>x) λ_ _ x=>x);obtain⟨l,d⟩:=d;unfold subscriptTail;refine V8 ?_;rw[getitemInPython_of_ne l.not_modules];refine V8 (X9 l hl ?_);have g:wpAny (model prog w) A (subscripted a false o i) (λr e=>wpAny (model prog w) A (letTemporaryGo b o r >>=λ_=>pure r) Q E e) E c:=by
  rw[m o i];exact wpAny_operating (Xn d (λr e j=>V8 (wpAny_letTemporaryGo (Wb j))) λ_ _ x=>x)
 first
  | exact Wb (V8 g)
  | exact V8 (Wb (V8 g))
  | exact V8 g
def AN(I:Inv X pins σ H s)(g:pv H a y o):s.TypeIs (.ref a) "dict":=by
 rcases g with⟨c,k,e,_,_⟩ |⟨c,k,b,e,_,_,_⟩
 ·obtain⟨_,_,f,_,dd⟩:=qX I.bL e;exact dd.typeIs
 ·obtain⟨_,_,d,_,dd⟩:=uP I.bL e;exact dd.typeIs
def oI(h:Heap)(a:sysModules < h.objs.size):cD P w H (h.push {cls:=.type "dict",data:=.dict #[]}) h.objs.size (.dK []):=
 ⟨WL _,Yl.mpr (Xy (WG a)),[],.nil,Heap.DictOf.new h⟩
def Nx:TE:=λ_ H Q=>∀p,H p=none->Q (.ref p) (upd H p (.dK []))
def HU:PE X (.Dict [] [] pos) Nx:=λb s c H Q I h=>
 wpAny_Dict_empty ⟨.ref s.heap.objs.size,_,I.laid (a:=s.heap.objs.size) (o:=.dK []) (t':=s.toks) (λ_ _ q=>Wa _ q) (Wj _) (oI s.heap I.big),rfl,h _ (I.bL.fresh (Wj _))⟩
def xK:List (TE×TE)->St->Hp->(List (V×V)->Hp->Prop)->Prop
 | [],_,H,Q=>Q [] H
 |(b,a)::r,σ,H,Q=>b σ H λx f=>a σ f λy e=>xK r σ e λc d=>Q ((x,y)::c) d
abbrev VV:List (V×V)->List (Value×Value)->Prop:=Paired λp q=>RelV p.1 q.1/\RelV p.2 q.2
def Qo(X:Cx)(pos:Pos)(c:List (Option Expr))(a:List Expr)(e:List (TE×TE)):Prop:=
 ∀(b:List (Addr×Obj)) (s:Shared) (d:St) (H:Hp) (Q:List (V×V)->Hp->Prop),Inv X b d H s->xK e d H Q->
  wpAny (model X.prog X.w) X.A (evalPairs (pairTrees c a X.env pos)) (λh i=>∃f g,Inv X b d g i/\VV f h/\Q f g) X.xe s
def KL:Qo X pos [] [] []:=λa s b H Q I h=>pairTrees_nil_walk ⟨[],H,I,.nil,h⟩
def HJ(o:PE X k e)(n:PE X v d)(hr:Qo X pos ks vs c):
  Qo X pos (some k::ks) (v::vs) ((e,d)::c):=λa s b H Q I h=>
 pairTrees_cons_walk (cU (o a s b H _ I h) λu s1 ⟨x,H1,r,g,l⟩=>cU (n a s1 b H1 _ r l) λz s2 ⟨y,w,q,f,j⟩=>
  cU (hr a s2 b w _ q j) λws s3 ⟨m,t,p,rel,i⟩=>⟨(x,y)::m,t,p,.cons ⟨g,f⟩ rel,i⟩)
def bC(kvs more:List (Key×V)):List (Key×V):=more.foldl (λa b=>putK a b.1 b.2) kvs
def KV.merge:∀{more:List (Key×V)} {rs:List (Key×Value)} {kvs:List (Key×V)} {vs:List (Key×Value)},KV more rs->KV kvs vs->KV (bC kvs more) (merged vs rs):=by
 intro more rs kvs vs r;unfold KV at r
 induction r generalizing kvs vs with
 | nil=>intro q;exact q
 | @cons p q d c h t b=>
  intro a;have e:KV (putK kvs p.1 p.2) (stored vs q.1 q.2):=by
   have:=a.put p.1 h.2;rw[<-h.1];exact this
  exact b e
theorem iL:∀(more kvs:List (Key×V)),(bC kvs more).length<=kvs.length+more.length
 | [],kvs=>by show kvs.length<=kvs.length+0;lia
 | p::r,kvs=>by
  have b:=iL r (putK kvs p.1 p.2);have a:=ij kvs p.1 p.2;show(bC (putK kvs p.1 p.2) r).length<=_;rw[Wq];lia
theorem uX:∀{kvs:List (Key×V)} {ws:List (Value×Value)},VV (kvs.map λd=>(kV d.1,d.2)) ws->∃rs,Carries (bg P w) ws rs/\KV kvs rs
 | [],_,r=>by rw[Zd] at r;cases r;exact⟨[],True.intro,.nil⟩
 | p::kvs,_,r=>by
  rw[Wo] at r;cases r with
  | @cons a b as bs h t=>
   obtain⟨rs,c,q⟩:=uX (P:=P) (w:=w) t;obtain⟨f,e⟩:=b;exact⟨(p.1,e)::rs,⟨lh h.1,rfl,c⟩,.cons ⟨rfl,h.2⟩ q⟩
def GB(b:List (TE×TE)):TE:=λe H Q=>∀p,H p=none->xK b e (upd H p (.dK [])) λf d=>d p=some (.dK [])/\∃a:List (Key×V),f=a.map (λc=>(kV c.1,c.2))/\a.length<=15/\Q (.ref p) (upd d p (.dK (bC [] a)))
def DJ(h:Qo X pos keys values i)(f:keys.all (·.isSome)=true)(hl:keys.length=values.length)(C:keys≠[])(j:keys.length<=15):PE X (.Dict keys values pos) (GB i):=by
 intro b s m H Q I q;have hn:=I.bL.fresh (Wj s.heap.objs.size);have F:=I.laid (a:=s.heap.objs.size) (o:=.dK []) (h':=s.heap.push {cls:=.type "dict",data:=.dict #[]}) (t':=s.toks) (λ_ _ q=>Wa _ q) (Wj _) (oI s.heap I.big);refine wpAny_Dict_walk (knd:=bg X.prog X.w) f hl C j (cU (h b _ m _ _ F (q _ hn)) λws s2 ⟨J,L,l,rel,e,d,E,lk,t⟩=>?_);subst E;obtain⟨rs,c,p⟩:=uX (P:=X.prog) (w:=X.w) rel;obtain⟨z,hd,n,r,dd⟩:=xp l.bL e;cases r;refine⟨rs,c,dd,λk g v=>⟨.ref s.heap.objs.size,_,?_,rfl,t⟩⟩;have u:(bC [] d).length<=sizeLine:=by
  have A:=iL d [];rw[Xm] at A;rw[XX];lia
 have y:∃q,k.get? s.heap.objs.size=some q:=let⟨q,_,_,x,_⟩:=g;⟨q,x⟩;exact jT l (by rw[e];exact True.intro) v y (yY u hd (p.merge .nil) g)
def PL(n:A.units+1 < cLine)(I:Inv X pins σ H s)(g:pv H a y o)(j:RelV y u)(h:∀i s',Inv X pins σ H s'->RelV (o.getD .bb) i->Q i s'):
  wpAny (model X.prog X.w) A (call (.builtin "dict.get") [.ref a,u]) Q E s:=by
 rcases g with⟨d,k,e,f,l⟩ |⟨d,k,b,e,f,p,l⟩
 ·subst f;obtain⟨z,hd,q,c,dd⟩:=qX I.bL e;refine ZW XU dd.typeIs Yu (AaR _ _) (meets_dict_get (bg X.prog X.w) a (lh j) hd) ⟨_,dd.mapOf,h _ _ (I.tok _) ?_⟩;rw[l];exact(c.val k).getD rfl
 ·subst f;cases(show u=Value.ref b from j);obtain⟨z,hd,m,c,dd⟩:=uP I.bL e;refine ZW XU dd.typeIs Yu (AaR _ _) (meetsH_dict_get (tupleKind (bg X.prog X.w)) a b hd) ⟨YE n,k,m,nu I.bL p,dd,h _ _ (I.tok _) ?_⟩;rw[l];exact(c.val k).getD rfl
def PK(p:A.units+1 < cLine)(I:Inv X pins σ H s)(g:pv H a y o)(m:RelV y u)(rd:RelV d r)(h:∀j s',Inv X pins σ H s'->RelV (o.getD d) j->Q j s'):
  wpAny (model X.prog X.w) A (call (.builtin "dict.get") [.ref a,u,r]) Q E s:=by
 rcases g with⟨f,k,e,i,l⟩ |⟨f,k,b,e,i,q,l⟩
 ·subst i;obtain⟨z,hd,t,c,dd⟩:=qX I.bL e;refine ZW XU dd.typeIs Yu (Zw _ _ _) (meets_dict_get_default (bg X.prog X.w) a (lh m) hd r) ⟨_,dd.mapOf,h _ _ (I.tok _) ?_⟩;rw[l];exact(c.val k).getD rd
 ·subst i;cases(show u=Value.ref b from m);obtain⟨z,hd,n,c,dd⟩:=uP I.bL e;refine ZW XU dd.typeIs Yu (Zw _ _ _) (meetsH_dict_get_default (tupleKind (bg X.prog X.w)) a b hd r) ⟨YE p,k,n,nu I.bL q,dd,h _ _ (I.tok _) ?_⟩;rw[l];exact(c.val k).getD rd
end L2
namespace Att
open PySem.W PySem.Calls PyProof.Rows
def rX:∀(ns:List Int)(vs:List Value),WellAll P h vs (ns.map WData.int)->IntsAre vs ns:=by
 intro ns
 induction ns with
 | nil=>
  intro vs w;rw[Zd] at w;cases w;exact .nil
 | cons n ns c=>
  intro vs w;rw[Wo] at w;cases w with
  | cons a b=>
   cases a;exact .cons _ _ (c _ b)
def E2{l:OpenLaw}{n:Nat}(hn:l.most=some n){P:Params}{h:Heap}{args:List WData}{b:List Value}
  (c:l.row.toRowW.claim.pre args=true) (j:WellAll P h b args):
  ∃a vs ns,b=[Value.ref a]/\args=[WData.list (ns.map WData.int)]/\h.get? a=some {cls:=.type "list",data:=.seq vs.toArray}/\IntsAre vs ns/\ns.length<=n:=by
 have k:WShape.hasAll [] args [.list .int]=true:=(pre_splitW c).1;have m:l.pre.holds [] {args:=args}=true:=(pre_splitW c).2;obtain⟨d,r,rfl,w,v⟩:=hasAllW_cons k;obtain rfl:=hasAllW_nil v;obtain⟨x,rfl,u⟩:=hasW_list w;obtain⟨ns,rfl⟩:=items_int u;have e:ns.length<=n:=by
  unfold OpenLaw.pre at m;have i:(WTm.not (.lt (.lit (.int (n:Int))) (.len (.arg 0)))).holds [] {args:=[.list (ns.map .int)]}=true:=by
   have i:=(holds_andW m).1;rw[hn] at i;exact i
  have g:=condW_of i (w_not (w_lt w_lit (w_len_list (w_arg rfl))));rw[Wc] at g;refine Nat.le_of_not_lt λq=>?_;have s:(n:Int) < ((ns.length:Nat):Int):=by lia
  first
   |(rw[WI s] at g;exact absurd g (by decide))
   |(simp at g;lia)
 cases j with
 | cons p o=>
  cases o;cases p with
  | list t f=>exact⟨_,_,ns,rfl,rfl,t,rX ns _ f,e⟩
def Fi(l:OpenLaw)(args:List WData):l.row.toRowW.claim.post args (.bool true) args=true:=
 postW_of (r:=l.row.toRowW) (X:=(true==true))
  (show WShape.has [] (.bool true) .bool=true by first | rfl | decide | simp[WShape.has,WShape.arms,WShape.armsAll])
  (show(WTm.eq .res (.lit (.bool true))).value [] {args:=args,res:=some (.bool true),after:=args}=some (.bool (true==true)) from w_eq_bool (w_res rfl) w_lit) rfl
def A0{l:OpenLaw}{n:Nat}{q:Program}{loose:List Str}{XP:(Str->Option Value)->Heap->Prop}{YP:World->Heap->Prop}{d:DefRec}
  (hn:l.most=some n) (u:d.params.defaults=[])
  (call:∀(w:World)(s₀ b:Shared)(mg p:Str->Option Value)(j:Addr)(o:Obj)(m k e:Value)(a:Addr)(vs:List Value)(ns:List Int),
   Ground q loose [] XP w s₀ mg p b.heap->YP w b.heap->
   b.heap.get? j=some o->o.data=.func (docDef d.name d.params d.body d.scope m k e)->b.heap.CodeRec k d.name->mg d.name=some (.ref j)->
   b.heap.get? a=some {cls:=.type "list",data:=.seq vs.toArray}->IntsAre vs ns->ns.length<=n->b.gens=#[]->
   codeAny (model l.prog w) callerA (.call (.ref j) ⟨[.ref a],[]⟩) (λr s'=>r=.ok (.ret (.bool true))/\OldK b.heap s'.heap/\s'.os=b.os/\AllBare s'.gens) b):
  WalkO q loose XP YP l.row.toRowW d [] (λf vs=>PySem.call f vs):=by
 intro w s₀ b mg p G Y j o m k e M kV E hd v z t H args x as g y A s F;obtain rfl:M=.none:=Dflts.none z u;obtain rfl:kV=.none:=Dflts.noKw z;obtain⟨a,vs,ns,rfl,rfl,h,c,i⟩:=E2 hn g s;refine enter_call (Zm (call w s₀ b mg p j o m k e a vs ns G Y E (fd_plain hd) v t h c i H) λr s' C=>?_);obtain⟨rfl,L,J,I⟩:=C;exact⟨.inl ⟨.bool true,.bool true,[],rfl,λ_=>rfl,.bool true,Fi l _,λ_=>⟨List.Pairwise.nil,λ_ hm=>(nomatch hm)⟩⟩,L,J,I⟩
section
variable {prog:Program} {w:World} {A:Around} {E:Value->Shared->Prop} {s:Shared} {K:Frag}
end
end Att
namespace L2
open PyProof.Rows
theorem pC:∀{vs:List Value} {ns:List Int},IntsAre vs ns->Vals (ns.map V.int) vs
 | _,_,.nil=>.nil
 | _,_,.cons n t h=>.cons ⟨t,rfl⟩ (pC h)
def Ts(H:Hp):Prop:=∀b,H b=none\/∃o a,H b=some (.D8 o (.lst a))
def Iw{P:Program}{w:World}{K:FR}{mg L:Str->Option Value}{CX:Mu}{k:Nat}{R a:Addr}{X:FuncData}{x:Str}{sp:Sp}{c:Shared}{vs:List Value}{ns:List Int}
  (Z:K.In c.heap) (A:c.heap.Ns mainGlobals mg) (g:c.heap.Ns builtinsNs L) (O:∀x:Str,x≠"__name__"->L x=bootBuiltins x) (C:c.heap.NoLimit) (hg:c.gens=#[])
  (I:c.heap.get? a=some {cls:=.type "list",data:=.seq vs.toArray}) (hi:IntsAre vs ns) (hl:ns.length<=sizeLine) (hr:fD k callerA)
  (F:∀base:Heap,K.In base->base.Ns mainGlobals mg->aV P w K mg base CX k R X [x] sp) (l:∀(s:Shared)(u:Value),BindsTo s X ⟨[u],[]⟩ [(x,u)])
  (M:∀H:Hp,Ts H->fN K H a (ns.map V.int)->sp [.ref a] H (λv _=>v=.bl true) λ_ _ _=>False)
  (Q:∀H e s',CX [] H c (λ_ _ _=>False) e s'->False):
  codeAny (model P w) callerA (.call (.ref R) ⟨[.ref a],[]⟩) (λr s'=>r=.ok (.ret (.bool true))/\OldK c.heap s'.heap/\s'.os=c.os/\AllBare s'.gens) c:=by
 have rv:=pC hi;have t:=hi.length;have j:∀H:Hp,Ts H->fN K H a (ns.map V.int)->iw P w H c.heap->(∀b,H b≠none->b=a)->(H a≠none->K.lookup a=none)->
   codeAny (model P w) callerA (.call (.ref R) ⟨[.ref a],[]⟩) (λr s'=>r=.ok (.ret (.bool true))/\OldK c.heap s'.heap/\s'.os=c.os/\AllBare s'.gens) c:=by
  intro H T hS bL U hK;have f:∀{b:Addr} {o:Obj},c.heap.get? b=some o->H b=none->(yM c.heap H).get? b=some o:=λe n=>IC e n;have J:∀{b:Addr} {o:Obj} {es:Array DictEntry} {G:Nat},c.heap.get? b=some o->o.data=.dict es G->H b=none:=λ{b o es G} e d=>by
   cases q:H b with
   | none=>rfl
   | some u=>
    have S:b=a:=U b (by rw[q];simp);subst S;rw[I] at e;cases e;have d':Data.seq vs.toArray _=Data.dict es G:=d;cases d'
  have i:∀{b:Addr} {m:Str->Option Value},c.heap.Ns b m->(yM c.heap H).Ns b m:=λ{b m} ⟨o,es,G,e,d,r⟩=>⟨o,es,G,f e (J e d),d,r⟩;have E:K.In (yM c.heap H):=λb o e=>f (Z b o e) (by
   cases q:H b with
   | none=>rfl
   | some u=>
    have S:b=a:=U b (by rw[q];simp);subst S;rw[hK (by rw[q];simp)] at e;cases e)
  have hM:Mod K mg (yM c.heap H):=⟨E,i A,⟨L,i g,O⟩,let⟨mc,h1,h2⟩:=C;⟨mc,i h1,h2⟩⟩;have e0:Ms P w K mg (yM c.heap H) callerA [] c H:=⟨rfl,hM,λb o e=>K9 e,Nat.le_of_eq (FO _ _),trivial,λb g=>absurd (show b∈([]:List Addr) from g) (by simp),bL,.of_eq hg⟩;refine Zm ((F _ E (i A)).run callerA [] c H ⟨[.ref a],[]⟩ [.ref a] [.ref a] _ _ hr e0 (l c (.ref a)) (.cons rfl .nil) (M H T hS)) λr s' h=>?_;cases r with
  | error e=>exact(Q H e s' h).elim
  | ok fl=>
   cases fl with
   | next=>exact False.elim h
   | brk=>exact False.elim h
   | cont=>exact False.elim h
   | ret u=>
    obtain⟨v,H',os,bare,un,y,r',q⟩:=h;have q':v=.bl true:=q;subst q';obtain rfl:u=Value.bool true:=r';refine⟨rfl,OldK.of_keep λb o e=>?_,os,bare⟩;cases q:H b with
    | none=>exact un.keep b o e q (by intro z;exact absurd (show b∈([]:List Addr) from z) (by simp)) (by simp)
    | some u=>
     rcases T b with z |⟨ob,xs,z⟩
     ·rw[q] at z;cases z
     ·have z2:=un.wo b ob _ z;obtain⟨Y,_⟩:=bL b _ z;obtain⟨e2,_⟩:=y b _ z2;rw[e] at Y;cases Y;exact e2
 cases N:K.lookup a with
 | some o=>
  have e:=Z a o N;rw[I] at e;cases e;refine j (λ_=>none) (λ_=>.inl rfl) (.inr ⟨_,vs.toArray,_,N,rfl,rfl,rfl,by rw[WB,t];exact hl,by simpa using rv⟩) (λb u z=>by have p:(none:Option HO)=some u:=z;cases p) (λb z=>absurd rfl z) λz=>absurd rfl z
 | none=>
  refine j (λb=>if b=a then some (.D8 {cls:=.type "list",data:=.seq vs.toArray} (.lst (ns.map V.int))) else none) (λb=>?_) (.inl (.inr ⟨{cls:=.type "list",data:=.seq vs.toArray},Wg rfl⟩)) (λb u z=>?_) (λb z=>?_) λ_=>N
  ·by_cases g:b=a
   ·exact .inr ⟨_,_,Wg g⟩
   ·exact .inl (Wh g)
  ·by_cases g:b=a
   ·have p:=(Wg g).symm.trans z;cases p;subst g;exact⟨I,by rw[Wc];exact hl,vs,_,rv,I⟩
   ·have p:=(Wh g).symm.trans z;cases p
  ·by_cases g:b=a
   ·exact g
   ·exact absurd (Wh g) z
noncomputable def oJ(s:Stmt):Arguments:=match s with
 | .FunctionDef _ a _ _ _ _ _ _ _ _=>a
 | _=>{posonlyargs:=[],args:=[],vararg:=none,kwonlyargs:=[],kw_defaults:=[],kwarg:=none,defaults:=[]}
noncomputable def iq(s:Stmt):List Stmt:=match s with
 | .FunctionDef _ _ b _ _ _ _ _ _ _=>b
 | _=>[]
noncomputable def ae(s:Stmt):Scope:=match s with
 | .FunctionDef _ _ _ _ _ _ sc _ _ _=>sc
 | _=>{kind:=.function,names:=[],isGenerator:=false,isCoroutine:=false}
abbrev dD:Mu:=λ_ _ _ _ _ _=>False
abbrev E0:XK:=λ_ _ _=>False
def RE:Passes dD X E0:=λ_ _ _ _ _ _ _ h=>h.elim
structure dZ(K:FR)(x qual:Str)(st:Stmt)(f:Addr)(fd:FuncData):Prop where
 ex:∃(oc:Value)(od:Option Addr)(kV doc pm:Value)(an:Option Addr)(cdv ct:Value)(osl:Array (Option Value)),
  fd=PySem.W.fnOf x qual (oJ st) (iq st) (ae st) .none kV doc pm an cdv ct/\K.lookup f=some ⟨oc,od,.func fd,osl⟩/\PySem.W.codeIn K cdv qual=true
 kp:PySem.W.keepIn K (.ref f)=true
section
variable {P:Program} {w:World} {K:FR} {mg:Str->Option Value} {base:Heap}
def dZ.ok{x a:Str}{st:Stmt}{f:Addr}{g:FuncData}{N ps:List Str}{k:Nat}{sp:Sp}(F:dZ K x a st f g)(S:ar N ps (ae st))(len:∀vs H Q E,sp vs H Q E->vs.length=ps.length)
  (c:∀(b:Value)(A:Around)(outer:List Env)(s:Shared)(H:Hp)(vs:List V)(Q:VK)(E:XK),fD k (A.deeper (envOfC a (ae st) s.heap.objs.size f b))->sp vs H Q E->
   ∃t,Bd (AO dD P w K mg base N a (ae st) f b A outer s H E).Qw (iq st) t/\t {nx:=λ_ H'=>Q .bb H',rt:=Q} (start N vs) H):aV P w K mg base dD (k+1) f g ps sp:=by
 obtain⟨n,m,kV,j,l,o,b,ct,i,rfl,lk,e⟩:=F.ex;refine Se lk e S len λA outer s H vs Q E hr d=>?_;obtain⟨t,h,q⟩:=c b A outer s H vs Q E hr d;exact⟨t,h.Qw,q⟩
def dZ.binds{x a:Str}{st:Stmt}{f:Addr}{g:FuncData}{ps:List Str}(F:dZ K x a st f g)
  (h:∀(kV b d:Value)(e:Option Addr)(c ct:Value)(us:List Value),us.length=ps.length->bindArgs (PySem.W.fnOf x a (oJ st) (iq st) (ae st) .none kV b d e c ct) ⟨us,[]⟩=pure (ps.zip us)):Binds K g ps []:=by
 obtain⟨l,k,kV,b,d,e,c,ct,i,rfl,lk,j⟩:=F.ex;exact .all (h kV b d e c ct)
end
def RZ(hr:fD k A):A.units+1 < cLine:=Z8 (Nat.add_le_add_left (by decide:1<=64) _) hr.units
def Gh:fX X (.builtin "len") (λxs H Q=>∃a kvs,xs=[V.ref a]/\H a=some (.dK kvs)/\Q (.int kvs.length) H):=by
 intro b s f H xs us Q I r h;obtain⟨a,kvs,rfl,d,q⟩:=h;obtain⟨u,rfl,c⟩:=vals1 r;cases c;exact Sk I (.inl d) λt g e=>⟨.int kvs.length,H,e,⟨t,rfl⟩,q⟩
def Pm{A B:Prop}(h:B):if false=true then A else B:=by
 rw[Wh WR];exact h
def Pl{A B:Prop}(h:A):if true=true then A else B:=by
 rw[Wg rfl];exact h
section
variable {κ:Type} [DecidableEq κ]
end
def iw.off(ok:iw P w H h)(d:H C=none)(k:∀b u,b≠C->h.get? b=some u->h'.get? b=some u):iw P w H h':=by
 intro a o e;have ne:a≠C:=by rintro rfl;rw[d] at e;cases e
 refine(ok a o e).xO (λb u c q=>k b u ?_ q) (λ_ x=>x) (λ_ _ x=>x);rcases c with rfl | c
 ·exact ne
 ·rintro rfl;rw[d] at c;cases c
noncomputable def iN(env:Env):List (Str×NameKind)->List (Str×Addr)->List (Str×Addr)
 | [],acc=>acc
 |(n,k)::r,acc=>if(k==NameKind.free)=true then iN env r ((n,(env.cells.lookup n).getD 0)::acc) else iN env r acc
def nC(h:∀y∈scope.names,y.2=.free->∃c,env.cells.lookup y.1=some c):closureFor scope env=pure (iN env scope.names []):=by
 have d:∀(names:List (Str×NameKind)) (b:List (Str×Addr)),(∀y∈names,y.2=.free->∃c,env.cells.lookup y.1=some c)->
   (forIn names b (λ(x:Str×NameKind)(r:List (Str×Addr))=>match x with
    |(name,kind)=>if(kind==NameKind.free)=true then do let a<-cellOf env name;pure (ForInStep.yield ((name,a)::r)) else pure (ForInStep.yield r)):Sem (List (Str×Addr)))=pure (iN env names b):=by
  intro names
  induction names with
  | nil=>intro b _;rfl
  | cons y r l=>
   intro b i;obtain⟨n,k⟩:=y;have hr:=λa=>l a λz m=>i z (Wf _ m);rw[Y9];unfold iN
   by_cases g:(k==NameKind.free)=true
   ·have f:k=.free:=by simpa using g
    obtain⟨c,j⟩:=i (n,k) We f;have e:cellOf env n=pure c:=by unfold cellOf;rw[j]
    simp only[g,YW,e,j,Option.getD_some];exact hr _
   ·simp only[g,Xx];exact hr _
 have k:=d scope.names [] h;unfold closureFor;dsimp only;rw[k];rfl
theorem qG:∀(names:List (Str×NameKind)) (acc:List (Str×Addr)),(∀y∈names,y.2=.free->∃c,env.cells.lookup y.1=some c)->
  (∀d,acc.lookup x=some d->env.cells.lookup x=some d)->(iN env names acc).lookup x=some c->env.cells.lookup x=some c
 | [],acc,_,a,h=>a c h
 |(n,k)::r,acc,i,a,h=>by
  unfold iN at h;have hr:=λz l=>i z (Wf _ l)
  by_cases g:(k==NameKind.free)=true
  ·rw[Wg g] at h;refine qG r _ hr (λd hd=>?_) h;have f:k=.free:=by simpa using g
   obtain⟨m,j⟩:=i (n,k) We f;rw[Xj] at hd;cases b:x==n with
   | true=>
    rw[b] at hd;have e:x=n:=by simpa using b
    rw[e,j];rw[j] at hd;exact hd
   | false=>
    rw[b] at hd;exact a d hd
  ·rw[Wh g] at h;exact qG r _ hr a h
theorem uV:∀(names:List (Str×NameKind)) (acc:List (Str×Addr)),(∃c,acc.lookup x=some c)->∃c,(iN env names acc).lookup x=some c
 | [],_,h=>h
 |(n,k)::r,acc,h=>by
  unfold iN
  by_cases a:(k==NameKind.free)=true
  ·rw[Wg a];refine uV r _ ?_;rw[Xj];cases b:x==n with
   | true=>exact⟨_,rfl⟩
   | false=>exact h
  ·rw[Wh a];exact uV r _ h
theorem oN:∀(names:List (Str×NameKind)) (acc:List (Str×Addr)),(x,NameKind.free)∈names->∃c,(iN env names acc).lookup x=some c
 | [],_,h=>by cases h
 |(n,k)::r,acc,h=>by
  unfold iN;rcases Ws.mp h with e | b
  ·injection e with f d
   subst f d;rw[Wg (by rfl)];refine uV r _ ⟨(env.cells.lookup x).getD 0,?_⟩;rw[Xj,X8]
  ·by_cases a:(k==NameKind.free)=true
   ·rw[Wg a];exact oN r _ b
   ·rw[Wh a];exact oN r _ b
theorem jz{env:Env}:∀{names:List (Str×NameKind)} {x:Str} {j:NameKind},
  (names.map λ(n,k)=>if(k==NameKind.free&&env.scope.kind==.function&&env.kindOf n==some .cell) then(n,NameKind.cell) else(n,k)).lookup x=some j->
  ∃k,names.lookup x=some k/\(j=k\/(k=.free/\j=.cell))
 | [],_,_,h=>by simp at h
 |(n,k)::r,x,j,h=>by
  have a:List.lookup x ((if(k==NameKind.free&&env.scope.kind==.function&&env.kindOf n==some .cell)=true then(n,NameKind.cell) else(n,k))::_)=some j:=h;rw[Xj];cases c:x==n with
  | true=>
   refine⟨k,rfl,?_⟩
   by_cases b:(k==NameKind.free&&env.scope.kind==.function&&env.kindOf n==some .cell)=true
   ·rw[Wg b,Xj,c] at a;simp only[WC,Zf] at b;exact .inr ⟨b.1.1,(Option.some.inj a).symm⟩
   ·rw[Wh b,Xj,c] at a;exact .inl (Option.some.inj a).symm
  | false=>
   by_cases b:(k==NameKind.free&&env.scope.kind==.function&&env.kindOf n==some .cell)=true
   ·rw[Wg b,Xj,c] at a;exact jz a
   ·rw[Wh b,Xj,c] at a;exact jz a
theorem jA{env:Env}:∀{names:List (Str×NameKind)} {x:Str},names.lookup x=some .free->
  (names.map λ(n,k)=>if(k==NameKind.free&&env.scope.kind==.function&&env.kindOf n==some .cell) then(n,NameKind.cell) else(n,k)).lookup x=some .cell\/
  (names.map λ(n,k)=>if(k==NameKind.free&&env.scope.kind==.function&&env.kindOf n==some .cell) then(n,NameKind.cell) else(n,k)).lookup x=some .free
 | [],_,h=>by simp at h
 |(n,k)::r,x,h=>by
  rw[Wo];show List.lookup x ((if(k==NameKind.free&&env.scope.kind==.function&&env.kindOf n==some .cell)=true then(n,NameKind.cell) else(n,k))::_)=_\/List.lookup x ((if(k==NameKind.free&&env.scope.kind==.function&&env.kindOf n==some .cell)=true then(n,NameKind.cell) else(n,k))::_)=_;rw[Xj] at h;cases a:x==n with
  | true=>
   rw[a] at h;have c:k=.free:=Option.some.inj h
   by_cases b:(k==NameKind.free&&env.scope.kind==.function&&env.kindOf n==some .cell)=true
   ·rw[Wg b,Xj,a];exact .inl rfl
   ·rw[Wh b,Xj,a,c];exact .inr rfl
  | false=>
   rw[a] at h
   by_cases b:(k==NameKind.free&&env.scope.kind==.function&&env.kindOf n==some .cell)=true
   ·rw[Wg b,Xj,a];exact jA h
   ·rw[Wh b,Xj,a];exact jA h
abbrev g9(X:Cx)(N':List Str)(scope:Scope)(C:Addr)(s₃:Shared)(H₃:Hp)(fp:List Addr)(pl:List (Addr×Obj)):Cx:=
 {X with N:=N',s₀:=s₃,H₀:=H₃,env:=compEnvC scope (iN X.env scope.names []) C X.env,outer:=X.stack,ex:=fp,fn:=λ_=>false,calm:=true,pn:=X.pn++pl,xe:=λ_ _=>False}
structure bp(X:Cx)(N':List Str)(caps:List (Option Nat))(scope:Scope):Prop where
 kind:scope.kind=.function
 Cj:∀y∈scope.names,y.2≠.cell
 names:∀y∈scope.names,y.2=.local->scope.names.lookup y.1=some .local
 Jm:∀y∈scope.names,y.2=.free->X.env.kindOf y.1=some .cell\/X.env.kindOf y.1=some .free
 len:caps.length=N'.length
 V2:∀(j i:Nat)(x:Str),caps[j]?=some (some i)->N'[j]?=some x->X.N[i]?=some x/\scope.names.lookup x=some .free
 nd:N'.Nodup
noncomputable def qH(caps:List (Option Nat))(σ:St):St:=caps.map λo=>o.bind λi=>(σ[i]?).join
theorem bp.has(S:bp X N' caps scope)(ok:X.Ok):∀y∈scope.names,y.2=.free->∃c,X.env.cells.lookup y.1=some c:=λy a e=>ok.has y.1 (S.Jm y a e)
def bp.look(S:bp X N' caps scope)(ok:X.Ok)(h:(iN X.env scope.names []).lookup x=some c):X.env.cells.lookup x=some c:=
 qG scope.names [] (S.has ok) (λ_ z=>by simp at z) h
def Inv.block(S:bp X N' caps scope)(I:Inv X pins σ H a)(hc:X.calm=true)(Q:∀b∈fp,fE X pins H b)(Y:∀b∈fp,b < a.heap.objs.size){f:Heap}{t₄:Nat}{s:Str->Option Value}
  (hn:f.Ns a.heap.objs.size s) (N:∀b o,a.heap.get? b=some o->f.get? b=some o):
  Inv (g9 X N' scope a.heap.objs.size a H fp pins) [] (qH caps σ) H {a with heap:=f,toks:=t₄}:=by
 have ok:=I.ok;have fresh:∀b o,a.heap.get? b=some o->b≠a.heap.objs.size:=λb o e=>WG (Wu e);have r:∀x c,(iN X.env scope.names []).lookup x=some c->∃v,a.heap.IsCell c v:=λx c e=>I.cell x c (S.look ok e);refine⟨⟨ok.mod,?_,ok.glob,ok.blt,Wj _,?_,?_,?_,λ_=>ok.hd hc,ok.frames,.inl rfl,?_,I.bs,?_,?_,?_,I.stack,I.C8⟩,rfl,I.bare,Un.kept N,?_,?_,I.bL.fresh (Wj _),?_,?_,I.bL.kept N,?_⟩
 ·show(relabel scope X.env).kind=.function;exact S.kind
 ·intro x y c h1 h2;exact ok.inj x y c (S.look ok h1) (S.look ok h2)
 ·intro x hx;have R:(relabel scope X.env).names.lookup x=some .cell\/(relabel scope X.env).names.lookup x=some .free:=hx;have J:∀j,(relabel scope X.env).names.lookup x=some j->j=.cell\/j=.free->∃c,(iN X.env scope.names []).lookup x=some c:=by
   intro j hj hjk;obtain⟨k,hk1,hk2⟩:=jz hj;have hm:=XN hk1;have Z:k=.free:=by
    rcases hk2 with rfl |⟨e,_⟩
    ·rcases hjk with rfl | e
     ·exact absurd rfl (S.Cj _ hm)
     ·exact e
    ·exact e
   subst Z;exact oN scope.names [] hm
  rcases R with h | h
  ·exact J _ h (.inl rfl)
  ·exact J _ h (.inr rfl)
 ·intro x c h _;exact absurd (show false=true from h) (by decide)
 ·intro b G;refine⟨WG (Y b G),λx c h=>(Q b G).2.2.2.2.1 x c (S.look ok h)⟩
 ·exact WQ ok.M7 I.sz
 ·intro b o e G;rcases(Q b G).2.2.2.1 with z | z
  ·exact ok.Ik b o e z
  ·exact absurd (WN (Wu e) ok.M7) (Nat.not_lt.mpr z)
 ·intro b G z;rcases Ws.mp (I.pG b z) with e | e
  ·exact(Q b G).2.1 e
  ·exact(Q b G).2.2.1 e
 ·refine⟨s,hn,λj x v e1 e2 e3=>?_⟩;have g:(caps.map λo=>o.bind λi=>(σ[i]?).join)[j]?=some (some v):=e2;rw[Wt] at g;cases E:caps[j]? with
  | none=>rw[E] at g;cases g
  | some oi=>
   rw[E] at g;have A:(oi.bind λi=>(σ[i]?).join)=some v:=Option.some.inj g;cases oi with
   | none=>cases A
   | some i=>
    have l:(σ[i]?).join=some v:=A;have L:σ[i]?=some (some v):=by
     cases hs:σ[i]? with
     | none=>rw[hs] at l;cases l
     | some w=>rw[hs] at l;rw[show w=some v from l]
    obtain⟨hX,C⟩:=S.V2 j i x E e1;obtain⟨m,_,hl⟩:=I.loc;have t:=S.Jm _ (XN C) rfl;have M:SV X.env.scope x:=by
     rcases t with z | z
     ·exact .inr (.inl z)
     ·exact .inr (.inr z)
    obtain⟨u,ru,lk⟩:=hl i x v hX L M;refine⟨u,ru,.inr ⟨?_,?_⟩⟩
    ·exact jA C
    ·obtain⟨c,O⟩:=oN (env:=X.env) scope.names [] (XN C);refine⟨c,O,?_⟩;rcases lk with⟨z,_⟩ |⟨_,c',P,F⟩
     ·have z':X.env.kindOf x=some .local:=z;rcases t with q | q
      ·rw[z'] at q;cases q
      ·rw[z'] at q;cases q
     ·have:=S.look I.ok O;rw[this] at P;cases P;obtain⟨o,U,hd⟩:=F;exact⟨o,N _ _ U,hd⟩
 ·intro x c h;obtain⟨v,o,U,hd⟩:=r x c h;exact⟨v,o,N _ _ U,hd⟩
 ·intro x c h;exact I.lu x c (S.look ok h)
 ·intro p hp;have T:p∈X.pn++pins:=by
   rcases Xa.mp hp with z | z
   ·exact z
   ·cases z
  obtain⟨e,n,ne,nf,d⟩:=I.pin p T;refine⟨N _ _ e,n,fresh _ _ e,λz=>?_,d⟩;rcases Ws.mp (I.pG p.1 z) with q | q
  ·exact ne q
  ·exact nf q
 ·show(caps.map _).length=N'.length;rw[Wc];exact S.len
def Inv.sj(S:bp X N' caps scope)(I:Inv X pins σ H a)(f:∀b∈fp,fE X pins H b)(J:Inv (g9 X N' scope a.heap.objs.size a H fp pins) [] k H' s')(d:∀b u,b≠a.heap.objs.size->s'.heap.get? b=some u->h''.get? b=some u):Inv X pins σ H' {s' with heap:=h''}:=by
 have j:H' a.heap.objs.size=none:=J.free;have u:Un (Gr X.stack) fp H H' a.heap h'':=by
  have b:=J.base;have ne:∀x o,a.heap.get? x=some o->x≠a.heap.objs.size:=λx o e=>WG (Wu e);refine⟨λx o e n g c=>d _ _ (ne x o e) (b.keep x o e n g c),λx o e n g c=>?_,b.free,λx o e c=>?_,b.rp,b.wo,b.xI⟩
  ·obtain⟨h,q⟩:=b.slot x o e n g c;exact⟨h,d _ _ (ne x o e) q⟩
  ·obtain⟨i,q⟩:=b.there x o e c;exact⟨i,d _ _ (ne x o e) q⟩
 exact I.call' (s':={s' with heap:=h''}) (ch:=fp) J.os u (J.bL.off j d) J.bare λb c=>⟨(f b c).2.2.2.1,(f b c).2.1,(f b c).2.2.2.2.1,(f b c).2.2.2.2.2⟩
def JS(X:Cx)(d:List Expr)(t:TT):Prop:=
 ∀(a:List (Addr×Obj)) (s:Shared) (b:St) (H:Hp) (Q:Bool->Hp->Prop),Inv X a b H s->t b H Q->
  wpAny (model X.prog X.w) X.A (forIn d true λc r=>if r=true then do let ok<-isTrue c X.env (eval c X.env);pure (ForInStep.yield ok) else pure (ForInStep.yield r)) (TP X a b Q) X.xe s
def cV:TT:=λ_ H Q=>Q true H
def KU:JS X [] cV:=λa s b H Q I h=>wpAny_tests_nil ⟨H,I,h⟩
def KS(h:PT X c t):JS X [c] t:=λa s b H Q I q=>wpAny_tests_one (h a s b H Q I q)
def Tv(J:It)(g:TG)(tc:TT)(te:TE)(l:Addr)(Q:VK)(f:St)(q:Hp):Prop:=
 ∃W:Nat->Nat->St->Hp->Prop,(∃m,W 0 m f q)/\∀i m j d,W i m j d->
  (J.stop i d/\Q (.ref l) d)\/(J.go i d/\∃N:St->Hp->Prop,(∀c e,N c e->∃k,k < m/\W (i+1) k c e)/\∀x e,J.Mw i d x e->g x j e λa p=>
   tc a p λb o=>if b=true then te a o λy n=>∃h,n l=some (.lst h)/\h.length < sizeLine/\N a (upd n l (.lst (h++[y]))) else N a o)
def GC(caps:List (Option Nat))(c:TI)(g:TG)(tc:TT)(te:TE):TE:=λa H Q=>c a H λJ b=>∀l,b l=none->Tv J g tc te l Q (qH caps a) (upd b l (.lst []))
def QL(h:wpAny M A t Q (λ_ _=>False) s):wpAny M A t Q E s:=Xn h (λ_ _ q=>q) λ_ _ f=>f.elim
def Gb(S:bp X N' caps scope)(hc:X.calm=true)(hg:∀C h j fp pl,PG (g9 X N' scope C h j fp pl) tg g)(hif:∀C h j fp pl,JS (g9 X N' scope C h j fp pl) ifs tc)
  (he:∀C h j fp pl,PE (g9 X N' scope C h j fp pl) elt te) {a:List (Addr×Obj)} {σ:St} {k:Hp} {s3:Shared} {f:Heap} {G:Nat} {m₁:Str->Option Value} {it l:Addr} {fp:List Addr} {tn:Nat->Heap->Prop} {J:It}
  (O:Inv X a σ k s3) (T:Turn X.prog X.w X.K tg J fp it tn) (st3:tn 0 f) (H:∀b∈fp,fE X a k b) (P:∀b∈fp,b < s3.heap.objs.size) (M:f.Ns s3.heap.objs.size m₁) (Y:∀b o,s3.heap.get? b=some o->f.get? b=some o)
  {Q:VK} {RR:Value->Addr->Result->Shared->Prop} {W:Nat->Nat->St->Hp->Prop} {m0:Nat} (w0:W 0 m0 (qH caps σ) k) (turn:∀i m t H2,W i m t H2->
   (J.stop i H2/\Q (.ref l) H2)\/(J.go i H2/\∃N:St->Hp->Prop,(∀F H',N F H'->∃m',m' < m/\W (i+1) m' F H')/\∀x H',J.Mw i H2 x H'->g x t H' λL k=>
    tc L k λb H4=>if b=true then te L H4 λy H5=>∃xs,H5 l=some (.lst xs)/\xs.length < sizeLine/\N L (upd H5 l (.lst (xs++[y]))) else N L H4))
  (hRR:∀(l C:Addr)(H':Hp)(s':Shared),H' C=none->C≠X.env.locals->X.s₀.heap.objs.size<=C->(∀x c,X.env.cells.lookup x=some c->c≠C)->(∀p∈X.pn++a,p.1≠C)->(∃m,s'.heap.Ns C m)->Inv X a σ H' s'->
   (∀h'':Heap,(∀b u,b≠C->s'.heap.get? b=some u->h''.get? b=some u)->Inv X a σ H' {s' with heap:=h''})->Q (.ref l) H'->RR (.ref l) C (.ok .next) s'):
  codeAny (model X.prog X.w) X.A (.compStart (.ListComp elt [⟨tg,iter,ifs,0⟩] scope pos) 0 (.ref it) (.ref l) (compEnvC scope (iN X.env scope.names []) s3.heap.objs.size X.env))
   (RR (.ref l) s3.heap.objs.size) {s3 with heap:=f,toks:=G}:=by
 have J0:Inv (g9 X N' scope s3.heap.objs.size s3 k fp a) [] (qH caps σ) k {s3 with heap:=f,toks:=G}:=Inv.block S O hc H P M Y;have Z:∀{H':Hp},(∀b∈fp,H' b=none)->∀b∈fp,fE (g9 X N' scope s3.heap.objs.size s3 k fp a) [] H' b:=λ{H'} hn b I=>by
  obtain⟨f0,f1,f2,f3,f4,f5⟩:=H b I;refine⟨hn b I,WG (P b I),λz=>?_,.inl I,λx c e=>f4 x c (S.look O.ok e),λp hp=>?_⟩
  ·rcases Ws.mp (O.pG b z) with q | q
   ·exact f1 q
   ·exact f2 q
  ·rcases Xa.mp hp with q | q
   ·exact f5 p q
   ·cases q
 have fin:∀{t:St} {H':Hp} {s':Shared},Inv (g9 X N' scope s3.heap.objs.size s3 k fp a) [] t H' s'->Q (.ref l) H'->RR (.ref l) s3.heap.objs.size (.ok .next) s':=λ{t H' s'} J q=>by
  refine hRR _ _ H' s' J.free ?_ ?_ ?_ ?_ ?_ ?_ ?_ q
  ·exact(WG O.lt).symm
  ·exact O.sz
  ·intro x c e z;obtain⟨v,o,ho,_⟩:=O.cell x c e;exact WG (Wu ho) z
  ·intro p hp z;obtain⟨e,_⟩:=O.pin p hp;exact WG (Wu e) z
  ·obtain⟨m,hm,_⟩:=J.loc;exact⟨m,hm⟩
  ·have:=Inv.sj S O H J (h'':=s'.heap) λb u _ e=>e;exact this
  ·exactλh'' hs=>Inv.sj S O H J hs
 have loop:codeAny (model X.prog X.w) X.A (.compLoop (.ListComp elt [⟨tg,iter,ifs,0⟩] scope pos) 0 (.ref it) (.ref l) (compEnvC scope (iN X.env scope.names []) s3.heap.objs.size X.env))
   (RR (.ref l) s3.heap.objs.size) {s3 with heap:=f,toks:=G}:=by
  refine codeAny_loop rfl (λn s'=>∃i t H',Inv (g9 X N' scope s3.heap.objs.size s3 k fp a) [] t H' s'/\tn i s'.heap/\(∀b∈fp,H' b=none)/\W i n t H') ?_ m0 ⟨0,_,_,J0,st3,λb I=>(H b I).1,w0⟩;rintro n s4 ⟨i,t,H4,J4,st4,fr4,w4⟩;show wpAny _ X.A ((compTurn (.ListComp elt [⟨tg,iter,ifs,0⟩] scope pos) 0 (.ref it) (.ref l) (compEnvC scope (iN X.env scope.names []) s3.heap.objs.size X.env)).onRaise (λx=>do noteFrame x (compEnvC scope (iN X.env scope.names []) s3.heap.objs.size X.env);theTreesLotGoes x)) _ _ s4;refine wpAny_noted ?_;rw[compTurn_list];rcases turn i n t H4 w4 with⟨stop,qn⟩ |⟨go,N,hN,step⟩
  ·refine V8 (XR (V8 (Xn (T.done (g9 X N' scope s3.heap.objs.size s3 k fp a) rfl rfl rfl rfl i [] s4 t H4 _ J4 (Z fr4) st4 stop) (λr s5 h5=>?_) λ_ _ e=>e)));obtain⟨hr,J5⟩:=h5;subst hr;exact Wb (fin J5 qn)
  ·refine V8 (XR (V8 (Xn (T.item (g9 X N' scope s3.heap.objs.size s3 k fp a) rfl rfl rfl rfl i [] s4 t H4 _ J4 (Z fr4) st4 go) (λr s5 h5=>?_) λ_ _ e=>e)));obtain⟨u,hr,h5⟩:=h5;subst hr;refine V8 (Xn h5 (λ_ s6 h6=>?_) λ_ _ e=>e);obtain⟨x,H6,J6,r6,y6,U,fr6⟩:=h6;have J6':=J6.pinned (Z fr6) (T.obj _ _ U);refine V8 (Xn (QL (hg _ _ _ _ _ _ s6 t H6 x u _ J6' r6 (step x H6 y6))) (λ_ s7 h7=>?_) λ_ _ e=>e);obtain⟨s,H7,J7,q7⟩:=h7;have again:∀{E:St} {R:Hp} {s8:Shared},Inv (g9 X N' scope s3.heap.objs.size s3 k fp a) ([]++p5 fp s6.heap) E R s8->N E R->
     ∃m,m < n/\∃i F H',Inv (g9 X N' scope s3.heap.objs.size s3 k fp a) [] F H' s8/\tn i s8.heap/\(∀b∈fp,H' b=none)/\W i m F H':=λ{E R s8} J8 n8=>by
    obtain⟨m',hm,w8⟩:=hN E R n8;refine⟨m',hm,i+1,E,R,J8.kl,T.keep _ _ _ U λb I o e=>(J8.pin (b,o) (WZ _ (WZ _ (fz I e)))).1,λb I=>?_,w8⟩;obtain⟨o,e,d⟩:=T.obj _ _ U b I;exact(J8.pin (b,o) (WZ _ (WZ _ (fz I e)))).2.1
   refine V8 (Xn (QL (hif _ _ _ _ _ _ s7 s H7 _ J7 q7)) (λok s8 h8=>?_) λ_ _ e=>e);obtain⟨R,J8,q8⟩:=h8;cases ok with
   | false=>exact Wb ⟨rfl,again J8 (by simpa using q8)⟩
   | true=>
    have q8':te s R λy H5=>∃xs,H5 l=some (.lst xs)/\xs.length < sizeLine/\N s (upd H5 l (.lst (xs++[y]))):=by simpa using q8
    refine V8 (V8 (Xn (QL (he _ _ _ _ _ _ s8 s R _ J8 q8')) (λy s9 h9=>?_) λ_ _ e=>e));obtain⟨yv,H9,J9,r9,xs,hx,hz,n9⟩:=h9;refine V8 (Xn (QL (xa (X:=g9 X N' scope s3.heap.objs.size s3 k fp a) _ s9 s H9 (.ref l) [yv] (.ref l) [y] (λ_ H'=>N s H') J9 rfl (.cons r9 .nil) ⟨_,xs,yv,rfl,rfl,hx,hz,n9⟩)) (λ_ s10 h10=>?_) λ_ _ e=>e);obtain⟨_,H10,J10,_,n10⟩:=h10;exact Wb (Wb ⟨rfl,again J10 n10⟩)
 exact codeAny_compStart_list loop (T.self X.A 0 _ _ _ st3 loop)
def uT(S:bp X N' caps scope)(hc:X.calm=true)(hg:∀C a f fp pl,PG (g9 X N' scope C a f fp pl) tg g)(U:∀C a f fp pl,JS (g9 X N' scope C a f fp pl) ifs tc)
  (he:∀C a f fp pl,PE (g9 X N' scope C a f fp pl) elt te) {d:List (Addr×Obj)} {σ:St} {H:Hp} {s:Shared} {it:Addr} {fp:List Addr} {P:Nat->Heap->Prop} {J:It}
  (I:Inv X d σ H s) (T:Turn X.prog X.w X.K tg J fp it P) (st:P 0 s.heap) (hf:∀b∈fp,fE X d H b) {Q:VK} {RR:Value->Addr->Result->Shared->Prop} {E:Value->Shared->Prop}
  (h:∀l,H l=none->∃W:Nat->Nat->St->Hp->Prop,(∃m,W 0 m (qH caps σ) (upd H l (.lst [])))/\∀i m τ O,W i m τ O->
   (J.stop i O/\Q (.ref l) O)\/(J.go i O/\∃N:St->Hp->Prop,(∀F H',N F H'->∃m',m' < m/\W (i+1) m' F H')/\∀x H',J.Mw i O x H'->g x τ H' λk H3=>
    tc k H3 λb H4=>if b=true then te k H4 λy H5=>∃xs,H5 l=some (.lst xs)/\xs.length < sizeLine/\N k (upd H5 l (.lst (xs++[y]))) else N k H4))
  (Z:∀(l C:Addr)(H':Hp)(s':Shared),H' C=none->C≠X.env.locals->X.s₀.heap.objs.size<=C->(∀x c,X.env.cells.lookup x=some c->c≠C)->(∀p∈X.pn++d,p.1≠C)->(∃m,s'.heap.Ns C m)->Inv X d σ H' s'->
   (∀h'':Heap,(∀b u,b≠C->s'.heap.get? b=some u->h''.get? b=some u)->Inv X d σ H' {s' with heap:=h''})->Q (.ref l) H'->RR (.ref l) C (.ok .next) s'):
  wpAny (model X.prog X.w) X.A (newList []) (λacc a=>wpAny (model X.prog X.w) X.A (newFunctionEnv scope X.env.globals (iN X.env scope.names []) [] X.env.qual none .none (some X.env)) (λz L=>
   codeAny (model X.prog X.w) X.A (.compStart (.ListComp elt [⟨tg,iter,ifs,0⟩] scope pos) 0 (.ref it) acc {z with scope:=relabel scope X.env}) (RR acc z.locals) L) E a) E s:=by
 obtain⟨W,⟨m0,w0⟩,G⟩:=h s.heap.objs.size I.fresh;refine Xc (wpAny_newFunctionEnv S.Cj (by intro y hy;simp at hy) (λr q n=>?_) S.kind);have I3:Inv X d σ (upd H s.heap.objs.size (.lst [])) {s with heap:=s.heap.push {cls:=.type "list",data:=.seq ([]:List Value).toArray}}:=I.RQ (t':=s.toks) (its:=[]) (ys:=[]) .nil (WL _);have t:∀b∈fp,b < s.heap.objs.size:=λb v=>by
  obtain⟨o,e,_⟩:=T.obj 0 _ st b v;exact Wu e
 have Y:∀b∈fp,fE X d (upd H s.heap.objs.size (.lst [])) b:=λb v=>⟨by rw[az (WG (t b v))];exact(hf b v).1,(hf b v).2⟩;have j:∀b o,(s.heap.push {cls:=.type "list",data:=.seq ([]:List Value).toArray}).get? b=some o->r.get? b=some o:=λb o e=>n.extBut b o (WG (Wu e)) (Wa _ e);have R:P 0 r:=T.keep 0 _ _ st λb v o e=>j b o (Wa _ e);have M:∀b∈fp,b < (s.heap.push {cls:=.type "list",data:=.seq ([]:List Value).toArray}).objs.size:=λb v=>by
  have:=t b v;rw[Xd];exact Zl this
 exact Gb (s3:={s with heap:=s.heap.push {cls:=.type "list",data:=.seq ([]:List Value).toArray}}) S hc hg U he I3 T R Y M q j w0 G Z
def HR(S:bp X N' caps scope)(E:X.calm=true)(hi:PI X p iter r)(z:∀C a c fp pl,PG (g9 X N' scope C a c fp pl) p g)(j:∀C a c fp pl,JS (g9 X N' scope C a c fp pl) ifs tc)
  (he:∀C a c fp pl,PE (g9 X N' scope C a c fp pl) elt te) (y:∀x,foldedSetIterable iter X.env x=pure x:=by intro _;rfl):PE X (.ListComp elt [⟨p,iter,ifs,0⟩] scope pos) (GC caps r g tc te):=by
 intro d s o H Q I h;rw[eval_ListComp];refine ZL (use:=none) rfl y (nC (S.has I.ok)) S.kind S.names (cU (hi d s o H _ I h) λv Z N=>cU N λt Y M=>?_);obtain⟨it,fp,U,J,H2,e,P,T,i,O,G⟩:=M;subst e;refine uT (RR:=λn C=>compPost (model X.prog X.w) X.A X.xe none (EP X d o Q) n C) S E z j he P T i O G ?_;intro l C R s' _ _ _ _ _ hm _ L q;obtain⟨m,hm⟩:=hm;exact⟨m,hm,λk f=>⟨.ref l,R,L k λb u F e=>f.extBut b u F e,rfl,q⟩⟩
def HG(hN:X.N.Nodup)(L:X.N[i]?=some y)(hy:X.env.scope.names.lookup y=some .local)(S:bp X N' caps scope)(hc:X.calm=true)(hi:PI X t iter wi)(hg:∀C c d fp pl,PG (g9 X N' scope C c d fp pl) t g)(G:∀C c d fp pl,JS (g9 X N' scope C c d fp pl) ifs tc)(he:∀C c d fp pl,PE (g9 X N' scope C c d fp pl) elt te)(E:swapsWith (.ListComp elt [⟨t,iter,ifs,0⟩] scope pos) (some (.Name y py)) k.line X.env=pure true:=by rfl)(hs:∀x,foldedSetIterable iter X.env x=pure x:=by intro _;rfl):
  PS X (.Assign [.Name y py] (.ListComp elt [⟨t,iter,ifs,0⟩] scope pos) k) (J2 (GC caps wi g tc te) (AD i)):=by
 intro f s σ H D I h;rw[exec_Assign_Name_used _ _ _ _ E];refine V8 (XR (V8 ?_));show wpAny _ X.A (do let _<-comprehension (.ListComp elt [⟨t,iter,ifs,0⟩] scope pos) scope X.env _ (newList []) false (eval iter X.env) (some (assign (.Name y py) X.env))) _ _ s;refine V8 (Xn (ZL (use:=some (assign (.Name y py) X.env)) (Q:=λ_ j=>SP X f D .next j) rfl hs (nC (S.has I.ok)) S.kind S.names
  (cU (hi f s σ H _ I h) λv s1 h1=>cU h1 λitv s2 h2=>?_)) (λ_ j hq=>Wb (Wb hq)) λ_ _ e=>e)
 obtain⟨it,fp,tn,J,H2,e,I2,T,u,f2,hQ⟩:=h2;subst e;refine uT (Q:=λx H1=>AD i x σ H1 D.nx) (RR:=λZ C=>compPost (model X.prog X.w) X.A X.xe (some (assign (.Name y py) X.env)) (λ_ j=>SP X f D .next j) Z C) S hc hg G he I2 T u f2 hQ ?_;intro l C H' j hC r U p P hm O hI q;obtain⟨m,hm⟩:=hm;show wpAny _ X.A (assign (.Name y py) X.env (.ref l)) _ _ j;refine wpAny_assign_Name (wL (v:=.ref l) O hN L (.inl hy) rfl (λs5 I5 M=>?_) (.inr hy));obtain⟨a,F,ha⟩:=M;have R:C≠a:=by
  rcases ha with z | z
  ·rw[z];exact r
  ·exact(p _ _ z).symm
 refine⟨m,hm.sameBut F R,λY n=>?_⟩;have I6:=I5.turned (t':=s5.toks) (h':=Y) (it:=C) (λb o hb e=>n.extBut b o hb e) hC r (.inr U) p P;exact⟨_,H',I6,q⟩
def Tw(_ j:Int):Prop:=0 < j/\j<=10^40
def log2_small(h:n<=10^40):n.log2 < 9000:=by
 by_cases a:n=0
 ·rw[a];decide
 ·refine(Nat.log2_lt a).mpr (Z8 h ?_);exact WN (show 10^40 < 2^200 by decide) (Abb (by decide) (by decide))
def Ib:pA X (binaryOp .FloorDiv) (rI Tw λi j=>.int (i / j)):=TJ λi j _ _ _ _ _ a q=>by
 have c:(0:Int) < j:=a.1;have b:j<=10^40:=a.2;exact floordiv_int (by lia) (by rw[Int.fdiv_eq_ediv_of_nonneg i (by lia)];exact q) (.inl (PyProof.noPylong_of_log2 (log2_small (by lia))))
mutual
inductive CS(K:FR)(H:Hp):V->PyData->Prop where
 | bb:CS K H .bb .none
 | bl (b:Bool):CS K H (.bl b) (.bool b)
 | int (i:Int):CS K H (.int i) (.int i)
 | str (x:Str):CS K H (.str x) (.str x)
 | tup {a:Addr} {xs:List V} {ds:List PyData}:jc K H a xs->vf K H xs ds->CS K H (.ref a) (.tuple ds)
 | lst {a:Addr} {xs:List V} {ds:List PyData}:fN K H a xs->vf K H xs ds->CS K H (.ref a) (.list ds)
inductive vf(K:FR)(H:Hp):List V->List PyData->Prop where
 | nil:vf K H [] []
 | cons {x:V} {xs:List V} {d:PyData} {ds:List PyData}:CS K H x d->vf K H xs ds->vf K H (x::xs) (d::ds)
end
mutual
theorem CS.reads(I:Inv X pins σ H s){x:V}{u:Value}{d:PyData}(z:CS X.K H x d)(r:RelV x u):∃as,Reads s.heap u d as:=by
 cases z with
 | bb=>cases(show _=Value.none from r);exact⟨_,.none⟩
 | bl b=>cases(show _=Value.bool b from r);exact⟨_,.bool b⟩
 | int i=>obtain⟨t,e⟩:=(show ∃t,_=Value.int i t from r);cases e;exact⟨_,.int i t⟩
 | str x=>obtain⟨t,e⟩:=(show ∃t,_=Value.str x t from r);cases e;exact⟨_,.str x t⟩
 | tup c hl=>
  cases(show _=Value.ref _ from r);obtain⟨a,rv,⟨o,h,g,n,f⟩,_⟩:=I.tuple c;obtain⟨as,q⟩:=vf.reads I hl rv;exact⟨_,.tuple h g f (by simpa using q)⟩
 | lst c hl=>
  cases(show _=Value.ref _ from r);obtain⟨a,rv,pl,_⟩:=I.list c;obtain⟨o,h,g,n,f⟩:=pl.isList;obtain⟨as,q⟩:=vf.reads I hl rv;exact⟨_,.list h g f (by simpa using q)⟩
theorem vf.reads(I:Inv X pins σ H s){xs:List V}{us:List Value}{ds:List PyData}(z:vf X.K H xs ds)(v:Vals xs us):∃as,ReadsAll s.heap us ds as:=by
 cases z with
 | nil=>cases v;exact⟨_,.nil⟩
 | cons h t=>
  cases v with
  | cons r q=>
   obtain⟨as,p⟩:=CS.reads I h r;obtain⟨bs,a⟩:=vf.reads I t q;exact⟨_,.cons p a⟩
end
def UJ:V->Option Int->Option Int->Hp->VK->Prop:=λx a b H Q=>∃z,x=.str z/\z.length<=sizeLine/\Q (.str (Txt.slice z a b)) H
def NG:Qk X UJ:=by
 intro b s w H x v G E p r J Q I y C pl n h;obtain⟨z,rfl,A,q⟩:=h;obtain⟨t,rfl⟩:=(show ∃t,v=Value.str z t from y);refine⟨"str",_,F.slot_str_getitem.lookup,typeIs_str _ _ _,?_⟩;obtain⟨o,e,d,c⟩:=C;have a:(Txt.slice z p r).length<=sizeLine/\∀g k,EP X b w Q (.str (Txt.slice z p r) g) {s with toks:=k}:=⟨WQ (Txt.slice_le z _ _) A,λg k=>⟨.str _,H,I.tok k,⟨g,rfl⟩,q⟩⟩;cases pl with
 | none=>
  cases n with
  | none=>exact Y3 (l:=none) (u:=none) (st:=none) ⟨o,e,d,c⟩ rfl (Z3 a)
  | int j f=>exact Y3 (l:=none) (u:=some (j,f)) (st:=none) ⟨o,e,d,c⟩ rfl (Z3 a)
 | int i m=>
  cases n with
  | none=>exact Y3 (l:=some (i,m)) (u:=none) (st:=none) ⟨o,e,d,c⟩ rfl (Z3 a)
  | int j f=>exact Y3 (l:=some (i,m)) (u:=some (j,f)) (st:=none) ⟨o,e,d,c⟩ rfl (Z3 a)
def Jo:fX X (.builtin "isinstance") (λxs H Q=>∃x n t b,xs=[x,.ty n]/\oV X.K H x t/\PySem.W.kitOne X.K t (.type n)=some b/\Q (.bl b) H):=by
 intro c s i H xs us Q I r h;obtain⟨x,n,t,b,rfl,ty,e,q⟩:=h;obtain⟨u,d,rfl,g,a⟩:=vals2 r;cases(show d=Value.type n from a);exact FH I g ty e λf=>⟨.bl b,H,I.tok f,rfl,q⟩
def j9:entryFor table "dict.update.loop"=some Builtin.«dict.update.loop»:=AaH (by ac_nf)
def eB:plainId "dict.update.loop"=true:=by decide+kernel
def Aq(kvs more:List (Key×V))(p:Key×V):bC kvs (more++[p])=putK (bC kvs more) p.1 p.2:=by
 unfold bC;rw[List.foldl_append];rfl
noncomputable def Aw(out:List (Str×NameKind))(N N':List Str)(caps:List (Option Nat))(a:Scope):Bool:=
 decide (a.kind=.function)&&a.names.all (λy=>decide (y.2≠.cell))&&a.names.all (λy=>!decide (y.2=.local)||decide (a.names.lookup y.1=some .local))&&
 a.names.all (λy=>!decide (y.2=.free)||decide (out.lookup y.1=some .cell)||decide (out.lookup y.1=some .free))&&decide (caps.length=N'.length)&&
 (List.range caps.length).all (λj=>match caps[j]?,N'[j]? with
  | some (some i),some x=>decide (N[i]?=some x)&&decide (a.names.lookup x=some .free)
  | _,_=>true)&&decide N'.Nodup
def bR(h:Aw X.env.scope.names X.N N' caps scope=true):bp X N' caps scope:=by
 unfold Aw at h;simp only[WC,XD,XH,XQ,Bool.not_eq_true',AaO] at h;obtain⟨⟨⟨⟨⟨⟨o,n⟩,m⟩,l⟩,k⟩,g⟩,f⟩:=h;refine⟨o,n,λy a e=>?_,λy a e=>?_,k,λj i x c d=>?_,f⟩
 ·rcases m y a with z | z
  ·exact absurd e z
  ·exact z
 ·rcases l y a with(z | z) | z
  ·exact absurd e z
  ·exact .inl z
  ·exact .inr z
 ·have b:j < caps.length:=(V9.mp c).1;have:=g j (XE.mpr b);rw[c,d] at this;simp only[WC,XD] at this;exact this
end L2
namespace L2
end L2
namespace L2
open PyProof.Rows
def pF:PyData.strOk x=true↔∀c∈x.cps,c < 0x110000:=by
 unfold PyData.strOk;rw[Array.all_eq_true_iff_forall_mem];simp
def EW(g:PyData.strOk a=true)(f:PyData.strOk b=true):PyData.strOk (a++b)=true:=by
 rw[pF] at*;intro c e;have d:c∈a.cps++b.cps:=e;rcases Array.mem_append.mp d with z | z
 ·exact g c z
 ·exact f c z
def zD(l u:Option Int)(h:PyData.strOk x=true):PyData.strOk (Txt.slice x l u)=true:=by
 unfold Txt.slice
 split
 ·exact h
 ·rw[pF] at*;intro c b;have a:c∈(List.filterMap (x.cps[·]?) (Builtin.Str.strSliceIndices l u 1 x.length)).toArray:=b;rw[List.mem_toArray] at a;obtain⟨i,_,e⟩:=Aaa.mp a;exact h c (Aa8 e)
def EV(h:PyData.strOk z=true)(b:hW z.cps.toList i=some c):PyData.strOk (⟨#[c]⟩:Str)=true:=by
 rw[pF] at*;intro d hd;have e:d=c:=by simpa using hd
 subst e;obtain⟨j,_,a,_⟩:=sS b;exact h d (by have:=Wk a;simpa using this)
def entry_all_loop:entryFor table "all.loop"=some Builtin.«all.loop»:=AaH (by ac_nf)
def plain_all_loop:plainId "all.loop"=true:=by decide+kernel
def JF{A:Around}{a:List (Addr×Obj)}{σ:St}{H:Hp}{p it:Addr}{bs:List Bool}{R:Result->Shared->Prop}(J:A.handled=none)(hp:fN X.K H p (bs.map V.bl))
  (hit:it≠X.env.locals/\(it∈X.ex\/X.s₀.heap.objs.size<=it)/\(∀x c,X.env.cells.lookup x=some c->c≠it)/\∀q∈X.pn++a,q.1≠it) (g:H it=none)
  (h:∀s',Inv X a σ H s'->R (.ok (.ret (.bool (bs.all id)))) s'):∀(n i:Nat)(s:Shared),bs.length-i=n->i<=bs.length->(bs.take i).all id=true->s.heap.IsListIter it p i->Inv X a σ H s->
   codeAny (model X.prog X.w) A (.builtin "all.loop" ⟨[.ref it],[]⟩) R s:=by
 intro n
 induction n with
 | zero=>
  intro i s hn G k st I;have L:i=bs.length:=by lia
  refine Xs entry_all_loop ?_;rw[Xe plain_all_loop _];obtain⟨r,rv,pl,E⟩:=I.list hp;have v:=rv.length;rw[Wc] at v;show wpAny _ _ (pyNext (.ref it) >>=_) _ _ s;refine V8 (Z6 J st pl.isList (by simp;lia) λj M=>?_);have l:=I.turned (t':=s.toks) (h':=j) (it:=it) (λb o d e=>M b o d e) g hit.1 hit.2.1 hit.2.2.1 hit.2.2.2;refine V8 (XG (Wb ?_));rw[L,Xf] at k;have:=h _ l;rw[k] at this;exact this
 | succ n C=>
  intro i s hn G k st I;have f:i < bs.length:=by lia
  refine Xs entry_all_loop ?_;rw[Xe plain_all_loop _];obtain⟨r,rv,pl,E⟩:=I.list hp;have t:(bs.map V.bl)[i]?=some (.bl bs[i]):=by rw[Wt,Wl f];rfl
  obtain⟨u,F,z⟩:=rv.get t;cases(show u=Value.bool bs[i] from z);show wpAny _ _ (pyNext (.ref it) >>=_) _ _ s;refine V8 (ZV st pl.isList (x:=.bool bs[i]) (by simpa using F) λj m sb=>?_);have l:=I.turned (t':=s.toks) (h':=j) (it:=it) (λb o d e=>(sb.2 b d).trans e) g hit.1 hit.2.1 hit.2.2.1 hit.2.2.2;dsimp only;refine V8 (WU (X7 ?_));refine V8 (ZG ?_)
  by_cases d:bs[i]=true
  ·rw[Wg d];refine Wb ⟨X2 plain_all_loop _,C (i+1) _ (by lia) (by lia) ?_ m l⟩;rw[YH,Wl f,List.all_append,k,d];rfl
  ·rw[Wh d];refine V8 (XG (Wb ?_));have:=h _ l;have e:bs.all id=false:=by
    rw[List.all_eq_false];exact⟨bs[i],Y5 f,by simpa using d⟩
   rw[e] at this;exact this
def Jr(g:X.calm=true):fX X (.builtin "all") (λxs H Q=>∃(p:Addr)(bs:List Bool),xs=[.ref p]/\fN X.K H p (bs.map V.bl)/\Q (.bl (bs.all id)) H):=by
 intro a s c H xs us Q I r h;obtain⟨p,bs,rfl,hp,q⟩:=h;obtain⟨u,rfl,d⟩:=vals1 r;cases(show u=Value.ref p from d);have i:X.A.handled=none:=I.ok.hd g;obtain⟨f,rv,pl,x⟩:=I.list hp;refine call_function_tree F.kind_all F.plain_all F.entry_all (F.args_all1 _) ?_;unfold Builtin.«all»;show wpAny _ _ (pyIter (.ref p) >>=_) _ _ s;refine V8 (YM pl.isList ?_);have n:Inv X a c H {s with heap:=s.heap.push {cls:=.type "list_iterator",data:=.fields #[.ref p,.int 0 0]}}:=I.kept (t':=s.toks) λb o e=>Wa _ e;obtain⟨f0,m,y,l,k,j⟩:=I.wq (b:=s.heap.objs.size) (H':=H) (Wj _) (I.bL.fresh (Wj _));refine Wb ⟨X2 plain_all_loop _,?_⟩;exact JF (X:=X) (σ:=c) (H:=H) (by exact i) hp ⟨m,l,k,j⟩ f0 (λw t=>⟨.bl _,H,t,rfl,q⟩) bs.length 0 _ (by lia) (WL _) rfl ⟨_,Ww _ rfl,rfl,rfl⟩ n
def entry_any_loop:entryFor table "any.loop"=some Builtin.«any.loop»:=AaH (by ac_nf)
def plain_any_loop:plainId "any.loop"=true:=by decide+kernel
def JD{A:Around}{a:List (Addr×Obj)}{σ:St}{H:Hp}{p it:Addr}{bs:List Bool}{R:Result->Shared->Prop}(L:A.handled=none)(hp:fN X.K H p (bs.map V.bl))
  (hit:it≠X.env.locals/\(it∈X.ex\/X.s₀.heap.objs.size<=it)/\(∀x c,X.env.cells.lookup x=some c->c≠it)/\∀q∈X.pn++a,q.1≠it) (g:H it=none)
  (h:∀s',Inv X a σ H s'->R (.ok (.ret (.bool (bs.any id)))) s'):∀(n i:Nat)(s:Shared),bs.length-i=n->i<=bs.length->(bs.take i).any id=false->s.heap.IsListIter it p i->Inv X a σ H s->
   codeAny (model X.prog X.w) A (.builtin "any.loop" ⟨[.ref it],[]⟩) R s:=by
 intro n
 induction n with
 | zero=>
  intro i s hn J k st I;have M:i=bs.length:=by lia
  refine Xs entry_any_loop ?_;rw[Xe plain_any_loop _];obtain⟨r,rv,pl,F⟩:=I.list hp;have v:=rv.length;rw[Wc] at v;show wpAny _ _ (pyNext (.ref it) >>=_) _ _ s;refine V8 (Z6 L st pl.isList (by simp;lia) λj N=>?_);have l:=I.turned (t':=s.toks) (h':=j) (it:=it) (λb o d e=>N b o d e) g hit.1 hit.2.1 hit.2.2.1 hit.2.2.2;refine V8 (XG (Wb ?_));rw[M,Xf] at k;have:=h _ l;rw[k] at this;exact this
 | succ n E=>
  intro i s hn J k st I;have f:i < bs.length:=by lia
  refine Xs entry_any_loop ?_;rw[Xe plain_any_loop _];obtain⟨r,rv,pl,F⟩:=I.list hp;have t:(bs.map V.bl)[i]?=some (.bl bs[i]):=by rw[Wt,Wl f];rfl
  obtain⟨u,G,C⟩:=rv.get t;cases(show u=Value.bool bs[i] from C);show wpAny _ _ (pyNext (.ref it) >>=_) _ _ s;refine V8 (ZV st pl.isList (x:=.bool bs[i]) (by simpa using G) λj m sb=>?_);have l:=I.turned (t':=s.toks) (h':=j) (it:=it) (λb o d e=>(sb.2 b d).trans e) g hit.1 hit.2.1 hit.2.2.1 hit.2.2.2;dsimp only;refine V8 (WU (X7 ?_));refine V8 (ZG ?_)
  by_cases d:bs[i]=true
  ·rw[Wg d];refine V8 (XG (Wb ?_));have:=h _ l;have e:bs.any id=true:=by
    rw[Ys];exact⟨bs[i],Y5 f,d⟩
   rw[e] at this;exact this
  ·rw[Wh d];refine Wb ⟨X2 plain_any_loop _,E (i+1) _ (by lia) (by lia) ?_ m l⟩;rw[YH,Wl f,List.any_append,k];have y:bs[i]=false:=by simpa using d
   rw[y];rfl
def Jq(g:X.calm=true):fX X (.builtin "any") (λxs H Q=>∃(p:Addr)(bs:List Bool),xs=[.ref p]/\fN X.K H p (bs.map V.bl)/\Q (.bl (bs.any id)) H):=by
 intro a s c H xs us Q I r h;obtain⟨p,bs,rfl,hp,q⟩:=h;obtain⟨u,rfl,d⟩:=vals1 r;cases(show u=Value.ref p from d);have i:X.A.handled=none:=I.ok.hd g;obtain⟨f,rv,pl,x⟩:=I.list hp;refine call_function_tree F.kind_any F.plain_any F.entry_any (F.args_any1 _) ?_;unfold Builtin.«any»;show wpAny _ _ (pyIter (.ref p) >>=_) _ _ s;refine V8 (YM pl.isList ?_);have n:Inv X a c H {s with heap:=s.heap.push {cls:=.type "list_iterator",data:=.fields #[.ref p,.int 0 0]}}:=I.kept (t':=s.toks) λb o e=>Wa _ e;obtain⟨f0,m,y,l,k,j⟩:=I.wq (b:=s.heap.objs.size) (H':=H) (Wj _) (I.bL.fresh (Wj _));refine Wb ⟨X2 plain_any_loop _,?_⟩;exact JD (X:=X) (σ:=c) (H:=H) (by exact i) hp ⟨m,l,k,j⟩ f0 (λw t=>⟨.bl _,H,t,rfl,q⟩) bs.length 0 _ (by lia) (WL _) rfl ⟨_,Ww _ rfl,rfl,rfl⟩ n
end L2
namespace L2
open PyProof.Rows PySem.SeqAt
noncomputable def b4:Nat->PyData->Bool
 | _,.int _=>true
 | _,.str x=>PyData.strOk x
 | n+1,.tuple xs=>xs.all (b4 n)
 | _,_=>false
def dQ(w:World):Nat->PyData->Int
 | _,.int i=>Pd w (.inl i)
 | _,.str x=>Pd w (.inr x)
 | n+1,.tuple xs=>reduceHash (Builtin.Tuple.tupleHashOf (xs.map (dQ w n)))
 | _,_=>0
def qN(a:Addr)(us:List (Addr×V))(ps:List PyData):World->Heap->Prop:=λw h=>us.length<=sizeLine/\(a==sysModules)=false/\ps.all (b4 8)=true/\ps.Nodup/\
 ∃b:List (PyData×Addr×Value),Paired (λ(u:Addr×V)(y:PyData×Addr×Value)=>u.1=y.2.1/\RelV u.2 y.2.2) us b/\b.map (·.1)=ps/\
 ∃o es c,h.get? a=some o/\o.ExactDict/\o.data=.dict es c/\es.toList=b.map λy=>⟨dQ w 8 y.1,.ref y.2.1,y.2.2⟩
end L2
namespace Sm
open L2
inductive D where
 | bb | bl (b:Bool) | int (i:Int) | str (x:Str) | ty (n:String)
 | tup (xs:List D) | lv (xs:List D) | ro (xs:List D) | dv (kvs:List (Key×D)) | ob (n:Nat)
inductive MO where
 | lst (xs:List D) | dct (kvs:List (Key×D)) | dcH (kvs:List (D×D))
abbrev MH:=List MO
mutual
noncomputable def qS:D->Option PyData
 | .bb=>some .none
 | .bl b=>some (.bool b)
 | .int i=>some (.int i)
 | .str x=>some (.str x)
 | .tup xs=>(md xs).map .tuple
 | .lv xs=>(md xs).map .list
 | .ro xs=>(md xs).map .list
 | _=>none
noncomputable def md:List D->Option (List PyData)
 | []=>some []
 | x::r=>(qS x).bind λa=>(md r).map λb=>a::b
end
abbrev DS:=List (Option D)
abbrev Vt:Hp:=λ_=>none
structure Ad where
 ob:List Addr
 rs:List Addr
def Ad.has(ρ:Ad)(a:Addr):Prop:=a∈ρ.ob\/a∈ρ.rs
def TupAt(K:FR)(ρ:Ad)(H:Hp)(a:Addr)(vs:List V):Prop:=(Rd H a (.tup vs)/\¬ρ.has a)\/jc K Vt a vs
def Qn(K:FR)(ρ:Ad)(H:Hp)(a:Addr)(vs:List V):Prop:=(Rd H a (.lst vs)/\¬ρ.has a)\/fN K Vt a vs
mutual
inductive Rep(K:FR)(ρ:Ad)(H:Hp):V->D->Prop where
 | bb:Rep K ρ H .bb .bb
 | bl (b:Bool):Rep K ρ H (.bl b) (.bl b)
 | int (i:Int):Rep K ρ H (.int i) (.int i)
 | str {x:Str} (h:PyData.strOk x=true):Rep K ρ H (.str x) (.str x)
 | ty (n:String):Rep K ρ H (.ty n) (.ty n)
 | tup {a:Addr} {vs:List V} {ds:List D}:TupAt K ρ H a vs->ay K ρ H vs ds->Rep K ρ H (.ref a) (.tup ds)
 | lv {a:Addr} {vs:List V} {ds:List D}:H a=some (.lst vs)->¬ρ.has a->ay K ρ H vs ds->Rep K ρ H (.ref a) (.lv ds)
 | ro {a:Addr} {vs:List V} {ds:List D}:Qn K ρ H a vs->ay K ρ H vs ds->Rep K ρ H (.ref a) (.ro ds)
 | dv {a:Addr} {us:List (Key×V)} {kvs:List (Key×D)}:H a=some (.dK us)->¬ρ.has a->bj K ρ H us kvs->Rep K ρ H (.ref a) (.dv kvs)
 | ob {a:Addr} {n:Nat}:ρ.ob[n]?=some a->Rep K ρ H (.ref a) (.ob n)
inductive ay(K:FR)(ρ:Ad)(H:Hp):List V->List D->Prop where
 | nil:ay K ρ H [] []
 | cons {v:V} {vs:List V} {d:D} {ds:List D}:Rep K ρ H v d->ay K ρ H vs ds->ay K ρ H (v::vs) (d::ds)
inductive bj(K:FR)(ρ:Ad)(H:Hp):List (Key×V)->List (Key×D)->Prop where
 | nil:bj K ρ H [] []
 | cons {k:Key} {v:V} {vs:List (Key×V)} {d:D} {ds:List (Key×D)}:Rep K ρ H v d->bj K ρ H vs ds->bj K ρ H ((k,v)::vs) ((k,d)::ds)
end
structure Ch(ρ:Ad)(H:Hp)(ρ':Ad)(H':Hp):Prop where
 pre:∀(n:Nat) a,ρ.ob[n]?=some a->ρ'.ob[n]?=some a
 old:∀b o,¬ρ.has b->H b=some o->¬ρ'.has b/\H' b=some o
def Ch.refl(ρ:Ad)(H:Hp):Ch ρ H ρ H:=⟨λ_ _ e=>e,λ_ _ n e=>⟨n,e⟩⟩
def Ch.trans(a:Ch ρ H d H1)(b:Ch d H1 c h):Ch ρ H c h:=
 ⟨λn x e=>b.pre n x (a.pre n x e),λx o n e=>let⟨f,g⟩:=a.old x o n e;b.old x o f g⟩
structure de(ρ:Ad)(H:Hp)(ρ':Ad)(H':Hp):Prop extends Ch ρ H ρ' H' where
 rs:ρ'.rs=ρ.rs
 res:∀b∈ρ.rs,H' b=H b
theorem de.refl(ρ:Ad)(H:Hp):de ρ H ρ H:=⟨.refl _ _,rfl,λ_ _=>rfl⟩
theorem de.trans(a:de ρ H d H1)(b:de d H1 c f):de ρ H c f:=
 ⟨a.toCh.trans b.toCh,b.rs.trans a.rs,λx e=>(b.res x (by rw[a.rs];exact e)).trans (a.res x e)⟩
instance {ρ ρ':Ad} {H H':Hp}:CoeOut (de ρ H ρ' H') (Ch ρ H ρ' H'):=⟨de.toCh⟩
def Ch.rd(S:Ch ρ H b H')(h:Rd H a u)(n:¬ρ.has a):Rd H' a u/\¬b.has a:=by
 rcases h with h |⟨o,h⟩
 ·obtain⟨q,e⟩:=S.old a _ n h;exact⟨.inl e,q⟩
 ·obtain⟨q,e⟩:=S.old a _ n h;exact⟨.inr ⟨o,e⟩,q⟩
mutual
theorem Rep.mono(S:Ch ρ H c H'){v:V}{d:D}(r:Rep K ρ H v d):Rep K c H' v d:=by
 cases r with
 | bb=>exact .bb
 | bl b=>exact .bl b
 | int i=>exact .int i
 | str x=>exact .str x
 | ty n=>exact .ty n
 | tup h l=>exact .tup (h.elim (λ⟨a,n⟩=>.inl (S.rd a n)) .inr) (ay.mono S l)
 | lv h n l=>have ⟨f,g⟩:=S.old _ _ n h;exact .lv g f (ay.mono S l)
 | ro h l=>exact .ro (h.elim (λ⟨a,n⟩=>.inl (S.rd a n)) .inr) (ay.mono S l)
 | dv h n l=>have ⟨f,g⟩:=S.old _ _ n h;exact .dv g f (bj.mono S l)
 | ob e=>exact .ob (S.pre _ _ e)
theorem ay.mono(S:Ch ρ H a H'){vs:List V}{ds:List D}(r:ay K ρ H vs ds):ay K a H' vs ds:=by
 cases r with
 | nil=>exact .nil
 | cons h t=>exact .cons (Rep.mono S h) (ay.mono S t)
theorem bj.mono(S:Ch ρ H a H'){vs:List (Key×V)}{ds:List (Key×D)}(r:bj K ρ H vs ds):bj K a H' vs ds:=by
 cases r with
 | nil=>exact .nil
 | cons h t=>exact .cons (Rep.mono S h) (bj.mono S t)
end
theorem ay.length:∀{vs:List V} {ds:List D},ay K ρ H vs ds->vs.length=ds.length
 | _,_,.nil=>rfl
 | _,_,.cons _ t=>by rw[Wq,Wq,ay.length t]
theorem ay.got:∀{vs:List V} {ds:List D} {i:Nat} {d:D},ay K ρ H vs ds->ds[i]?=some d->∃v,vs[i]?=some v/\Rep K ρ H v d
 | _,_,_,_,.nil,e=>by simp at e
 | _,_,0,_,.cons r _,e=>by simp at e;subst e;exact⟨_,rfl,r⟩
 | _,_,i+1,d,.cons _ t,e=>by
  obtain⟨u,b,a⟩:=ay.got (i:=i) (d:=d) t (by simpa using e);exact⟨u,by simpa using b,a⟩
theorem ay.append:∀{vs ws:List V} {ds es:List D},ay K ρ H vs ds->ay K ρ H ws es->ay K ρ H (vs++ws) (ds++es)
 | _,_,_,_,.nil,s=>s
 | _,_,_,_,.cons r t,s=>.cons r (ay.append t s)
theorem ay.take:∀{vs:List V} {ds:List D} (n:Nat),ay K ρ H vs ds->ay K ρ H (vs.take n) (ds.take n)
 | _,_,0,_=>.nil
 | _,_,_+1,.nil=>.nil
 | _,_,n+1,.cons r t=>.cons r (ay.take n t)
theorem ay.drop:∀{vs:List V} {ds:List D} (n:Nat),ay K ρ H vs ds->ay K ρ H (vs.drop n) (ds.drop n)
 | _,_,0,r=>r
 | _,_,_+1,.nil=>.nil
 | _,_,n+1,.cons _ t=>ay.drop n t
theorem ay.set(r:Rep K ρ H v d):∀{vs:List V} {ds:List D} (i:Nat),ay K ρ H vs ds->ay K ρ H (vs.set i v) (ds.set i d)
 | _,_,_,.nil=>.nil
 | _,_,0,.cons _ t=>.cons r t
 | _,_,i+1,.cons q t=>.cons q (ay.set r i t)
def ay.snoc(t:ay K ρ H vs ds)(r:Rep K ρ H v d):ay K ρ H (vs++[v]) (ds++[d]):=t.append (.cons r .nil)
theorem ay.dropLast:∀{vs:List V} {ds:List D},ay K ρ H vs ds->ay K ρ H vs.dropLast ds.dropLast
 | _,_,.nil=>.nil
 | _,_,.cons _ .nil=>.nil
 | _,_,.cons r (.cons q t)=>.cons r (ay.dropLast (.cons q t))
theorem ay.isEmpty(t:ay K ρ H vs ds):vs.isEmpty=ds.isEmpty:=by cases t <;> rfl
def TupAt.sq(h:TupAt K ρ H a vs):jc K H a vs:=by
 rcases h with⟨h,_⟩ | h
 ·exact .inl h
 ·rcases h with(h |⟨o,h⟩) | h
  ·cases h
  ·cases h
  ·exact .inr h
def Qn.sq(h:Qn K ρ H a vs):fN K H a vs:=by
 rcases h with⟨h,_⟩ | h
 ·exact .inl h
 ·rcases h with(h |⟨o,h⟩) | h
  ·cases h
  ·cases h
  ·exact .inr h
def Bh(K:FR)(ρ:Ad)(H:Hp)(a:Addr):MO->Prop
 | .lst ds=>∃c,H a=some (.lst c)/\ay K ρ H c ds
 | .dct b=>∃us,H a=some (.dK us)/\bj K ρ H us b
 | .dcH b=>∃us d,H a=some (.JQ (qN a us d))/\ay K ρ H (us.map λu=>V.ref u.1) (b.map (·.1))/\ay K ρ H (us.map (·.2)) (b.map (·.2))/\md (b.map (·.1))=some d
structure bP(K:FR)(ρ:Ad)(h:MH)(H:Hp):Prop where
 len:ρ.ob.length=h.length
 nd:ρ.ob.Nodup
 at_:∀(n:Nat) a o,ρ.ob[n]?=some a->h[n]?=some o->Bh K ρ H a o
 vF:∀b∈ρ.rs,(∃o,H b=some o)/\b∉ρ.ob
def Bh.has(x:Bh K ρ H a o):∃u,H a=some u:=by
 cases o with
 | lst ds=>obtain⟨b,e,_⟩:=x;exact⟨_,e⟩
 | dct ds=>obtain⟨b,e,_⟩:=x;exact⟨_,e⟩
 | dcH ds=>obtain⟨b,_,e,_⟩:=x;exact⟨_,e⟩
theorem Bh.mono(x:Bh K ρ H a o)(T:Ch ρ H b H')(e:H' a=H a):Bh K b H' a o:=by
 cases o with
 | lst ds=>obtain⟨c,x,r⟩:=x;exact⟨c,e.trans x,r.mono T⟩
 | dct ds=>obtain⟨c,x,r⟩:=x;exact⟨c,e.trans x,r.mono T⟩
 | dcH ds=>obtain⟨us,f,x,r,d,p⟩:=x;exact⟨us,f,e.trans x,r.mono T,d.mono T,p⟩
def bP.mem(S:bP K ρ h H)(d:a∈ρ.ob):∃(n:Nat)(o:MO),ρ.ob[n]?=some a/\h[n]?=some o/\Bh K ρ H a o:=by
 obtain⟨n,hn,e⟩:=List.mem_iff_getElem.mp d;have b:n < h.length:=by rw[<-S.len];exact hn
 have c:ρ.ob[n]?=some a:=by rw[Wl hn,e]
 exact⟨n,h[n],c,Wl b,S.at_ n a _ c (Wl b)⟩
theorem bP.has(S:bP K ρ h H)(b:ρ.has a):∃u,H a=some u:=by
 rcases b with b | b
 ·obtain⟨_,_,_,_,x⟩:=S.mem b;exact x.has
 ·exact(S.vF a b).1
def bP.fresh(S:bP K ρ h H)(hp:H p=none):¬ρ.has p:=λm=>by
 obtain⟨u,e⟩:=S.has m;rw[hp] at e;cases e
def de.laid(S:bP K ρ h H)(hp:H p=none):de ρ H ρ (upd H p o):=
 ⟨⟨λ_ _ e=>e,λb u n e=>⟨n,by rw[az (aJ e hp)];exact e⟩⟩,rfl,λb a=>by
  obtain⟨u,e⟩:=(S.vF b a).1;rw[az (aJ e hp)]⟩
def bP.same(S:bP K ρ h H)(T:de ρ H ρ H')(k:∀a∈ρ.ob,H' a=H a):bP K ρ h H':=
 ⟨S.len,S.nd,λn a o d e=>(S.at_ n a o d e).mono T.toCh (k a (Wk d)),λb c=>⟨by rw[T.res b c];exact(S.vF b c).1,(S.vF b c).2⟩⟩
theorem bP.laid(S:bP K ρ h H)(hp:H p=none):bP K ρ h (upd H p o):=
 S.same (de.laid S hp) λa b=>by
  obtain⟨u,e⟩:=S.has (.inl b);rw[az (aJ e hp)]
abbrev Ad.more(ρ:Ad)(p:Addr):Ad:=⟨ρ.ob++[p],ρ.rs⟩
def de.made(S:bP K ρ h H)(hp:H p=none):de ρ H (ρ.more p) (upd H p o):=by
 refine⟨⟨λn a e=>?_,λb u n e=>?_⟩,rfl,(de.laid S hp).res⟩
 ·show(ρ.ob++[p])[n]?=_;rw[Wx (V9.mp e).1];exact e
 ·refine⟨λm=>?_,by rw[az (aJ e hp)];exact e⟩;rcases m with m | m
  ·rcases Xa.mp m with m | m
   ·exact n (.inl m)
   ·exact aJ e hp (Wr.mp m)
  ·exact n (.inr m)
theorem bP.made(S:bP K ρ h H)(hp:H p=none)(j:Bh K (ρ.more p) (upd H p u) p o):bP K (ρ.more p) (h++[o]) (upd H p u):=by
 refine⟨by simp[S.len],?_,λn a x c d=>?_,λb g=>?_⟩
 ·show(ρ.ob++[p]).Nodup;rw[Aah];refine⟨S.nd,by simp,λa k b g z=>?_⟩;rw[Wr.mp g] at z;exact S.fresh hp (.inl (z ▸ k))
 ·by_cases hn:n < ρ.ob.length
  ·have c:(ρ.ob++[p])[n]?=some a:=c;rw[Wx hn] at c;rw[Wx (by rw[<-S.len];exact hn)] at d;have q:=S.at_ n a x c d;obtain⟨w,l⟩:=q.has;exact q.mono (de.made S hp).toCh (az (aJ l hp))
  ·have i:=(V9.mp c).1;simp at i;have f:n=ρ.ob.length:=by lia
   subst f;have c:(ρ.ob++[p])[ρ.ob.length]?=some a:=c;rw[Wy (Wj _)] at c;rw[Wy (by rw[S.len];exact Wj _)] at d;simp at c;rw[S.len] at d;simp at d;subst c;subst d;exact j
 ·obtain⟨⟨v,e⟩,n⟩:=S.vF b g;have z:=aJ e hp;refine⟨⟨v,by rw[az z];exact e⟩,λm=>?_⟩;rcases Xa.mp m with m | m
  ·exact n m
  ·exact z (Wr.mp m)
def de.wrote(S:bP K ρ h H)(c:a∈ρ.ob):de ρ H ρ (upd H a o):=
 ⟨⟨λ_ _ e=>e,λb u n e=>⟨n,by rw[az (λ(z:b=a)=>n (.inl (by rw[z];exact c)))];exact e⟩⟩,rfl,λb d=>az λ(z:b=a)=>(S.vF b d).2 (by rw[z];exact c)⟩
theorem bP.wrote(S:bP K ρ h H)(e:ρ.ob[n]?=some a)(i:Bh K ρ (upd H a u) a o):bP K ρ (h.set n o) (upd H a u):=by
 have j:=Wk e;have T:de ρ H ρ (upd H a u):=de.wrote S j;refine⟨by rw[Xl];exact S.len,S.nd,λm b x f d=>?_,λb c=>⟨by rw[T.res b c];exact(S.vF b c).1,(S.vF b c).2⟩⟩
 by_cases hm:n=m
 ·subst hm;have g:n < h.length:=by rw[<-S.len];exact(V9.mp e).1
  rw[e] at f;cases f;rw[WW g] at d;cases d;exact i
 ·rw[Wm hm] at d;have q:=S.at_ m b x f d;have c:b≠a:=by
   intro z;subst z;exact hm ((Aai (V9.mp e).1 S.nd).mp (e.trans f.symm))
  exact q.mono T.toCh (az c)
abbrev Ad.keep(ρ:Ad)(l:Addr):Ad:=⟨ρ.ob,l::ρ.rs⟩
theorem Ch.keep(hl:H l=none):Ch ρ H (ρ.keep l) (upd H l o):=by
 refine⟨λn a e=>e,λb u n e=>⟨λm=>?_,by rw[az (aJ e hl)];exact e⟩⟩;rcases m with m | m
 ·exact n (.inl m)
 ·rcases Ws.mp m with m | m
  ·exact aJ e hl m
  ·exact n (.inr m)
theorem bP.keep(S:bP K ρ h H)(hl:H l=none):bP K (ρ.keep l) h (upd H l o):=by
 refine⟨S.len,S.nd,λn a x g f=>?_,λb c=>?_⟩
 ·have q:=S.at_ n a x g f;obtain⟨w,d⟩:=q.has;exact q.mono (Ch.keep hl) (az (aJ d hl))
 ·rcases Ws.mp c with rfl | c
  ·exact⟨⟨_,aH⟩,λm=>S.fresh hl (.inl m)⟩
  ·obtain⟨⟨v,e⟩,n⟩:=S.vF b c;exact⟨⟨v,by rw[az (aJ e hl)];exact e⟩,n⟩
def Ch.put(hl:l∈ρ.rs):Ch ρ H ρ (upd H l o):=⟨λn a e=>e,λb u n e=>⟨n,by rw[az (λ(z:b=l)=>n (.inr (by rw[z];exact hl)))];exact e⟩⟩
theorem bP.put(S:bP K ρ h H)(hl:l∈ρ.rs):bP K ρ h (upd H l o):=by
 refine⟨S.len,S.nd,λn a x d e=>(S.at_ n a x d e).mono (Ch.put hl) (az λ(z:a=l)=>(S.vF l hl).2 (by rw[<-z];exact Wk d)),λb c=>⟨?_,(S.vF b c).2⟩⟩
 by_cases z:b=l
 ·subst z;exact⟨_,aH⟩
 ·rw[az z];exact(S.vF b c).1
def Ch.free{os rs c:List Addr}{H:Hp}(d:∀b∈c,b∈rs):Ch ⟨os,rs⟩ H ⟨os,c⟩ H:=⟨λn a e=>e,λb u n e=>⟨λm=>n (m.elim .inl λm=>.inr (d b m)),e⟩⟩
theorem bP.free{os rs c:List Addr}{H:Hp}(S:bP K ⟨os,rs⟩ h H)(d:∀b∈c,b∈rs):bP K ⟨os,c⟩ h H:=
 ⟨S.len,S.nd,λn a x g f=>(S.at_ n a x g f).mono (Ch.free d) rfl,λb e=>S.vF b (d b e)⟩
structure cE(K:FR)(ρ:Ad)(H:Hp)(σ:St)(δ:DS):Prop where
 len:σ.length=δ.length
 at_:∀(i:Nat) d,δ[i]?=some (some d)->∃v,σ[i]?=some (some v)/\Rep K ρ H v d
theorem cE.mono(R:cE K ρ H σ δ)(S:Ch ρ H c H'):cE K c H' σ δ:=⟨R.len,λi d e=>let⟨v,a,b⟩:=R.at_ i d e;⟨v,a,b.mono S⟩⟩
theorem cE.set(R:cE K ρ H σ δ)(r:Rep K ρ H v d)(i:Nat):cE K ρ H (σ.set i (some v)) (δ.set i (some d)):=by
 refine⟨by rw[Xl,Xl];exact R.len,λj e b=>?_⟩
 by_cases a:i=j
 ·subst a;have hl:i < δ.length:=by
   have:=(V9.mp b).1;rw[Xl] at this;exact this
  rw[WW hl] at b;cases b;exact⟨v,by rw[WW (by rw[R.len];exact hl)],r⟩
 ·rw[Wm a] at b ⊢;exact R.at_ j e b
abbrev EM:=DS->MH->Option (D×MH)
abbrev TM:=DS->MH->Option (Bool×MH)
abbrev AM:=DS->MH->Option (List D×MH)
inductive Fl where
 | nx | bk | ct | rt (d:D)
abbrev SM:=DS->MH->Option (Fl×DS×MH)
abbrev GM:=D->DS->MH->Option (DS×MH)
abbrev Fn:=List D->MH->Option (D×MH)
inductive Nf(K:FR)(ρ:Ad)(H:Hp)(h':MH)(d:D)(v:V)(H':Hp):Prop where
 | mk (ρ'):de ρ H ρ' H'->bP K ρ' h' H'->Rep K ρ' H' v d->Nf K ρ H h' d v H'
noncomputable def dJ(K:FR)(ρ:Ad)(H:Hp)(h':MH)(d:D):VK:=λv a=>Nf K ρ H h' d v a
inductive Vx(K:FR)(m:EM)(σ:L2.St)(H:Hp)(Q:VK):Prop where
 | mk (ρ δ h d h'):cE K ρ H σ δ->bP K ρ h H->(m δ h=some (d,h'))->(∀v H',dJ K ρ H h' d v H'->Q v H')->Vx K m σ H Q
def tM(K:FR)(m:EM):TE:=λa H Q=>Vx K m a H Q
inductive Tb(K:FR)(m:TM)(σ:L2.St)(H:Hp)(Q:Bool->Hp->Prop):Prop where
 | mk (ρ δ h b h'):cE K ρ H σ δ->bP K ρ h H->(m δ h=some (b,h'))->(∀ρ' H',de ρ H ρ' H'->bP K ρ' h' H'->Q b H')->Tb K m σ H Q
def Bn(K:FR)(m:TM):TT:=λa H Q=>Tb K m a H Q
inductive Th(K:FR)(m:AM)(σ:L2.St)(H:Hp)(Q:List V->Hp->Prop):Prop where
 | mk (ρ δ h ds h'):cE K ρ H σ δ->bP K ρ h H->(m δ h=some (ds,h'))->(∀vs ρ' H',de ρ H ρ' H'->bP K ρ' h' H'->ay K ρ' H' vs ds->Q vs H')->Th K m σ H Q
def Vs(K:FR)(m:AM):TA:=λa H Q=>Th K m a H Q
inductive Tc(K:FR)(m:SM)(E:Ends)(σ:L2.St)(H:Hp):Prop where
 | mk (ρ δ h fl δ' h'):cE K ρ H σ δ->bP K ρ h H->(m δ h=some (fl,δ',h'))->(∀ρ' H',de ρ H ρ' H'->bP K ρ' h' H'->
 match fl with
 | .nx=>∀σ',cE K ρ' H' σ' δ'->E.nx σ' H'
 | .bk=>∀σ',cE K ρ' H' σ' δ'->E.bk σ' H'
 | .ct=>∀σ',cE K ρ' H' σ' δ'->E.ct σ' H'
 | .rt d=>∀v,Rep K ρ' H' v d->E.rt v H')->Tc K m E σ H
def JN(K:FR)(m:SM):TS:=λE a H=>Tc K m E a H
inductive Tg(K:FR)(m:GM)(v:V)(σ:L2.St)(H:Hp)(Q:L2.St->Hp->Prop):Prop where
 | mk (ρ δ h d δ' h'):cE K ρ H σ δ->bP K ρ h H->Rep K ρ H v d->(m d δ h=some (δ',h'))->(∀ρ' H' σ',de ρ H ρ' H'->bP K ρ' h' H'->cE K ρ' H' σ' δ'->Q σ' H')->Tg K m v σ H Q
def EU(K:FR)(m:GM):TG:=λv a H Q=>Tg K m v a H Q
def SE(X:Cx)(e:Expr)(m:EM):Prop:=PE X e (tM X.K m)
def ST(X:Cx)(e:Expr)(m:TM):Prop:=PT X e (Bn X.K m)
def SW(X:Cx)(e:Expr)(m:TM):Prop:=PW X e (Bn X.K m)
def SA(X:Cx)(es:List Expr)(m:AM):Prop:=PA X es (Vs X.K m)
def SS(X:Cx)(s:Stmt)(m:SM):Prop:=PS X s (JN X.K m)
def JR(X:Cx)(s:List Stmt)(m:SM):Prop:=Bd X s (JN X.K m)
def SG(X:Cx)(e:Expr)(m:GM):Prop:=PG X e (EU X.K m)
def _root_.L2.PE.imp(h:PE X e t)(i:∀σ H Q,t' σ H Q->t σ H Q):PE X e t':=λa s σ H Q I q=>h a s σ H Q I (i σ H Q q)
def _root_.L2.PT.imp(h:PT X e t)(i:∀σ H Q,t' σ H Q->t σ H Q):PT X e t':=λa s σ H Q I q=>h a s σ H Q I (i σ H Q q)
def _root_.L2.PW.imp(h:PW X e t)(i:∀σ H Q,t' σ H Q->t σ H Q):PW X e t':=λb a s σ H Q I q=>h b a s σ H Q I (i σ H Q q)
def _root_.L2.PA.imp(h:PA X e t)(i:∀σ H Q,t' σ H Q->t σ H Q):PA X e t':=λpos a s σ H Q I q=>h pos a s σ H Q I (i σ H Q q)
def _root_.L2.PS.imp(h:PS X e t)(i:∀E σ H,t' E σ H->t E σ H):PS X e t':=λa s σ H E I q=>h a s σ H E I (i E σ H q)
def _root_.L2.Bd.imp(h:Bd X e t)(i:∀E σ H,t' E σ H->t E σ H):Bd X e t':=λa s σ H E I q=>h a s σ H E I (i E σ H q)
def _root_.L2.PG.imp(h:PG X e t)(i:∀v σ H Q,t' v σ H Q->t v σ H Q):PG X e t':=λa s σ H v u Q I r q=>h a s σ H v u Q I r (i v σ H Q q)
def a9(h:o.bind f=some b):∃a,o=some a/\f a=some b:=Zx.mp h
def dS(h:o.map f=some b):∃a,o=some a/\f a=b:=Xi.mp h
def Ex{x:D}{a:Type}{g:Bool->Option a}{z:a}(e:(match x with | .bl c=>g c | _=>none)=some z):∃c,x=.bl c/\g c=some z:=by
 cases x <;> first | exact absurd e (by intro z;cases z) | exact⟨_,rfl,e⟩
def dJ.here(S:bP K ρ h H)(r:Rep K ρ H v d):dJ K ρ H h d v H:=⟨ρ,.refl _ _,S,r⟩
def dJ.step(T:de ρ H b H1)(p:dJ K b H1 h' d v H'):dJ K ρ H h' d v H':=let⟨a,e,f,c⟩:=p;⟨a,T.trans e,f,c⟩
theorem dJ.tup(S:bP K ρ h H)(r:ay K ρ H vs ds)(hp:H p=none):dJ K ρ H h (.tup ds) (.ref p) (upd H p (.tup vs)):=
 ⟨ρ,de.laid S hp,S.laid hp,.tup (.inl ⟨.inl aH,S.fresh hp⟩) (r.mono (de.laid S hp).toCh)⟩
theorem dJ.lv(S:bP K ρ h H)(r:ay K ρ H vs ds)(hp:H p=none):dJ K ρ H h (.lv ds) (.ref p) (upd H p (.lst vs)):=
 ⟨ρ,de.laid S hp,S.laid hp,.lv aH (S.fresh hp) (r.mono (de.laid S hp).toCh)⟩
theorem dJ.dv(S:bP K ρ h H)(r:bj K ρ H us ds)(hp:H p=none):dJ K ρ H h (.dv ds) (.ref p) (upd H p (.dK us)):=
 ⟨ρ,de.laid S hp,S.laid hp,.dv aH (S.fresh hp) (r.mono (de.laid S hp).toCh)⟩
noncomputable def bF(i:Nat):EM:=λa h=>(a[i]?).join.map λd=>(d,h)
noncomputable def eK(d:D):EM:=λ_ h=>some (d,h)
noncomputable def ah(f:D->D->MH->Option (D×MH))(a b:EM):EM:=λc h=>(a c h).bind λp=>(b c p.2).bind λq=>f p.1 q.1 q.2
noncomputable def i6(f:D->MH->Option (D×MH))(a:EM):EM:=λb h=>(a b h).bind λp=>f p.1 p.2
noncomputable def a8:AM:=λ_ h=>some ([],h)
noncomputable def aD(a:EM)(r:AM):AM:=λb h=>(a b h).bind λp=>(r b p.2).bind λq=>some (p.1::q.1,q.2)
noncomputable def ai(f:Fn)(a:AM):EM:=λb h=>(a b h).bind λp=>f p.1 p.2
noncomputable def xn(t:TM)(a b:EM):EM:=λc h=>(t c h).bind λp=>if p.1 then a c p.2 else b c p.2
noncomputable def au(a:EM):TM:=λc h=>(a c h).bind λp=>match p.1 with
 | .bl b=>some (b,p.2)
 | _=>none
noncomputable def rq(t:TM):TM:=λa h=>(t a h).map λp=>(!p.1,p.2)
noncomputable def nO(a b:TM):TM:=λc h=>(a c h).bind λp=>if p.1 then b c p.2 else some (false,p.2)
noncomputable def ET(a b:TM):TM:=λc h=>(a c h).bind λp=>if p.1 then some (true,p.2) else b c p.2
noncomputable def qC(a b:EM):EM:=λd h=>(a d h).bind λp=>match p.1 with
 | .bl c=>if c then b d p.2 else some (.bl false,p.2)
 | _=>none
noncomputable def Vb(a b:EM):EM:=λd h=>(a d h).bind λp=>match p.1 with
 | .bl c=>if c then some (.bl true,p.2) else b d p.2
 | _=>none
noncomputable def aw:Fn:=λa h=>some (.tup a,h)
inductive VA(K:FR)(f:D->D->MH->Option (D×MH))(x y:V)(H:Hp)(Q:VK):Prop where
 | mk (ρ h d e z h'):bP K ρ h H->Rep K ρ H x d->Rep K ρ H y e->(f d e h=some (z,h'))->(∀v H',dJ K ρ H h' z v H'->Q v H')->VA K f x y H Q
def rS(K:FR)(f:D->D->MH->Option (D×MH)):R2:=λx y H Q=>VA K f x y H Q
def ph(X:Cx)(g:Value->Value->Sem Value)(f:D->D->MH->Option (D×MH)):Prop:=pA X g (rS X.K f)
inductive Vz(K:FR)(f:D->MH->Option (D×MH))(x:V)(H:Hp)(Q:VK):Prop where
 | mk (ρ h d z h'):bP K ρ h H->Rep K ρ H x d->(f d h=some (z,h'))->(∀v H',dJ K ρ H h' z v H'->Q v H')->Vz K f x H Q
def rU(K:FR)(f:D->MH->Option (D×MH)):V->Hp->VK->Prop:=λx H Q=>Vz K f x H Q
inductive VC(K:FR)(f:Fn)(vs:List V)(H:Hp)(Q:VK):Prop where
 | mk (ρ h ds z h'):bP K ρ h H->ay K ρ H vs ds->(f ds h=some (z,h'))->(∀v H',dJ K ρ H h' z v H'->Q v H')->VC K f vs H Q
def rF(K:FR)(f:Fn):List V->Hp->VK->Prop:=λa H Q=>VC K f a H Q
def jb(X:Cx)(g:Value)(f:Fn):Prop:=fX X g (rF X.K f)
section
variable {X:Cx} {a b c e:Expr} {es:List Expr} {pos:Pos} {ma mb mc:EM} {mt mu:TM} {m:AM} {f:D->D->MH->Option (D×MH)}
def NI(l:X.N[i]?=some x)(j:SV X.env.scope x)(hd:(x==("__debug__":Str))=false:=by ac_nf)(g:(x==("__classdict__":Str))=false:=by ac_nf):SE X (.Name x pos) (bF i):=
 (Ov l j hd g).imp λσ H Q ⟨q,s,h,d,t,R,S,e,k⟩=>by
  obtain⟨u,p,o⟩:=dS e;cases o;obtain⟨v,n,r⟩:=R.at_ i _ (AaS.mp p);exact⟨v,n,k v H (.here S r)⟩
def G4(hp:PE X e (tC v))(hr:∀ρ H,Rep X.K ρ H v d):SE X e (eK d):=hp.imp λσ H Q ⟨ρ,i,h,l,j,R,S,g,k⟩=>by
 cases g;exact k v H (.here S (hr _ _))
def bh{i j}:SE X (.Constant (.int i) j pos) (eK (.int i)):=G4 OD λ_ _=>.int i
def MG{b j}:SE X (.Constant (.bool b) j pos) (eK (.bl b)):=G4 RD λ_ _=>.bl b
def Bv{j}:SE X (.Constant .none j pos) (eK .bb):=G4 OB λ_ _=>.bb
def dm{x j}(h:PyData.strOk x=true:=by decide+kernel):SE X (.Constant (.str x) j pos) (eK (.str x)):=G4 Oy λ_ _=>.str h
def Q2(g:Gl X x)(hm:X.mg x=none)(d:bootBuiltins x=some (.type n))(hn:x≠"__name__":=by decide)(hd:(x==("__debug__":Str))=false:=by ac_nf):SE X (.Name x pos) (eK (.ty n)):=
 G4 (K2 (v:=.ty n) g hm d rfl hn hd) λ_ _=>.ty n
def zV(h:tM X.K (ah f ma mb) σ H Q):QQ (rS X.K f) (tM X.K ma) (tM X.K mb) σ H Q:=by
 obtain⟨r,j,h,d,z,R,S,e,k⟩:=h;obtain⟨⟨x,n⟩,E,e⟩:=a9 e;obtain⟨⟨y,l⟩,C,A⟩:=a9 e;refine⟨r,j,h,x,n,R,S,E,λv H1 ⟨i,q,G,t⟩=>?_⟩;refine⟨i,j,n,y,l,R.mono q,G,C,λu J ⟨g,o,F,s⟩=>?_⟩;exact⟨g,l,x,y,d,z,F,t.mono o,s,A,λw I p=>k w I (p.step (q.trans o))⟩
def dq(d:ph X (binaryOp op) f)(h:SE X a ma)(g:SE X b mb):SE X (.BinOp a op b pos) (ah f ma mb):=(RA d h g).imp λ_ _ _=>zV
def G0(d:ph X (compareOp op) f)(h:SE X a ma)(g:SE X b mb)(hm:behindInMarks op b=false):SE X (.Compare a [op] [b] pos) (ah f ma mb):=(K0 d h g hm).imp λ_ _ _=>zV
def pI{g:CmpOp}(n:ph X (compareOp g) f)(p:SE X a ma)(o:SE X b mb)(hm:behindInMarks g b=false):ST X (.Compare a [g] [b] pos) (au (ah f ma mb)):=
 (Ky n p o hm).imp λσ H Q ⟨j,l,h,c,w,R,S,e,k⟩=>by
  obtain⟨⟨x,q⟩,s,i⟩:=a9 e;obtain⟨y,rfl,i⟩:=Ex i;cases i;refine zV ⟨j,l,h,.bl c,q,R,S,s,λv u ⟨d,T,t,r⟩=>?_⟩;cases r;exact⟨c,rfl,k d u T t⟩
def MF{i:UnaryOp}{f:D->MH->Option (D×MH)}(q:SX X (unaryOp i) (rU X.K f))(r:SE X a ma):SE X (.UnaryOp i a pos) (i6 f ma):=(Ry q r).imp λσ H Q ⟨l,n,h,d,s,R,S,e,k⟩=>by
 obtain⟨⟨x,j⟩,t,e⟩:=a9 e;exact⟨l,n,h,x,j,R,S,t,λv H1 ⟨g,u,y,o⟩=>⟨g,j,x,d,s,y,o,e,λw z p=>k w z (p.step u)⟩⟩
def aA:SA X [] a8:=yk.imp λσ H Q ⟨g,i,h,d,j,R,S,e,k⟩=>by
 cases e;exact k [] g H (.refl _ _) S .nil
def aa(t:SE X e ma)(hr:SA X es m)(s:starEach (e::es) X.env=(false,eval e X.env)::starEach es X.env:=by ac_nf):SA X (e::es) (aD ma m):=
 (sF t hr s).imp λσ H Q ⟨p,j,h,d,G,R,S,e,k⟩=>by
  obtain⟨⟨x,l⟩,z,e⟩:=a9 e;obtain⟨⟨q,u⟩,y,w⟩:=a9 e;cases w;refine⟨p,j,h,x,l,R,S,z,λv H1 ⟨i,o,C,r⟩=>?_⟩;exact⟨i,j,l,q,u,R.mono o,C,y,λF g E n A rs=>k _ g E (o.trans n) A (.cons (r.mono n) rs)⟩
def mr(m:AM)(n:Nat):Prop:=∀g h d i,m g h=some (d,i)->d.length=n
def aF:mr a8 0:=λd h i g e=>by cases e;rfl
def af(hr:mr m n):mr (aD ma m) (n+1):=λi h q o e=>by
 obtain⟨⟨x,l⟩,p,e⟩:=a9 e;obtain⟨⟨j,k⟩,g,d⟩:=a9 e;cases d;rw[Wq,hr _ _ _ _ g]
def dh{q}(h:SA X es m)(hl:mr m n)(hn:n<=sizeLine:=by decide):SE X (.Tuple es q pos) (ai aw m):=(Ow h).imp λσ H Q ⟨l,o,h,d,v,R,S,e,k⟩=>by
 obtain⟨⟨x,r⟩,i,e⟩:=a9 e;cases e;refine⟨l,o,h,x,r,R,S,i,λu j w s t g=>⟨by rw[g.length,hl _ _ _ _ i];exact hn,λp hp=>k _ _ (dJ.step s (.tup t g hp))⟩⟩
inductive Tj(K:FR)(m:AM)(σ:L2.St)(H:Hp)(Q:VK):Prop where
 | mk (ρ δ h ds h'):cE K ρ H σ δ->bP K ρ h H->(m δ h=some (ds,h'))->(∀ρ1 H1 p vs,de ρ H ρ1 H1->bP K ρ1 h' H1->H1 p=none->ay K ρ1 H1 vs ds->Q (.ref p) (upd H1 p (.lst vs)))->Tj K m σ H Q
def VS(K:FR)(m:AM):TE:=λd H Q=>Tj K m d H Q
def zq(X:Cx)(e:Expr)(m:AM):Prop:=PE X e (VS X.K m)
noncomputable def nB(m:AM):EM:=λd h=>(m d h).map λp=>(.lv p.1,p.2)
noncomputable def Eg(m:AM):EM:=λd h=>(m d h).map λp=>(.ob p.2.length,p.2++[.lst p.1])
theorem dJ.ob(S:bP K ρ h H)(r:ay K ρ H vs ds)(hp:H p=none):dJ K ρ H (h++[.lst ds]) (.ob h.length) (.ref p) (upd H p (.lst vs)):=
 ⟨ρ.more p,de.made S hp,S.made hp ⟨vs,aH,r.mono (de.made S hp).toCh⟩,.ob (show(ρ.ob++[p])[h.length]?=_ by rw[<-S.len,Wy (Wj _)];simp)⟩
theorem zq.lv(h:zq X e m):SE X e (nB m):=h.imp λσ H Q ⟨i,j,h,d,u,R,S,e,k⟩=>by
 obtain⟨⟨q,l⟩,o,n⟩:=dS e;cases n;exact⟨i,j,h,q,l,R,S,o,λg v p t T s hp r=>k _ _ (dJ.step T (.lv s r hp))⟩
theorem zq.ob(h:zq X e m):SE X e (Eg m):=h.imp λσ H Q ⟨i,j,h,d,u,R,S,e,k⟩=>by
 obtain⟨⟨q,l⟩,o,n⟩:=dS e;cases n;exact⟨i,j,h,q,l,R,S,o,λg v p t T s hp r=>k _ _ (dJ.step T (.ob s r hp))⟩
def kB(h:SA X es m)(hl:mr m n)(hn:n<=sizeLine:=by decide):zq X (.List es pos) m:=(OC h).imp λσ H Q ⟨i,j,h,ds,o,R,S,e,k⟩=>
 ⟨i,j,h,ds,o,R,S,e,λl d s q r g=>⟨by rw[g.length,hl _ _ _ _ e];exact hn,λp hp=>k d s p l q r hp g⟩⟩
noncomputable def V1:EM:=λ_ h=>some (.dv [],h)
def Q8:SE X (.Dict [] [] pos) V1:=HU.imp λσ H Q ⟨g,i,h,d,j,R,S,e,k⟩ p hp=>by
 cases e;exact k _ _ (.dv S .nil hp)
def GH(h:ST X a mt):ST X (.UnaryOp .Not a pos) (rq mt):=(Og h).imp λσ H Q ⟨g,i,h,c,q,R,S,e,k⟩=>by
 obtain⟨⟨x,j⟩,n,l⟩:=dS e;cases l;exact⟨g,i,h,x,j,R,S,n,λd p T o=>k d p T o⟩
def nP(h:ST X a mt):SW X (.BoolOp .And [a] pos) mt:=Kx h
def NA(h:ST X a mt):SW X (.BoolOp .Or [a] pos) mt:=Od h
def sY{d:List Expr}(r:ST X a mt)(q:SW X (.BoolOp .And (b::d) pos) mu):SW X (.BoolOp .And (a::b::d) pos) (nO mt mu):=(Oe r q).imp λσ H Q ⟨p,l,h,c,s,R,S,e,k⟩=>by
 obtain⟨⟨x,n⟩,t,i⟩:=a9 e;refine⟨p,l,h,x,n,R,S,t,λg y T o=>?_⟩;cases x with
 | true=>rw[Wg rfl] at i ⊢;exact⟨g,l,n,c,s,R.mono T,o,i,λj w u v=>k j w (T.trans u) v⟩
 | false=>rw[Wh (by simp)] at i ⊢;cases i;exact k g y T o
def MC{d:List Expr}(r:ST X a mt)(q:SW X (.BoolOp .Or (b::d) pos) mu):SW X (.BoolOp .Or (a::b::d) pos) (ET mt mu):=(Rw r q).imp λσ H Q ⟨p,l,h,c,s,R,S,e,k⟩=>by
 obtain⟨⟨x,n⟩,t,i⟩:=a9 e;refine⟨p,l,h,x,n,R,S,t,λg y T o=>?_⟩;cases x with
 | false=>rw[Wh (by simp)] at i ⊢;exact⟨g,l,n,c,s,R.mono T,o,i,λj w u v=>k j w (T.trans u) v⟩
 | true=>rw[Wg rfl] at i ⊢;cases i;exact k g y T o
def SW.st(h:SW X a mt):ST X a mt:=PW.pt h
def jh{op}(h:SE X a ma):SE X (.BoolOp op [a] pos) ma:=Oz h
def ji{g:List Expr}(t:SE X a ma)(s:SE X (.BoolOp .And (b::g) pos) mb):SE X (.BoolOp .And (a::b::g) pos) (qC ma mb):=(OF t s).imp λσ H Q ⟨q,l,h,d,u,R,S,e,k⟩=>by
 obtain⟨⟨x,n⟩,w,i⟩:=a9 e;obtain⟨c,rfl,i⟩:=Ex i;refine⟨q,l,h,.bl c,n,R,S,w,λv z ⟨j,T,o,r⟩=>?_⟩;cases r;refine⟨c,rfl,?_⟩;cases c with
 | true=>rw[Wg rfl] at i ⊢;exact⟨j,l,n,d,u,R.mono T,o,i,λv y p=>k v y (p.step T)⟩
 | false=>rw[Wh (by simp)] at i ⊢;cases i;exact k _ _ ⟨j,T,o,.bl _⟩
def Q3{g:List Expr}(t:SE X a ma)(s:SE X (.BoolOp .Or (b::g) pos) mb):SE X (.BoolOp .Or (a::b::g) pos) (Vb ma mb):=(Rz t s).imp λσ H Q ⟨q,l,h,d,u,R,S,e,k⟩=>by
 obtain⟨⟨x,n⟩,w,i⟩:=a9 e;obtain⟨c,rfl,i⟩:=Ex i;refine⟨q,l,h,.bl c,n,R,S,w,λv z ⟨j,T,o,r⟩=>?_⟩;cases r;refine⟨c,rfl,?_⟩;cases c with
 | false=>rw[Wh (by simp)] at i ⊢;exact⟨j,l,n,d,u,R.mono T,o,i,λv y p=>k v y (p.step T)⟩
 | true=>rw[Wg rfl] at i ⊢;cases i;exact k _ _ ⟨j,T,o,.bl _⟩
noncomputable def LS(a:EM):EM:=λd h=>(a d h).bind λp=>match p.1 with
 | .bl c=>some (.bl (!c),p.2)
 | _=>none
def GU(n:SE X a ma):SE X (.UnaryOp .Not a pos) (LS ma):=(OA n).imp λσ H Q ⟨j,l,h,d,s,R,S,e,k⟩=>by
 obtain⟨⟨x,o⟩,p,i⟩:=a9 e;obtain⟨c,rfl,i⟩:=Ex i;cases i;refine⟨j,l,h,.bl c,o,R,S,p,λv t ⟨g,T,q,r⟩=>?_⟩;cases r;exact⟨c,rfl,k _ _ ⟨g,T,q,.bl _⟩⟩
def Q7(s:ST X c mt)(u:SE X a ma)(t:SE X b mb):SE X (.IfExp c a b pos) (xn mt ma mb):=(HS s u t).imp λσ H Q ⟨r,j,h,d,o,R,S,e,k⟩=>by
 obtain⟨⟨x,l⟩,w,i⟩:=a9 e;refine⟨r,j,h,x,l,R,S,w,λg y T q=>?_⟩;cases x with
 | true=>rw[Wg rfl] at i ⊢;exact⟨g,j,l,d,o,R.mono T,q,i,λv n p=>k v n (p.step T)⟩
 | false=>rw[Wh (by simp)] at i ⊢;exact⟨g,j,l,d,o,R.mono T,q,i,λv n p=>k v n (p.step T)⟩
noncomputable def zA(d:D)(h:MH):Option Bool:=match d with
 | .bb=>some false
 | .bl b=>some b
 | .int i=>some (i !=0)
 | .str x=>if x.length<=sizeLine then some ((x.length:Int) !=0) else none
 | .tup xs=>some (!xs.isEmpty)
 | .dv g=>some (!g.isEmpty)
 | .ob n=>match h[n]? with
  | some (.lst xs)=>some (!xs.isEmpty)
  | some (.dct g)=>some (!g.isEmpty)
  | _=>none
 | .lv xs=>some (!xs.isEmpty)
 | .ro xs=>some (!xs.isEmpty)
 | .ty _=>none
def iT(a:EM):TM:=λd h=>(a d h).bind λp=>(zA p.1 p.2).map λc=>(c,p.2)
theorem bj.isEmpty(t:bj K ρ H us ds):us.isEmpty=ds.isEmpty:=by cases t <;> rfl
def JW{K:FR}{ρ:Ad}{H:Hp}{h:MH}{v:V}{d:D}{c:Bool}(S:bP K ρ h H)(r:Rep K ρ H v d)(e:zA d h=some c):Qj K v H c:=by
 cases r with
 | bb=>cases e;exact rfl
 | bl b=>cases e;exact rfl
 | int i=>cases e;exact rfl
 | str p=>
  unfold zA at e
  by_cases z:‹Str›.length<=sizeLine
  ·simp only[Wg z] at e;cases e;exact⟨z,rfl⟩
  ·simp only[Wh z] at e;cases e
 | ty n=>exact cX e
 | tup g l=>cases e;exact .inr (.inl ⟨_,g.sq,by rw[l.isEmpty]⟩)
 | lv g n l=>cases e;exact .inl ⟨_,fN.of g,by rw[l.isEmpty]⟩
 | ro g l=>cases e;exact .inl ⟨_,g.sq,by rw[l.isEmpty]⟩
 | dv g n l=>cases e;exact .inr (.inr ⟨_,g,by rw[l.isEmpty]⟩)
 | ob hn=>
  unfold zA at e;rename_i a n;cases q:h[n]? with
  | none=>simp only[q] at e;cases e
  | some o=>
   have x:=S.at_ n a o hn q;cases o with
   | lst ds=>simp only[q] at e;cases e;obtain⟨k,j,l⟩:=x;exact .inl ⟨_,fN.of j,by rw[l.isEmpty]⟩
   | dct ds=>simp only[q] at e;cases e;obtain⟨k,j,l⟩:=x;exact .inr (.inr ⟨_,j,by rw[l.isEmpty]⟩)
   | dcH ds=>simp only[q] at e;cases e
def pH(o:SE X a ma)(n:∀d,isTrue a X.env d=(do let v<-d;standAt a.pos;holding [v] (truthy v)):=by intro _;ac_nf):ST X a (iT ma):=(HC o n).imp λσ H Q ⟨j,l,h,c,y,R,S,e,k⟩=>by
 obtain⟨⟨x,p⟩,u,t⟩:=a9 e;obtain⟨z,s,q⟩:=dS t;cases q;exact⟨j,l,h,x,p,R,S,u,λv w ⟨g,T,i,r⟩=>⟨c,JW i r s,k g w T i⟩⟩
end
mutual
noncomputable def Md:D->D->Bool
 | .bb,.bb=>true
 | .bl a,.bl b=>a==b
 | .int a,.int b=>a==b
 | .str a,.str b=>decide (a=b)
 | .ty a,.ty b=>a==b
 | .tup a,.tup b=>zi a b
 | .lv a,.lv b=>zi a b
 | .ro a,.ro b=>zi a b
 | .dv a,.dv b=>Jw a b
 | .ob a,.ob b=>a==b
 | _,_=>false
noncomputable def zi:List D->List D->Bool
 | [],[]=>true
 | a::r,b::s=>Md a b&&zi r s
 | _,_=>false
noncomputable def Jw:List (Key×D)->List (Key×D)->Bool
 | [],[]=>true
 |(k,a)::r,(j,b)::s=>decide (k=j)&&Md a b&&Jw r s
 | _,_=>false
end
mutual
theorem EA:∀(a b:D),Md a b=true->a=b
 | .bb,b,h=>by cases b <;> first | rfl |(cases h;done)
 | .bl x,b,h=>by cases b <;> first | exact congrArg _ (eq_of_beq h) |(cases h;done)
 | .int x,b,h=>by cases b <;> first | exact congrArg _ (eq_of_beq h) |(cases h;done)
 | .str x,b,h=>by cases b <;> first | exact congrArg _ (Xk h) |(cases h;done)
 | .ty x,b,h=>by cases b <;> first | exact congrArg _ (eq_of_beq h) |(cases h;done)
 | .ob x,b,h=>by cases b <;> first | exact congrArg _ (eq_of_beq h) |(cases h;done)
 | .tup x,b,h=>by cases b <;> first | exact congrArg _ (jV _ _ h) |(cases h;done)
 | .lv x,b,h=>by cases b <;> first | exact congrArg _ (jV _ _ h) |(cases h;done)
 | .ro x,b,h=>by cases b <;> first | exact congrArg _ (jV _ _ h) |(cases h;done)
 | .dv x,b,h=>by cases b <;> first | exact congrArg _ (zj _ _ h) |(cases h;done)
theorem jV:∀(a b:List D),zi a b=true->a=b
 | [],b,h=>by cases b <;> first | rfl |(cases h;done)
 | x::r,b,h=>by
  cases b with
  | nil=>cases h
  | cons y s=>have h:=WE.mp h;rw[EA _ _ h.1,jV _ _ h.2]
theorem zj:∀(a b:List (Key×D)),Jw a b=true->a=b
 | [],b,h=>by cases b <;> first | rfl |(cases h;done)
 |(k,x)::r,b,h=>by
  cases b with
  | nil=>cases h
  | cons y s=>
   obtain⟨j,y⟩:=y;have h:=WE.mp h;have g:=WE.mp h.1;rw[Xk g.1,EA _ _ g.2,zj _ _ h.2]
end
mutual
theorem xC:∀(a:D),Md a a=true
 | .bb=>rfl
 | .bl x=>X8 x
 | .int x=>X8 x
 | .str x=>WI rfl
 | .ty x=>X8 x
 | .ob x=>X8 x
 | .tup x=>fC x
 | .lv x=>fC x
 | .ro x=>fC x
 | .dv x=>qI x
theorem fC:∀(a:List D),zi a a=true
 | []=>rfl
 | x::r=>WE.mpr ⟨xC x,fC r⟩
theorem qI:∀(a:List (Key×D)),Jw a a=true
 | []=>rfl
 |(k,x)::r=>WE.mpr ⟨WE.mpr ⟨WI rfl,xC x⟩,qI r⟩
end
def Jv:MO->MO->Bool
 | .lst a,.lst b=>zi a b
 | .dct a,.dct b=>Jw a b
 | .dcH a,.dcH b=>zi (a.map (·.1)) (b.map (·.1))&&zi (a.map (·.2)) (b.map (·.2))
 | _,_=>false
theorem Ab:∀{a b:List (D×D)},a.map (·.1)=b.map (·.1)->a.map (·.2)=b.map (·.2)->a=b
 | [],[],_,_=>rfl
 | [],_::_,h,_=>by cases h
 | _::_,[],h,_=>by cases h
 |(x,y)::a,(u,v)::b,h,g=>by
  obtain⟨c,d⟩:=List.cons.inj h;obtain⟨g1,g2⟩:=List.cons.inj g;dsimp only at c g1;rw[c,g1,Ab d g2]
def Ey(h:Jv a b=true):a=b:=by
 cases a <;> cases b <;> first |(cases h;done) | skip
 ·rw[jV _ _ h]
 ·rw[zj _ _ h]
 ·have h:=WE.mp h;rw[Ab (jV _ _ h.1) (jV _ _ h.2)]
def xA(a:MO):Jv a a=true:=by
 cases a with
 | lst x=>exact fC x
 | dct x=>exact qI x
 | dcH x=>exact WE.mpr ⟨fC _,fC _⟩
def zk:MH->MH->Bool
 | [],[]=>true
 | a::r,b::s=>Jv a b&&zk r s
 | _,_=>false
theorem Ez:∀{a b:MH},zk a b=true->a=b
 | [],b,h=>by cases b <;> first | rfl | simp[zk] at h
 | x::r,b,h=>by
  cases b with
  | nil=>simp[zk] at h
  | cons y s=>simp[zk] at h;rw[Ey h.1,Ez h.2]
noncomputable def bU:SM:=λa h=>some (.nx,a,h)
noncomputable def Kk:SM:=λa h=>some (.bk,a,h)
noncomputable def Ha:SM:=λ_ _=>none
noncomputable def ak(a b:SM):SM:=λc h=>(a c h).bind λr=>match r.1 with
 | .nx=>b r.2.1 r.2.2
 | _=>some r
noncomputable def aP(i:Nat)(e:EM):SM:=λa h=>(e a h).bind λp=>some (.nx,a.set i (some p.1),p.2)
noncomputable def fi(e:EM)(g:GM):SM:=λa h=>(e a h).bind λp=>(g p.1 a p.2).bind λq=>some (.nx,q.1,q.2)
noncomputable def cJ(e:EM):SM:=λa h=>(e a h).bind λp=>some (.nx,a,p.2)
noncomputable def aC(e:EM):SM:=λa h=>(e a h).bind λp=>some (.rt p.1,a,p.2)
noncomputable def eL(t:TM)(a b:SM):SM:=λc h=>(t c h).bind λp=>if p.1 then a c p.2 else b c p.2
noncomputable def gN(i:Nat):GM:=λd a h=>some (a.set i (some d),h)
abbrev Gu:=List D->DS->MH->Option (DS×MH)
noncomputable def bo:Gu:=λb a h=>match b with
 | []=>some (a,h)
 | _=>none
noncomputable def ag(g:GM)(u:Gu):Gu:=λb a h=>match b with
 | []=>none
 | d::r=>(g d a h).bind λp=>u r p.1 p.2
noncomputable def gT(n:Nat)(u:Gu):GM:=λd a h=>match d with
 | .tup xs=>if xs.length=n then u xs a h else none
 | _=>none
abbrev W:=List (Nat×MO)
abbrev IM:=DS->MH->Option (List D×W×MH)
def kc:W->MH->Bool
 | [],_=>true
 |(n,o)::r,h=>(match h[n]? with | some u=>Jv u o | none=>false)&&kc r h
def oE(ws:W)(g:GM)(b:SM):List D->SM
 | [],a,h=>if kc ws h then some (.nx,a,h) else none
 | x::r,a,h=>if kc ws h then(g x a h).bind λq=>(b q.1 q.2).bind λz=>match z.1 with
  | .nx=>oE ws g b r z.2.1 z.2.2
  | .ct=>oE ws g b r z.2.1 z.2.2
  | .bk=>some (.nx,z.2.1,z.2.2)
  | .rt d=>some (.rt d,z.2.1,z.2.2)
  else none
def l8(i:IM)(g:GM)(b:SM):SM:=λa h=>(i a h).bind λp=>oE p.2.1 g b p.1 a p.2.2
noncomputable def gy(c:TM)(b:SM):Nat->SM
 | 0,_,_=>none
 | n+1,a,h=>(c a h).bind λp=>if p.1 then(b a p.2).bind λz=>match z.1 with
   | .nx=>gy c b n z.2.1 z.2.2
   | .ct=>gy c b n z.2.1 z.2.2
   | .bk=>some (.nx,z.2.1,z.2.2)
   | .rt d=>some (.rt d,z.2.1,z.2.2)
  else some (.nx,a,p.2)
section
variable {X:Cx} {a b c e tg iter:Expr} {es:List Expr} {st:Stmt} {sts rest:List Stmt} {pos:Pos} {ma mb:EM} {mt:TM} {ms mu:SM} {m:AM} {g:GM} {gs:Gu}
def fu:JR X [] bU:=KC.imp λE σ H ⟨d,i,h,fl,f,j,R,S,e,k⟩=>by
 cases e;exact k d H (.refl _ _) S σ R
def ND:SS X (.Break pos) Kk:=HH.imp λE σ H ⟨d,i,h,fl,f,j,R,S,e,k⟩=>by
 cases e;exact k d H (.refl _ _) S σ R
def GI:SS X st Ha:=HF.imp λE σ H ⟨f,i,h,fl,d,j,R,S,e,k⟩=>by cases e
def NV(hh:JN X.K (ak ms mu) E σ H):QN (JN X.K ms) (JN X.K mu) E σ H:=by
 obtain⟨o,p,h,fl,t,w,R,S,e,k⟩:=hh;obtain⟨⟨x,n,u⟩,r,q⟩:=a9 e;cases x with
 | nx=>exact⟨o,p,h,.nx,n,u,R,S,r,λf l i j v A=>⟨f,n,u,fl,t,w,A,j,q,λs C y z=>k s C (i.trans y) z⟩⟩
 | bk=>cases q;exact⟨o,p,h,.bk,_,_,R,S,r,λf l i j=>k f l i j⟩
 | ct=>cases q;exact⟨o,p,h,.ct,_,_,R,S,r,λf l i j=>k f l i j⟩
 | rt d=>cases q;exact⟨o,p,h,.rt d,_,_,R,S,r,λf l i j=>k f l i j⟩
def ab(f:SS X st ms)(d:JR X rest mu):JR X (st::rest) (ak ms mu):=(HD f d).imp λ_ _ _=>NV
def aE(d:SS X st ms):JR X [st] ms:=KA d
def Ho(hh:JN X.K (aP i ma) E σ H):J2 (tM X.K ma) (AD i) E σ H:=by
 obtain⟨j,n,h,fl,l,t,R,S,e,k⟩:=hh;obtain⟨⟨x,p⟩,r,q⟩:=a9 e;cases q;exact⟨j,n,h,x,p,R,S,r,λv H1 ⟨d,f,s,o⟩=>k d H1 f s _ ((R.mono f).set o i)⟩
def NC(k:X.N.Nodup)(hi:X.N[i]?=some x)(d:Loc X.env.scope x)(j:SE X e ma)(f:swapsWith e (some (.Name x pos')) pos.line X.env=pure false:=by ac_nf)(h:X.fn x=true\/X.env.scope.names.lookup x=some .local:=by first | exact .inl rfl | exact .inr rfl | assumption):SS X (.Assign [.Name x pos'] e pos) (aP i ma):=(Oh k hi d j f h).imp λ_ _ _=>Ho
def Kh(o:X.N.Nodup)(hi:X.N[i]?=some x)(l:Loc X.env.scope x)(n:X.fn x=true\/X.env.scope.names.lookup x=some .local:=by first | exact .inl rfl | exact .inr rfl | assumption):SG X (.Name x pos) (gN i):=
 (KZ o hi l n).imp λv σ H Q ⟨f,p,h,d,j,q,R,S,r,e,k⟩=>by
  cases e;exact k f H _ (.refl _ _) S (R.set r i)
inductive Na(K:FR)(m:Gu)(vs:List V)(σ:L2.St)(H:Hp)(Q:L2.St->Hp->Prop):Prop where
 | mk (ρ δ h ds δ' h'):cE K ρ H σ δ->bP K ρ h H->ay K ρ H vs ds->(m ds δ h=some (δ',h'))->(∀ρ' H' σ',de ρ H ρ' H'->bP K ρ' h' H'->cE K ρ' H' σ' δ'->Q σ' H')->Na K m vs σ H Q
noncomputable def Ug(K:FR)(m:Gu):Nb:=λf d H Q=>Na K m f d H Q
def To(X:Cx)(es:List Expr)(m:Gu):Prop:=Mo X es (Ug X.K m)
def _root_.L2.Mo.imp{X:Cx}{e:List Expr}{t t':Nb}(h:Mo X e t)(i:∀v σ H Q,t' v σ H Q->t v σ H Q):Mo X e t':=λd s σ H v u Q I r q=>h d s σ H v u Q I r (i v σ H Q q)
def jf:To X [] bo:=KY.imp λv σ H Q ⟨f,j,h,d,i,l,R,S,r,e,k⟩=>by
 cases r with
 | nil=>cases e;exact⟨rfl,k f H σ (.refl _ _) S R⟩
 | cons _ _=>cases e
def cH(i:SG X e g)(w:To X es gs)(u:(assignEach (e::es) X.env).map (·.2)=assign e X.env::(assignEach es X.env).map (·.2):=by ac_nf):To X (e::es) (ag g gs):=(HM i w u).imp λv σ H Q ⟨s,t,h,d,o,x,R,S,r,e,k⟩=>by
 cases r with
 | nil=>cases e
 | cons r rs=>
  obtain⟨⟨f,i⟩,z,y⟩:=a9 e;exact⟨_,_,rfl,s,t,h,_,f,i,R,S,r,z,λn I q p E F=>⟨n,f,i,_,o,x,F,E,rs.mono p,y,λl G j A C R2=>k l G j (p.trans A) C R2⟩⟩
def pJ(t:X.calm=true)(h:To X es gs)(hn:(assignEach es X.env).length=n:=by ac_nf)(i:(assignEach es X.env).findIdx? (·.1)=none:=by ac_nf):SG X (.Tuple es k0 pos) (gT n gs):=
 (Ot t h hn i).imp λv σ H Q ⟨o,p,h,d,f,u,R,S,r,e,k⟩=>by
  cases r <;> first |(exact absurd e (by intro z;cases z)) | skip
  rename_i a q j s l _;unfold gT at e;dsimp only at e
  by_cases z:j.length=n
  ·rw[Wg z] at e;exact⟨a,q,rfl,s.sq,by rw[l.length];exact z,o,p,h,j,f,u,R,S,l,e,k⟩
  ·rw[Wh z] at e;cases e
def iB(w:SE X e ma)(u:SG X tg g)(t:swapsWithSole [tg] e pos.line X.env=pure false:=by ac_nf)(s:swappedStores [tg] e X.env=pure none:=by ac_nf)
  (d:(assignEach [tg] X.env).map (·.2)=[assign tg X.env]:=by ac_nf):SS X (.Assign [tg] e pos) (fi ma g):=(Ol w u t s d).imp λE σ H ⟨o,l,h,fl,q,M,R,S,e,k⟩=>by
 obtain⟨⟨x,d⟩,C,A⟩:=a9 e;obtain⟨⟨p,L⟩,y,z⟩:=a9 A;cases z;exact⟨o,l,h,x,d,R,S,C,λv H1 ⟨j,n,I,r⟩=>⟨j,l,d,x,_,_,R.mono n,I,r,y,λi J f F G R2=>k i J (n.trans F) G f R2⟩⟩
def nR(o:SE X e ma)(n:swapsWith e none pos.line X.env=pure false:=by ac_nf):SS X (.Expr e pos) (cJ ma):=(KH o n).imp λE σ H ⟨i,l,h,fl,j,u,R,S,e,k⟩=>by
 obtain⟨⟨x,p⟩,r,q⟩:=a9 e;cases q;exact⟨i,l,h,x,p,R,S,r,λv H1 ⟨d,f,s,t⟩=>k d H1 f s σ (R.mono f)⟩
def bG(n:SE X e ma):SS X (.Return (some e) pos) (aC ma):=(Oi n).imp λE σ H ⟨f,j,h,fl,i,t,R,S,e,k⟩=>by
 obtain⟨⟨x,o⟩,q,p⟩:=a9 e;cases p;exact⟨f,j,h,x,o,R,S,q,λv H1 ⟨d,r,s,l⟩=>k d H1 r s v l⟩
def eO(v:ST X c mt)(y:JR X sa ms)(w:JR X sb mu):SS X (.If c sa sb pos) (eL mt ms mu):=(Rx v y w).imp λE σ H ⟨u,n,h,fl,i,s,R,S,e,k⟩=>by
 obtain⟨⟨x,o⟩,z,j⟩:=a9 e;refine⟨u,n,h,x,o,R,S,z,λf A l t=>?_⟩;cases x with
 | true=>rw[Wg rfl] at j ⊢;exact⟨f,n,o,fl,i,s,R.mono l,t,j,λd r p q=>k d r (l.trans p) q⟩
 | false=>rw[Wh (by simp)] at j ⊢;exact⟨f,n,o,fl,i,s,R.mono l,t,j,λd r p q=>k d r (l.trans p) q⟩
structure Qr(K:FR)(J:It)(ρ:Ad)(H:Hp)(ws:W)(xs:List D):Prop where
 run:∀ρ1 H1 h1,Ch ρ H ρ1 H1->bP K ρ1 h1 H1->kc ws h1=true->∀i:Nat,(xs.length<=i->J.stop i H1)/\∀x,xs[i]?=some x->J.go i H1/\∀v H2,J.Mw i H1 v H2->de ρ1 H1 ρ1 H2/\bP K ρ1 h1 H2/\Rep K ρ1 H2 v x
inductive Tf(K:FR)(m:IM)(σ:L2.St)(H:Hp)(R:It->Hp->Prop):Prop where
 | mk (ρ δ h xs ws h'):cE K ρ H σ δ->bP K ρ h H->(m δ h=some (xs,ws,h'))->(∀J ρ1 H1,de ρ H ρ1 H1->bP K ρ1 h' H1->Qr K J ρ1 H1 ws xs->R J H1)->Tf K m σ H R
def MB(K:FR)(m:IM):TI:=λd H R=>Tf K m d H R
def SI(X:Cx)(tg iter:Expr)(m:IM):Prop:=PI X tg iter (MB X.K m)
def _root_.L2.PI.imp(h:PI X tg e t)(i:∀σ H Q,t' σ H Q->t σ H Q):PI X tg e t':=λd s σ H R I q=>h d s σ H R I (i σ H R q)
def NW(hh:JN X.K (l8 mi g ms) E σ H):QT (MB X.K mi) (EU X.K g) (JN X.K ms) E σ H:=by
 obtain⟨ρ,δ,h,fl,z,U,R,S,e,k⟩:=hh;obtain⟨⟨s,L,h1⟩,e1,e2⟩:=a9 e;refine⟨ρ,δ,h,s,L,h1,R,S,e1,λJ I H1 Z S1 It=>?_⟩;refine⟨λi m F y=>∃j p w,m=s.length-i/\i<=s.length/\de I H1 j y/\cE X.K j y F p/\bP X.K j w y/\oE L g ms (s.drop i) p w=some (fl,z,U),⟨_,I,δ,h1,rfl,WL _,.refl _ _,R.mono Z,S1,e2⟩,?_⟩;rintro i m F y ⟨j,p,w,rfl,hi,O,R2,S2,u⟩;cases q:s.drop i with
 | nil=>
  rw[q] at u;unfold oE at u
  by_cases M:kc L w=true
  ·rw[Wg M] at u;cases u;have hl:s.length<=i:=by have:=congrArg List.length q;rw[Yq,Xm] at this;lia
   exact .inl ⟨(It.run j y _ O S2 M i).1 hl,k j y (Z.trans O) S2 F R2⟩
  ·rw[Wh M] at u;cases u
 | cons x r=>
  rw[q] at u;unfold oE at u
  by_cases M:kc L w=true
  ·rw[Wg M] at u;have hx:s[i]?=some x:=by
    have:=congrArg (λl=>l[0]?) q
    simpa using this
   have hlt:i < s.length:=(V9.mp hx).1;have hr:s.drop (i+1)=r:=by
    have:=congrArg List.tail q
    simpa using this
   obtain⟨⟨P,h3⟩,e4,e5⟩:=a9 u;obtain⟨⟨f4,t,N⟩,e6,Y⟩:=a9 e5;obtain⟨hgo,hy⟩:=(It.run j y w O S2 M i).2 x hx;have NN:∀f n o,de j y f n->bP X.K f N n->cE X.K f n o t->oE L g ms r t N=some (fl,z,U)->
     ∃m',m' < s.length-i/\(∃j p w,m'=s.length-(i+1)/\i+1<=s.length/\de I H1 j n/\cE X.K j n o p/\bP X.K j w n/\oE L g ms (s.drop (i+1)) p w=some (fl,z,U)):=
    λf n o Q C R5 e8=>⟨s.length-(i+1),by lia,f,t,N,rfl,hlt,O.trans Q,R5,C,by rw[hr];exact e8⟩
   refine .inr ⟨hgo,λo n=>∃f,de j y f n/\bP X.K f N n/\cE X.K f n o t/\oE L g ms r t N=some (fl,z,U),λo n ⟨f,Q,C,R5,e8⟩=>NN f n o Q C R5 e8,λv H3 y3=>?_⟩;obtain⟨T3,S3,r3⟩:=hy v H3 y3;refine⟨j,p,w,x,P,h3,R2.mono T3,S3,r3,e4,λρ4 H4 σ4 T4 S4 R4=>?_⟩;refine⟨ρ4,P,h3,f4,t,N,R4,S4,e6,λf n Q C=>?_⟩;have A:de j y f n:=T3.trans (T4.trans Q);cases f4 with
   | nx=>exactλG T=>⟨f,A,C,T,Y⟩
   | ct=>exactλG T=>⟨f,A,C,T,Y⟩
   | bk=>cases Y;exactλG T=>k f n (Z.trans (O.trans A)) C G T
   | rt d=>cases Y;exactλv r=>k f n (Z.trans (O.trans A)) C v r
  ·rw[Wh M] at u;cases u
def fO(hp:PassesOwn (model X.prog X.w) X.A X.env X.xe)(i:X.calm=true)(hi:SI X tg iter d)(h:SG X tg g)(j:JR X body ms)(f:∀x,foldedSetIterable iter X.env x=pure x:=by intro _;ac_nf):SS X (.For tg iter body [] pos) (l8 d g ms):=
 (Oj hp i hi h j f).imp λ_ _ _=>NW
def Hm(hh:JN X.K (gy mt ms n) E σ H):GA (Bn X.K mt) (JN X.K ms) E σ H:=by
 obtain⟨M,Y,h,fl,z,O,R,S,e,k⟩:=hh;refine⟨λm o L=>∃i j F,de M H i L/\cE X.K i L o j/\bP X.K i F L/\gy mt ms m j F=some (fl,z,O),⟨n,M,Y,h,.refl _ _,R,S,e⟩,?_⟩;rintro m o L ⟨i,j,F,J,R2,S2,Q⟩;cases m with
 | zero=>cases Q
 | succ m=>
  obtain⟨⟨x,N⟩,e3,I⟩:=a9 Q;refine⟨i,j,F,x,N,R2,S2,e3,λq U u T=>?_⟩;cases x with
  | false=>rw[Wh (by simp)] at I ⊢;cases I;exact k q U (J.trans u) T o (R2.mono u)
  | true=>
   rw[Wg rfl] at I ⊢;obtain⟨⟨P,l,C⟩,e5,G⟩:=a9 I;refine⟨λy s=>∃f,de q U f s/\bP X.K f C s/\cE X.K f s y l/\gy mt ms m l C=some (fl,z,O),λy s ⟨f,t,w,R5,Z⟩=>⟨m,Yb m,f,l,C,J.trans (u.trans t),R5,w,Z⟩,?_⟩;refine⟨q,j,N,P,l,C,R2.mono u,T,e5,λf s t w=>?_⟩;cases P with
   | nx=>exactλp A=>⟨f,t,w,A,G⟩
   | ct=>exactλp A=>⟨f,t,w,A,G⟩
   | bk=>cases G;exactλp A=>k f s (J.trans (u.trans t)) w p A
   | rt d=>cases G;exactλv r=>k f s (J.trans (u.trans t)) w v r
def sZ(hp:PassesOwn (model X.prog X.w) X.A X.env X.xe)(d:ST X c mt)(f:JR X body ms):SS X (.While c body [] pos) (gy mt ms n):=(HE hp d f).imp λ_ _ _=>Hm
end
end Sm
namespace L2
open PyProof.Rows
def Oq(hl:PE X l m):PI X u l (λσ H R=>m σ H λx d=>∃a,x=.ref a/\(((∃xs,fN X.K d a xs)/\R (Vn X.K a) d)\/((∃xs,jc X.K d a xs)/\R (Vm X.K a) d))):=by
 intro f s σ H R I h;refine cU (hl f s σ H _ I h) λv s1 ⟨x,d,c,r,i⟩=>?_;obtain⟨a,e,i⟩:=i;subst e;cases r;rcases i with⟨⟨xs,j⟩,q⟩ |⟨⟨xs,j⟩,q⟩
 ·obtain⟨g,rv,p,t⟩:=c.list j;refine YM p.isList ?_;refine⟨s1.heap.objs.size,[s1.heap.objs.size],_,_,d,rfl,c.kept (t':=s1.toks) λb o e=>Wa _ e,EL a _,⟨_,Ww _ rfl,rfl,rfl⟩,λb k=>?_,q⟩;have e:b=s1.heap.objs.size:=by simpa using k
  subst e;exact c.wq (Wj _) (c.bL.fresh (Wj _))
 ·obtain⟨g,rv,p,t⟩:=c.tuple j;refine Y1 (show s1.heap.IsTuple a g.toArray from p) ?_;refine⟨s1.heap.objs.size,[s1.heap.objs.size],_,_,d,rfl,c.kept (t':=s1.toks) λb o e=>Wa _ e,Bj a _,⟨_,Ww _ rfl,rfl,rfl⟩,λb k=>?_,q⟩;have e:b=s1.heap.objs.size:=by simpa using k
  subst e;exact c.wq (Wj _) (c.bL.fresh (Wj _))
end L2
namespace Sm
open L2
noncomputable def df(d:D)(h:MH):Option (List D×W):=match d with
 | .lv xs=>some (xs,[])
 | .ro xs=>some (xs,[])
 | .tup xs=>some (xs,[])
 | .ob n=>match h[n]? with
  | some (.lst xs)=>some (xs,[(n,.lst xs)])
  | _=>none
 | _=>none
def jQ(e:EM):IM:=λa h=>(e a h).bind λp=>(df p.1 p.2).map λq=>(q.1,q.2,p.2)
noncomputable def Cr(m:AM):IM:=λa h=>(m a h).bind λp=>match p.1 with
 | [.int j]=>if -(2^62)<=j/\j < 2^62 then some ((List.range j.toNat).map λ(k:Nat)=>D.int (k:Int),[],p.2) else none
 | [.int i,.int j]=>if -(2^62)<=i/\i < 2^62/\-(2^62)<=j/\j < 2^62 then some ((List.range (j-i).toNat).map λ(k:Nat)=>D.int (i+(k:Int)),[],p.2) else none
 | _=>none
def yL(hl:∀a b c,Ch ρ H a b->bP K a c b->kc ws c=true->∃vs,ay K a b vs xs/\(∀i:Nat,vs.length<=i->J.stop i b)/\∀(i:Nat) v,vs[i]?=some v->J.go i b/\∀u d,J.Mw i b u d->d=b/\u=v):Qr K J ρ H ws xs:=by
 refine⟨λa b c T S n i=>?_⟩;obtain⟨vs,l,h,f⟩:=hl a b c T S n;refine⟨λm=>h i (by rw[l.length];exact m),λx j=>?_⟩;obtain⟨v,k,r⟩:=l.got j;obtain⟨g,y⟩:=f i v k;refine⟨g,λu d e=>?_⟩;obtain⟨rfl,rfl⟩:=y u d e;exact⟨.refl _ _,S,r⟩
def Pk(hl:∀b c d,Ch ρ H b c->bP K b d c->kc ws d=true->∃vs,ay K b c vs xs/\fN K c a vs):Qr K (Vn K a) ρ H ws xs:=
 yL λb c d T S h=>by
  obtain⟨vs,l,q⟩:=hl b c d T S h;refine⟨vs,l,λi g=>⟨vs,q,g⟩,λi v f=>⟨⟨vs,v,q,f⟩,λu j ⟨e,y⟩=>⟨e,?_⟩⟩⟩;have:=y vs q;rw[f] at this;exact(Option.some.inj this).symm
def Ph(hl:∀b c d,Ch ρ H b c->bP K b d c->kc ws d=true->∃vs,ay K b c vs xs/\jc K c a vs):Qr K (Vm K a) ρ H ws xs:=
 yL λb c d T S h=>by
  obtain⟨vs,l,q⟩:=hl b c d T S h;refine⟨vs,l,λi g=>⟨vs,q,g⟩,λi v f=>⟨⟨vs,v,q,f⟩,λu j ⟨e,y⟩=>⟨e,?_⟩⟩⟩;have:=y vs q;rw[f] at this;exact(Option.some.inj this).symm
def L6(a:kc [(n,o)] h=true):h[n]?=some o:=by
 unfold kc at a;cases q:h[n]? with
 | none=>rw[q] at a;cases a
 | some u=>
  rw[q] at a;simp[kc] at a;rw[Ey a]
inductive SeqAt(K:FR)(H:Hp)(a:Addr)(vs:List V):Bool->Prop where
 | l:fN K H a vs->SeqAt K H a vs true
 | t:jc K H a vs->SeqAt K H a vs false
noncomputable def uG:D->Bool
 | .tup _=>false
 | _=>true
def jg(S:bP K ρ h H)(r:Rep K ρ H v d)(e:df d h=some (xs,ws)):∃a,v=.ref a/\(∃vs,SeqAt K H a vs (uG d)/\ay K ρ H vs xs)/\
  ∀c j f,Ch ρ H c j->bP K c f j->kc ws f=true->∃vs,ay K c j vs xs/\SeqAt K j a vs (uG d):=by
 cases r with
 | tup g l=>
  cases e;refine⟨_,rfl,⟨_,.t g.sq,l⟩,λc j f T m _=>?_⟩;cases(Rep.tup g l).mono T with
  | tup f k=>exact⟨_,k,.t f.sq⟩
 | lv g n l=>
  cases e;refine⟨_,rfl,⟨_,.l (fN.of g),l⟩,λc j f T m _=>?_⟩;cases(Rep.lv g n l).mono T with
  | lv f _ k=>exact⟨_,k,.l (fN.of f)⟩
 | ro g l=>
  cases e;refine⟨_,rfl,⟨_,.l g.sq,l⟩,λc j f T m _=>?_⟩;cases(Rep.ro g l).mono T with
  | ro f k=>exact⟨_,k,.l f.sq⟩
 | @ob a n hn=>
  unfold df at e;dsimp only at e;cases q:h[n]? with
  | none=>rw[q] at e;cases e
  | some o=>
   rw[q] at e;cases o with
   | dct _=>exact cX e
   | dcH _=>exact cX e
   | lst y=>
    cases e;obtain⟨vs,w,l⟩:=S.at_ n a _ hn q;refine⟨a,rfl,⟨vs,.l (fN.of w),l⟩,λc j f T m s=>?_⟩;obtain⟨us,u,p⟩:=m.at_ n a _ (T.pre n a hn) (L6 s);exact⟨us,p,.l (fN.of u)⟩
 | bb=>exact cX e
 | bl b=>exact cX e
 | int i=>exact cX e
 | str x=>exact cX e
 | ty x=>exact cX e
 | dv _ _ _=>exact cX e
section
variable {X:Cx} {a b c e tg iter:Expr} {es:List Expr} {pos:Pos} {ma mb:EM} {mt:TM} {ms mu:SM} {m:AM} {g:GM} {gs:Gu}
def mO(h:SE X e ma):SI X tg e (jQ ma):=(Oq h).imp λσ H Q ⟨A,C,h,xs,ws,N,R,S,e,k⟩=>by
 obtain⟨⟨x,F⟩,L,J⟩:=a9 e;obtain⟨⟨M,w⟩,I,G⟩:=dS J;cases G;refine⟨A,C,h,x,F,R,S,L,λv H1 ⟨i,z,s,E⟩=>?_⟩;obtain⟨a,rfl,⟨y,q,l⟩,st⟩:=jg s E I;refine⟨a,rfl,?_⟩;generalize uG x=b at q st;cases q with
 | l q=>exact .inl ⟨⟨y,q⟩,k _ i H1 z s (Pk λd u o p r n=>by obtain⟨us,j,f⟩:=st d u o p r n;cases f with | l f=>exact⟨us,j,f⟩)⟩
 | t q=>exact .inr ⟨⟨y,q⟩,k _ i H1 z s (Ph λd u o p r n=>by obtain⟨us,j,f⟩:=st d u o p r n;cases f with | t f=>exact⟨us,j,f⟩)⟩
theorem lP:∀(ns:List Int),ay K ρ H (ns.map V.int) (ns.map D.int)
 | []=>.nil
 | _::r=>.cons (.int _) (lP r)
def Pj(lo:Int)(n:Nat):Qr K (TV lo n) ρ H [] ((List.range n).map λ(k:Nat)=>D.int (lo+(k:Int))):=by
 refine yL λf t x T S w=>⟨(List.range n).map λ(k:Nat)=>V.int (lo+(k:Int)),?_,λi l=>?_,λi v h=>?_⟩
 ·have:=lP (K:=K) (ρ:=f) (H:=t) ((List.range n).map λ(k:Nat)=>lo+(k:Int));rw[Y0,Y0] at this;exact this
 ·rw[Wc,WK] at l;exact l
 ·rw[Wt] at h;obtain⟨j,s,r⟩:=dS h;obtain⟨d,o⟩:=V9.mp s;rw[WK] at d;rw[Aab] at o;subst o;subst r;exact⟨d,λu y ⟨p,q⟩=>⟨p,q⟩⟩
def E9(l:ay K ρ H vs [.int j]):vs=[.int j]:=by
 cases l with
 | cons r l=>cases l;cases r;rfl
def iV(u:Gl X "range")(hm:X.mg "range"=none)(v:SA X [a] m)(s:starEach [a] X.env=[(false,eval a X.env)]:=by ac_nf)(hl:mr m 1):SI X tg (.Call (.Name "range" p) [a] [] pos) (Cr m):=
 (Fo u hm v s).imp λσ H Q ⟨n,r,h,xs,ws,E,R,S,e,k⟩=>by
  obtain⟨⟨x,w⟩,o,f⟩:=a9 e;refine⟨n,r,h,x,w,R,S,o,λC i q y A l=>?_⟩
  match x,hl _ _ _ _ o,f,l with
  | [d],t,f,l=>
   cases d <;> first | exact absurd f (by intro z;cases z) | skip
   rename_i j;dsimp only at f
   by_cases z:-(2^62)<=j/\j < 2^62
   ·rw[Wg z] at f;cases f;refine⟨j,E9 l,z.1,z.2,k _ i q y A ?_⟩;have:=Pj (K:=X.K) (ρ:=i) (H:=q) 0 j.toNat
    simpa using this
   ·rw[Wh z] at f;cases f
noncomputable def mI(caps:List (Option Nat))(δ:DS):DS:=caps.map λo=>o.bind λi=>(δ[i]?).join
noncomputable def cV:TM:=λ_ h=>some (true,h)
def bO(ws:W)(g:GM)(c:TM)(e:EM):List D->DS->MH->Option (List D×MH)
 | [],_,h=>if kc ws h then some ([],h) else none
 | x::r,d,h=>if kc ws h then(g x d h).bind λq=>(c q.1 q.2).bind λt=>if t.1 then(e q.1 t.2).bind λy=>(bO ws g c e r q.1 y.2).map λz=>(y.1::z.1,z.2) else bO ws g c e r q.1 t.2 else none
def fb(caps:List (Option Nat))(i:IM)(g:GM)(c:TM)(e:EM):AM:=λd h=>(i d h).bind λp=>(bO p.2.1 g c e p.1 (mI caps d) p.2.2).bind λq=>if q.1.length<=sizeLine then some q else none
theorem cE.qH(R:cE K ρ H σ δ)(caps:List (Option Nat)):cE K ρ H (qH caps σ) (mI caps δ):=by
 refine⟨by simp[L2.qH,mI],λi d hd=>?_⟩;unfold mI at hd;rw[Wt] at hd;obtain⟨o,l,f⟩:=dS hd;cases o with
 | none=>exact cX f
 | some j=>
  have k:δ[j]?=some (some d):=AaS.mp f;obtain⟨v,h,r⟩:=R.at_ j d k;refine⟨v,?_,r⟩;unfold L2.qH;rw[Wt,l];simp[h]
def Qz(X:Cx)(d:List Expr)(m:TM):Prop:=JS X d (Bn X.K m)
def eA:Qz X [] cV:=λd s f H Q I hh=>by
 obtain⟨i,j,h,b,l,R,S,e,k⟩:=hh;cases e;exact KU d s f H Q I (k i H (.refl _ _) S)
def Dh(h:ST X c mt):Qz X [c] mt:=KS h
def Ds(hh:tM X.K (nB (fb caps mi g mt ma)) σ H Q):GC caps (MB X.K mi) (EU X.K g) (Bn X.K mt) (tM X.K ma) σ H Q:=by
 obtain⟨ρ,δ,h,d,h',R,S,ee,k⟩:=hh;obtain⟨⟨out,h0⟩,ea,e0⟩:=dS ee;cases e0;obtain⟨⟨G,ws,h1⟩,e1,eb⟩:=a9 ea;obtain⟨⟨ys,E⟩,e2,o⟩:=a9 eb;dsimp only at e2 o
 by_cases hz:ys.length<=sizeLine
 ·rw[Wg hz] at o;cases o;refine⟨ρ,δ,h,G,ws,h1,R,S,e1,λJ f Z T1 S1 It l hl=>?_⟩;have nl:¬f.has l:=S1.fresh hl;have Tl:Ch f Z (f.keep l) (upd Z l (.lst [])):=Ch.keep hl;refine⟨λi m τ2 p=>∃(j:List Addr)(L:DS)(E:MH)(C:List V)(as bs:List D),m=G.length-i/\i<=G.length/\Ch f Z ⟨j,l::f.rs⟩ p/\(∀b∈f.rs,p b=Z b)/\cE X.K ⟨j,l::f.rs⟩ p τ2 L/\bP X.K ⟨j,l::f.rs⟩ E p/\
    p l=some (.lst C)/\ay X.K ⟨j,l::f.rs⟩ p C as/\out=as++bs/\bO ws g mt ma (G.drop i) L E=some (bs,h0),
   ⟨_,f.ob,mI caps δ,h1,[],[],out,rfl,WL _,Tl,λb I=>az λz=>nl (.inr (z ▸ I)),((R.mono T1).qH caps).mono Tl,S1.keep hl,aH,.nil,rfl,e2⟩,?_⟩
  rintro i m τ2 p ⟨j,L,E,C,as,bs,rfl,hi,T2,P,R2,S2,T,l2,eo,o⟩;have s:∀b∈f.rs,b∈l::f.rs:=λb I=>Wf _ I;have C2:Ch ⟨j,l::f.rs⟩ p ⟨j,f.rs⟩ p:=Ch.free s;have T2':de f Z ⟨j,f.rs⟩ p:=⟨T2.trans C2,rfl,P⟩;have S2':bP X.K ⟨j,f.rs⟩ E p:=S2.free s;cases q:G.drop i with
  | nil=>
   rw[q] at o;unfold bO at o
   by_cases U:kc ws E=true
   ·rw[Wg U] at o;cases o;rw[Xb] at eo;subst eo;have hle:G.length<=i:=by have:=congrArg List.length q;rw[Yq,Xm] at this;lia
    refine .inl ⟨(It.run _ p _ T2 S2 U i).1 hle,k _ _ ⟨_,T1.trans T2',S2',.lv T (λz=>?_) (l2.mono C2)⟩⟩;rcases z with z | z
    ·exact(S2.vF l We).2 z
    ·exact nl (.inr z)
   ·rw[Wh U] at o;cases o
  | cons x r=>
   rw[q] at o;unfold bO at o
   by_cases U:kc ws E=true
   ·rw[Wg U] at o;have hx:G[i]?=some x:=by
     have:=congrArg (λl=>l[0]?) q
     simpa using this
    have hlt:i < G.length:=(V9.mp hx).1;have hr:G.drop (i+1)=r:=by
     have:=congrArg List.tail q
     simpa using this
    obtain⟨⟨w,h3⟩,e4,e5⟩:=a9 o;obtain⟨⟨t,h4⟩,e6,e7⟩:=a9 e5;dsimp only at e4 e5 e6 e7;obtain⟨hgo,hy⟩:=(It.run _ p E T2 S2 U i).2 x hx;refine .inr ⟨hgo,λτ5 N=>∃(n:List Addr)(h5:MH)(C:List V)(as bs:List D),Ch f Z ⟨n,l::f.rs⟩ N/\(∀b∈f.rs,N b=Z b)/\cE X.K ⟨n,l::f.rs⟩ N τ5 w/\bP X.K ⟨n,l::f.rs⟩ h5 N/\
     N l=some (.lst C)/\ay X.K ⟨n,l::f.rs⟩ N C as/\out=as++bs/\bO ws g mt ma r w h5=some (bs,h0),?_,?_⟩
    ·rintro τ5 N ⟨n,h5,vs5,as5,bs5,T5,O,R5,S5,hl5,l5,eo5,e5⟩;exact⟨G.length-(i+1),by lia,n,w,h5,vs5,as5,bs5,rfl,hlt,T5,O,R5,S5,hl5,l5,eo5,by rw[hr];exact e5⟩
    ·intro v H3 y3;obtain⟨T3,S3,r3⟩:=hy v H3 y3;refine⟨⟨j,l::f.rs⟩,L,E,x,w,h3,R2.mono T3,S3,r3,e4,λρ4 H4 τ4 T4 S4 R4=>?_⟩;refine⟨ρ4,w,h3,t,h4,R4,S4,e6,λρ5 N T5 S5=>?_⟩;have A:de ⟨j,l::f.rs⟩ p ρ5 N:=T3.trans (T4.trans T5);obtain⟨n,O⟩:=ρ5;have Y:O=l::f.rs:=A.rs;subst Y;cases t with
     | false=>
      rw[Wh (by simp)] at e7;refine Pm ?_;exact⟨n,h4,C,as,bs,T2.trans A.toCh,λb I=>(A.res b (s b I)).trans (P b I),R4.mono T5,S5,(A.res l We).trans T,l2.mono A.toCh,eo,e7⟩
     | true=>
      rw[Wg rfl] at e7;refine Pl ?_;obtain⟨⟨y,h6⟩,e8,e9⟩:=a9 e7;obtain⟨⟨zs,h7⟩,e10,e11⟩:=dS e9;cases e11;refine⟨⟨n,l::f.rs⟩,w,h4,y,h6,R4.mono T5,S5,e8,λu H6 ⟨ρ6,T6,S6,r6⟩=>?_⟩;have F:de ⟨j,l::f.rs⟩ p ρ6 H6:=A.trans T6;obtain⟨M,rs6⟩:=ρ6;have Y:rs6=l::f.rs:=F.rs;subst Y;have hl6:H6 l=some (.lst C):=(F.res l We).trans T;have hml:l∈(⟨M,l::f.rs⟩:Ad).rs:=We;have hlen:C.length < sizeLine:=by
       have h1:=l2.length;have E:=congrArg List.length eo;rw[Wn,Wq] at E
       lia
      have Cp:Ch ⟨M,l::f.rs⟩ H6 ⟨M,l::f.rs⟩ (upd H6 l (.lst (C++[u]))):=Ch.put hml;refine⟨C,hl6,hlen,M,h6,C++[u],as++[y],zs,(T2.trans F.toCh).trans Cp,λb I=>?_,((R4.mono T5.toCh).mono T6.toCh).mono Cp,S6.put hml,aH,((l2.mono F.toCh).snoc r6).mono Cp,by rw[eo];simp,e10⟩;rw[az (λ(z:b=l)=>nl (.inr (z ▸ I)))];exact(F.res b (s b I)).trans (P b I)
   ·rw[Wh U] at o;cases o
 ·rw[Wh hz] at o;cases o
end
end Sm
namespace Sm
open L2 PyProof.Rows
section
variable {X:Cx} {a b c e tg iter elt:Expr} {es:List Expr} {pos:Pos} {ma mb:EM} {mt:TM} {ms mu:SM} {m:AM} {g:GM} {gs:Gu}
def eP(C:bp X N' caps scope)(n:X.calm=true)(hi:SI X tg iter i)(k:∀C d f fp pl,SG (g9 X N' scope C d f fp pl) tg g)(h:∀C d f fp pl,Qz (g9 X N' scope C d f fp pl) ifs mt)(l:∀C d f fp pl,SE (g9 X N' scope C d f fp pl) elt ma)(j:∀x,foldedSetIterable iter X.env x=pure x:=by intro _;ac_nf):
  SE X (.ListComp elt [⟨tg,iter,ifs,0⟩] scope pos) (nB (fb caps i g mt ma)):=(HR (g:=EU X.K g) (tc:=Bn X.K mt) (te:=tM X.K ma) C n hi k h l j).imp λ_ _ _=>Ds
def Kc(u:X.N.Nodup)(l:X.N[i]?=some y)(o:X.env.scope.names.lookup y=some .local)(C:bp X N' caps scope)(t:X.calm=true)(hi:SI X tg iter n)(r:∀C d f fp pl,SG (g9 X N' scope C d f fp pl) tg g)(k:∀C d f fp pl,Qz (g9 X N' scope C d f fp pl) ifs mt)(s:∀C d f fp pl,SE (g9 X N' scope C d f fp pl) elt ma)(j:swapsWith (.ListComp elt [⟨tg,iter,ifs,0⟩] scope pos) (some (.Name y py)) h.line X.env=pure true:=by ac_nf)(p:∀x,foldedSetIterable iter X.env x=pure x:=by intro _;ac_nf):
  SS X (.Assign [.Name y py] (.ListComp elt [⟨tg,iter,ifs,0⟩] scope pos) h) (aP i (nB (fb caps n g mt ma))):=
 (HG (g:=EU X.K g) (tc:=Bn X.K mt) (te:=tM X.K ma) u l o C t hi r k s j p).imp λE v H hh=>by
  have q:=Ho hh;exact Ds q
end
inductive Tn(K:FR)(n:Nat)(F:Fn)(vs:List V)(H:Hp)(Q:VK):Prop where
 | mk (ρ h ds d h'):bP K ρ h H->ay K ρ H vs ds->(ds.length=n)->(F ds h=some (d,h'))->(∀v H',dJ K ρ H h' d v H'->Q v H')->Tn K n F vs H Q
def eu(K:FR)(n:Nat)(F:Fn):Sp:=λa H Q _=>Tn K n F a H Q
def Kj(G:aV X.prog X.w X.K X.mg X.base dD k f fd ps (eu X.K n F))(hr:fD k X.A)(u:Gl X x)(hm:X.mg x=some (.ref f))(t:PySem.W.keepIn X.K (.ref f)=true)(z:Binds X.K fd ps [])
  (C:SA X (e::es) m) (hl:mr m n) (c:(x==("__debug__":Str))=false:=by ac_nf) (y:starEach (e::es) X.env=(false,eval e X.env)::starEach es X.env:=by ac_nf) (b:(backTo pos (starEach es X.env)).any (·.1)=false:=by ac_nf):
  SE X (.Call (.Name x p) (e::es) [] pos) (ai F m):=(K1 (E:=E0) G hr u hm t z .nil RE C c y b).imp λσ H Q ⟨l,o,h,d,I,R,S,e,q⟩=>by
 obtain⟨⟨j,g⟩,i,J⟩:=a9 e;refine⟨l,o,h,j,g,R,S,i,λr a N L M s=>?_⟩;show eu X.K n F (r++[]) N Q E0;rw[Xb];exact⟨a,g,j,d,I,M,s,hl _ _ _ _ i,J,λv O P=>q v O (P.step L)⟩
noncomputable def Kp(r:Fl×DS×MH):Option (D×MH):=match r.1 with
 | .rt d=>some (d,r.2.2)
 | .nx=>some (.bb,r.2.2)
 | _=>none
noncomputable def entry(len:Nat)(ds:List D):DS:=ds.map some++List.replicate (len-ds.length) none
def fM(len:Nat)(a:SM):Fn:=λb h=>(a (entry len b) h).bind Kp
theorem cE.entry{K:FR}{ρ:Ad}{H:Hp}{vs:List V}{ds:List D}(N:List Str)(l:ay K ρ H vs ds):cE K ρ H (L2.start N vs) (Sm.entry N.length ds):=by
 refine⟨by simp[L2.start,Sm.entry,l.length],λi d hd=>?_⟩;unfold Sm.entry at hd;unfold L2.start
 by_cases a:i < ds.length
 ·rw[Wx (by simpa using a),Wt] at hd;obtain⟨f,e,c⟩:=dS hd;cases c;obtain⟨v,b,r⟩:=l.got e;refine⟨v,?_,r⟩;rw[Wx (by rw[Wc,l.length];exact a),Wt,b];rfl
 ·rw[Wy (by simpa using a),AaT] at hd
  split at hd <;> cases hd
section
variable {P:Program} {w:World} {K:FR} {mg:Str->Option Value} {base:Heap} {x qual:Str} {st:Stmt} {f:Addr} {fd:FuncData} {N ps:List Str} {k:Nat}
def Pw(F:dZ K x qual st f fd)(z:ar N ps (ae st))(p:∀(a:Value)(A:Around)(outer:List Env)(s:Shared)(H:Hp)(E:XK),fD k (A.deeper (envOfC qual (ae st) s.heap.objs.size f a))->JR (AO dD P w K mg base N qual (ae st) f a A outer s H E).Qw (iq st) body):
  aV P w K mg base dD (k+1) f fd ps (eu K ps.length (fM N.length body)):=by
 refine F.ok z (λo H Q E h=>?_) (λa A outer s H o Q E hr h=>?_)
 ·obtain⟨i,h,j,d,u,S,r,hl,_⟩:=h;rw[r.length];exact hl
 ·obtain⟨i,h,j,d,u,S,r,hl,e,q⟩:=h;refine⟨_,p a A outer s H E hr,?_⟩;obtain⟨⟨fl,g,t⟩,y,c⟩:=a9 e;refine⟨i,entry N.length j,h,fl,g,t,cE.entry N r,S,y,λb G l m=>?_⟩;cases fl with
  | nx=>cases c;exactλn C=>q _ _ ⟨b,l,m,.bb⟩
  | rt d=>cases c;exactλv r=>q _ _ ⟨b,l,m,r⟩
  | bk=>cases c
  | ct=>cases c
end
mutual
noncomputable def gv(n:Nat):D->Bool
 | .tup xs=>dY n xs
 | .lv xs=>dY n xs
 | .ro xs=>dY n xs
 | .dv a=>L3 n a
 | .ob m=>decide (m < n)
 | _=>true
noncomputable def dY(n:Nat):List D->Bool
 | []=>true
 | x::r=>gv n x&&dY n r
noncomputable def L3(n:Nat):List (Key×D)->Bool
 | []=>true
 |(_,x)::r=>gv n x&&L3 n r
end
def xr(n:Nat):MO->Bool
 | .lst xs=>dY n xs
 | .dct a=>L3 n a
 | .dcH a=>dY n (a.map (·.1))&&dY n (a.map (·.2))
abbrev Ad.cut(ρ:Ad)(n:Nat):Ad:=⟨ρ.ob.take n,ρ.rs⟩
def Ad.oM{ρ:Ad}{n:Nat}{a:Addr}(h:(ρ.cut n).has a):ρ.has a:=h.elim (λm=>.inl (ZR m)) .inr
mutual
theorem Rep.cut{K:FR}{ρ:Ad}{H:Hp}{n:Nat}{v:V}{d:D}(r:Rep K ρ H v d)(c:gv n d=true):Rep K (ρ.cut n) H v d:=by
 cases r with
 | bb=>exact .bb
 | bl b=>exact .bl b
 | int i=>exact .int i
 | str x=>exact .str x
 | ty n=>exact .ty n
 | tup h l=>exact .tup (h.elim (λ⟨a,n⟩=>.inl ⟨a,λm=>n (Ad.oM m)⟩) .inr) (ay.cut l c)
 | lv h n l=>exact .lv h (λm=>n (Ad.oM m)) (ay.cut l c)
 | ro h l=>exact .ro (h.elim (λ⟨a,n⟩=>.inl ⟨a,λm=>n (Ad.oM m)⟩) .inr) (ay.cut l c)
 | dv h n l=>exact .dv h (λm=>n (Ad.oM m)) (bj.cut l c)
 | ob e=>exact .ob ((WX (Xk c)).trans e)
theorem ay.cut{K:FR}{ρ:Ad}{H:Hp}{n:Nat}{v:List V}{d:List D}(r:ay K ρ H v d)(c:dY n d=true):ay K (ρ.cut n) H v d:=by
 cases r with
 | nil=>exact .nil
 | cons r l=>have c:=WE.mp c;exact .cons (Rep.cut r c.1) (ay.cut l c.2)
theorem bj.cut{K:FR}{ρ:Ad}{H:Hp}{n:Nat}{v:List (Key×V)}{d:List (Key×D)}(r:bj K ρ H v d)(c:L3 n d=true):bj K (ρ.cut n) H v d:=by
 cases r with
 | nil=>exact .nil
 | cons r l=>have c:=WE.mp c;exact .cons (Rep.cut r c.1) (bj.cut l c.2)
end
mutual
theorem Rep.clean{K:FR}{ρ:Ad}{H:Hp}{v:V}{d:D}(r:Rep K ρ H v d):gv ρ.ob.length d=true:=by
 cases r with
 | tup h l=>exact ay.clean l
 | lv h n l=>exact ay.clean l
 | ro h l=>exact ay.clean l
 | dv h n l=>exact bj.clean l
 | ob e=>exact WI (V9.mp e).1
 | _=>rfl
theorem ay.clean{K:FR}{ρ:Ad}{H:Hp}{v:List V}{d:List D}(r:ay K ρ H v d):dY ρ.ob.length d=true:=by
 cases r with
 | nil=>rfl
 | cons r l=>exact WE.mpr ⟨Rep.clean r,ay.clean l⟩
theorem bj.clean{K:FR}{ρ:Ad}{H:Hp}{v:List (Key×V)}{d:List (Key×D)}(r:bj K ρ H v d):L3 ρ.ob.length d=true:=by
 cases r with
 | nil=>rfl
 | cons r l=>exact WE.mpr ⟨Rep.clean r,bj.clean l⟩
end
theorem Bh.cut{K:FR}{ρ:Ad}{H:Hp}{n:Nat}{a:Addr}{o:MO}(x:Bh K ρ H a o)(c:xr n o=true):Bh K (ρ.cut n) H a o:=by
 cases o with
 | lst ds=>obtain⟨b,e,l⟩:=x;exact⟨b,e,l.cut c⟩
 | dct ds=>obtain⟨b,e,l⟩:=x;exact⟨b,e,l.cut c⟩
 | dcH ds=>obtain⟨us,d,e,l,f,p⟩:=x;have c:=WE.mp c;exact⟨us,d,e,l.cut c.1,f.cut c.2,p⟩
theorem Bh.clean{K:FR}{ρ:Ad}{H:Hp}{a:Addr}{o:MO}(x:Bh K ρ H a o):xr ρ.ob.length o=true:=by
 cases o with
 | lst ds=>obtain⟨b,e,l⟩:=x;exact l.clean
 | dct ds=>obtain⟨b,e,l⟩:=x;exact l.clean
 | dcH ds=>obtain⟨us,d,e,l,c,p⟩:=x;exact WE.mpr ⟨l.clean,c.clean⟩
noncomputable def zB(n:Nat)(h:MH)(d:D):D:=match d with
 | .ob m=>if m < n then .ob m else match h[m]? with
  | some (.lst xs)=>.lv xs
  | some (.dct a)=>.dv a
  | _=>.ob m
 | d=>d
def leave(h:MH)(d:D)(h':MH):Option (D×MH):=
 if gv h.length (zB h.length h' d)&&(zk (h'.take h.length) h||(h'.take h.length).all (xr h.length)) then some (zB h.length h' d,h'.take h.length) else none
def MU(len:Nat)(a:SM):Fn:=λb h=>((a (entry len b) h).bind Kp).bind λp=>leave h p.1 p.2
theorem dJ.leave{K:FR}{ρ:Ad}{H H':Hp}{h i h':MH}{d d':D}{v:V}(S:bP K ρ h H)(p:dJ K ρ H i d v H')(e:Sm.leave h d i=some (d',h')):dJ K ρ H h' d' v H':=by
 obtain⟨c,T,k,r⟩:=p;unfold Sm.leave at e
 by_cases y:(gv h.length (zB h.length i d)&&(zk (i.take h.length) h||(i.take h.length).all (xr h.length)))=true
 ·rw[Wg y] at e;cases e;rw[WC] at y;obtain⟨g,s⟩:=y;have L:h.length<=i.length:=by
   rw[<-S.len,<-k.len];refine Nat.le_of_not_lt λC=>?_;have f:ρ.ob[c.ob.length]?=some ρ.ob[c.ob.length]:=Wl C;have:=(V9.mp (T.pre _ _ f)).1
   lia
  have u:∀(m:Nat) o,m < h.length->i[m]?=some o->xr h.length o=true:=by
   intro m o hm G;rw[XQ] at s;rcases s with s | s
   ·have f:=Ez s;have t:h[m]?=some o:=by rw[<-f,WX hm];exact G
    have A:m < ρ.ob.length:=by rw[S.len];exact hm
    have:=(S.at_ m _ o (Wl A) t).clean;rw[S.len] at this;exact this
   ·rw[XH] at s;exact s o (Wk (show(i.take h.length)[m]?=some o by rw[WX hm];exact G))
  have M:bP K (c.cut h.length) (i.take h.length) H':=by
   refine⟨by simp[k.len],k.nd.sublist (List.take_sublist _ _),λn a o f t=>?_,λb I=>⟨(k.vF b I).1,λm=>(k.vF b I).2 (ZR m)⟩⟩;have hn:n < h.length:=by
    have:=(V9.mp t).1;rw[WJ] at this
    lia
   have f:(c.ob.take h.length)[n]?=some a:=f;rw[WX hn] at f t;exact(k.at_ n a o f t).cut (u n o hn t)
  refine⟨c.cut h.length,⟨⟨λn a e=>?_,λb o n e=>?_⟩,T.rs,T.res⟩,M,?_⟩
  ·have hn:n < h.length:=by rw[<-S.len];exact(V9.mp e).1
   show(c.ob.take h.length)[n]?=some a;rw[WX hn];exact T.pre n a e
  ·obtain⟨n1,f⟩:=T.old b o n e;exact⟨λm=>n1 (Ad.oM m),f⟩
  ·cases d with
   | ob m=>
    unfold zB at g ⊢;dsimp only at g ⊢
    by_cases hm:m < h.length
    ·rw[Wg hm] at g ⊢;exact r.cut g
    ·rw[Wh hm] at g ⊢;cases r with
     | ob hn=>
      rename_i a;have F:¬(c.cut h.length).has a:=by
       intro z;rcases z with z | z
       ·obtain⟨j,w⟩:=List.getElem?_of_mem z;have E:j < h.length:=by
         have:=(V9.mp w).1;rw[WJ] at this
         lia
        rw[WX E] at w;have:=(Aai (V9.mp w).1 k.nd).mp (w.trans hn.symm)
        lia
       ·exact(k.vF a z).2 (Wk hn)
      cases q:i[m]? with
      | none=>rw[q] at g;exact absurd g (by simp[gv];lia)
      | some o=>
       have x:=k.at_ m a o hn q;cases o with
       | lst xs=>
        rw[q] at g;obtain⟨J,f,l⟩:=x;exact .lv f F (l.cut (by simpa [gv] using g))
       | dct xs=>
        rw[q] at g;obtain⟨J,f,l⟩:=x;exact .dv f F (l.cut (by simpa [gv] using g))
       | dcH xs=>rw[q] at g;exact absurd g (by simp[gv];lia)
   | _=>exact r.cut g
 ·rw[Wh y] at e;cases e
section
variable {P:Program} {w:World} {K:FR} {mg:Str->Option Value} {base:Heap} {x qual:Str} {st:Stmt} {f:Addr} {fd:FuncData} {N ps:List Str} {k:Nat}
def i4(G:aV P w K mg base dD k f fd ps (eu K ps.length (fM N.length body))):aV P w K mg base dD k f fd ps (eu K ps.length (MU N.length body)):=by
 refine G.imp λl H Q E hh=>?_;obtain⟨a,h,i,d,m,S,r,hl,e,q⟩:=hh;obtain⟨⟨d1,b⟩,g,c⟩:=a9 e;exact⟨a,h,i,d1,b,S,r,hl,g,λv j p=>q v j (p.leave S c)⟩
end
def spT(K:FR):Sp:=λb H Q _=>∃(a:Addr)(ns:List Int),b=[.ref a]/\fN K H a (ns.map V.int)/\ns.length<=63/\∀c,Q (.bl true) c
def Lo{P:Program}{w:World}{K:FR}{mg:Str->Option Value}{base:Heap}{k:Nat}{f:Addr}{d:FuncData}{ps:List Str}{F:Fn}(G:aV P w K mg base dD k f d ps (eu K 1 F))
  (i:∀ns:List Int,ns.length<=63->∃h',F [.ro (ns.map D.int)] []=some (.bl true,h')):aV P w K mg base dD k f d ps (spT K):=by
 refine G.imp λl H Q E hh=>?_;obtain⟨a,ns,rfl,c,hl,q⟩:=hh;obtain⟨h',e⟩:=i ns hl;refine⟨⟨[],[]⟩,[],[.ro (ns.map D.int)],.bl true,h',⟨rfl,AaD,λn a o e=>by simp at e,λb h=>absurd h (by simp)⟩,.cons (.ro ?_ (lP ns)) .nil,rfl,e,λv j ⟨g,T,S,r⟩=>?_⟩
 ·rcases c with c | c
  ·exact .inl ⟨c,λz=>z.elim (λz=>absurd z (by simp)) λz=>absurd z (by simp)⟩
  ·exact .inr (.inr c)
 ·cases r;exact q j
def Bf(h:MH)(d:D):Option PyData:=match d with
 | .ob n=>match h[n]? with
  | some (.lst xs)=>(md xs).map .list
  | _=>none
 | d=>qS d
mutual
theorem Rep.sy{K:FR}{ρ:Ad}{H:Hp}{v:V}{d:D}{p:PyData}(r:Rep K ρ H v d)(e:qS d=some p):CS K H v p/\p.canLay0=true:=by
 cases r with
 | bb=>cases e;exact⟨.bb,rfl⟩
 | bl b=>cases e;exact⟨.bl b,rfl⟩
 | int i=>cases e;exact⟨.int i,rfl⟩
 | str f=>cases e;exact⟨.str _,by simpa [PyData.canLay0] using f⟩
 | tup h l=>obtain⟨q,c,rfl⟩:=dS e;obtain⟨a,b⟩:=ay.sy l c;exact⟨.tup h.sq a,by simpa [PyData.canLay0] using b⟩
 | lv h n l=>obtain⟨q,c,rfl⟩:=dS e;obtain⟨a,b⟩:=ay.sy l c;exact⟨.lst (fN.of h) a,by simpa [PyData.canLay0] using b⟩
 | ro h l=>obtain⟨q,c,rfl⟩:=dS e;obtain⟨a,b⟩:=ay.sy l c;exact⟨.lst h.sq a,by simpa [PyData.canLay0] using b⟩
 | _=>exact cX e
theorem ay.sy{K:FR}{ρ:Ad}{H:Hp}{v:List V}{d:List D}{p:List PyData}(r:ay K ρ H v d)(e:md d=some p):vf K H v p/\PyData.canLayAll0 p=true:=by
 cases r with
 | nil=>cases e;exact⟨.nil,rfl⟩
 | cons r l=>
  obtain⟨a,g,f⟩:=a9 e;obtain⟨b,c,rfl⟩:=dS f;obtain⟨a1,a2⟩:=Rep.sy r g;obtain⟨i,h⟩:=ay.sy l c;exact⟨.cons a1 i,by simp[PyData.canLayAll0,a2,h]⟩
end
section
variable {K:FR} {ρ:Ad} {H:Hp} {h:MH} {v:V} {d:D}
def oa(S:bP K ρ h H)(r:Rep K ρ H v d)(e:Bf h d=some p):CS K H v p/\p.canLay0=true:=by
 cases r with
 | @ob a n hn=>
  unfold Bf at e;dsimp only at e;cases q:h[n]? with
  | none=>rw[q] at e;cases e
  | some o=>
   rw[q] at e;cases o with
   | dct _=>exact cX e
   | dcH _=>exact cX e
   | lst xs=>
    obtain⟨m,g,l⟩:=S.at_ n a _ hn q;obtain⟨b,f,c⟩:=dS e;subst c;obtain⟨k,j⟩:=l.sy f;exact⟨.lst (fN.of g) k,by simpa [PyData.canLay0] using j⟩
 | bb=>exact Rep.sy (Rep.bb (ρ:=ρ)) e
 | bl b=>exact Rep.sy (Rep.bl (ρ:=ρ) b) e
 | int i=>exact Rep.sy (Rep.int (ρ:=ρ) i) e
 | str x=>exact Rep.sy (Rep.str (ρ:=ρ) x) e
 | ty n=>exact Rep.sy (Rep.ty (ρ:=ρ) n) e
 | tup h l=>exact Rep.sy (.tup h l) e
 | lv h n l=>exact Rep.sy (.lv h n l) e
 | ro h l=>exact Rep.sy (.ro h l) e
 | dv h n l=>exact Rep.sy (.dv h n l) e
noncomputable def iY(d:D)(h:MH):Option (List D):=match d with
 | .lv xs=>some xs
 | .ob n=>match h[n]? with
  | some (.lst xs)=>some xs
  | _=>none
 | _=>none
def ig(S:bP K ρ h H)(r:Rep K ρ H v d)(e:iY d h=some xs):∃a vs,v=.ref a/\H a=some (.lst vs)/\ay K ρ H vs xs:=by
 cases r with
 | @ob a n hn=>
  unfold iY at e;dsimp only at e;cases q:h[n]? with
  | none=>rw[q] at e;cases e
  | some o=>
   rw[q] at e;cases o with
   | dct _=>exact cX e
   | dcH _=>exact cX e
   | lst c=>
    cases e;obtain⟨vs,b,l⟩:=S.at_ n a _ hn q;exact⟨a,vs,rfl,b,l⟩
 | lv h n l=>cases e;exact⟨_,_,rfl,h,l⟩
 | _=>exact cX e
noncomputable def dH(d:D)(h:MH):Option (List (Key×D)):=match d with
 | .dv a=>some a
 | .ob n=>match h[n]? with
  | some (.dct a)=>some a
  | _=>none
 | _=>none
def jS(S:bP K ρ h H)(r:Rep K ρ H v d)(e:dH d h=some xs):∃a vs,v=.ref a/\H a=some (.dK vs)/\bj K ρ H vs xs:=by
 cases r with
 | @ob a n hn=>
  unfold dH at e;dsimp only at e;cases q:h[n]? with
  | none=>rw[q] at e;cases e
  | some o=>
   rw[q] at e;cases o with
   | lst _=>exact cX e
   | dcH _=>exact cX e
   | dct c=>
    cases e;obtain⟨vs,b,l⟩:=S.at_ n a _ hn q;exact⟨a,vs,rfl,b,l⟩
 | dv h n l=>cases e;exact⟨_,_,rfl,h,l⟩
 | _=>exact cX e
def sm(S:bP K ρ h H)(r:Rep K ρ H v d)(e:df d h=some (xs,ws)):∃a vs,v=.ref a/\(fN K H a vs\/jc K H a vs)/\ay K ρ H vs xs:=by
 obtain⟨a,c,⟨vs,q,l⟩,_⟩:=jg S r e;refine⟨a,vs,c,?_,l⟩;generalize uG d=b at q;cases q with
 | l q=>exact .inl q
 | t q=>exact .inr q
noncomputable def oy:D->Option Key
 | .int i=>some (.inl i)
 | .str x=>some (.inr x)
 | _=>none
noncomputable def dk(kvs:List (Key×D))(k:Key):Option D:=(kvs.find? λa=>decide (a.1=k)).map (·.2)
noncomputable def putD(kvs:List (Key×D))(k:Key)(v:D):List (Key×D):=
 if(kvs.any λa=>decide (a.1=k))=true then kvs.map (λa=>if a.1=k then(a.1,v) else a) else kvs++[(k,v)]
def il(r:Rep K ρ H v d)(e:oy d=some k):v=kV k:=by
 cases r with
 | int i=>cases e;rfl
 | str x=>cases e;rfl
 | _=>exact cX e
theorem bj.val:∀{us:List (Key×V)} {kvs:List (Key×D)} (k:Key),bj K ρ H us kvs->(dk kvs k=none/\kg us k=none)\/∃d v,dk kvs k=some d/\kg us k=some v/\Rep K ρ H v d
 | _,_,k,.nil=>.inl ⟨rfl,rfl⟩
 | _,_,k,.cons (k:=j) (v:=v) (vs:=a) (d:=d) (ds:=ds) r l=>by
  by_cases z:j=k
  ·exact .inr ⟨d,v,by simp[dk,z],by simp[kg,z],r⟩
  ·have c:dk ((j,d)::ds) k=dk ds k:=by simp only[dk,Xp,z,decide_false]
   have b:kg ((j,v)::a) k=kg a k:=nK z;rw[c,b];exact bj.val k l
theorem bj.length:∀{us:List (Key×V)} {kvs:List (Key×D)},bj K ρ H us kvs->us.length=kvs.length
 | _,_,.nil=>rfl
 | _,_,.cons _ l=>by rw[Wq,Wq,bj.length l]
theorem bj.any(k:Key):∀{us:List (Key×V)} {kvs:List (Key×D)},bj K ρ H us kvs->(us.any λa=>decide (a.1=k))=(kvs.any λa=>decide (a.1=k))
 | _,_,.nil=>rfl
 | _,_,.cons _ l=>by rw[XY,XY,bj.any k l]
theorem bj.map(r:Rep K ρ H v d):∀{us:List (Key×V)} {kvs:List (Key×D)},bj K ρ H us kvs->bj K ρ H (us.map λa=>if a.1=k then(a.1,v) else a) (kvs.map λa=>if a.1=k then(a.1,d) else a)
 | _,_,.nil=>.nil
 | _,_,.cons (k:=j) q l=>by
  rw[Wo,Wo]
  by_cases z:j=k
  ·rw[Wg z,Wg z];exact .cons r (bj.map r l)
  ·rw[Wh z,Wh z];exact .cons q (bj.map r l)
theorem bj.append:∀{us vs:List (Key×V)} {ks ls:List (Key×D)},bj K ρ H us ks->bj K ρ H vs ls->bj K ρ H (us++vs) (ks++ls)
 | _,_,_,_,.nil,t=>t
 | _,_,_,_,.cons r l,t=>.cons r (bj.append l t)
def bj.put(l:bj K ρ H us kvs)(r:Rep K ρ H v d):bj K ρ H (putK us k v) (putD kvs k d):=by
 unfold putK putD;rw[l.any k]
 by_cases z:(kvs.any λa=>decide (a.1=k))=true
 ·rw[Wg z,Wg z];exact l.map r
 ·rw[Wh z,Wh z];exact l.append (.cons r .nil)
end
def IZ(d e:D)(h:MH):Option (D×MH):=match d,e with
 | .int i,.int j=>some (.int (i+j),h)
 | .str a,.str b=>if a.length+b.length<=sizeLine then some (.str (a++b),h) else none
 | .tup [],.tup _=>none
 | .tup (x::f),.tup c=>if f.length+1+c.length<=sizeLine then some (.tup (x::f++c),h) else none
 | d,e=>(iY d h).bind λf=>(iY e h).bind λc=>if f.length+c.length<=sizeLine then some (.lv (f++c),h) else none
noncomputable def IQ(d e:D)(h:MH):Option (D×MH):=match d,e with
 | .int i,.int j=>some (.int (i-j),h)
 | _,_=>none
noncomputable def ox(i j:Int):Bool:=(decide (-(2^64) < i)&&decide (i < 2^64))||(decide (-(2^64) < j)&&decide (j < 2^64))
def Py(d e:D)(h:MH):Option (D×MH):=match d,e with
 | .int i,.int j=>if ox i j then some (.int (i*j),h) else none
 | _,_=>none
noncomputable def wu(d e:D)(h:MH):Option (D×MH):=match d,e with
 | .int i,.int j=>if 0 < j then some (.int (i % j),h) else none
 | _,_=>none
noncomputable def IW(d e:D)(h:MH):Option (D×MH):=match d,e with
 | .int i,.int j=>if 0 < j/\j<=10^40 then some (.int (i / j),h) else none
 | _,_=>none
noncomputable def LH(d e:D)(h:MH):Option (D×MH):=match d,e with
 | .int i,.int j=>if 0<=j/\j<=1000000/\i.natAbs < 2^64 then some (.int (i^j.toNat),h) else none
 | _,_=>none
noncomputable def Jh(f:Int->Int->Bool)(d e:D)(h:MH):Option (D×MH):=match d,e with
 | .int i,.int j=>some (.bl (f i j),h)
 | _,_=>none
def LK:=Jh λi j=>decide (i < j)
def Vu:=Jh λi j=>decide (i<=j)
def Sg:=Jh λi j=>decide (j < i)
def TN:=Jh λi j=>decide (j<=i)
def LQ(d e:D)(h:MH):Option Bool:=(Bf h d).bind λa=>(Bf h e).bind λb=>if a.depth<=64/\b.depth<=64 then some (PyData.eqv a b) else none
noncomputable def U2:D->Bool
 | .bb=>true
 | _=>false
def oF(d e:D)(h:MH):Option (D×MH):=match e with
 | .bb=>some (.bl (U2 d),h)
 | _=>none
def gR(d e:D)(h:MH):Option (D×MH):=match e with
 | .bb=>some (.bl (!U2 d),h)
 | _=>none
noncomputable def cT(d:D)(h:MH):Option (D×MH):=match d with
 | .int i=>some (.int (-i),h)
 | _=>none
def inD(d e:D)(h:MH):Option Bool:=match dH e h with
 | some c=>(oy d).map λk=>(dk c k).isSome
 | none=>match d,e with
  | .str x,.str y=>some (!(Builtin.Str.occurrences y x 0 y.length 1).isEmpty)
  | d,e=>(df e h).bind λp=>(Bf h d).bind λa=>(md p.1).bind λbs=>if a.depth<=60/\PyData.depthAll bs<=60 then some (bs.any λb=>PyData.eqv b a) else none
def r8(d e:D)(h:MH):Option (D×MH):=(inD d e h).map λc=>(.bl c,h)
def yS(d e:D)(h:MH):Option (D×MH):=(inD d e h).map λc=>(.bl (!c),h)
def aB(d e:D)(h:MH):Option (D×MH):=match dH d h with
 | some a=>(oy e).bind λk=>(dk a k).map λz=>(z,h)
 | none=>match d,e with
  | .str z,.int i=>if z.length<=sizeLine then(hW z.cps.toList i).map λc=>(.str ⟨#[c]⟩,h) else none
  | d,.int i=>(df d h).bind λp=>(hW p.1 i).map λz=>(z,h)
  | _,_=>none
def kN{K:FR}{ρ:Ad}{H:Hp}{x:V}{i:Int}(r:Rep K ρ H x (.int i)):x=.int i:=by cases r;rfl
def BL{K:FR}{ρ:Ad}{H:Hp}{x:V}{i:Str}(r:Rep K ρ H x (.str i)):x=.str i/\PyData.strOk i=true:=by cases r with | str h=>exact⟨rfl,h⟩
def Hk{K:FR}{ρ:Ad}{H:Hp}{x:V}{ds:List D}(r:Rep K ρ H x (.tup ds)):∃a vs,x=.ref a/\TupAt K ρ H a vs/\ay K ρ H vs ds:=by cases r with | tup h l=>exact⟨_,_,rfl,h,l⟩
def yq(p:pA X g (rI C q))(r:∀d e h z h',f d e h=some (z,h')->∃i j,d=.int i/\e=.int j/\C i j/\h'=h/\∀ρ H,Rep X.K ρ H (q i j) z):ph X g f:=by
 intro a s b H x y v u Q I n m hh;obtain⟨ρ,h,d,e,z,h',S,rd,o,t,k⟩:=hh;obtain⟨i,j,rfl,rfl,c,rfl,l⟩:=r _ _ _ _ _ t;obtain rfl:=kN rd;obtain rfl:=kN o;exact p a s b H _ _ v u Q I n m ⟨i,j,rfl,rfl,c,k _ _ (.here S (l _ _))⟩
def om(o:pA X g (Kv q))(p:∀d e h z h',f d e h=some (z,h')->∃i j,d=.int i/\e=.int j/\h'=h/\∀ρ H,Rep X.K ρ H (q i j) z):ph X g f:=by
 intro a s b H x y v u Q I m l hh;obtain⟨ρ,h,d,e,z,h',S,rd,n,r,k⟩:=hh;obtain⟨i,j,rfl,rfl,rfl,c⟩:=p _ _ _ _ _ r;obtain rfl:=kN rd;obtain rfl:=kN n;exact o a s b H _ _ v u Q I m l ⟨i,j,rfl,rfl,k _ _ (.here S (c _ _))⟩
def OH:ph X (binaryOp .Sub) IQ:=om OQ λd e h z b a=>by
 cases d <;> first |(exact cX a) | skip
 cases e <;> first |(exact cX a) | skip
 cases a;exact⟨_,_,rfl,rfl,rfl,λ_ _=>.int _⟩
def OJ:ph X (binaryOp .Mult) Py:=yq OS λd e h z b a=>by
 cases d <;> first |(exact cX a) | skip
 cases e <;> first |(exact cX a) | skip
 rename_i i j;unfold Py at a;dsimp only at a
 by_cases c:ox i j=true
 ·rw[Wg c] at a;cases a;refine⟨i,j,rfl,rfl,?_,rfl,λ_ _=>.int _⟩;unfold ox at c;simp only[XQ,WC,XD] at c;exact c
 ·rw[Wh c] at a;cases a
def yo:ph X (binaryOp .Mod) wu:=yq OT λd e h z b a=>by
 cases d <;> first |(exact cX a) | skip
 cases e <;> first |(exact cX a) | skip
 rename_i i j;unfold wu at a;dsimp only at a
 by_cases c:0 < j
 ·rw[Wg c] at a;cases a;exact⟨i,j,rfl,rfl,c,rfl,λ_ _=>.int _⟩
 ·rw[Wh c] at a;cases a
def OM:ph X (binaryOp .FloorDiv) IW:=yq Ib λd e h z b a=>by
 cases d <;> first |(exact cX a) | skip
 cases e <;> first |(exact cX a) | skip
 rename_i i j;unfold IW at a;dsimp only at a
 by_cases c:0 < j/\j<=10^40
 ·rw[Wg c] at a;cases a;exact⟨i,j,rfl,rfl,c,rfl,λ_ _=>.int _⟩
 ·rw[Wh c] at a;cases a
def HY:ph X (binaryOp .Pow) LH:=yq OR λd e h z b a=>by
 cases d <;> first |(exact cX a) | skip
 cases e <;> first |(exact cX a) | skip
 rename_i i j;unfold LH at a;dsimp only at a
 by_cases c:0<=j/\j<=1000000/\i.natAbs < 2^64
 ·rw[Wg c] at a;cases a;exact⟨i,j,rfl,rfl,c,rfl,λ_ _=>.int _⟩
 ·rw[Wh c] at a;cases a
def Ei(a:Jh f d e h=some (z,h')):∃i j,d=.int i/\e=.int j/\h'=h/\z=.bl (f i j):=by
 cases d <;> first |(exact cX a) | skip
 cases e <;> first |(exact cX a) | skip
 cases a;exact⟨_,_,rfl,rfl,rfl,rfl⟩
def MQ:ph X (compareOp .Lt) LK:=om RG λd e h z b a=>by
 obtain⟨i,j,rfl,rfl,rfl,rfl⟩:=Ei a;exact⟨i,j,rfl,rfl,rfl,λ_ _=>.bl _⟩
def MR:ph X (compareOp .LtE) Vu:=om RH λd e h z b a=>by
 obtain⟨i,j,rfl,rfl,rfl,rfl⟩:=Ei a;exact⟨i,j,rfl,rfl,rfl,λ_ _=>.bl _⟩
def RF:ph X (compareOp .Gt) Sg:=om RI λd e h z b a=>by
 obtain⟨i,j,rfl,rfl,rfl,rfl⟩:=Ei a;exact⟨i,j,rfl,rfl,rfl,λ_ _=>.bl _⟩
def MS:ph X (compareOp .GtE) TN:=om RJ λd e h z b a=>by
 obtain⟨i,j,rfl,rfl,rfl,rfl⟩:=Ei a;exact⟨i,j,rfl,rfl,rfl,λ_ _=>.bl _⟩
def Gv:SX X (unaryOp .USub) (rU X.K cT):=by
 intro a s c H x v Q I e hh;obtain⟨f,h,d,z,g,S,rd,b,k⟩:=hh;cases rd <;> first |(exact cX b) | skip
 cases b;exact Nm a s c H _ v Q I e ⟨_,rfl,k _ _ (.here S (.int _))⟩
def P4(d e:D)(h:MH):Option (D×MH):=(iY d h).bind λb=>(iY e h).bind λa=>if b.length+a.length<=sizeLine then some (D.lv (b++a),h) else none
def Tx(d e:D)(h:MH)(p:D×MH):Prop:=(∃i j,d=.int i/\e=.int j)\/(∃a b,d=.str a/\e=.str b)\/(∃x f c,d=.tup (x::f)/\e=.tup c)\/P4 d e h=some p
def zm{d e:D}{h:MH}{p:D×MH}(z:P4 d e h=some p):Tx d e h p:=.inr (.inr (.inr z))
def IY{d e:D}{h:MH}{p:D×MH}(c:IZ d e h=some p):Tx d e h p:=by
 cases d with
 | int i=>cases e with
  | int j=>exact .inl ⟨i,j,rfl,rfl⟩
  | _=>exact zm c
 | str a=>cases e with
  | str b=>exact .inr (.inl ⟨a,b,rfl,rfl⟩)
  | _=>exact zm c
 | tup xs=>cases e with
  | tup f=>cases xs with
   | nil=>exact cX c
   | cons x xs=>exact .inr (.inr (.inl ⟨x,xs,f,rfl,rfl⟩))
  | _=>cases xs <;> exact zm c
 | _=>exact zm c
def ON:ph X (binaryOp .Add) IZ:=by
 intro f s o H x y v u Q I t r hh;obtain⟨Z,h,d,e,z,O,S,rd,C,g,k⟩:=hh;have n:((iY d h).bind λm=>(iY e h).bind λl=>if m.length+l.length<=sizeLine then some (D.lv (m++l),h) else none)=some (z,O)->wpAny (model X.prog X.w) X.A (binaryOp .Add v u) (EP X f o Q) X.xe s:=by
  intro g;obtain⟨m,Y,T⟩:=a9 g;obtain⟨l,U,G⟩:=a9 T
  by_cases c:m.length+l.length<=sizeLine
  ·rw[Wg c] at G;cases G;obtain⟨a,J,rfl,R,N⟩:=ig S rd Y;obtain⟨b,us,rfl,P,M⟩:=ig S C U;exact OV f s o H _ _ v u Q I t r ⟨a,b,J,us,rfl,rfl,R,P,by rw[N.length,M.length];exact c,λp hp=>k _ _ (.lv S (N.append M) hp)⟩
  ·rw[Wh c] at G;cases G
 rcases(IY g:(∃i j,d=.int i/\e=.int j)\/(∃a b,d=.str a/\e=.str b)\/(∃x m l,d=.tup (x::m)/\e=.tup l)\/P4 d e h=some (z,O)) with⟨i,j,rfl,rfl⟩ |⟨a,b,rfl,rfl⟩ |⟨x0,m,l,rfl,rfl⟩ | z
 ·cases g;obtain rfl:=kN rd;obtain rfl:=kN C;exact OW f s o H _ _ v u Q I t r ⟨_,_,rfl,rfl,k _ _ (.here S (.int _))⟩
 ·unfold IZ at g;dsimp only at g
  by_cases c:a.length+b.length<=sizeLine
  ·rw[Wg c] at g;cases g;obtain⟨rfl,F⟩:=BL rd;obtain⟨rfl,L⟩:=BL C;exact B8 f s o H _ _ v u Q I t r ⟨a,b,rfl,rfl,c,k _ _ (.here S (.str (EW F L)))⟩
  ·rw[Wh c] at g;cases g
 ·unfold IZ at g;dsimp only at g
  by_cases c:m.length+1+l.length<=sizeLine
  ·rw[Wg c] at g;cases g;obtain⟨a,J,rfl,F,q⟩:=Hk rd;obtain⟨b,us,rfl,L,E⟩:=Hk C;refine K7 f s o H _ _ v u Q I t r ⟨a,b,J,us,rfl,rfl,F.sq,L.sq,?_,?_,λz=>?_,λ_ p hp=>k _ _ (.tup S (q.append E) hp)⟩
   ·intro z;rw[z] at q;cases q
   ·rw[q.length,E.length];exact c
   ·rw[z] at E;cases E;rw[Xb] at k;exact k _ _ (.here S (.tup F q))
  ·rw[Wh c] at g;cases g
 ·exact n z
def lY(b:p.canLay0=true)(a:p.depth<=64):SeqAt.shaped p=true:=by
 unfold PySem.SeqAt.shaped;rw[b,WI a];rfl
def Dq{K:FR}{ρ:Ad}{H:Hp}{v:V}{d:D}(r:Rep K ρ H v d):decide (v=V.bb)=U2 d:=by
 cases r <;> rfl
def OK:ph X (compareOp .Is) oF:=by
 intro a s c H x y v u Q I g f hh;obtain⟨j,h,d,e,z,l,S,rd,i,b,k⟩:=hh;cases e <;> first |(exact cX b) | skip
 cases b;cases i;refine OU a s c H _ _ v u Q I g f ⟨rfl,?_⟩;rw[Dq rd];exact k _ _ (.here S (.bl _))
def K4:ph X (compareOp .IsNot) gR:=by
 intro a s c H x y v u Q I g f hh;obtain⟨j,h,d,e,z,l,S,rd,i,b,k⟩:=hh;cases e <;> first |(exact cX b) | skip
 cases b;cases i;refine K6 a s c H _ _ v u Q I g f ⟨rfl,?_⟩;rw[Dq rd];exact k _ _ (.here S (.bl _))
theorem xD{us:List Value}{ds:List PyData}{as:List Addr}(H:ReadsAll h us ds as)(a:∀u d as,u∈us->Reads h u d as->d∈ds->f u=PyData.eqv d p):us.any f=ds.any λb=>PyData.eqv b p:=by
 cases H with
 | nil=>rfl
 | cons r l=>rw[XY,XY,a _ _ _ We r We,xD l λu d as c hr hd=>a u d as (Wf _ c) hr (Wf _ hd)]
open Classical in
noncomputable def Ef(h:Heap)(p:PyData)(u:Value):Bool:=if q:∃d as,Reads h u d as/\d.canLay0=true then PyData.eqv q.choose p else false
def qA(r:Reads h u d as)(c:d.canLay0=true):Ef h p u=PyData.eqv d p:=by
 have q:∃d as,Reads h u d as/\d.canLay0=true:=⟨d,as,r,c⟩;unfold Ef;rw[dif_pos q];obtain⟨e,a,b⟩:=q.choose_spec;rw[PySem.SeqAt.Reads.unique _ _ _ _ _ b a r]
theorem cB:∀{ds:List PyData} {d:PyData},PyData.canLayAll0 ds=true->d∈ds->d.canLay0=true
 | x::r,d,c,m=>by
  simp only[PyData.canLayAll0,WC] at c;rcases Ws.mp m with rfl | m
  ·exact c.1
  ·exact cB c.2 m
theorem l3:∀{ds:List PyData} {d:PyData},d∈ds->d.depth<=PyData.depthAll ds
 | x::r,d,m=>by
  simp only[PyData.depthAll];rcases Ws.mp m with rfl | m
  ·lia
  ·have:=l3 m;lia
theorem lQ{us:List Value}{ds:List PyData}{as:List Addr}(H:ReadsAll h us ds as)(y:Value)(a:y∈us):∃d as,Reads h y d as/\d∈ds:=by
 cases H with
 | nil=>cases a
 | cons r l=>
  rcases Ws.mp a with rfl | a
  ·exact⟨_,_,r,We⟩
  ·obtain⟨d,as,a1,a2⟩:=lQ l y a;exact⟨d,as,a1,Wf _ a2⟩
def in_of(hu:X.A.units+64 < cLine)(I:L2.Inv X pins σ H s)(E:L2.RelV x v)(L:L2.RelV y u)(S:bP X.K ρ h H)(rd:Rep X.K ρ H x d)(M:Rep X.K ρ H y e){c:Bool}(n:inD d e h=some c){Q:Bool->Shared->Prop}(o:∀s',L2.Inv X pins σ H s'->Q c s'):
  wpAny (model X.prog X.w) X.A (compareOp .In v u) (λr s'=>∃c,r=.bool c/\Q c s') X.xe s/\wpAny (model X.prog X.w) X.A (compareOp .NotIn v u) (λr s'=>∃c,r=.bool (!c)/\Q c s') X.xe s:=by
 unfold inD at n;cases N:dH e h with
 | some kvs=>
  rw[N] at n;obtain⟨k,T,R⟩:=dS n;obtain⟨a,us,rfl,ha,l⟩:=jS S M N;obtain rfl:u=Value.ref a:=L;have ek:=il rd T;subst ek;have g:pv H a (kV k) (kg us k):=pv.k ha;have ec:(kg us k).isSome=c:=by
   rw[<-R];rcases l.val k with⟨G,F⟩ |⟨d,v,G,F,_⟩
   ·rw[G,F];rfl
   ·rw[G,F];rfl
  refine⟨Vc (by lia) I g E λs' Z=>⟨c,by rw[ec],o s' Z⟩,LV (by lia) I g E λs' Z=>⟨c,by rw[ec],o s' Z⟩⟩
 | none=>
  rw[N] at n;dsimp only at n;have q:((df e h).bind λp=>(Bf h d).bind λa=>(md p.1).bind λbs=>if a.depth<=60/\PyData.depthAll bs<=60 then some (bs.any λb=>PyData.eqv b a) else none)=some c->
    wpAny (model X.prog X.w) X.A (compareOp .In v u) (λr s'=>∃c,r=.bool c/\Q c s') X.xe s/\wpAny (model X.prog X.w) X.A (compareOp .NotIn v u) (λr s'=>∃c,r=.bool (!c)/\Q c s') X.xe s:=by
   intro n;obtain⟨⟨xs,ws⟩,T,R⟩:=a9 n;obtain⟨p,e3,e4⟩:=a9 R;obtain⟨bs,e5,J⟩:=a9 e4
   by_cases w:p.depth<=60/\PyData.depthAll bs<=60
   ·rw[Wg w] at J;cases J;obtain⟨a,vs,rfl,m,l⟩:=sm S M T;obtain rfl:u=Value.ref a:=L;obtain⟨r1,c1⟩:=oa S rd e3;obtain⟨r2,U⟩:=l.sy e5;obtain⟨as,ra⟩:=r1.reads I E;have z:∀f:List Value,Vals vs f->(∀y,y∈f->PySem.SeqAt.EqAt X.A.in1 s y v (Ef s.heap p y))/\f.any (Ef s.heap p)=bs.any λb=>PyData.eqv b p:=by
     intro f rv;obtain⟨bs',rb⟩:=r2.reads I rv;refine⟨λy C=>?_,xD rb λu d as _ hr hd=>qA hr (cB U hd)⟩;obtain⟨d,Y,hr,hd⟩:=lQ rb y C;rw[qA hr (cB U hd)];refine YX d p _ s y v Y as hr ra (cB U hd) c1 ?_;have G:=l3 hd;have F:min d.depth p.depth<=d.depth:=Y8 _ _;show X.A.units+1+min d.depth p.depth < cLine;have h3:=w.2
     lia
    rcases m with m | m
    ·obtain⟨f,rv,pl,_⟩:=I.list m;obtain⟨P,O⟩:=z f rv;have j:∀y,y∈f.toArray->PySem.SeqAt.EqAt X.A.in1 s y v (Ef s.heap p y):=λy C=>P y (by simpa using C);have i:f.toArray.any (Ef s.heap p)=bs.any λb=>PyData.eqv b p:=by rw[<-O];simp
     exact⟨PySem.SeqAt.in_listAt _ pl.isList j ⟨_,rfl,by rw[i];exact o s I⟩,PySem.SeqAt.notIn_listAt _ pl.isList j ⟨_,rfl,by rw[i];exact o s I⟩⟩
    ·obtain⟨f,rv,pl,_⟩:=I.tuple m;obtain⟨P,O⟩:=z f rv;have j:∀y,y∈f.toArray->PySem.SeqAt.EqAt X.A.in1 s y v (Ef s.heap p y):=λy C=>P y (by simpa using C);have i:f.toArray.any (Ef s.heap p)=bs.any λb=>PyData.eqv b p:=by rw[<-O];simp
     exact⟨PySem.SeqAt.in_tupleAt _ pl j ⟨_,rfl,by rw[i];exact o s I⟩,PySem.SeqAt.notIn_tupleAt _ pl j ⟨_,rfl,by rw[i];exact o s I⟩⟩
   ·rw[Wh w] at J;cases J
  split at n
  ·cases n;cases rd;cases M;obtain⟨t,rfl⟩:=E;obtain⟨t',rfl⟩:=L;exact⟨in_str ⟨_,rfl,o s I⟩,notIn_str ⟨_,rfl,o s I⟩⟩
  ·exact q n
def Ia(n:X.A.units+64 < cLine):ph X (compareOp .In) r8:=by
 intro a s i H x y v u Q I l j hh;obtain⟨w,h,d,e,z,C,S,rd,m,p,k⟩:=hh;obtain⟨c,t,q⟩:=dS p;cases q;refine cU (in_of n I l j S rd m t (Q:=λg b=>g=c/\L2.Inv X a i H b) λb f=>⟨rfl,f⟩).1 λr b ⟨g,hr,o,f⟩=>?_;subst hr;subst o;exact⟨.bl _,H,f,rfl,k _ _ (.here S (.bl _))⟩
def HZ(n:X.A.units+64 < cLine):ph X (compareOp .NotIn) yS:=by
 intro a s i H x y v u Q I l j hh;obtain⟨w,h,d,e,z,C,S,rd,m,p,k⟩:=hh;obtain⟨c,t,q⟩:=dS p;cases q;refine cU (in_of n I l j S rd m t (Q:=λg b=>g=c/\L2.Inv X a i H b) λb f=>⟨rfl,f⟩).2 λr b ⟨g,hr,o,f⟩=>?_;subst hr;subst o;exact⟨.bl _,H,f,rfl,k _ _ (.here S (.bl _))⟩
def Mf{K:FR}{ρ:Ad}{H:Hp}{vs:List V}{ds:List D}{i:Int}{d:D}(l:ay K ρ H vs ds)(e:hW ds i=some d):∃v,hW vs i=some v/\Rep K ρ H v d:=by
 unfold hW at e;obtain⟨j,c,b⟩:=a9 e;obtain⟨v,a,r⟩:=l.got b;exact⟨v,by unfold hW;rw[l.length,c];exact a,r⟩
def FY{d e z:D}{h h':MH}(a:aB d e h=some (z,h')):h'=h/\((∃kvs k,dH d h=some kvs/\oy e=some k/\dk kvs k=some z)\/(∃x i c,d=.str x/\e=.int i/\x.length<=sizeLine/\hW x.cps.toList i=some c/\z=.str ⟨#[c]⟩)\/∃i xs ws,e=.int i/\df d h=some (xs,ws)/\hW xs i=some z):=by
 unfold aB at a
 split at a
 ·obtain⟨m,j,g⟩:=a9 a;obtain⟨l,f,b⟩:=dS g;cases b;exact⟨rfl,.inl ⟨_,m,‹_›,j,f⟩⟩
 ·split at a
  ·split at a
   ·obtain⟨c,f,b⟩:=dS a;cases b;exact⟨rfl,.inr (.inl ⟨_,_,c,rfl,rfl,‹_›,f,rfl⟩)⟩
   ·cases a
  ·obtain⟨⟨xs,ws⟩,j,g⟩:=a9 a;obtain⟨l,f,b⟩:=dS g;cases b;exact⟨rfl,.inr (.inr ⟨_,xs,ws,rfl,j,f⟩)⟩
  ·cases a
def RV(hu:X.A.units+64 < cLine):QB X (rS X.K aB):=by
 intro b f j s t H x y v u Q I p o hh q;obtain⟨ρ,h,d,e,z,h',S,rd,E,Z,k⟩:=hh;obtain⟨rfl,T⟩:=FY Z;rcases T with⟨R,M,P,J,n⟩ |⟨x0,i,ch,rfl,rfl,c,n,rfl⟩ |⟨i,xs,ws,rfl,J,n⟩
 ·obtain⟨a,us,rfl,U,l⟩:=jS S rd P;obtain rfl:v=Value.ref a:=p;have Y:=il E J;subst Y;rcases l.val M with⟨G,N⟩ |⟨d',w,G,N,r⟩
  ·rw[G] at n;cases n
  ·rw[G] at n;cases n;have g:pv H a (kV M) (some w):=by rw[<-N];exact pv.k U
   exact tail_any (AN I g) Zj.lookup (F9 (by lia) I g o λw' s3 I3 C=>⟨w,H,I3,C,k _ _ (.here S r)⟩) q
 ·obtain⟨rfl,F⟩:=BL rd;obtain rfl:=kN E;exact Pf b f j s t H _ _ v u Q I p o ⟨x0,i,ch,rfl,rfl,c,n,k _ _ (.here S (.str (EV F n)))⟩ q
 ·obtain⟨a,L,rfl,m,l⟩:=sm S rd J;obtain⟨w,O,r⟩:=Mf l n;obtain rfl:=kN E;rcases m with m | m
  ·exact Lr b f j s t H _ _ v u Q I p o ⟨a,L,i,w,rfl,rfl,m,O,k _ _ (.here S r)⟩ q
  ·exact Pe b f j s t H _ _ v u Q I p o ⟨a,L,i,w,rfl,rfl,m,O,k _ _ (.here S r)⟩ q
def Q6(e:X.A.units+64 < cLine)(h:SE X a d)(g:SE X b c)(f:jY b:=by unfold jY;intro _ _;ac_nf):SE X (.Subscript a b pos) (ah aB d c):=(MM (RV e) h g f).imp λ_ _ _=>zV
abbrev PM:=DS->MH->Option (Option Int×MH)
noncomputable def sG:PM:=λ_ h=>some (none,h)
noncomputable def sH(e:EM):PM:=λa h=>(e a h).bind λp=>match p.1 with
 | .int i=>some (some i,p.2)
 | _=>none
inductive Td(K:FR)(m:PM)(σ:L2.St)(H:Hp)(Q:Option Int->Hp->Prop):Prop where
 | mk (ρ δ h b h'):cE K ρ H σ δ->bP K ρ h H->(m δ h=some (b,h'))->(∀ρ' H',de ρ H ρ' H'->bP K ρ' h' H'->Q b H')->Td K m σ H Q
noncomputable def VQ(K:FR)(m:PM):TO:=λa H Q=>Td K m a H Q
def SP'(X:Cx)(e:Option Expr)(m:PM):Prop:=PO X e (VQ X.K m)
def Dg:SP' X none sG:=λa s c H Q I hh=>by
 obtain⟨d,f,h,b,g,R,S,e,k⟩:=hh;cases e;exact KO a s c H Q I (k d H (.refl _ _) S)
def De(l:SE X e j):SP' X (some e) (sH j):=λa s f H Q I hh=>by
 obtain⟨g,i,h,b,q,R,S,e,k⟩:=hh;obtain⟨⟨x,p⟩,m,d⟩:=a9 e;cases x <;> first |(cases d;done) | skip
 cases d;refine KN l a s f H Q I ⟨g,i,h,_,_,R,S,m,λv o ⟨c,T,n,r⟩=>?_⟩;cases r;exact⟨_,rfl,k c o T n⟩
noncomputable def cutD(xs:List D)(lo hi:Option Int):List D:=(xs.drop (HT.cG xs.length 0 lo)).take (HT.cG xs.length xs.length hi-HT.cG xs.length 0 lo)
def Sf(d:D)(lo hi:Option Int)(h:MH):Option (D×MH):=match d with
 | .str z=>if z.length<=sizeLine then some (.str (Txt.slice z lo hi),h) else none
 | .tup xs=>if HT.cG xs.length 0 lo=0/\HT.cG xs.length xs.length hi=xs.length then none else some (.tup (cutD xs lo hi),h)
 | d=>(df d h).map λp=>(.lv (cutD p.1 lo hi),h)
inductive Tr(K:FR)(x:V)(lo hi:Option Int)(H:Hp)(Q:VK):Prop where
 | mk (ρ h d z h'):bP K ρ h H->Rep K ρ H x d->(Sf d lo hi h=some (z,h'))->(∀v H',dJ K ρ H h' z v H'->Q v H')->Tr K x lo hi H Q
def VW(K:FR):V->Option Int->Option Int->Hp->VK->Prop:=λx a b H Q=>Tr K x a b H Q
theorem ay.uS{K:FR}{ρ:Ad}{H:Hp}{vs:List V}{ds:List D}(l:ay K ρ H vs ds)(lo hi:Option Int):ay K ρ H (L2.uS vs lo hi) (cutD ds lo hi):=by
 unfold L2.uS cutD;rw[l.length];exact(l.drop _).take _
def ME:Qk X (VW X.K):=by
 intro b s m H x v r o f i n Q I t C pl u hh;obtain⟨O,h,d,z,M,S,rd,e,k⟩:=hh;have g:uG d=true->((df d h).map λp=>(D.lv (cutD p.1 f i),h))=some (z,M)->∃T L,typeLookup (.type T) "__getitem__"=pure (some (.builtin L))/\s.TypeIs v T/\wpAny (model X.prog X.w) X.A (getItem v (.ref n)) (EP X b m Q) X.xe s:=by
  intro J E;obtain⟨⟨j,P⟩,N,E⟩:=dS E;cases E;obtain⟨a,rfl,⟨G,q,l⟩,_⟩:=jg S rd N;rw[J] at q;cases q with
  | l q=>exact Kg b s m H _ v r o f i n Q I t C pl u ⟨a,G,rfl,q,λp hp=>k _ _ (.lv S (l.uS f i) hp)⟩
 cases d with
 | str x0=>
  unfold Sf at e;dsimp only at e
  by_cases c:x0.length<=sizeLine
  ·rw[Wg c] at e;cases e;cases rd with | str y=>
   exact NG b s m H _ v r o f i n Q I t C pl u ⟨x0,rfl,c,k _ _ (.here S (.str (zD _ _ y)))⟩
  ·rw[Wh c] at e;cases e
 | tup j=>
  unfold Sf at e;dsimp only at e
  by_cases c:HT.cG j.length 0 f=0/\HT.cG j.length j.length i=j.length
  ·rw[Wg c] at e;cases e
  ·rw[Wh c] at e;cases e;cases rd with | tup h0 F=>
   exact NF b s m H _ v r o f i n Q I t C pl u ⟨_,_,rfl,h0.sq,by rw[F.length];exact c,λp hp=>k _ _ (.tup S (F.uS f i) hp)⟩
 | _=>exact g rfl e
def G3{x:Str}{id:String}{p pos:Pos}{e:Expr}{es:List Expr}{f:Fn}{m:AM}(r:jb X (.builtin id) f)(q:Gl X x)(hm:X.mg x=none)(o:bootBuiltins x=some (.builtin id))(s:SA X (e::es) m)(hn:x≠"__name__":=by decide)(c:(x==("__debug__":Str))=false:=by ac_nf)
  (he:starEach (e::es) X.env=(false,eval e X.env)::starEach es X.env:=by ac_nf) (b:(backTo pos (starEach es X.env)).any (·.1)=false:=by ac_nf):SE X (.Call (.Name x p) (e::es) [] pos) (ai f m):=
 (uc r q hm o s hn c he b).imp λσ H Q ⟨j,l,h,d,t,R,S,e,k⟩=>by
  obtain⟨⟨i,g⟩,w,u⟩:=a9 e;exact⟨j,l,h,i,g,R,S,w,λC a E y z n=>⟨a,g,i,d,t,z,n,u,λv A P=>k v A (P.step y)⟩⟩
def G2{x:Str}{id:String}{p pos:Pos}{e:Expr}{es:List Expr}{f:Fn}{m:AM}(r:jb X (.type id) f)(q:Gl X x)(hm:X.mg x=none)(o:bootBuiltins x=some (.type id))(s:SA X (e::es) m)(hn:x≠"__name__":=by decide)(c:(x==("__debug__":Str))=false:=by ac_nf)
  (he:starEach (e::es) X.env=(false,eval e X.env)::starEach es X.env:=by ac_nf) (b:(backTo pos (starEach es X.env)).any (·.1)=false:=by ac_nf):SE X (.Call (.Name x p) (e::es) [] pos) (ai f m):=
 (p6 r q hm o s hn c he b).imp λσ H Q ⟨j,l,h,d,t,R,S,e,k⟩=>by
  obtain⟨⟨i,g⟩,w,u⟩:=a9 e;exact⟨j,l,h,i,g,R,S,w,λC a E y z n=>⟨a,g,i,d,t,z,n,u,λv A P=>k v A (P.step y)⟩⟩
def eN:Fn:=λb h=>match b with
 | [.str z]=>if z.length<=sizeLine then some (.int z.length,h) else none
 | [d]=>match dH d h with
  | some a=>some (.int a.length,h)
  | none=>(df d h).map λp=>(.int p.1.length,h)
 | _=>none
noncomputable def PD:Fn:=λa h=>match a with
 | [.int i]=>some (.int (if i < 0 then -i else i),h)
 | _=>none
noncomputable def TB(d:D)(h:MH):Option String:=match d with
 | .bb=>some "NoneType"
 | .bl _=>some "bool"
 | .int _=>some "int"
 | .str _=>some "str"
 | .tup _=>some "tuple"
 | .lv _=>some "list"
 | .dv _=>some "dict"
 | .ob n=>match h[n]? with
  | some (.lst _)=>some "list"
  | some (.dct _)=>some "dict"
  | _=>none
 | _=>none
noncomputable def C5(t n:String):Bool:=t==n||(t=="bool"&&n=="int")
def rZ:Fn:=λa h=>match a with
 | [d,.ty n]=>if n∈["int","str","bool","tuple","list","dict"] then(TB d h).map λt=>(.bl (C5 t n),h) else none
 | _=>none
def cA:Fn:=λa h=>match a with
 | [d]=>(df d h).map λp=>(.tup p.1,h)
 | _=>none
noncomputable def wC:List D->Option (List Bool)
 | []=>some []
 | .bl b::r=>(wC r).map λbs=>b::bs
 | _=>none
def PC:Fn:=λb h=>match b with
 | [d]=>(iY d h).bind λa=>(wC a).map λbs=>(.bl (bs.all id),h)
 | _=>none
def PB:Fn:=λb h=>match b with
 | [d]=>(iY d h).bind λa=>(wC a).map λbs=>(.bl (bs.any id),h)
 | _=>none
def rep1{K:FR}{ρ:Ad}{H:Hp}{vs:List V}{d:D}(l:ay K ρ H vs [d]):∃v,vs=[v]/\Rep K ρ H v d:=by
 cases l with
 | cons r l=>cases l;exact⟨_,rfl,r⟩
def rep2{K:FR}{ρ:Ad}{H:Hp}{vs:List V}{d e:D}(l:ay K ρ H vs [d,e]):∃v u,vs=[v,u]/\Rep K ρ H v d/\Rep K ρ H u e:=by
 cases l with
 | cons r l=>cases l with
  | cons a l=>cases l;exact⟨_,_,rfl,r,a⟩
def PV:jb X (.builtin "len") eN:=by
 intro e s g H G us Q I r hh;obtain⟨E,h,C,z,u,S,l,b,k⟩:=hh
 match C,l,b with
 | [],_,b=>cases b
 | _::_::_,_,b=>exact absurd b (by unfold eN;split <;> simp_all)
 | [d],l,b=>
  obtain⟨v,rfl,rd⟩:=rep1 l;have i:(match dH d h with | some f=>some (D.int f.length,h) | none=>(df d h).map λp=>(D.int p.1.length,h))=some (z,u)->wpAny (model X.prog X.w) X.A (call (.builtin "len") us) (EP X e g Q) X.xe s:=by
   intro b;cases q:dH d h with
   | some f=>
    rw[q] at b;cases b;obtain⟨a,j,rfl,t,lk⟩:=jS S rd q;refine Gh e s g H _ us Q I r ⟨a,j,rfl,t,k _ _ ?_⟩;rw[lk.length];exact .here S (.int _)
   | none=>
    rw[q] at b;obtain⟨⟨F,w⟩,y,x⟩:=dS b;cases x;obtain⟨a,m,rfl,o,n⟩:=sm S rd y;refine zg e s g H _ us Q I r ⟨a,m,rfl,o,k _ _ ?_⟩;rw[n.length];exact .here S (.int _)
  cases d with
  | str x0=>
   unfold eN at b;dsimp only at b
   by_cases c:x0.length<=sizeLine
   ·rw[Wg c] at b;cases b;cases rd;exact zf e s g H _ us Q I r ⟨x0,rfl,c,k _ _ (.here S (.int _))⟩
   ·rw[Wh c] at b;cases b
  | _=>exact i b
def PZ:jb X (.builtin "abs") PD:=by
 intro b s c H g us Q I r hh;obtain⟨f,h,e,z,i,S,l,a,k⟩:=hh
 match e,l,a with
 | [],_,a=>cases a
 | d::_::_,_,a=>cases d <;> exact cX a
 | [d],l,a=>
  obtain⟨v,rfl,rd⟩:=rep1 l;cases rd <;> first |(exact cX a) | skip
  cases a;exact Js b s c H _ us Q I r ⟨_,rfl,k _ _ (.here S (.int _))⟩
def eY:jb X (.type "tuple") cA:=by
 intro e s g H y us Q I r hh;obtain⟨u,h,o,z,A,S,l,c,k⟩:=hh
 match o,l,c with
 | [],_,c=>cases c
 | _::_::_,_,c=>cases c
 | [d],l,c=>
  obtain⟨v,rfl,rd⟩:=rep1 l;obtain⟨⟨x,w⟩,f,n⟩:=dS c;cases n;obtain⟨a,rfl,⟨i,q,j⟩,_⟩:=jg S rd f;refine wB e s g H _ us Q I r ⟨a,i,rfl,?_⟩;generalize m:uG d=b at q;cases q with
  | l q=>exact .inl ⟨q,λp hp=>k _ _ (.tup S j hp)⟩
  | t q=>
   refine .inr ⟨q,k _ _ ?_⟩;cases rd <;> first |(cases m;done) | skip
   cases f;exact .here S (.tup ‹_› ‹_›)
theorem CN{K:FR}{ρ:Ad}{H:Hp}:∀{vs:List V} {xs:List D} {bs:List Bool},ay K ρ H vs xs->wC xs=some bs->vs=bs.map V.bl
 | _,_,_,.nil,e=>by cases e;rfl
 | _,_,_,.cons r l,e=>by
  cases r <;> first |(cases e;done) | skip
  obtain⟨c,b,a⟩:=dS e;cases a;rw[CN l b];rfl
def PY(i:X.calm=true):jb X (.builtin "all") PC:=by
 intro c s f H u us Q I r hh;obtain⟨q,h,p,z,x,S,l,b,k⟩:=hh
 match p,l,b with
 | [],_,b=>cases b
 | _::_::_,_,b=>cases b
 | [d],l,b=>
  obtain⟨v,rfl,rd⟩:=rep1 l;obtain⟨t,o,n⟩:=a9 b;obtain⟨bs,m,j⟩:=dS n;cases j;obtain⟨a,w,rfl,e,g⟩:=ig S rd o;rw[CN g m] at e;exact Jr i c s f H _ us Q I r ⟨a,bs,rfl,fN.of e,k _ _ (.here S (.bl _))⟩
def PX(i:X.calm=true):jb X (.builtin "any") PB:=by
 intro c s f H u us Q I r hh;obtain⟨q,h,p,z,x,S,l,b,k⟩:=hh
 match p,l,b with
 | [],_,b=>cases b
 | _::_::_,_,b=>cases b
 | [d],l,b=>
  obtain⟨v,rfl,rd⟩:=rep1 l;obtain⟨t,o,n⟩:=a9 b;obtain⟨bs,m,j⟩:=dS n;cases j;obtain⟨a,w,rfl,e,g⟩:=ig S rd o;rw[CN g m] at e;exact Jq i c s f H _ us Q I r ⟨a,bs,rfl,fN.of e,k _ _ (.here S (.bl _))⟩
def DV{K:FR}{t n:String}(a:t∈["NoneType","bool","int","str","tuple","list","dict"])(hn:n∈["int","str","bool","tuple","list","dict"]):PySem.W.kitOne K (.type t) (.type n)=some (C5 t n):=by
 simp only[Ws,List.mem_nil_iff,ZN] at a hn;rcases a with rfl | rfl | rfl | rfl | rfl | rfl | rfl <;> rcases hn with rfl | rfl | rfl | rfl | rfl | rfl <;> rfl
def Cw{ds:List D}{z:D}{h h':MH}(a:rZ ds h=some (z,h')):∃d n t,ds=[d,.ty n]/\n∈["int","str","bool","tuple","list","dict"]/\TB d h=some t/\z=.bl (C5 t n)/\h'=h:=by
 unfold rZ at a
 split at a
 ·split at a
  ·obtain⟨t,c,b⟩:=dS a;cases b;exact⟨_,_,t,rfl,‹_›,c,rfl,rfl⟩
  ·cases a
 ·cases a
def Nq{K:FR}{ρ:Ad}{H:Hp}{h:MH}{v:V}{d:D}{t:String}(S:bP K ρ h H)(rd:Rep K ρ H v d)(c:TB d h=some t):t∈["NoneType","bool","int","str","tuple","list","dict"]/\(oV K H v (.type t)\/t="tuple"/\∃a vs,v=.ref a/\jc K H a vs):=by
 cases rd with
 | bb=>cases c;exact⟨by decide,.inl .bb⟩
 | bl b=>cases c;exact⟨by decide,.inl (.bl b)⟩
 | int i=>cases c;exact⟨by decide,.inl (.int i)⟩
 | str h0=>cases c;exact⟨by decide,.inl (.str _)⟩
 | ty _=>exact cX c
 | ro _ _=>exact cX c
 | lv h0 _ _=>cases c;exact⟨by decide,.inl (.lst h0)⟩
 | dv h0 _ _=>cases c;exact⟨by decide,.inl (.dK h0)⟩
 | tup h0 f=>cases c;exact⟨by decide,.inr ⟨rfl,_,_,rfl,h0.sq⟩⟩
 | @ob a m hm=>
  unfold TB at c;dsimp only at c;cases q:h[m]? with
  | none=>rw[q] at c;cases c
  | some o=>
   rw[q] at c;have x:=S.at_ m a o hm q;cases o with
   | lst _=>cases c;obtain⟨vs,e,_⟩:=x;exact⟨by decide,.inl (.lst e)⟩
   | dct _=>cases c;obtain⟨vs,e,_⟩:=x;exact⟨by decide,.inl (.dK e)⟩
   | dcH _=>exact cX c
def jU:jb X (.builtin "isinstance") rZ:=by
 intro b s f H E us Q I r hh;obtain⟨C,h,J,z,G,S,l,y,k⟩:=hh;obtain⟨d,n,t,rfl,hn,A,rfl,rfl⟩:=Cw y;obtain⟨v,u,rfl,rd,i⟩:=rep2 l;cases i;have c:=k (.bl (C5 t n)) H (.here S (.bl _));obtain⟨hm,e |⟨rfl,a,F,rfl,q⟩⟩:=Nq S rd A
 ·exact Jo b s f H _ us Q I r ⟨v,n,_,_,rfl,e,DV hm hn,c⟩
 ·obtain⟨u1,u2,rfl,m,j⟩:=Vals.two r;obtain rfl:u1=Value.ref a:=m;obtain rfl:u2=Value.type n:=j;obtain⟨p,_,⟨o,x,w,_⟩,_⟩:=I.tuple q;exact XB PySem.W.kitx_tuple I.xh ⟨o,x,w⟩ (DV (t:="tuple") (by decide) hn) (λz=>nomatch z) λg=>⟨.bl _,H,I.tok g,rfl,c⟩
def ED(m:AM):AM:=λa h=>(m a h).bind λp=>match p.1 with
 | [d]=>(df d p.2).map λq=>(q.1,p.2)
 | _=>none
def Dl(z:Gl X x)(hm:X.mg x=none)(u:bootBuiltins x=some (.type "list"))(C:SA X [e] m)(hl:mr m 1)(hn:x≠"__name__":=by decide)(g:(x==("__debug__":Str))=false:=by ac_nf)(A:starEach [e] X.env=(false,eval e X.env)::starEach [] X.env:=by ac_nf)(f:(backTo pos (starEach [] X.env)).any (·.1)=false:=by ac_nf):zq X (.Call (.Name x p) [e] [] pos) (ED m):=
 (p6 ze z hm u C hn g A f).imp λσ H Q ⟨r,s,h,d,N,R,S,e,k⟩=>by
  obtain⟨⟨o,E⟩,n,i⟩:=a9 e;refine⟨r,s,h,o,E,R,S,n,λM b J I q c=>?_⟩
  match o,hl _ _ _ _ n,i,c with
  | [d],_,i,c=>
   obtain⟨⟨L,w⟩,G,F⟩:=dS i;cases F;obtain⟨v,rfl,rd⟩:=rep1 c;obtain⟨a,j,rfl,y,t⟩:=sm q rd G;exact⟨a,j,rfl,y,λl hl=>k b J l j I q hl t⟩
def AI(o i v:D)(h:MH):Option MH:=match o with
 | .ob n=>match h[n]? with
  | some (.lst xs)=>match i with
   | .int j=>(wm xs.length j).map λp=>h.set n (.lst (xs.set p v))
   | _=>none
  | some (.dct a)=>(oy i).bind λk=>if a.length < sizeLine then some (h.set n (.dct (putD a k v))) else none
  | _=>none
 | _=>none
def yO(o i:EM):GM:=λv a h=>(o a h).bind λp=>(i a p.2).bind λq=>(AI p.1 q.1 v q.2).map λb=>(a,b)
inductive Nd(K:FR)(o i v:V)(H:Hp)(Q:Hp->Prop):Prop where
 | mk (ρ h a b c h'):bP K ρ h H->Rep K ρ H o a->Rep K ρ H i b->Rep K ρ H v c->(AI a b c h=some h')->(∀ρ' H',de ρ H ρ' H'->bP K ρ' h' H'->Q H')->Nd K o i v H Q
def UM(K:FR):V->V->V->Hp->(Hp->Prop)->Prop:=λo i v H Q=>Nd K o i v H Q
def KD(U:X.A.units+64 < cLine):Mn X (UM X.K):=by
 intro g s J H o i v ov N u Q I ro C rv hh;obtain⟨e,h,a,b,c,Y,S,L,F,E,d,k⟩:=hh;cases L <;> first |(exact cX d) | skip
 rename_i a n hn;unfold AI at d;dsimp only at d;cases q:h[n]? with
 | none=>rw[q] at d;cases d
 | some w=>
  rw[q] at d;have x:=S.at_ n a w hn q;have G:=Wk hn;cases w with
  | lst xs=>
   dsimp only at d;cases F <;> first |(exact cX d) | skip
   rename_i j;obtain⟨p,t,f⟩:=dS d;cases f;obtain⟨y,r,l⟩:=x;have T:de e H e (upd H a (.lst (y.set p v))):=de.wrote S G;exact set_list g s J H _ _ v ov N u Q I ro C rv ⟨a,y,j,p,rfl,rfl,r,by rw[l.length];exact t,k e _ T (S.wrote hn ⟨_,aH,(l.set E p).mono T.toCh⟩)⟩
  | dct m=>
   dsimp only at d;obtain⟨M,t,f⟩:=a9 d
   by_cases z:m.length < sizeLine
   ·rw[Wg z] at f;cases f;obtain⟨us,r,l⟩:=x;have O:=il F t;subst O;obtain rfl:ov=Value.ref a:=ro;have T:de e H e (upd H a (.dK (putK us M v))):=de.wrote S G;exact F8 (by lia) I (Mt.k r (by rw[l.length];exact z)) C rv λR P=>⟨_,P,k e _ T (S.wrote hn ⟨_,aH,(l.put E).mono T.toCh⟩)⟩
   ·rw[Wh z] at f;cases f
  | dcH _=>exact cX d
def tf (z:X.A.units+64 < cLine) (C:SE X o mo) (hi:SE X i w) (E:∀v,assign (.Subscript o i pos) X.env v=(do
   let ov<-holding [v] (eval o X.env);let a<-holding [v,ov] (eval i X.env)
   standAt pos
   holding [v,ov,a] (setItem ov a v)
   release [v,ov,a] []):=by intro _;ac_nf):SG X (.Subscript o i pos) (yO mo w):=
 (HN C hi (KD z) E).imp λv σ H Q ⟨q,l,h,d,s,Y,R,S,r,e,k⟩=>by
  obtain⟨⟨x,n⟩,M,L⟩:=a9 e;obtain⟨⟨y,m⟩,J,I⟩:=a9 L;obtain⟨U,G,F⟩:=dS I;cases F;exact⟨q,l,h,x,n,R,S,M,λov H1 ⟨j,c,P,u⟩=>⟨j,l,n,y,m,R.mono c,P,J,λa Z ⟨g,b,O,t⟩=>
   ⟨g,m,x,y,d,_,O,u.mono b,t,r.mono (c.trans b).toCh,G,λf T p N=>k f T σ (c.trans (b.trans p)) N (R.mono (c.trans (b.trans p)).toCh)⟩⟩⟩
abbrev Gp:=D->List D->MH->Option (D×MH)
inductive VB(K:FR)(f:Gp)(x:V)(vs:List V)(H:Hp)(Q:VK):Prop where
 | mk (ρ h d ds z h'):bP K ρ h H->Rep K ρ H x d->ay K ρ H vs ds->(f d ds h=some (z,h'))->(∀v H',dJ K ρ H h' z v H'->Q v H')->VB K f x vs H Q
def rM(K:FR)(f:Gp):V->List V->Hp->VK->Prop:=λx a H Q=>VB K f x a H Q
noncomputable def eM(oz:D->MH->Bool)(f:Gp)(o:EM)(m:AM):EM:=λa h=>(o a h).bind λp=>if oz p.1 p.2 then(m a p.2).bind λq=>f p.1 q.1 q.2 else none
def bK(d:D)(h:MH):Bool:=(iY d h).isSome
def IA(d:D)(h:MH):Bool:=(dH d h).isSome
noncomputable def bt:Gp:=λd a h=>match d,a with
 | .ob n,[y]=>match h[n]? with
  | some (.lst xs)=>if xs.length < sizeLine then some (.bb,h.set n (.lst (xs++[y]))) else none
  | _=>none
 | _,_=>none
noncomputable def wb:Gp:=λd a h=>match d,a with
 | .ob n,[]=>match h[n]? with
  | some (.lst xs)=>(xs[xs.length-1]?).map λy=>(y,h.set n (.lst xs.dropLast))
  | _=>none
 | _,_=>none
def mM{K:FR}{ρ:Ad}{H:Hp}{h:MH}{v:V}{d:D}(S:bP K ρ h H)(r:Rep K ρ H v d)(e:bK d h=true):My K "list" v H:=by
 obtain⟨g,f⟩:=YS.mp e;obtain⟨a,b,rfl,c,_⟩:=ig S r f;exact .inl ⟨rfl,b,fN.of c⟩
def Nn{K:FR}{ρ:Ad}{H:Hp}{h:MH}{v:V}{d:D}(S:bP K ρ h H)(r:Rep K ρ H v d)(e:IA d h=true):My K "dict" v H:=by
 obtain⟨g,f⟩:=YS.mp e;obtain⟨a,b,rfl,c,_⟩:=jS S r f;exact .inr (.inr (.inl ⟨rfl,.inl ⟨b,c⟩⟩))
def zH{T id:String}{name:Str}{o e:Expr}{es:List Expr}{g a:Pos}{f:Gp}{z:EM}{m:AM}{oz:D->MH->Bool}(O:∀{K:FR} {ρ:Ad} {H:Hp} {h:MH} {v:V} {d:D},bP K ρ h H->Rep K ρ H v d->oz d h=true->My K T v H)
  (J:PlainAttrs T) (slot:Slot T name id) (s:typeOf (.builtin id)=pure (.type "method_descriptor")) (hm:Gs X id (rM X.K f)) (M:SE X o z) (N:SA X (e::es) m)
  (j:attributeBase o name X.env (eval o X.env)=eval o X.env:=by ac_nf)
  (l:((backTo a (starEach (e::es) X.env)).all (λx=>!x.1)&&(backToKw a (keywordEach [] X.env)).all (λx=>x.1.isSome)
   &&decide ((e::es).length+([]:List Keyword).length+(if([]:List Keyword).isEmpty then 0 else 1) < 30))=true:=by ac_nf)
  (i:(g.endLine==a.line)=true:=by ac_nf) (L:starEach (e::es) X.env=(false,eval e X.env)::starEach es X.env:=by ac_nf) (b:(backTo a (starEach es X.env)).any (·.1)=false:=by ac_nf):
  SE X (.Call (.Attribute o name g) (e::es) [] a) (eM oz f z m):=(RC J slot s hm M N j l i L b).imp λσ H Q ⟨ρ,u,h,d,P,R,S,e,k⟩=>by
 obtain⟨⟨x,t⟩,Z,n⟩:=a9 e;dsimp only at n
 by_cases c:oz x t=true
 ·rw[Wg c] at n;obtain⟨⟨C,A⟩,Y,U⟩:=a9 n;exact⟨ρ,u,h,x,t,R,S,Z,λv H1 ⟨r,F,G,y⟩=>⟨O G y c,r,u,t,C,A,R.mono F,G,Y,λvs q H2 E S2 I=>⟨q,A,x,C,d,P,S2,y.mono E,I,U,λw H3 p=>k w H3 (p.step (F.trans E))⟩⟩⟩
 ·rw[Wh c] at n;cases n
def Q5{T id:String}{name:Str}{o:Expr}{b a:Pos}{f:Gp}{r:EM}{oz:D->MH->Bool}(z:∀{K:FR} {ρ:Ad} {H:Hp} {h:MH} {v:V} {d:D},bP K ρ h H->Rep K ρ H v d->oz d h=true->My K T v H)
  (u:PlainAttrs T) (slot:Slot T name id) (m:typeOf (.builtin id)=pure (.type "method_descriptor")) (hm:Gs X id (rM X.K f)) (y:SE X o r)
  (i:attributeBase o name X.env (eval o X.env)=eval o X.env:=by ac_nf) (g:(b.endLine==a.line)=true:=by ac_nf):
  SE X (.Call (.Attribute o name b) [] [] a) (eM oz f r a8):=(OE u slot m hm y i g).imp λσ H Q ⟨ρ,t,h,d,A,R,S,e,k⟩=>by
 obtain⟨⟨x,n⟩,C,j⟩:=a9 e;dsimp only at j
 by_cases c:oz x n=true
 ·rw[Wg c] at j;exact⟨ρ,t,h,x,n,R,S,C,λv H1 ⟨l,E,s,q⟩=>⟨z s q c,l,n,x,[],d,A,s,q,.nil,j,λw F p=>k w F (p.step E)⟩⟩
 ·rw[Wh c] at j;cases j
def Ii{K:FR}{ρ:Ad}{H:Hp}{h:MH}{n:Nat}{xs:List D}{v:V}(S:bP K ρ h H)(r:Rep K ρ H v (.ob n))(q:h[n]?=some (.lst xs)):∃a vs,v=.ref a/\ρ.ob[n]?=some a/\H a=some (.lst vs)/\ay K ρ H vs xs:=by
 cases r with
 | ob hn=>obtain⟨vs,e,l⟩:=S.at_ n _ _ hn q;exact⟨_,vs,rfl,hn,e,l⟩
def lS:Gs X "list.append" (rM X.K bt):=by
 intro e s j H x A v us Q I o rs hh;obtain⟨f,h,d,t,z,C,S,rd,l,b,k⟩:=hh;cases d <;> first |(exact cX b) | skip
 rename_i n
 match t,l,b with
 | [],_,b=>exact cX b
 | _::_::_,_,b=>exact cX b
 | [y],l,b=>
  unfold bt at b;dsimp only at b;cases q:h[n]? with
  | none=>rw[q] at b;cases b
  | some w=>
   rw[q] at b;cases w with
   | dct _=>exact cX b
   | dcH _=>exact cX b
   | lst m=>
    dsimp only at b
    by_cases c:m.length < sizeLine
    ·rw[Wg c] at b;cases b;obtain⟨a,g,rfl,hn,r,i⟩:=Ii S rd q;obtain⟨u,rfl,p⟩:=rep1 l;have T:de f H f (upd H a (.lst (g++[u]))):=de.wrote S (Wk hn);exact xa e s j H _ _ v us Q I o rs ⟨a,g,u,rfl,rfl,r,by rw[i.length];exact c,k _ _ ⟨f,T,S.wrote hn ⟨_,aH,(i.snoc p).mono T.toCh⟩,.bb⟩⟩
    ·rw[Wh c] at b;cases b
def O3:Gs X "list.pop" (rM X.K wb):=by
 intro c s i H x E v us Q I j rs hh;obtain⟨e,h,d,A,z,F,S,rd,l,b,k⟩:=hh;cases d <;> first |(exact cX b) | skip
 rename_i n
 match A,l,b with
 | _::_,_,b=>exact cX b
 | [],l,b=>
  unfold wb at b;dsimp only at b;cases q:h[n]? with
  | none=>rw[q] at b;cases b
  | some w=>
   rw[q] at b;cases w with
   | dct _=>exact cX b
   | dcH _=>exact cX b
   | lst C=>
    dsimp only at b;obtain⟨y,r,p⟩:=dS b;cases p;obtain⟨a,g,rfl,hn,t,f⟩:=Ii S rd q;cases l;obtain⟨u,o,m⟩:=f.got r;have T:de e H e (upd H a (.lst g.dropLast)):=de.wrote S (Wk hn);exact O1 c s i H _ _ v us Q I j rs ⟨a,g,u,rfl,rfl,t,by rw[f.length];exact o,k _ _ ⟨e,T,S.wrote hn ⟨_,aH,f.dropLast.mono T.toCh⟩,m.mono T.toCh⟩⟩
end Sm
namespace Sb
open L2 PyProof.Rows
open Builtin.SmallTypes (nextOf ownedTupleIsFree ownedTupleHandOut)
noncomputable def kn:Bool->String
 | true=>"list_iterator"
 | false=>"tuple_iterator"
def At(b:Bool)(h:Heap)(j l:Addr)(i:Nat):Prop:=∃o,h.get? j=some o/\o.cls=.type (kn b)/\o.data=.fields #[.ref l,.int i 0]
def Of(b:Bool)(h:Heap)(l:Addr)(items:Array Value):Prop:=match b with
 | true=>h.IsList l items
 | false=>h.IsTuple l items
def At.up(x:At b h j l i)(k:∀o,h.get? j=some o->h'.get? j=some o):At b h' j l i:=let⟨o,e,r⟩:=x;⟨o,k o e,r⟩
def At.lt(x:At b h j l i):j < h.objs.size:=let⟨_,e,_⟩:=x;Wu e
theorem Of.data(x:Of b h l items):∃o n,h.get? l=some o/\o.data=.seq items n:=by
 cases b with
 | true=>obtain⟨o,e,_,n,d⟩:=(show h.IsList l items from x);exact⟨o,n,e,d⟩
 | false=>obtain⟨o,e,_,n,d⟩:=(show h.IsTuple l items from x);exact⟨o,n,e,d⟩
def Of.up(x:Of b h l items)(k:∀o,h.get? l=some o->h'.get? l=some o):Of b h' l items:=by
 cases b with
 | true=>obtain⟨o,e,r⟩:=(show h.IsList l items from x);exact⟨o,k o e,r⟩
 | false=>obtain⟨o,e,r⟩:=(show h.IsTuple l items from x);exact⟨o,k o e,r⟩
def ux(h:At b s.heap j l i)(hl:Of b s.heap l items)(g:items[i]?=some x)(k:∀h',At b h' j l (i+1)->Heap.SameBut j s.heap h'->Q x {s with heap:=h'}):wpAny (model P w) A (nextOf (.ref j)) Q E s:=by
 cases b with
 | true=>exact wpAny_nextOf_list_item (show s.heap.IsListIter j l i from h) (show s.heap.IsList l items from hl) g k
 | false=>
  have d:s.heap.IsTupleIter j l i:=h;obtain⟨o,a,f,c⟩:=d;obtain⟨n,m,_,p,e⟩:=(show s.heap.IsTuple l items from hl);unfold nextOf;refine V8 (W4 (name:=Str.ofString "__next__") (show s.TypeIs (.ref j) "tuple_iterator" from⟨o,a,f⟩) YR
   (W3 YR (show s.TypeIs (.ref j) "tuple_iterator" from⟨o,a,f⟩) Aa4 ?_ (AaY _)))
  show wpAny _ _ (field (.ref j) 0 >>=_) _ _ s;refine V8 (W0 a c (x:=.ref l) rfl ?_);show wpAny _ _ (if(Value.ref l==Value.none)=true then _ else _) _ _ s;rw[Wh (show ¬((Value.ref l==Value.none)=true) by exact WR)];show wpAny _ _ (field (.ref j) 1 >>=_) _ _ s;refine V8 (W0 a c (x:=.int i 0) rfl ?_);show wpAny _ _ (seqItems? (.ref l) >>=_) _ _ s;refine V8 (Xo m e ?_);simp only[WT,g];refine V8 (wpAny_setField a c (by simp) (Wb ⟨x,rfl,Wb (k _ ?_ (Aam ..))⟩));exact⟨_,XZ _ a (Obj.isFreed_of_fields (Zt c _)),(Obj.cls_mapFields ..).trans f,by rw[Zt c];simp[rawInt]⟩
def Ap(hh:A.handled=none)(n:At b s.heap j l i)(hl:Of b s.heap l items)(h:items[i]?=none)(k:∀h' e,Heap.ExtBut j s.heap h'->(∃o,h'.get? e=some o/\o.cls=.type "StopIteration")->E (.ref e) {s with heap:=h'}):wpAny (model P w) A (nextOf (.ref j)) Q E s:=by
 cases b with
 | true=>exact wpAny_nextOf_list_end hh (show s.heap.IsListIter j l i from n) (show s.heap.IsList l items from hl) h k
 | false=>
  have d:s.heap.IsTupleIter j l i:=n;obtain⟨o,c,p,g⟩:=d;obtain⟨r,q,_,t,f⟩:=(show s.heap.IsTuple l items from hl);unfold nextOf;refine V8 (W4 (name:=Str.ofString "__next__") (show s.TypeIs (.ref j) "tuple_iterator" from⟨o,c,p⟩) YR
   (W3 YR (show s.TypeIs (.ref j) "tuple_iterator" from⟨o,c,p⟩) Aa4 ?_ (AaY _)))
  show wpAny _ _ (field (.ref j) 0 >>=_) _ _ s;refine V8 (W0 c g (x:=.ref l) rfl ?_);show wpAny _ _ (if(Value.ref l==Value.none)=true then _ else _) _ _ s;rw[Wh (show ¬((Value.ref l==Value.none)=true) by exact WR)];show wpAny _ _ (field (.ref j) 1 >>=_) _ _ s;refine V8 (W0 c g (x:=.int i 0) rfl ?_);show wpAny _ _ (seqItems? (.ref l) >>=_) _ _ s;refine V8 (Xo q f ?_);simp only[WT,h];refine V8 (XG (V8 (wpAny_setField c g (by simp) ?_)));show wpAny _ _ (newExc (.type "StopIteration") [] >>=_) _ _ _;refine V8 ?_;simp only[newExc,newTuple];refine V8 (Xc ?_ (by size_fits));refine V8 (m:=firstArgMember _ _) (wpAny_of_eq (a:=Value.none) (by first |(simp only[firstArgMember];rfl) | rfl) ?_);refine Xc ?_ (by size_fits);simp only[raiseNew];refine V8 (wpAny_handled ?_)
  first | rw[hh] | rw[show A.in1.handled=none from hh]
  refine V8 (Wb (wpAny_throw (k _ _ (((Aam ..).extBut.push _).push _) ⟨_,Ww _ rfl,rfl⟩)))
open Builtin.SmallTypes (nextOf ownedTupleIsFree ownedTupleHandOut)
variable {P:Program} {w:World} {A:Around} {E:Value->Shared->Prop} {s:Shared} {b c:Bool}
def Iy(x:Of b s.heap l items)(k:Q (.ref s.heap.objs.size) {s with heap:=s.heap.push {cls:=.type (kn b),data:=.fields #[.ref l,.int 0 0]}}):wpAny (model P w) A (pyIter (.ref l)) Q E s:=by
 cases b with
 | true=>exact YM (show s.heap.IsList l items from x) k
 | false=>exact Y1 (show s.heap.IsTuple l items from x) k
def F4{e j l:Addr}{i:Nat}{items:Array Value}{x old:Value}{Q:Option Value->Shared->Prop}(hE:IsEnum s.heap e j i old)(hj:At b s.heap j l i)(hl:Of b s.heap l items)(hx:items[i]?=some x)(ne:e≠j)
  (k:∀h',IsEnumOut h' e j ((i:Int)+1) x s.heap.objs.size->At b h' j l (i+1)->h'.get? s.heap.objs.size=some {cls:=.type "tuple",data:=.seq #[.int i s.toks,x]}->h'.objs.size=s.heap.objs.size+1->
   (∀a o,a≠e->a≠j->s.heap.get? a=some o->h'.get? a=some o)->Q (some (.ref s.heap.objs.size)) {s with heap:=h',toks:=s.toks+1}):wpAny (model P w) A (pyNext (.ref e)) Q E s:=by
 have hT:s.TypeIs (.ref e) "enumerate":=⟨_,hE,rfl⟩;unfold pyNext;refine V8 (YJ (W4 (name:=Str.ofString "__next__") hT YK (W3 YK hT F.entry_enumerate_next ?_ (F.args_enumerate_next_1 _))));obtain⟨hp,g,d,N,os⟩:=s;show wpAny _ _ (field (.ref e) 2 >>=_) _ _ _;refine V8 (W0 hE rfl (x:=.ref j) rfl (V8 (ux hj hl hx λf U t=>?_)));replace t:Heap.SameBut j hp f:=t;have M:IsEnum f e j i old:=(t.2 e ne).trans hE;show wpAny _ _ (field (.ref e) 3 >>=_) _ _ ⟨f,g,d,N,os⟩;refine V8 (W0 M rfl (x:=rawInt i) rfl ?_);show wpAny _ _ (field (.ref e) 4 >>=_) _ _ ⟨f,g,d,N,os⟩;refine V8 (W0 M rfl (x:=.none) rfl ?_);show wpAny _ _ (mkInt i >>=_) _ _ ⟨f,g,d,N,os⟩;refine V8 (wpAny_mkInt ?_);show wpAny _ _ (setField (.ref e) 3 (rawInt ((i:Int)+1)) >>=_) _ _ ⟨f,g,d,N+1,os⟩;refine V8 (wpAny_setField_rec M (by simp) λu L r=>?_);replace r:Heap.SameBut e f u:=r;replace L:IsEnum u e j ((i:Int)+1) old:=L;show wpAny _ _ (setField (.ref e) 4 .none >>=_) _ _ ⟨u,g,d,N+1,os⟩;refine V8 (wpAny_setField_rec L (by simp) λm J p=>?_);replace p:Heap.SameBut e u m:=p;replace J:IsEnum m e j ((i:Int)+1) old:=J;show wpAny _ _ (newTuple [.int i N,x] >>=_) _ _ ⟨m,g,d,N+1,os⟩;refine V8 (Zs ?_);have I:IsEnum (m.push {cls:=.type "tuple",data:=.seq #[.int i N,x]}) e j ((i:Int)+1) old:=Wa _ J;generalize n:m.push {cls:=.type "tuple",data:=.seq #[.int i N,x]}=h at I;have sz:m.objs.size=hp.objs.size:=by rw[p.1,r.1,t.1]
 have lte:e < hp.objs.size:=Wu hE;have tp:h.get? hp.objs.size=some {cls:=.type "tuple",data:=.seq #[.int i N,x]}:=by rw[<-n,<-sz];exact Ww _ rfl
 have Y:h.objs.size=hp.objs.size+1:=by rw[<-n,Xd,sz]
 have X:∀a o,a≠e->a≠j->hp.get? a=some o->h.get? a=some o:=λa o Z z2 q=>by
  rw[<-n];exact Wa _ (p.extBut a o Z (r.extBut a o Z (t.extBut a o z2 q)))
 have j₄:At b h j l (i+1):=U.up λo q=>by rw[<-n];exact Wa _ (p.extBut j o (Xy ne) (r.extBut j o (Xy ne) q))
 show wpAny _ _ (ownedTupleIsFree (.ref e) >>=_) _ _ ⟨h,g,d,N+1,os⟩;rw[sz];clear n J p L r M t U sz m u f;refine V8 ?_;unfold ownedTupleIsFree;refine V8 (W0 I rfl (x:=.none) rfl (Wb ?_));simp only[YW];refine V8 (XG (V8 (W0 I rfl (x:=old) rfl (V8 (wpAny_setField_rec I (by simp) λH T C=>?_)))));replace C:Heap.SameBut e h H:=C;replace T:IsEnum H e j ((i:Int)+1) x:=T;show wpAny _ _ (ownedTupleHandOut (.ref e) (.ref hp.objs.size) >>=_) _ _ ⟨H,g,d,N+1,os⟩;refine V8 ?_;unfold ownedTupleHandOut;refine V8 (wpAny_setField_rec T (by simp) λO S y=>?_);replace y:Heap.SameBut e H O:=y;replace S:IsEnumOut O e j ((i:Int)+1) x hp.objs.size:=S;refine wpAny_setField_rec S (by simp) λG R v=>?_;replace v:Heap.SameBut e O G:=v;replace R:IsEnumOut G e j ((i:Int)+1) x hp.objs.size:=R;have up:∀a o,a≠e->h.get? a=some o->G.get? a=some o:=λa o z q=>v.extBut a o z (y.extBut a o z (C.extBut a o z q));refine V8 (ZG (Wb ⟨_,rfl,Wb (k G R (j₄.up λo q=>up j o (Xy ne) q) (up _ _ (ZE lte) tp) ?_ λa o Z z2 q=>up a o Z (X a o Z z2 q))⟩));rw[v.1,y.1,C.1,Y]
def Ja{e j l:Addr}{i:Nat}{items:Array Value}{old:Value}{Q:Option Value->Shared->Prop}(hh:A.handled=none)(f:IsEnum s.heap e j i old)(m:At b s.heap j l i)(hl:Of b s.heap l items)(g:items[i]?=none)
  (k:∀h',Heap.ExtBut j s.heap h'->Q none {s with heap:=h'}):wpAny (model P w) A (pyNext (.ref e)) Q E s:=by
 have d:s.TypeIs (.ref e) "enumerate":=⟨_,f,rfl⟩;unfold pyNext;refine V8 (YJ (W4 (name:=Str.ofString "__next__") d YK (W3 YK d F.entry_enumerate_next ?_ (F.args_enumerate_next_1 _))));show wpAny _ _ (field (.ref e) 2 >>=_) _ _ _;refine V8 (W0 f rfl (x:=.ref j) rfl (V8 (Ap hh m hl g λh' y a ⟨o,h,n⟩=>?_)));exact V8 (X1 (T:="StopIteration") (b:=true) ⟨o,h,n⟩ YQ (Wb (k _ a)))
def F3(x:Of b s.heap l items)(k:∀h',IsEnum h' (s.heap.objs.size+1) s.heap.objs.size 0 .none->At b h' s.heap.objs.size l 0->h'.objs.size=s.heap.objs.size+2->(∀a o,s.heap.get? a=some o->h'.get? a=some o)->Q (.ref (s.heap.objs.size+1)) {s with heap:=h'}):
  wpAny (model P w) A (call (.type "enumerate") [.ref l]) Q E s:=by
 cases b with
 | true=>exact call_enumerate_list (show s.heap.IsList l items from x) k
 | false=>
  have n:PySem.Meets (Builtin.«enumerate.__new__» ⟨[.type "enumerate",.ref l],[]⟩) (λ_ R s=>s.heap.IsTuple l items/\
    R (.ok (.ret (.ref (s.heap.push {cls:=.type "tuple_iterator",data:=.fields #[.ref l,.int 0 0]}).objs.size)))
     {s with heap:=(s.heap.push {cls:=.type "tuple_iterator",data:=.fields #[.ref l,.int 0 0]}).push {cls:=.type "enumerate",data:=.fields #[.none,.bool false,.ref s.heap.objs.size,rawInt 0,.none,.none]}}):=
   .of_wp λprog w A R s h=>by
    obtain⟨hp,g,d,j,os⟩:=s;obtain⟨hl,h⟩:=h;have m:=sub_enumerate;have e:Heap.IsTuple (Shared.heap ⟨hp,g,d,j,os⟩) l items:=hl;obtain⟨o0,r,u,p,t⟩:=id e
    wp_walk
    refine wpAny_stack_any λst=>Wb ?_
    split
    ·rename_i c _ _ _ _ _;cases(c==Value.type "enumerate")
     ·wp_walk using Y1 e
      exact⟨_,rfl,h⟩
     ·wp_walk using Y1 e
      exact⟨_,rfl,h⟩
    ·wp_walk using Y1 e
     exact⟨_,rfl,h⟩
  refine callType_new F.called_enumerate (by decide) (F.typeCall_enumerate_1 _) (F.newCall_enumerate_1 _) (λobj=>F.args_object_init_2 obj _) F.entry_enumerate_new n ⟨x,?_⟩;have f:(s.heap.push {cls:=.type "tuple_iterator",data:=.fields #[.ref l,.int 0 0]}).objs.size=s.heap.objs.size+1:=Xd ..;show _/\_;rw[f];have i:IsEnum ((s.heap.push {cls:=.type "tuple_iterator",data:=.fields #[.ref l,.int 0 0]}).push
    {cls:=.type "enumerate",data:=.fields #[.none,.bool false,.ref s.heap.objs.size,rawInt 0,.none,.none]}) (s.heap.objs.size+1) s.heap.objs.size 0 .none:=by
   have q:=Ww (s.heap.push {cls:=.type "tuple_iterator",data:=.fields #[.ref l,.int 0 0]}) (o:={cls:=.type "enumerate",data:=.fields #[.none,.bool false,.ref s.heap.objs.size,rawInt 0,.none,.none]}) rfl;rw[f] at q;exact q
  refine⟨⟨_,i,rfl⟩,k _ i ⟨_,Wa _ (Ww _ rfl),rfl,rfl⟩ (by rw[Xd,f]) λa o q=>Wa _ (Wa _ q)⟩
end Sb
namespace Sb
open L2 PyProof.Rows
open Builtin.SmallTypes (nextOf ownedTupleIsFree ownedTupleHandOut)
structure Zp(z T U p q l m:Addr):Prop where
 Tz:T≠z
 Uz:U≠z
 pz:p≠z
 qz:q≠z
 TU:T≠U
 Tp:T≠p
 Tq:T≠q
 Up:U≠p
 Uq:U≠q
 pq:p≠q
 lz:l≠z
 lU:l≠U
 lp:l≠p
 lq:l≠q
 mz:m≠z
 mU:m≠U
 mp:m≠p
 mq:m≠q
def zu (D:Zp z T U p q l m) (S:IsZip s.heap z T U .none) (hT:IsPair s.heap T (.ref p) (.ref q)) (hU:IsPair s.heap U u v) (h1:At b s.heap p l i) (h2:At c s.heap q m i) (hl:Of b s.heap l xs) (hm:Of c s.heap m ys) (hx:xs[i]?=some x) (hy:ys[i]?=some y) (k:∀h',IsZip h' z T U (rawInt s.heap.objs.size)->IsPair h' U x y->At b h' p l (i+1)->At c h' q m (i+1)->IsPair h' s.heap.objs.size x y->h'.objs.size=s.heap.objs.size+1->
   (∀a o,a≠z->a≠U->a≠p->a≠q->s.heap.get? a=some o->h'.get? a=some o)->Q (some (.ref s.heap.objs.size)) {s with heap:=h'}):wpAny (model P w) A (pyNext (.ref z)) Q E s:=by
 have ty:s.TypeIs (.ref z) "zip":=⟨_,S,rfl⟩;unfold pyNext;refine V8 (YJ (W4 (name:=Str.ofString "__next__") ty Ym (W3 Ym ty ZQ ?_ (ZI _))));show wpAny _ _ (field (.ref z) 2 >>=_) _ _ _;refine V8 (W0 S rfl (x:=.bool false) rfl ?_);show wpAny _ _ (field (.ref z) 3 >>=_) _ _ _;refine V8 (W0 S rfl (x:=.ref T) rfl (V8 (Xo hT rfl ?_)));show wpAny _ _ (ownedTupleIsFree (.ref z) >>=_) _ _ _;refine V8 ?_;unfold ownedTupleIsFree;refine V8 (W0 S rfl (x:=.none) rfl (Wb ?_));simp only[YW];refine V8 (XG (V8 (W0 S rfl (x:=.ref U) rfl (V8 (wpAny_setField_rec S (by simp) λk₁ G f=>?_)))));replace G:IsZip k₁ z T U .ellipsis:=G;refine V8 ?_;simp only[List.zipIdx_cons,List.zipIdx_nil,Y9,ZT];refine V8 (V8 (Aap ?_));show wpAny _ _ (nextOf (.ref p) >>=_) _ _ _;refine V8 (ux (h1.up λo e=>f.extBut _ o D.pz e) (hl.up λo e=>f.extBut _ o D.lz e) hx λk₂ p₂ h=>Wb ?_);have N:IsPair k₂ U u v:=h.extBut _ _ D.Up (f.extBut _ _ D.Uz hU);refine V8 (Xo N rfl (V8 (Aad N λk₃ J g=>V8 (ZG (Wb ?_)))));replace J:IsPair k₃ U x v:=J;refine V8 (V8 (Aap ?_));show wpAny _ _ (nextOf (.ref q) >>=_) _ _ _;refine V8 (ux (h2.up λo e=>g.extBut _ o D.Uq.symm (h.extBut _ o D.pq.symm (f.extBut _ o D.qz e))) (hm.up λo e=>g.extBut _ o D.mU (h.extBut _ o D.mp (f.extBut _ o D.mz e))) hy λk₄ q₄ n=>Wb ?_);have M:IsPair k₄ U x v:=n.extBut _ _ D.Uq J;refine V8 (Xo M rfl (V8 (Aad M λd C j=>V8 (ZG (Wb (Wb ?_))))));replace C:IsPair d U x y:=C;refine V8 (Xo C rfl (V8 (Zs ?_)));have sz:d.objs.size=s.heap.objs.size:=by rw[j.1,n.1,g.1,h.1,f.1]
 have L:IsZip d z T U .ellipsis:=j.extBut _ _ D.Uz.symm (n.extBut _ _ D.qz.symm (g.extBut _ _ D.Uz.symm (h.extBut _ _ D.pz.symm G)));have R:∀a o,a≠z->a≠U->a≠p->a≠q->s.heap.get? a=some o->d.get? a=some o:=λa o a1 a2 a3 a4 e=>j.extBut _ _ a2 (n.extBut _ _ a4 (g.extBut _ _ a2 (h.extBut _ _ a3 (f.extBut _ _ a1 e))));have p₅:At b d p l (i+1):=p₂.up λo e=>j.extBut _ o D.Up.symm (n.extBut _ o D.pq (g.extBut _ o D.Up.symm e));have Z:At c d q m (i+1):=q₄.up λo e=>j.extBut _ o D.Uq.symm e;have Y:z < d.objs.size:=Wu L;show wpAny _ _ (ownedTupleHandOut (.ref z) (.ref d.objs.size) >>=_) _ _ _;refine V8 ?_;unfold ownedTupleHandOut;have X:IsZip (d.push {cls:=.type "tuple",data:=.seq #[x,y]}) z T U .ellipsis:=Wa _ L;refine V8 (wpAny_setField_rec X (by simp) λk₇ F I=>?_);replace F:IsZip k₇ z T U (rawInt d.objs.size):=F;refine wpAny_setField_rec F (by simp) λr t H=>?_;replace t:IsZip r z T U (rawInt d.objs.size):=t;have up:∀a o,a≠z->d.get? a=some o->r.get? a=some o:=λa o a1 e=>H.extBut _ _ a1 (I.extBut _ _ a1 (Wa _ e));have O:IsPair r d.objs.size x y:=H.extBut _ _ (ZE Y) (I.extBut _ _ (ZE Y) (Ww _ rfl));have s8:r.objs.size=d.objs.size+1:=by rw[H.1,I.1,Xd]
 rw[sz] at t O s8;refine Wb ⟨_,rfl,Wb ?_⟩;show Q (some (.ref d.objs.size)) _;rw[sz];exact k r t (up _ _ D.Uz C) (p₅.up λo e=>up _ o D.pz e) (Z.up λo e=>up _ o D.qz e) O s8 λa o a1 a2 a3 a4 e=>up a o a1 (R a o a1 a2 a3 a4 e)
def CU(hh:A.handled=none)(D:Zp z T U p q l m)(I:IsZip s.heap z T U .none)(hT:IsPair s.heap T (.ref p) (.ref q))(hU:IsPair s.heap U u v)(Y:At b s.heap p l i)(h2:At c s.heap q m i)(hl:Of b s.heap l xs)(hm:Of c s.heap m ys)(he:xs[i]?=none\/ys[i]?=none)(k:∀h',(∀a o,a≠z->a≠U->a≠p->a≠q->s.heap.get? a=some o->h'.get? a=some o)->Q none {s with heap:=h'}):wpAny (model P w) A (pyNext (.ref z)) Q E s:=by
 have ty:s.TypeIs (.ref z) "zip":=⟨_,I,rfl⟩;unfold pyNext;refine V8 (YJ (W4 (name:=Str.ofString "__next__") ty Ym (W3 Ym ty ZQ ?_ (ZI _))));have fin:∀h' e,(∀a o,a≠z->a≠U->a≠p->a≠q->s.heap.get? a=some o->h'.get? a=some o)->(∃o,h'.get? e=some o/\o.cls=.type "StopIteration")->
   (λe s'=>wpAny (model P w) A (isInstance e (.type "StopIteration")) (λr J=>(if r=true then Q none J else E e J)) E s') (.ref e) {s with heap:=h'}:=λh' e up ⟨o,ho,hc⟩=>
  X1 (T:="StopIteration") (b:=true) ⟨o,ho,hc⟩ YQ (by rw[Wg rfl];exact k h' up)
 show wpAny _ _ (field (.ref z) 2 >>=_) _ _ _;refine V8 (W0 I rfl (x:=.bool false) rfl ?_);show wpAny _ _ (field (.ref z) 3 >>=_) _ _ _;refine V8 (W0 I rfl (x:=.ref T) rfl (V8 (Xo hT rfl ?_)));show wpAny _ _ (ownedTupleIsFree (.ref z) >>=_) _ _ _;refine V8 ?_;unfold ownedTupleIsFree;refine V8 (W0 I rfl (x:=.none) rfl (Wb ?_));simp only[YW];refine V8 (XG (V8 (W0 I rfl (x:=.ref U) rfl (V8 (wpAny_setField_rec I (by simp) λN j d=>?_)))));replace j:IsZip N z T U .ellipsis:=j;refine V8 ?_;simp only[List.zipIdx_cons,List.zipIdx_nil,Y9,ZT];refine V8 (V8 (Aap ?_));show wpAny _ _ (nextOf (.ref p) >>=_) _ _ _;cases ex:xs[i]? with
 | none=>
  refine V8 (Ap hh (Y.up λo e=>d.extBut _ o D.pz e) (hl.up λo e=>d.extBut _ o D.lz e) ex λn e f ⟨O,h,t⟩=>?_);have C:IsZip n z T U .ellipsis:=f _ _ D.pz.symm j;have R:e≠z:=λr=>by subst r;rw[C] at h;cases h;simp at t
  refine wpAny_setField_rec C (by simp) λM _ g=>?_;refine V8 (X1 (T:="StopIteration") (b:=true) ⟨O,g.extBut _ _ R h,t⟩ YQ (Wb (k _ λa o a1 _ a3 _ r=>g.extBut _ _ a1 (f _ _ a3 (d.extBut _ _ a1 r)))))
 | some x=>
  have ey:ys[i]?=none:=by rcases he with r | r;rw[ex] at r;cases r;exact r
  refine V8 (ux (Y.up λo e=>d.extBut _ o D.pz e) (hl.up λo e=>d.extBut _ o D.lz e) ex λn S f=>Wb ?_);have H:IsPair n U u v:=f.extBut _ _ D.Up (d.extBut _ _ D.Uz hU);refine V8 (Xo H rfl (V8 (Aad H λM Z g=>V8 (ZG (Wb ?_)))));refine V8 (V8 (Aap ?_));show wpAny _ _ (nextOf (.ref q) >>=_) _ _ _;refine V8 (Ap hh (h2.up λo e=>g.extBut _ o D.Uq.symm (f.extBut _ o D.pq.symm (d.extBut _ o D.qz e))) (hm.up λo e=>g.extBut _ o D.mU (f.extBut _ o D.mp (d.extBut _ o D.mz e))) ey λL e G ⟨O,h,t⟩=>?_);have y:IsZip L z T U .ellipsis:=G _ _ D.qz.symm (g.extBut _ _ D.Uz.symm (f.extBut _ _ D.pz.symm j));have R:e≠z:=λr=>by subst r;rw[y] at h;cases h;simp at t
  refine wpAny_setField_rec y (by simp) λX _ F=>?_;refine V8 (X1 (T:="StopIteration") (b:=true) ⟨O,F.extBut _ _ R h,t⟩ YQ (Wb (k _ λa o a1 a2 a3 a4 r=>F.extBut _ _ a1 (G _ _ a4 (g.extBut _ _ a2 (f.extBut _ _ a3 (d.extBut _ _ a1 r)))))))
abbrev g1(b:Bool)(h:Heap)(l:Addr):Heap:=h.push {cls:=.type (kn b),data:=.fields #[.ref l,.int 0 0]}
abbrev g2(b c:Bool)(h:Heap)(l m:Addr):Heap:=(g1 b h l).push {cls:=.type (kn c),data:=.fields #[.ref m,.int 0 0]}
abbrev g3(b c:Bool)(h:Heap)(l m:Addr):Heap:=(g2 b c h l m).push {cls:=.type "tuple",data:=.seq #[.ref h.objs.size,.ref (g1 b h l).objs.size]}
abbrev g4(b c:Bool)(h:Heap)(l m:Addr):Heap:=(g3 b c h l m).push {cls:=.type "tuple",data:=.seq #[.none,.none]}
abbrev g5(b c:Bool)(h:Heap)(l m:Addr):Heap:=(g4 b c h l m).push {cls:=.type "zip",data:=.fields #[.none,.bool false,.bool false,.ref (g2 b c h l m).objs.size,.ref (g3 b c h l m).objs.size]}
def JU(b c:Bool)(l m:Addr)(xs ys:Array Value):PySem.Meets (Builtin.«zip.__new__» ⟨[.type "zip",.ref l,.ref m],[]⟩) (λ_ R s=>Of b s.heap l xs/\Of c s.heap m ys/\R (.ok (.ret (.ref (g4 b c s.heap l m).objs.size))) {s with heap:=g5 b c s.heap l m}):=
 .of_wp λprog w A R s h=>by
  obtain⟨hp,g,d,a,os⟩:=s;obtain⟨hl,hm,h⟩:=h;have f:=sub_zip;have i:Of b (Shared.heap ⟨hp,g,d,a,os⟩) l xs:=hl;have L2:Of c (Shared.heap ⟨hp.push {cls:=.type (kn b),data:=.fields #[.ref l,.int 0 0]},g,d,a,os⟩) m ys:=hm.up λo e=>Wa _ e
  wp_walk using Iy i,Iy L2
  exact⟨_,rfl,h⟩
def zt (hl:Of b s.heap l xs) (hm:Of c s.heap m ys) (k:∀h',IsZip h' (s.heap.objs.size+4) (s.heap.objs.size+2) (s.heap.objs.size+3) .none->IsPair h' (s.heap.objs.size+2) (.ref s.heap.objs.size) (.ref (s.heap.objs.size+1))->IsPair h' (s.heap.objs.size+3) .none .none->
   At b h' s.heap.objs.size l 0->At c h' (s.heap.objs.size+1) m 0->h'.objs.size=s.heap.objs.size+5->(∀a o,s.heap.get? a=some o->h'.get? a=some o)->Q (.ref (s.heap.objs.size+4)) {s with heap:=h'}):
  wpAny (model P w) A (call (.type "zip") [.ref l,.ref m]) Q E s:=by
 refine callType_new F.called_zip (by decide) (F.typeCall_zip_2 _ _) (F.newCall_zip_2 _ _) (λobj=>F.args_object_init_3 obj _ _) F.entry_zip_new (JU b c l m xs ys) ⟨hl,hm,?_⟩;have g:(g1 b s.heap l).objs.size=s.heap.objs.size+1:=Xd ..;have f:(g2 b c s.heap l m).objs.size=s.heap.objs.size+2:=by rw[Xd,g]
 have e:(g3 b c s.heap l m).objs.size=s.heap.objs.size+3:=by rw[Xd,f]
 have d:(g4 b c s.heap l m).objs.size=s.heap.objs.size+4:=by rw[Xd,e]
 have p:(g5 b c s.heap l m).objs.size=s.heap.objs.size+5:=by rw[Xd,d]
 have h:(g5 b c s.heap l m).get? (g4 b c s.heap l m).objs.size=some _:=Ww _ rfl;have i:(g5 b c s.heap l m).get? (g3 b c s.heap l m).objs.size=some _:=Wa _ (Ww _ rfl);have j:(g5 b c s.heap l m).get? (g2 b c s.heap l m).objs.size=some _:=Wa _ (Wa _ (Ww _ rfl));have n:(g5 b c s.heap l m).get? (g1 b s.heap l).objs.size=some _:=Wa _ (Wa _ (Wa _ (Ww _ rfl)));have q:(g5 b c s.heap l m).get? s.heap.objs.size=some _:=Wa _ (Wa _ (Wa _ (Wa _ (Ww _ rfl))));show _/\_;rw[f,e,d] at h;rw[g,f] at j;rw[e] at i;rw[g] at n;rw[d];exact⟨⟨_,h,rfl⟩,k _ h j i ⟨_,q,rfl,rfl⟩ ⟨_,n,rfl,rfl⟩ p λa o x=>Wa _ (Wa _ (Wa _ (Wa _ (Wa _ x))))⟩
section
variable {X:Cx} {pins:List (Addr×Obj)} {σ:L2.St} {H:Hp} {s:Shared} {h':Heap} {fp:List Addr}
def sk(I:L2.Inv X pins σ H s)(k:∀b o,b∉fp->s.heap.get? b=some o->h'.get? b=some o)(f:∀b∈fp,fE X pins H b):L2.Inv X pins σ H {s with heap:=h',toks:=t'}:=by
 have d:∀b u,H b=some u->b∉fp:=λb u e z=>by rw[(f b z).1] at e;cases e
 have g:X.env.locals∉fp:=λz=>(f _ z).2.1 rfl;refine I.step (g':=s.gens) (d':=s.drawn) (ch:=fp) (λb i=>?_) (λb o _ _ a e _=>k b o a e) (λb o _ _ a e _=>⟨o.slots,k b o a e⟩) (λ_ _ _ _ n=>n)
  (λb o a e=>⟨o,k b o a e⟩) (λ_ _ e=>e) (λ_ _ _ e=>e) (λb x e=>⟨#[],by rw[e];simp⟩) (λm hm=>?_) (λb u e=>?_) I.bare
 ·obtain⟨f0,t,A,p,l,j⟩:=f b i;exact⟨p,t,l,j⟩
 ·obtain⟨o,es,w,h,r⟩:=hm;exact⟨o,es,w,k _ o g h,r⟩
 ·refine(I.bL b u e).xO (λc v a q=>k c v ?_ q) (λ_ q=>q) λ_ _ q=>q;rcases a with z | z
  ·rw[z];exact d b u e
  ·exact d c _ z
def CY(I:L2.Inv X pins σ H s)(k:∀b o,b∉fp->s.heap.get? b=some o->h'.get? b=some o)(g:∀b∈fp,fE X pins H b)(p:∀b∈fp,b < s.heap.objs.size)(j:h'.get? s.heap.objs.size=some {cls:=.type "tuple",data:=.seq us.toArray n})(r:Vals vs us)(i:vs.length<=sizeLine):L2.Inv X pins σ (upd H s.heap.objs.size (.tup vs)) {s with heap:=h',toks:=t'}:=by
 have d:∀b u,H b=some u->b∉fp:=λb u e z=>by rw[(g b z).1] at e;cases e
 have h:X.env.locals∉fp:=λz=>(g _ z).2.1 rfl;have hp:H s.heap.objs.size=none:=I.bL.fresh (Wj _);have np:∀b o,s.heap.get? b=some o->b≠s.heap.objs.size:=λb o e=>WG (Wu e);have f:∀b u,H b=some u->b≠s.heap.objs.size:=λb u e=>aJ e hp;refine I.step (g':=s.gens) (d':=s.drawn) (ch:=fp) (λb t=>?_) (λb o _ _ a e _=>k b o a e) (λb o _ _ a e _=>⟨o.slots,k b o a e⟩) (λb o _ e n=>by rw[az (np b o e)];exact n)
  (λb o a e=>⟨o,k b o a e⟩) (λb _ e=>by rw[az (f b _ e)];exact e) (λb _ _ e=>by rw[az (f b _ e)];exact e) (λb F e=>⟨#[],by rw[az (f b _ e),e];simp⟩) (λm hm=>?_) (λb u e=>?_) I.bare
 ·obtain⟨f0,C,J,A,x,w⟩:=g b t;exact⟨A,C,x,w⟩
 ·obtain⟨o,es,E,l,q⟩:=hm;exact⟨o,es,E,k _ o h l,q⟩
 ·by_cases z:b=s.heap.objs.size
  ·subst z;rw[aH] at e;cases e;exact⟨i,us,r,⟨_,j,rfl,⟨n,rfl⟩,rfl⟩⟩
  ·rw[az z] at e;refine(I.bL b u e).xO (λc v a q=>k c v ?_ q) (λc q=>?_) λc u q=>?_
   ·rcases a with y | y
    ·rw[y];exact d b u e
    ·exact d c _ y
   ·rw[az (f _ _ q)];exact q
   ·rw[az (f _ _ q)];exact q
end
def mn(b:Bool)(K:FR)(H:Hp)(l:Addr)(xs:List V):Prop:=match b with
 | true=>fN K H l xs
 | false=>jc K H l xs
def mn.of(I:L2.Inv X pins σ H s)(q:mn b X.K H l xs):∃its:List Value,Vals xs its/\Of b s.heap l its.toArray:=by
 cases b with
 | true=>obtain⟨its,r,p,_⟩:=I.list (show fN X.K H l xs from q);exact⟨its,r,p.isList⟩
 | false=>obtain⟨its,r,p,_⟩:=I.tuple (show jc X.K H l xs from q);exact⟨its,r,p⟩
def mn.inj(I:L2.Inv X pins σ H s)(q:mn b X.K H l xs)(a:mn b X.K H l ys):xs=ys:=by
 cases b with
 | true=>exact I.Ay q a
 | false=>exact I.wI q a
def VG(b:Bool)(K:FR)(l:Addr):It:=
 ⟨λi H=>∃a x,mn b K H l a/\a[i]?=some x,λi H x c=>∃p y,H p=none/\x=.ref p/\c=upd H p (.tup [.int (i:Int),y])/\∀a,mn b K H l a->a[i]?=some y,λi H=>∃a,mn b K H l a/\a.length<=i⟩
def VF(b c:Bool)(K:FR)(l m:Addr):It:=
 ⟨λi H=>∃a d x y,mn b K H l a/\mn c K H m d/\a[i]?=some x/\d[i]?=some y,
  λi H x e=>∃p u v,H p=none/\x=.ref p/\e=upd H p (.tup [u,v])/\(∀a,mn b K H l a->a[i]?=some u)/\∀a,mn c K H m a->a[i]?=some v,
  λi H=>∃a d,mn b K H l a/\mn c K H m d/\(a.length<=i\/d.length<=i)⟩
def EN{P:Program}{w:World}{K:FR}{es:List Expr}{k0:Nat}{pos:Pos}(b:Bool)(l e j:Addr)(ne:e≠j):Turn P w K (.Tuple es k0 pos) (VG b K l) [e,j] e (λi h=>(∃old,IsEnum h e j i old)/\At b h j l i) where
 mem:=by simp
 obj:=λi h st a c=>by
  obtain⟨⟨old,d⟩,o,m,_,d2⟩:=st;simp at c;rcases c with rfl | rfl
  ·exact⟨_,d,λv z=>by cases z⟩
  ·exact⟨o,m,λv z=>by rw[d2] at z;cases z⟩
 keep:=λi h T ⟨⟨old,d⟩,m⟩ k=>⟨⟨old,k e (by simp) _ d⟩,m.up λo q=>k j (by simp) o q⟩
 item:=by
  intro X N J R Y i g s σ H E I y st L;subst N J R;obtain⟨xs,x,t,G⟩:=L;obtain⟨⟨old,d⟩,m⟩:=st;obtain⟨C,rv,O⟩:=t.of I;obtain⟨u,hu,ru⟩:=rv.get G;have p:∀a∈[e,j],a < s.heap.objs.size:=λa c=>by
   simp at c;rcases c with rfl | rfl
   ·exact Wu d
   ·exact m.lt
  refine F4 d m O (x:=u) (by simpa using hu) ne λT a1 a2 a3 a4 a5=>⟨_,rfl,wpAny_letOwnedTupleGo_enum a1 λS b1 Z=>?_⟩;have hp:H s.heap.objs.size=none:=I.bL.fresh (Wj _);have I1:=CY (t':=s.toks+1) (vs:=[.int (i:Int),x]) (us:=[.int i s.toks,u]) (n:=0) I (λa o c q=>a5 a o (λz=>c (by simp[z])) (λz=>c (by simp[z])) q) y p a3 (.cons ⟨_,rfl⟩ (.cons ru .nil)) (show 2<=sizeLine by decide);have r:∀a∈[e,j],fE X g (upd H s.heap.objs.size (.tup [.int (i:Int),x])) a:=λa c=>by
   obtain⟨f0,f⟩:=y a c;exact⟨by rw[az (WG (p a c))];exact f0,f⟩
  have I2:=sk (t':=s.toks+1) I1 (h':=S) (λa o c q=>Z.extBut a o (λz=>c (by simp[z])) q) r;exact⟨.ref s.heap.objs.size,_,I2,rfl,⟨_,x,hp,rfl,rfl,λys hy=>by rw[hy.inj I t];exact G⟩,⟨⟨_,by simpa using b1⟩,a2.up λo q=>Z.extBut j o (Xy ne) q⟩,λa c=>(r a c).1⟩
 done:=by
  intro X N J R Y i g s σ H E I y st L;subst N J R;obtain⟨xs,t,G⟩:=L;obtain⟨⟨old,d⟩,m⟩:=st;obtain⟨C,rv,O⟩:=t.of I;have hl:=rv.length;exact Ja (I.ok.hd Y) d m O (by simp;lia) λT eb=>⟨rfl,sk (t':=s.toks) I (λa o c q=>eb a o (λz=>c (by simp[z])) q) y⟩
 self:=λA i s Q E ⟨⟨old,d⟩,_⟩ q=>by
  have M:s.TypeIs (.ref e) "enumerate":=⟨_,d,rfl⟩;refine wpAny_pyIter_slot M F.slot_enumerate_iter (W3 F.slot_enumerate_iter M F.entry_enumerate_iter ?_ (F.args_enumerate_iter_1 _));show wpAny _ _ (ret (.ref e)) _ _ s;exact Wb ⟨_,rfl,"enumerate",_,M,YK.lookup,q⟩
def Gx{P:Program}{w:World}{K:FR}{es:List Expr}{k0:Nat}{pos:Pos}(b c:Bool)(z T U p q l m:Addr)(D:Zp z T U p q l m):
  Turn P w K (.Tuple es k0 pos) (VF b c K l m) [z,T,U,p,q] z (λi h=>IsZip h z T U .none/\IsPair h T (.ref p) (.ref q)/\(∃u v,IsPair h U u v)/\At b h p l i/\At c h q m i) where
 mem:=by simp
 obj:=λi h st a d=>by
  obtain⟨L,t,⟨u,v,J⟩,⟨o4,G,_,d4⟩,⟨o5,F,_,d5⟩⟩:=st;simp at d;rcases d with rfl | rfl | rfl | rfl | rfl
  ·exact⟨_,L,λv z=>by cases z⟩
  ·exact⟨_,t,λv z=>by cases z⟩
  ·exact⟨_,J,λv z=>by cases z⟩
  ·exact⟨o4,G,λv z=>by rw[d4] at z;cases z⟩
  ·exact⟨o5,F,λv z=>by rw[d5] at z;cases z⟩
 keep:=λi h Z ⟨L,t,⟨u,v,J⟩,G,F⟩ k=>⟨k z (by simp) _ L,k T (by simp) _ t,⟨u,v,k U (by simp) _ J⟩,G.up λo e=>k p (by simp) o e,F.up λo e=>k q (by simp) o e⟩
 item:=by
  intro X hP hw hK hc i C s σ H E I hf st hg;subst hP hw hK;obtain⟨xs,ys,x,y,j,g,hx,hy⟩:=hg;obtain⟨L,t,⟨u,v,J⟩,G,F⟩:=st;obtain⟨is1,N,R⟩:=j.of I;obtain⟨is2,M,O⟩:=g.of I;obtain⟨u1,hu1,ru1⟩:=N.get hx;obtain⟨u2,hu2,ru2⟩:=M.get hy;have S:∀a∈[z,T,U,p,q],a < s.heap.objs.size:=λa d=>by
   simp at d;rcases d with rfl | rfl | rfl | rfl | rfl
   ·exact Wu L
   ·exact Wu t
   ·exact Wu J
   ·exact G.lt
   ·exact F.lt
  refine zu D L t J G F R O (x:=u1) (y:=u2) (by simpa using hu1) (by simpa using hu2) λZ a1 a2 a3 a4 a5 a6 a7=>⟨_,rfl,wpAny_letOwnedTupleGo_zip a1 λh'' b1 b2=>?_⟩;have hp:H s.heap.objs.size=none:=I.bL.fresh (Wj _);have I1:=CY (t':=s.toks) (vs:=[x,y]) (us:=[u1,u2]) (n:=0) I (h':=Z) (fp:=[z,T,U,p,q]) (λa o d e=>a7 a o (λr=>d (by simp[r])) (λr=>d (by simp[r])) (λr=>d (by simp[r])) (λr=>d (by simp[r])) e) hf S a5 (.cons ru1 (.cons ru2 .nil)) (show 2<=sizeLine by decide);have Y:∀a∈[z,T,U,p,q],fE X C (upd H s.heap.objs.size (.tup [x,y])) a:=λa d=>by
   obtain⟨f0,f⟩:=hf a d;exact⟨by rw[az (WG (S a d))];exact f0,f⟩
  have I2:=sk (t':=s.toks) I1 (h':=h'') (fp:=[z,T,U,p,q]) (λa o d e=>b2.extBut a o (λr=>d (by simp[r])) e) Y;have hT':=a7 T _ D.Tz D.TU D.Tp D.Tq t;exact⟨.ref s.heap.objs.size,_,I2,rfl,⟨_,x,y,hp,rfl,rfl,λzs hz=>by rw[hz.inj I j];exact hx,λzs hz=>by rw[hz.inj I g];exact hy⟩,
   ⟨b1,b2.extBut T _ D.Tz hT',⟨_,_,b2.extBut U _ D.Uz a2⟩,a3.up λo e=>b2.extBut p o D.pz e,a4.up λo e=>b2.extBut q o D.qz e⟩,λa d=>(Y a d).1⟩
 done:=by
  intro X hP hw hK hc i C s σ H E I hf st hg;subst hP hw hK;obtain⟨xs,ys,j,g,hx⟩:=hg;obtain⟨L,t,⟨u,v,J⟩,G,F⟩:=st;obtain⟨is1,N,R⟩:=j.of I;obtain⟨is2,M,O⟩:=g.of I;have hl1:=N.length;have hl2:=M.length;exact CU (I.ok.hd hc) D L t J G F R O (by simp;lia) λZ eb=>⟨rfl,sk (t':=s.toks) I (fp:=[z,T,U,p,q]) (λa o d e=>eb a o (λr=>d (by simp[r])) (λr=>d (by simp[r])) (λr=>d (by simp[r])) (λr=>d (by simp[r])) e) hf⟩
 self:=λA i s Q E st h=>wpAny_pyIter_zip st.1 h
def boot_zip:bootBuiltins "zip"=some (.type "zip"):=by decide+kernel
def Gi:bootBuiltins "enumerate"=some (.type "enumerate"):=by decide+kernel
def Mv(n l m:Nat)(hl:l < n)(hm:m < n):Zp (n+4) (n+2) (n+3) n (n+1) l m:=by
 constructor <;> (intro h;have h:(_:Nat)=_:=h;lia)
def KW(y:Gl X "enumerate")(hm:X.mg "enumerate"=none)(C:PA X [a] m)(v:starEach [a] X.env=[(false,eval a X.env)]:=by ac_nf):
  PI X (.Tuple es k0 i) (.Call (.Name "enumerate" p) [a] [] pos) (λσ H R=>m σ H λvs g=>∃l b,vs=[.ref l]/\(∃xs,mn b X.K g l xs)/\R (VG b X.K l) g):=by
 intro d s σ H R I h;refine Call_ (jN I y hm Gi (XA (cU (C pos d s σ H _ I h) λus s1 ⟨vs,g,f,o,r⟩=>?_) v rfl));obtain⟨l,b,e,⟨xs,x⟩,q⟩:=r;subst e;obtain⟨u,rfl,n⟩:=Vals.one o;obtain rfl:u=Value.ref l:=n;obtain⟨t,rv,E⟩:=x.of f;refine F3 E λk a1 a2 a3 a4=>?_;have F:L2.Inv X d σ g {s1 with heap:=k}:=f.kept (t':=s1.toks) a4;have z:∀c∈[s1.heap.objs.size+1,s1.heap.objs.size],fE X d g c:=λc j=>by
  simp at j;rcases j with rfl | rfl
  ·exact f.wq (YG _) (f.bL.fresh (YG _))
  ·exact f.wq (Wj _) (f.bL.fresh (Wj _))
 have T:=EN (P:=X.prog) (w:=X.w) (K:=X.K) (es:=es) (k0:=k0) (pos:=i) b l (s1.heap.objs.size+1) s1.heap.objs.size (Nat.succ_ne_self _);refine T.self X.A 0 {s1 with heap:=k} _ X.xe ⟨⟨_,a1⟩,a2⟩ ?_;exact⟨_,[s1.heap.objs.size+1,s1.heap.objs.size],_,_,g,rfl,F,T,⟨⟨_,a1⟩,a2⟩,z,q⟩
def Oo(Y:Gl X "zip")(hm:X.mg "zip"=none)(ha:PA X [a,t] G)(S:starEach [a,t] X.env=[(false,eval a X.env),(false,eval t X.env)]:=by ac_nf)(k:starEach [t] X.env=[(false,eval t X.env)]:=by ac_nf):
  PI X (.Tuple es k0 i) (.Call (.Name "zip" p) [a,t] [] pos) (λσ H R=>G σ H λvs g=>∃l m b c,vs=[.ref l,.ref m]/\(∃xs,mn b X.K g l xs)/\(∃xs,mn c X.K g m xs)/\R (VF b c X.K l m) g):=by
 intro f s σ H R I h;refine Call_ (jN I Y hm boot_zip (XA (cU (ha pos f s σ H _ I h) λus s1 ⟨vs,g,x,L,M⟩=>?_) (by rw[S,k]) (by rw[k];rfl)));obtain⟨l,m,b,c,e,⟨xs,U⟩,⟨ys,y⟩,q⟩:=M;subst e;obtain⟨u,v,rfl,J,j⟩:=Vals.two L;obtain rfl:u=Value.ref l:=J;obtain rfl:v=Value.ref m:=j;obtain⟨Q,rv,C⟩:=U.of x;obtain⟨z,j,r⟩:=y.of x;refine zt C r λE a1 a2 a3 a4 F a6 a7=>?_;have I2:L2.Inv X f σ g {s1 with heap:=E}:=x.kept (t':=s1.toks) a7;have Z:∀d∈[s1.heap.objs.size+4,s1.heap.objs.size+2,s1.heap.objs.size+3,s1.heap.objs.size,s1.heap.objs.size+1],fE X f g d:=λd hd=>by
  simp at hd;have:s1.heap.objs.size<=d:=by lia
  exact x.wq this (x.bL.fresh this)
 have O:l < s1.heap.objs.size:=by obtain⟨o,n,e,_⟩:=C.data;exact Wu e
 have N:m < s1.heap.objs.size:=by obtain⟨o,n,e,_⟩:=r.data;exact Wu e
 have D:Zp (s1.heap.objs.size+4) (s1.heap.objs.size+2) (s1.heap.objs.size+3) s1.heap.objs.size (s1.heap.objs.size+1) l m:=Mv _ _ _ O N;have T:=Gx (P:=X.prog) (w:=X.w) (K:=X.K) (es:=es) (k0:=k0) (pos:=i) b c _ _ _ _ _ l m D;refine T.self X.A 0 {s1 with heap:=E} _ X.xe ⟨a1,a2,⟨_,_,a3⟩,a4,F⟩ ?_;exact⟨_,[s1.heap.objs.size+4,s1.heap.objs.size+2,s1.heap.objs.size+3,s1.heap.objs.size,s1.heap.objs.size+1],_,_,g,rfl,I2,T,⟨a1,a2,⟨_,_,a3⟩,a4,F⟩,Z,q⟩
end Sb
namespace Sm
open L2 PyProof.Rows
noncomputable def j8:Nat->List D->List D
 | _,[]=>[]
 | k,x::r=>.tup [.int (k:Int),x]::j8 (k+1) r
noncomputable def pB:List D->List D->List D
 | x::r,y::s=>.tup [x,y]::pB r s
 | _,_=>[]
theorem qB:∀(xs:List D)(k i:Nat),(j8 k xs)[i]?=(xs[i]?).map λx=>.tup [.int ((k+i:Nat):Int),x]
 | [],k,i=>by simp[j8]
 | x::r,k,0=>by simp[j8]
 | x::r,k,i+1=>by
  show(j8 (k+1) r)[i]?=_;rw[qB r (k+1) i];simp only[Xq];congr 1
  funext y
  rw[show k+1+i=k+(i+1) by lia]
theorem dG:∀(xs:List D)(k:Nat),(j8 k xs).length=xs.length
 | [],_=>rfl
 | _::r,k=>by simp[j8,dG r (k+1)]
theorem zv:∀(xs ys:List D)(i:Nat),(pB xs ys)[i]?=(xs[i]?).bind λx=>(ys[i]?).map λy=>.tup [x,y]
 | [],_,i=>by simp[pB]
 | _::_,[],i=>by simp[pB]
 | x::r,y::s,0=>by simp[pB]
 | x::r,y::s,i+1=>by
  show(pB r s)[i]?=_;rw[zv r s i];simp
theorem qO:∀(xs ys:List D),(pB xs ys).length=min xs.length ys.length
 | [],_=>by simp[pB]
 | _::_,[]=>by simp[pB]
 | x::r,y::s=>by simp[pB,qO r s]
def SeqAt.Dd{K:FR}{H:Hp}{a:Addr}{vs:List V}{b:Bool}(q:SeqAt K H a vs b):Sb.mn b K H a vs:=by
 cases q with
 | l q=>exact q
 | t q=>exact q
def CM(a:kc (ws++b) h=true):kc ws h=true/\kc b h=true:=by
 induction ws with
 | nil=>exact⟨rfl,a⟩
 | cons x r c=>
  obtain⟨n,o⟩:=x;simp only[Yr,kc,WC] at a ⊢;obtain⟨e,d⟩:=c a.2;exact⟨⟨a.1,e⟩,d⟩
def qV(m:AM):IM:=λa h=>(m a h).bind λp=>match p.1 with
 | [d]=>(df d p.2).map λq=>(j8 0 q.1,q.2,p.2)
 | _=>none
def Pq(m:AM):IM:=λa h=>(m a h).bind λp=>match p.1 with
 | [d,e]=>(df d p.2).bind λq=>(df e p.2).map λr=>(pB q.1 r.1,q.2++r.2,p.2)
 | _=>none
def lN(P:Gl X "enumerate")(hm:X.mg "enumerate"=none)(U:SA X [a] m)(hl:mr m 1)(O:starEach [a] X.env=[(false,eval a X.env)]:=by ac_nf):SI X (.Tuple es k0 t) (.Call (.Name "enumerate" p) [a] [] pos) (qV m):=
 (Sb.KW P hm U O).imp λσ H Q ⟨I,J,h,xs,c,h',R,S,e,k⟩=>by
  obtain⟨⟨F,h1⟩,E,s⟩:=a9 e;refine⟨I,J,h,F,h1,R,S,E,λvs j H1 T1 G n=>?_⟩
  match F,hl _ _ _ _ E,s,n with
  | [d],_,s,n=>
   obtain⟨⟨ys,w⟩,e3,e4⟩:=dS s;cases e4;obtain⟨v,rfl,rd⟩:=rep1 n;obtain⟨a,rfl,⟨us,q,l⟩,st⟩:=jg G rd e3;refine⟨a,uG d,rfl,⟨us,q.Dd⟩,k _ j H1 T1 G ⟨λg H2 Z T2 b T i=>?_⟩⟩;obtain⟨c,z,o⟩:=st g H2 Z T2 b T;refine⟨λA=>⟨c,o.Dd,by rw[z.length];rw[dG] at A;exact A⟩,λx f=>?_⟩;rw[qB] at f;obtain⟨y,ey,f⟩:=dS f;subst f;obtain⟨v,C,rv⟩:=z.got ey;refine⟨⟨c,v,o.Dd,C⟩,λu H3 ⟨p,L,hp,N,Y,M⟩=>?_⟩;subst N;subst Y;have r:L=v:=by have:=M c o.Dd;rw[C] at this;exact(Option.some.inj this).symm
   subst r;refine⟨de.laid b hp,b.laid hp,.tup (.inl ⟨.inl aH,b.fresh hp⟩) (.cons ?_ (.cons (rv.mono (de.laid b hp).toCh) .nil))⟩;rw[X5];exact .int _
def NH(hg:Gl X "zip")(hm:X.mg "zip"=none)(ha:SA X [a,b] m)(hl:mr m 2)(hs:starEach [a,b] X.env=[(false,eval a X.env),(false,eval b X.env)]:=by ac_nf)(M:starEach [b] X.env=[(false,eval b X.env)]:=by ac_nf):
  SI X (.Tuple es k0 T) (.Call (.Name "zip" p) [a,b] [] pos) (Pq m):=
 (Sb.Oo hg hm ha hs M).imp λσ H Q ⟨ρ,δ,h,xs,s,h',R,S,e,k⟩=>by
  obtain⟨⟨ds,h1⟩,e1,O⟩:=a9 e;refine⟨ρ,δ,h,ds,h1,R,S,e1,λvs t H1 T1 P G=>?_⟩
  match ds,hl _ _ _ _ e1,O,G with
  | [d,d'],_,O,G=>
   obtain⟨⟨ys,w⟩,e3,e4⟩:=a9 O;obtain⟨⟨zs,w'⟩,e5,e6⟩:=dS e4;cases e6;obtain⟨v,z,rfl,rd,F⟩:=rep2 G;obtain⟨a,rfl,⟨us,q,l⟩,st⟩:=jg P rd e3;obtain⟨a',rfl,⟨A,q',l'⟩,C⟩:=jg P F e5;refine⟨a,a',uG d,uG d',rfl,⟨us,q.Dd⟩,⟨A,q'.Dd⟩,k _ t H1 T1 P ⟨λn H2 Z T2 g hc i=>?_⟩⟩;obtain⟨c1,c2⟩:=CM hc;obtain⟨s,U,I⟩:=st n H2 Z T2 g c1;obtain⟨c,o,f⟩:=C n H2 Z T2 g c2;refine⟨λY=>⟨s,c,I.Dd,f.Dd,by rw[U.length,o.length];rw[qO] at Y;dsimp only at Y;lia⟩,λx j=>?_⟩;rw[zv] at j;obtain⟨y,ey,j⟩:=a9 j;obtain⟨y',N,j⟩:=dS j;subst j;obtain⟨v,ev,rv⟩:=U.got ey;obtain⟨z,r,E⟩:=o.got N;refine⟨⟨s,c,v,z,I.Dd,f.Dd,ev,r⟩,λu H3 ⟨p,x1,x2,hp,hu,hH,L,J⟩=>?_⟩;subst hu;subst hH;have z1:x1=v:=by have:=L s I.Dd;rw[ev] at this;exact(Option.some.inj this).symm
   have z2:x2=z:=by have:=J c f.Dd;rw[r] at this;exact(Option.some.inj this).symm
   subst z1;subst z2;exact⟨de.laid g hp,g.laid hp,.tup (.inl ⟨.inl aH,g.fresh hp⟩) (.cons (rv.mono (de.laid g hp).toCh) (.cons (E.mono (de.laid g hp).toCh) .nil))⟩
def yW(ls:List (Key×D)):List (Key×D)->Option Bool
 | []=>some true
 |(k,v)::r=>match dk ls k with
  | none=>some false
  | some u=>(qS v).bind λa=>(qS u).bind λb=>if a.depth<=60/\b.depth<=60 then(yW ls r).map λc=>PyData.eqv a b&&c else none
def Jc(ks ls:List (Key×D)):Option Bool:=if ks.length=ls.length then yW ls ks else some false
def M1(d e:D)(h:MH):Option Bool:=match dH d h,dH e h with
 | some ks,some ls=>Jc ks ls
 | _,_=>LQ d e h
def bu(d e:D)(h:MH):Option (D×MH):=(M1 d e h).map λc=>(.bl c,h)
def rY(d e:D)(h:MH):Option (D×MH):=(M1 d e h).map λc=>(.bl (!c),h)
theorem DZ(L:X.A.units+64 < cLine)(I:L2.Inv X pins σ H s)(w:bj X.K ρ H vs ls)(u:KV vs j):
  ∀{us:List (Key×V)} {ks:List (Key×D)} {m:List (Key×Value)} {c:Bool},bj X.K ρ H us ks->KV us m->yW ls ks=some c->PySem.W.KeqHits X.A.in1 s j m c
 | _,_,_,c,.nil,g,e=>by
  cases g;cases e;exact .nil
 | _,_,_,c,.cons (k:=k) (v:=v) (d:=d) r l,g,e=>by
  cases g with
  | cons g E=>
   rename_i p m;obtain⟨T,y⟩:=p;obtain⟨x,t⟩:=g;dsimp only at x t;subst x;simp only[yW] at e;have f:=u.val k;rcases w.val k with⟨o,n⟩ |⟨U,S,o,n,J⟩
   ·rw[o] at e;cases e;rw[n] at f;refine .miss ?_;cases q:valueAt j k with
    | none=>rfl
    | some _=>rw[q] at f;exact f.elim
   ·rw[o] at e;obtain⟨a,P,e⟩:=a9 e;obtain⟨b,O,e⟩:=a9 e
    by_cases z:a.depth<=60/\b.depth<=60
    ·rw[Wg z] at e;obtain⟨Y,N,M⟩:=dS e;subst M;rw[n] at f;cases q:valueAt j k with
     | none=>rw[q] at f;exact f.elim
     | some C=>
      rw[q] at f;obtain⟨G,R⟩:=r.sy P;obtain⟨F,Q⟩:=J.sy O;obtain⟨as,i⟩:=G.reads I t;obtain⟨bs,h⟩:=F.reads I f;refine .hit q (YX a b _ s y C as bs i h R Q ?_) (DZ L I w u l E N);have:min a.depth b.depth<=a.depth:=Y8 _ _;show X.A.units+1+min a.depth b.depth < cLine
      lia
    ·rw[Wh z] at e;cases e
def I9(F:X.A.units+64 < cLine)(I:L2.Inv X pins σ H s)(J:L2.RelV x v)(G:L2.RelV y u)(S:bP X.K ρ h H)(rd:Rep X.K ρ H x d)(L:Rep X.K ρ H y e)(f:M1 d e h=some c):
  (∀Q:Value->Shared->Prop,Q (.bool c) s->wpAny (model X.prog X.w) X.A (compareOp .Eq v u) Q X.xe s)/\∀Q:Value->Shared->Prop,Q (.bool (!c)) s->wpAny (model X.prog X.w) X.A (compareOp .NotEq v u) Q X.xe s:=by
 have data:LQ d e h=some c->(∀Q:Value->Shared->Prop,Q (.bool c) s->wpAny (model X.prog X.w) X.A (compareOp .Eq v u) Q X.xe s)/\∀Q:Value->Shared->Prop,Q (.bool (!c)) s->wpAny (model X.prog X.w) X.A (compareOp .NotEq v u) Q X.xe s:=by
  intro f;obtain⟨a,e3,e4⟩:=a9 f;obtain⟨b,e5,r⟩:=a9 e4
  by_cases w:a.depth<=64/\b.depth<=64
  ·rw[Wg w] at r;cases r;obtain⟨Z,U⟩:=oa S rd e3;obtain⟨Y,T⟩:=oa S L e5;obtain⟨as,j⟩:=Z.reads I J;obtain⟨bs,i⟩:=Y.reads I G;exact⟨λQ q=>eq_dataH j i (lY U w.1) (lY T w.2) F q,λQ q=>ne_dataH j i (lY U w.1) (lY T w.2) F q⟩
  ·rw[Wh w] at r;cases r
 unfold M1 at f;cases n:dH d h with
 | none=>rw[n] at f;exact data f
 | some ks=>
  cases E:dH e h with
  | none=>rw[n,E] at f;exact data f
  | some ls=>
   rw[n,E] at f;obtain⟨a,us,rfl,ha,O⟩:=jS S rd n;obtain⟨b,ws,rfl,hb,N⟩:=jS S L E;obtain rfl:v=Value.ref a:=J;obtain rfl:u=Value.ref b:=G;obtain⟨_,p,l,j,C⟩:=xp I.bL ha;obtain⟨_,o,k,i,t⟩:=xp I.bL hb;have R:l.length=ks.length:=by rw[<-O.length];exact(Paired.length j).symm
   have P:k.length=ls.length:=by rw[<-N.length];exact(Paired.length i).symm
   dsimp only[Jc] at f
   by_cases z:ks.length=ls.length
   ·rw[Wg z] at f;have g:=DZ F I N i O j f;have m:(l.length==k.length&&c)=c:=by rw[R,P,z,X8,Zr]
    exact⟨λQ q=>PySem.W.keq_eq p o C t (by lia) (λ_=>g) (by rw[m];exact q),λQ q=>PySem.W.keq_ne p o C t (by lia) (λ_=>g) (by rw[m];exact q)⟩
   ·rw[Wh z] at f;cases f;have m:(l.length==k.length&&false)=false:=ZU _;have M:l.length=k.length->PySem.W.KeqHits X.A.in1 s k l false:=λq=>absurd (by rw[<-R,<-P];exact q) z;exact⟨λQ q=>PySem.W.keq_eq p o C t (by lia) M (by rw[m];exact q),λQ q=>PySem.W.keq_ne p o C t (by lia) M (by rw[m];exact q)⟩
def B7(i:X.A.units+64 < cLine):ph X (compareOp .Eq) bu:=by
 intro a s n H x y v u Q I f b hh;obtain⟨o,h,d,e,z,p,S,rd,g,j,k⟩:=hh;obtain⟨c,m,l⟩:=dS j;cases l;exact(I9 i I f b S rd g m).1 _ ⟨.bl _,H,I,rfl,k _ _ (.here S (.bl _))⟩
def OI(i:X.A.units+64 < cLine):ph X (compareOp .NotEq) rY:=by
 intro a s n H x y v u Q I f b hh;obtain⟨o,h,d,e,z,p,S,rd,g,j,k⟩:=hh;obtain⟨c,m,l⟩:=dS j;cases l;exact(I9 i I f b S rd g m).2 _ ⟨.bl _,H,I,rfl,k _ _ (.here S (.bl _))⟩
def fy(acc:List (Key×D))(ps:List (Key×D)):List (Key×D):=ps.foldl (λa p=>putD a p.1 p.2) acc
theorem bj.merge{K:FR}{ρ:Ad}{H:Hp}:∀{kvs:List (Key×V)} {ps:List (Key×D)} {acc:List (Key×V)} {ac:List (Key×D)},bj K ρ H acc ac->bj K ρ H kvs ps->bj K ρ H (bC acc kvs) (fy ac ps)
 | _,_,_,_,a,.nil=>a
 | _,_,acc,ac,a,.cons (k:=k) (v:=v) (d:=d) r l=>bj.merge (acc:=putK acc k v) (ac:=putD ac k d) (a.put r) l
def Et:bootBuiltins "list"=some (.type "list"):=by decide+kernel
def c8:bootBuiltins "tuple"=some (.type "tuple"):=by decide+kernel
def Mb:bootBuiltins "dict"=some (.type "dict"):=by decide+kernel
def Eu:bootBuiltins "bool"=some (.type "bool"):=by decide+kernel
def zh:bootBuiltins "int"=some (.type "int"):=by decide+kernel
def Ju:bootBuiltins "str"=some (.type "str"):=by decide+kernel
def Qb:bootBuiltins "len"=some (.builtin "len"):=by decide+kernel
def Qe:bootBuiltins "abs"=some (.builtin "abs"):=by decide+kernel
def bN:bootBuiltins "isinstance"=some (.builtin "isinstance"):=by decide+kernel
def Qd:bootBuiltins "all"=some (.builtin "all"):=by decide+kernel
def Qc:bootBuiltins "any"=some (.builtin "any"):=by decide+kernel
noncomputable def Nl(a:Scope)(x:Str):Bool:=match a.names.lookup x with
 | some .local=>true
 | some .cell=>true
 | some .free=>true
 | _=>false
noncomputable def Li(a:Scope)(x:Str):Bool:=match a.names.lookup x with
 | some .local=>true
 | some .cell=>true
 | _=>false
noncomputable def TL(X:Cx)(x:Str):Bool:=X.fn x||(match X.env.scope.names.lookup x with
 | some .local=>true
 | _=>false)
def Nk(h:Nl sc x=true):SV sc x:=by
 unfold Nl at h
 split at h <;> first |(cases h;done) | skip
 ·exact .inl ‹_›
 ·exact .inr (.inl ‹_›)
 ·exact .inr (.inr ‹_›)
def Iq(h:Li sc x=true):Loc sc x:=by
 unfold Li at h
 split at h <;> first |(cases h;done) | skip
 ·exact .inl ‹_›
 ·exact .inr ‹_›
def IK(h:TL X x=true):X.fn x=true\/X.env.scope.names.lookup x=some .local:=by
 unfold TL at h;rw[XQ] at h;rcases h with h | h
 ·exact .inl h
 ·split at h
  ·exact .inr ‹_›
  ·cases h
def sv(i:Nat)(c:X.N[i]?=some x:=by ac_nf)(b:Nl X.env.scope x=true:=by ac_nf)(hd:(x==("__debug__":Str))=false:=by ac_nf)(a:(x==("__classdict__":Str))=false:=by ac_nf):SE X (.Name x pos) (bF i):=NI c (Nk b) hd a
def sset(i:Nat)(g:X.N.Nodup)(f:SE X e a)(hi:X.N[i]?=some x:=by ac_nf)(b:Li X.env.scope x=true:=by ac_nf)(c:swapsWith e (some (.Name x pos')) pos.line X.env=pure false:=by ac_nf)(d:TL X x=true:=by ac_nf):SS X (.Assign [.Name x pos'] e pos) (aP i a):=NC g hi (Iq b) f c (IK d)
def sgn(i:Nat)(c:X.N.Nodup)(hi:X.N[i]?=some x:=by ac_nf)(a:Li X.env.scope x=true:=by ac_nf)(b:TL X x=true:=by ac_nf):SG X (.Name x pos) (gN i):=Kh c hi (Iq a) (IK b)
noncomputable def BE(i j:Nat)(m:AM):SM:=λc h=>(m c h).bind λp=>match p.1 with
 | [a,b]=>some (.nx,(c.set i (some a)).set j (some b),p.2)
 | _=>none
def Kd(i j:Nat){kt o c}(L:X.N.Nodup)(hl:mr m 2)(J:X.calm=true)(A:i≠j)(P:PS X (.Assign [.Tuple [.Name x z,.Name y py] kt pt] (.Tuple [a,b] o c) pos) (QP i j (Vs X.K m))):
  SS X (.Assign [.Tuple [.Name x z,.Name y py] kt pt] (.Tuple [a,b] o c) pos) (BE i j m):=P.imp λE σ H ⟨s,w,h,fl,t,M,R,S,e,k⟩=>by
 obtain⟨⟨q,C⟩,p,n⟩:=a9 e;refine⟨s,w,h,q,C,R,S,p,λI f G r F l=>?_⟩
 match q,hl _ _ _ _ p,n,l with
 | [d,O],_,n,l=>
  cases n;obtain⟨v,u,rfl,rd,g⟩:=rep2 l;exact⟨v,u,rfl,k f G r F _ (((R.mono r.toCh).set rd i).set g j)⟩
structure Df(P:Program)(w:World)(K:FR)(mg:Str->Option Value)(base:Heap)(nm:Str)(k:Nat)(ps:List Str)(n:Nat)(F:Fn):Prop where
 ex:∃(f:Addr)(fd:FuncData),aV P w K mg base dD k f fd ps (eu K n F)/\PySem.W.keepIn K (.ref f)=true/\Binds K fd ps []/\mg nm=some (.ref f)
def Q9(d:Df X.prog X.w X.K X.mg X.base nm k ps n F)(hr:fD h X.A)(i:k<=h)(o:SA X (e::es) m)(hl:mr m n)(j:Gl X nm:=by unfold Gl;ac_nf)(b:(nm==("__debug__":Str))=false:=by ac_nf)(l:starEach (e::es) X.env=(false,eval e X.env)::starEach es X.env:=by ac_nf)(a:(backTo pos (starEach es X.env)).any (·.1)=false:=by ac_nf):SE X (.Call (.Name nm p) (e::es) [] pos) (ai F m):=by
 obtain⟨f,r,G,g,q,c⟩:=d.ex;exact Kj G (hr.mono i) j c g q o hl b l a
def sI{P:Program}{w:World}{K:FR}{mg:Str->Option Value}{base:Heap}{k n:Nat}{f:Addr}{b:FuncData}{ps:List Str}:aV P w K mg base dD k f b ps (eu K n λ_ _=>none):=
 ⟨λa H Q E hh=>(by obtain⟨_,_,_,_,_,_,_,_,e,_⟩:=hh;cases e),λA outer s H args us a Q E _ _ _ _ hh=>(by obtain⟨_,_,_,_,_,_,_,_,e,_⟩:=hh;cases e)⟩
end Sm
namespace L2
open PyProof.Rows
abbrev TK:=St->Hp->(St->Hp->Prop)->Prop
def PM(B:Cx)(c:Sem Unit)(t:TK):Prop:=
 ∀(a:List (Addr×Obj)) (s:Shared) (d:St) (H:Hp) (N:St->Hp->Prop),Inv B a d H s->t d H N->wpAny (model B.prog B.w) B.A c (λ_ f=>∃b e,Inv B a b e f/\N b e) B.xe s
def zo(J:It)(g:TG)(tc:TT)(tm:TK)(N:St->Hp->Prop)(f:St)(o:Hp):Prop:=
 ∃W:Nat->Nat->St->Hp->Prop,(∃m,W 0 m f o)/\∀i m h d,W i m h d->
  (J.stop i d/\N h d)\/(J.go i d/\∃j:St->Hp->Prop,(∀c e,j c e->∃k,k < m/\W (i+1) k c e)/\∀x e,J.Mw i d x e->g x h e λa n=>
   tc a n λb l=>if b=true then tm a l j else j a l)
noncomputable def pD(e:Expr)(d:Nat)(f:Expr)(a:List Expr)(b:Sem Unit)(p:Pos)(it acc:Value)(env:Env):Sem Fin:=do
 standAt p
 match<-pyNext it with
 | none=>pure (.done .next)
 | some v=>
  letOwnedTupleGo f it v
  assign f env v
  let mut ok:=true
  for c in a do
   if ok then ok<-isTrue c env (eval c env)
  if ok then b
  again (.compLoop e d it acc env)
noncomputable def emitSet(a:Expr)(acc:Value)(env:Env):Sem Unit:=do let v<-eval a env;standAt a.pos;let _<-call (.builtin "set.add") [acc,v]
def EK(a b c:Expr)(d:List Expr)(e:Scope)(pos:Pos)(it acc:Value)(env:Env):
  compTurn (.SetComp a [⟨b,c,d,0⟩] e pos) 0 it acc env=pD (.SetComp a [⟨b,c,d,0⟩] e pos) 0 b d (emitSet a acc env) c.pos it acc env:=by rfl
noncomputable def oH(k v:Expr)(d:Addr)(env:Env):Sem Unit:=do
 let a<-eval k env;let b<-holding [a] (eval v env)
 standAt {k.pos with endLine:=v.pos.endLine,endCol:=v.pos.endCol}
 holding [a,b] (dictSet d a b)
def Bl(k v a b:Expr)(c:List Expr)(e:Scope)(pos:Pos)(it:Value)(d:Addr)(env:Env):
  compTurn (.DictComp k v [⟨a,b,c,0⟩] e pos) 0 it (.ref d) env=pD (.DictComp k v [⟨a,b,c,0⟩] e pos) 0 a c (oH k v d env) b.pos it (.ref d) env:=by rfl
structure Plain(e:Expr):Prop where
 loop:∀(P:Program)(w:World)(d:Nat)(it acc:Value)(env:Env),(model P w).den (.compLoop e d it acc env)=(compTurn e d it acc env).onRaise (λx=>do noteFrame x env;theTreesLotGoes x)
 start:∀(P:Program)(w:World)(d:Nat)(it acc:Value)(env:Env),(model P w).den (.compStart e d it acc env)=(compStart e d it acc env).onRaise (λx=>do noteFrame x env;standAt theWindowsPlace)
 ul:∀(A:Around)(d:Nat)(it acc:Value)(env:Env),A.under (.compLoop e d it acc env)=A
 us:∀(A:Around)(d:Nat)(it acc:Value)(env:Env),A.under (.compStart e d it acc env)=A
def Fj(a:Expr)(gs:List Comprehension)(b:Scope)(pos:Pos):Plain (.SetComp a gs b pos):=⟨λ_ _ _ _ _ _=>rfl,λ_ _ _ _ _ _=>rfl,λ_ _ _ _ _=>rfl,λ_ _ _ _ _=>rfl⟩
def BW(k v:Expr)(gs:List Comprehension)(a:Scope)(pos:Pos):Plain (.DictComp k v gs a pos):=⟨λ_ _ _ _ _ _=>rfl,λ_ _ _ _ _ _=>rfl,λ_ _ _ _ _=>rfl,λ_ _ _ _ _=>rfl⟩
def Sn(hk:Plain e)(ht:compTurn e d (.ref it) acc B.env=pD e d Y ifs act p (.ref it) acc B.env)(hc:B.calm=true)(hx:B.xe=λ_ _=>False)(hg:PG B Y g)(P:JS B ifs tc)(hm:PM B act tm)(I:Inv B pins τ H s)(T:Turn B.prog B.w B.K Y J fp it M)(st:M 0 s.heap)(hf:∀b∈fp,fE B pins H b)(hw:zo J g tc tm N τ H):
  codeAny (model B.prog B.w) B.A (.compLoop e d (.ref it) acc B.env) (λr s'=>r=.ok .next/\∃a H',Inv B pins a H' s'/\N a H') s:=by
 obtain⟨W,⟨m0,w0⟩,C⟩:=hw;have f:∀{H':Hp},(∀b∈fp,H' b=none)->∀b∈fp,fE B pins H' b:=λhn b k=>⟨hn b k,(hf b k).2⟩;have up:∀{X:Type} {t:Sem X} {Q:X->Shared->Prop} {E:Value->Shared->Prop} {s:Shared},wpAny (model B.prog B.w) B.A t Q B.xe s->wpAny (model B.prog B.w) B.A t Q E s:=λh=>QL (hx ▸ h);refine codeAny_loop rfl (λn s'=>∃i a H',Inv B pins a H' s'/\M i s'.heap/\(∀b∈fp,H' b=none)/\W i n a H') ?_ m0 ⟨0,_,_,I,st,λb k=>(hf b k).1,w0⟩;rintro n s4 ⟨i,j,U,J4,F,L,w4⟩;rw[hk.ul,hk.loop];refine wpAny_noted ?_;rw[ht];unfold pD;rcases C i n j U w4 with⟨stop,qn⟩ |⟨go,N',hN,step⟩
 ·refine V8 (XR (V8 (Xn (T.done B rfl rfl rfl hc i pins s4 j U _ J4 (f L) F stop) (λr s5 G=>?_) λ_ _ e=>e)));obtain⟨hr,J5⟩:=G;subst hr;exact Wb ⟨rfl,_,_,J5,qn⟩
 ·refine V8 (XR (V8 (Xn (T.item B rfl rfl rfl hc i pins s4 j U _ J4 (f L) F go) (λr s5 G=>?_) λ_ _ e=>e)));obtain⟨u,hr,G⟩:=G;subst hr;refine V8 (Xn G (λ_ Z h6=>?_) λ_ _ e=>e);obtain⟨x,H6,J6,r6,y6,v,R⟩:=h6;have S:=J6.pinned (f R) (T.obj _ _ v);refine V8 (Xn (up (hg _ Z j H6 x u _ S r6 (step x H6 y6))) (λ_ s7 h7=>?_) λ_ _ e=>e);obtain⟨q,H7,J7,q7⟩:=h7;have again:∀{c:St} {l:Hp} {y:Shared},Inv B (pins++p5 fp Z.heap) c l y->N' c l->
    ∃m,m < n/\∃i a H',Inv B pins a H' y/\M i y.heap/\(∀b∈fp,H' b=none)/\W i m a H':=λ{c l y} z n8=>by
   obtain⟨m',hm,w8⟩:=hN c l n8;refine⟨m',hm,i+1,c,l,z.kl,T.keep _ _ _ v λb k o e=>(z.pin (b,o) (WZ _ (WZ _ (fz k e)))).1,λb k=>?_,w8⟩;obtain⟨o,e,d⟩:=T.obj _ _ v b k;exact(z.pin (b,o) (WZ _ (WZ _ (fz k e)))).2.1
  refine V8 (Xn (up (P _ s7 q H7 _ J7 q7)) (λok y h8=>?_) λ_ _ e=>e);obtain⟨l,z,q8⟩:=h8;cases ok with
  | false=>exact Wb ⟨rfl,again z (by simpa using q8)⟩
  | true=>
   have O:tm q l N':=by simpa using q8
   refine V8 (Xn (up (hm _ y q l _ z O)) (λ_ s9 h9=>?_) λ_ _ e=>e);obtain⟨τ9,H9,J9,n9⟩:=h9;exact Wb ⟨rfl,again J9 n9⟩
def PQ{env:Env}{it acc:Value}{a:Expr}{prog:Program}{w:World}{A:Around}{s:Shared}{R:Result->Shared->Prop}(g:Plain e)(c:(clausesOf e)[d]?=some ⟨i,a,ifs,0⟩)
  (h0:codeAny (model prog w) A (.compLoop e d it acc env) R s)
  (h:wpAny (model prog w) A (pyIter it) (λb s'=>codeAny (model prog w) A (.compLoop e d b acc env) R s') (notedBy (model prog w) A env λx s'=>R (.error x) s') s):
  codeAny (model prog w) A (.compStart e d it acc env) R s:=by
 refine AaW ?_;rw[g.us,g.start];refine wpAny_notedAt ?_;unfold compStart;rw[c];show wpAny _ _ (ask >>=_) _ _ s;refine V8 (Yg (wpAny_ite ?_))
 split
 ·first
   | exact V8 (Wb (Wb (And.intro rfl h0)))
   | exact Wb (And.intro rfl h0)
 ·first
   | exact V8 (XG (V8 (XR (V8 (Xn h (λb s' f=>Wb (And.intro rfl f)) λ_ _ x=>x)))))
   |(refine V8 (XG ?_);show wpAny _ _ (standAt a.pos >>=_) _ _ s;exact V8 (XR (V8 (Xn h (λb s' f=>Wb (And.intro rfl f)) λ_ _ x=>x))))
def Mp(X:Cx)(d:Sem Value)(o:Addr->HO):Prop:=∀(a:List (Addr×Obj)) (s:Shared) (b:St) (H:Hp) (Q:Value->Shared->Prop) (E:Value->Shared->Prop),Inv X a b H s->
 (∀(obj:Obj)(c:Nat),Inv X a b (upd H s.heap.objs.size (o s.heap.objs.size)) {s with heap:=s.heap.push obj,toks:=c}->Q (.ref s.heap.objs.size) {s with heap:=s.heap.push obj,toks:=c})->wpAny (model X.prog X.w) X.A d Q E s
def pE(caps:List (Option Nat))(c:TI)(o:Addr->HO)(g:TG)(tc:TT)(tm:Addr->TK):TE:=λa H Q=>c a H λJ b=>∀l,b l=none->zo J g tc (tm l) (λ_ d=>Q (.ref l) d) (qH caps a) (upd b l (o l))
section
variable {X:Cx} {N':List Str} {caps:List (Option Nat)} {scope:Scope} {e tg iter:Expr} {ifs:List Expr} {p:Pos} {wi:TI} {g:TG} {tc:TT} {tm:Addr->TK} {o:Addr->HO} {na:Sem Value} {act:Addr->Env->Sem Unit}
def P2(S:bp X N' caps scope)(hc:X.calm=true)(hk:Plain e)(Y:(clausesOf e)[0]?=some ⟨tg,iter,ifs,0⟩)(ht:∀(it l:Addr)(env:Env),compTurn e 0 (.ref it) (.ref l) env=pD e 0 tg ifs (act l env) p (.ref it) (.ref l) env)
  (hA:Mp X na o) (hg:∀C a f fp pl,PG (g9 X N' scope C a f fp pl) tg g) (U:∀C a f fp pl,JS (g9 X N' scope C a f fp pl) ifs tc)
  (hm:∀C a f fp pl l,PM (g9 X N' scope C a f fp pl) (act l (g9 X N' scope C a f fp pl).env) (tm l)) {d:List (Addr×Obj)} {σ:St} {H:Hp} {s:Shared} {it:Addr} {fp:List Addr} {R:Nat->Heap->Prop} {J:It}
  (I:Inv X d σ H s) (T:Turn X.prog X.w X.K tg J fp it R) (st:R 0 s.heap) (hf:∀b∈fp,fE X d H b) {Q:VK} {RR:Value->Addr->Result->Shared->Prop} {E:Value->Shared->Prop}
  (h:∀l,H l=none->zo J g tc (tm l) (λ_ H'=>Q (.ref l) H') (qH caps σ) (upd H l (o l)))
  (Z:∀(l C:Addr)(H':Hp)(s':Shared),H' C=none->C≠X.env.locals->X.s₀.heap.objs.size<=C->(∀x c,X.env.cells.lookup x=some c->c≠C)->(∀p∈X.pn++d,p.1≠C)->(∃m,s'.heap.Ns C m)->Inv X d σ H' s'->
   (∀h'':Heap,(∀b u,b≠C->s'.heap.get? b=some u->h''.get? b=some u)->Inv X d σ H' {s' with heap:=h''})->Q (.ref l) H'->RR (.ref l) C (.ok .next) s'):
  wpAny (model X.prog X.w) X.A na (λacc a=>wpAny (model X.prog X.w) X.A (newFunctionEnv scope X.env.globals (iN X.env scope.names []) [] X.env.qual none .none (some X.env)) (λN O=>
   codeAny (model X.prog X.w) X.A (.compStart e 0 (.ref it) acc {N with scope:=relabel scope X.env}) (RR acc N.locals) O) E a) E s:=by
 have hw:=h s.heap.objs.size I.fresh;refine hA d s σ H _ _ I λobj t' F=>wpAny_newFunctionEnv S.Cj (by intro y hy;simp at hy) (λG n k=>?_) S.kind;have L:∀b∈fp,b < s.heap.objs.size:=λb i=>by
  obtain⟨o,e,_⟩:=T.obj 0 _ st b i;exact Wu e
 have t:∀b∈fp,fE X d (upd H s.heap.objs.size (o s.heap.objs.size)) b:=λb i=>⟨by rw[az (WG (L b i))];exact(hf b i).1,(hf b i).2⟩;have j:∀b u,(s.heap.push obj).get? b=some u->G.get? b=some u:=λb u e=>k.extBut b u (WG (Wu e)) (Wa _ e);have P:R 0 G:=T.keep 0 _ _ st λb i o e=>j b o (Wa _ e);have M:∀b∈fp,b < (s.heap.push obj).objs.size:=λb i=>by
  have:=L b i;rw[Xd];exact Zl this
 have J0:=Inv.block S F hc t M n j (t₄:=t');have fpB:∀b∈fp,fE (g9 X N' scope (s.heap.push obj).objs.size {s with heap:=s.heap.push obj,toks:=t'} (upd H s.heap.objs.size (o s.heap.objs.size)) fp d) [] (upd H s.heap.objs.size (o s.heap.objs.size)) b:=λb i=>by
  obtain⟨f0,f1,f2,f3,f4,f5⟩:=t b i;refine⟨f0,WG (M b i),λz=>?_,.inl i,λx c e=>f4 x c (S.look F.ok e),λp hp=>?_⟩
  ·rcases Ws.mp (F.pG b z) with q | q
   ·exact f1 q
   ·exact f2 q
  ·rcases Xa.mp hp with q | q
   ·exact f5 p q
   ·cases q
 have lp:=Sn hk (ht it s.heap.objs.size _) rfl rfl (hg _ _ _ _ _) (U _ _ _ _ _) (hm _ _ _ _ _ s.heap.objs.size) J0 T P fpB hw;refine Zm (PQ hk Y lp (T.self X.A 0 _ _ _ P lp)) λr s' hr=>?_;obtain⟨rfl,τ,H',J,q⟩:=hr;refine Z _ _ H' s' J.free ?_ ?_ ?_ ?_ ?_ ?_ ?_ q
 ·exact(WG F.lt).symm
 ·exact F.sz
 ·intro x c e z;obtain⟨v,o,ho,_⟩:=F.cell x c e;exact WG (Wu ho) z
 ·intro p hp z;obtain⟨e,_⟩:=F.pin p hp;exact WG (Wu e) z
 ·obtain⟨m,hm,_⟩:=J.loc;exact⟨m,hm⟩
 ·have:=Inv.sj S F t J (h'':=s'.heap) λb u _ e=>e;exact this
 ·exactλh'' hs=>Inv.sj S F t J hs
def z9(S:bp X N' caps scope)(M:X.calm=true)(F:Plain e)(i:clausesOf e=⟨tg,iter,ifs,0⟩::gs)(z:∀(it l:Addr)(env:Env),compTurn e 0 (.ref it) (.ref l) env=pD e 0 tg ifs (act l env) p (.ref it) (.ref l) env)(R:Mp X na o)(hi:PI X tg iter wi)(G:∀C a c fp pl,PG (g9 X N' scope C a c fp pl) tg g)(k:∀C a c fp pl,JS (g9 X N' scope C a c fp pl) ifs tc)(hm:∀C a c fp pl l,PM (g9 X N' scope C a c fp pl) (act l (g9 X N' scope C a c fp pl).env) (tm l))(L:eval e X.env=comprehension e scope X.env p0 na false (eval iter X.env))(E:∀x,foldedSetIterable iter X.env x=pure x:=by intro _;rfl):PE X e (pE caps wi o g tc tm):=by
 intro d s t H Q I h;rw[L];refine ZL (use:=none) i E (nC (S.has I.ok)) S.kind S.names (cU (hi d s t H _ I h) λv s1 Y=>cU Y λy s2 U=>?_);obtain⟨it,fp,tn,J,H2,e,I2,T,j,Z,O⟩:=U;subst e;refine P2 (RR:=λr C=>compPost (model X.prog X.w) X.A X.xe none (EP X d t Q) r C) S M F (by rw[i];rfl) z R G k hm I2 T j Z O ?_;intro l C H' s' _ _ _ _ _ hm _ P q;obtain⟨m,hm⟩:=hm;exact⟨m,hm,λn f=>⟨.ref l,H',P n λb u N e=>f.extBut b u N e,rfl,q⟩⟩
end
end L2
namespace Sm
open L2 PyProof.Rows
structure Ac(α:Type)where
 at_:FR->Ad->Hp->Addr->α->Prop
 mono:∀{K:FR} {ρ ρ':Ad} {H H':Hp} {l:Addr} {a:α},at_ K ρ H l a->Ch ρ H ρ' H'->H' l=H l->at_ K ρ' H' l a
abbrev MK(α:Type):=DS->MH->α->Option (DS×MH×α)
def fV{d:Type}(ws:W)(g:GM)(c:TM)(m:MK d):List D->MK d
 | [],b,h,a=>if kc ws h then some (b,h,a) else none
 | x::r,b,h,a=>if kc ws h then(g x b h).bind λq=>(c q.1 q.2).bind λt=>if t.1 then(m q.1 t.2 a).bind λz=>fV ws g c m r z.1 z.2.1 z.2.2 else fV ws g c m r q.1 t.2 a else none
structure nI(l:Addr)(ρ:Ad)(H:Hp)(ρ':Ad)(H':Hp):Prop where
 ch:Ch ρ H ρ' H'
 rs:ρ'.rs=ρ.rs
 res:∀b∈ρ.rs,b≠l->H' b=H b
theorem nI.refl:nI l ρ H ρ H:=⟨.refl _ _,rfl,λ_ _ _=>rfl⟩
theorem nI.trans(a:nI l ρ H d H1)(b:nI l d H1 c f):nI l ρ H c f:=⟨a.ch.trans b.ch,b.rs.trans a.rs,λx e n=>(b.res x (a.rs ▸ e) n).trans (a.res x e n)⟩
def de.Vr(a:de ρ H c H1):nI l ρ H c H1:=⟨a.toCh,a.rs,λb d _=>a.res b d⟩
inductive Te{α:Type}(K:FR)(A:Ac α)(l:Addr)(m:MK α)(τ:L2.St)(H:Hp)(N:L2.St->Hp->Prop):Prop where
 | mk (ρ δ h a δ' h' a'):cE K ρ H τ δ->bP K ρ h H->l∈ρ.rs->A.at_ K ρ H l a->(m δ h a=some (δ',h',a'))->(∀ρ' H' τ',nI l ρ H ρ' H'->bP K ρ' h' H'->cE K ρ' H' τ' δ'->A.at_ K ρ' H' l a'->N τ' H')->Te K A l m τ H N
def JZ{a:Type}(K:FR)(A:Ac a)(l:Addr)(m:MK a):TK:=λb H N=>Te K A l m b H N
section
variable {α:Type} {K:FR} {A:Ac α} {l:Addr} {g:GM} {mt:TM} {m:MK α}
def Kr(It:Qr K J ρ H ws xs)(T1:Ch ρ H d H1)(R:cE K d H1 τ δ)(S:bP K d h H1)(hl:l∈d.rs)(hA:A.at_ K d H1 l a)(e:fV ws g mt m xs δ h a=some (z,h',a'))(k:∀b f o,nI l d H1 b f->bP K b h' f->cE K b f o z->A.at_ K b f l a'->N o f):zo J (EU K g) (Bn K mt) (JZ K A l m) N τ H1:=by
 refine⟨λi n o f=>∃(b:Ad)(w:DS)(E:MH)(a2:α),n=xs.length-i/\i<=xs.length/\nI l d H1 b f/\cE K b f o w/\bP K b E f/\A.at_ K b f l a2/\fV ws g mt m (xs.drop i) w E a2=some (z,h',a'),
  ⟨_,d,δ,h,a,rfl,WL _,.refl,R,S,hA,e⟩,?_⟩
 rintro i n o f ⟨b,w,E,a2,rfl,hi,F,R2,S2,M,j⟩;have L:l∈b.rs:=by rw[F.rs];exact hl
 cases q:xs.drop i with
 | nil=>
  rw[q] at j;unfold fV at j
  by_cases C:kc ws E=true
  ·rw[Wg C] at j;cases j;have hle:xs.length<=i:=by have:=congrArg List.length q;rw[Yq,Xm] at this;lia
   exact .inl ⟨(It.run _ f _ (T1.trans F.ch) S2 C i).1 hle,k _ _ _ F S2 R2 M⟩
  ·rw[Wh C] at j;cases j
 | cons x r=>
  rw[q] at j;unfold fV at j
  by_cases C:kc ws E=true
  ·rw[Wg C] at j;have hx:xs[i]?=some x:=by
    have:=congrArg (λl=>l[0]?) q
    simpa using this
   have hlt:i < xs.length:=(V9.mp hx).1;have hr:xs.drop (i+1)=r:=by
    have:=congrArg List.tail q
    simpa using this
   obtain⟨⟨u,h3⟩,e4,T⟩:=a9 j;obtain⟨⟨t,h4⟩,e6,O⟩:=a9 T;dsimp only at e4 T e6 O;obtain⟨hgo,hy⟩:=(It.run _ f E (T1.trans F.ch) S2 C i).2 x hx;refine .inr ⟨hgo,λG y=>∃(c:Ad)(s:DS)(Q:MH)(U:α),nI l d H1 c y/\cE K c y G s/\bP K c Q y/\A.at_ K c y l U/\fV ws g mt m r s Q U=some (z,h',a'),?_,?_⟩
   ·rintro G y ⟨c,s,Q,U,P,R5,X,Y,T⟩;exact⟨xs.length-(i+1),by lia,c,s,Q,U,rfl,hlt,P,R5,X,Y,by rw[hr];exact T⟩
   ·intro v H3 y3;obtain⟨T3,S3,r3⟩:=hy v H3 y3;refine⟨b,w,E,x,u,h3,R2.mono T3.toCh,S3,r3,e4,λρ4 H4 τ4 T4 S4 R4=>?_⟩;refine⟨ρ4,u,h3,t,h4,R4,S4,e6,λc y P X=>?_⟩;have p:de b f c y:=T3.trans (T4.trans P);have Y:A.at_ K c y l a2:=A.mono M p.toCh (p.res l L);cases t with
    | false=>
     rw[Wh (by simp)] at O;exact Pm ⟨c,u,h4,a2,F.trans p.Vr,R4.mono P.toCh,X,Y,O⟩
    | true=>
     rw[Wg rfl] at O;obtain⟨⟨I,h6,a6⟩,e8,e9⟩:=a9 O;refine Pl ⟨c,u,h4,a2,I,h6,a6,R4.mono P.toCh,X,by rw[p.rs];exact L,Y,e8,λZ H7 τ7 T7 S7 R7 A7=>?_⟩;exact⟨Z,I,h6,a6,(F.trans p.Vr).trans T7,R7,S7,A7,e9⟩
  ·rw[Wh C] at j;cases j
def zW(M:∀ρ H l,A.at_ K ρ (upd H l (o l)) l a0)(hh:∃ρ δ h xs ws n i h' t,cE K ρ H σ δ/\bP K ρ h H/\L δ h=some (xs,ws,n)/\fV ws g mt m xs (mI caps δ) n a0=some (i,h',t)/\∀l d H',de ρ H d H'->bP K d h' H'->¬d.has l->A.at_ K d H' l t->Q (.ref l) H'):
  pE caps (MB K L) o (EU K g) (Bn K mt) (λl=>JZ K A l m) σ H Q:=by
 obtain⟨ρ,δ,h,xs,ws,n,i,h',t,R,S,O,N,k⟩:=hh;refine⟨ρ,δ,h,xs,ws,n,R,S,O,λJ a x C F It l hl=>?_⟩;have y:¬a.has l:=F.fresh hl;have u:Ch a x (a.keep l) (upd x l (o l)):=Ch.keep hl;refine Kr It u (((R.mono C.toCh).qH caps).mono u) (F.keep hl) (We) (M _ _ _) N λq p I w E R2 P=>?_;obtain⟨e,r⟩:=q;have s:r=l::a.rs:=w.rs;subst s;have c:∀b∈a.rs,b∈l::a.rs:=λb f=>Wf _ f;have G:Ch ⟨e,l::a.rs⟩ p ⟨e,a.rs⟩ p:=Ch.free c;have j:∀b∈a.rs,b≠l:=λb f z=>y (.inr (z ▸ f));have v:de a x ⟨e,a.rs⟩ p:=⟨(u.trans w.ch).trans G,rfl,λb f=>(w.res b (c b f) (j b f)).trans (az (j b f))⟩;refine k l _ p (C.trans v) (E.free c) (λz=>?_) (A.mono P G rfl);rcases z with z | z
 ·exact(E.vF l We).2 z
 ·exact y (.inr z)
end
def Vy{b:Type}(X:Cx)(a:Addr->Env->Sem Unit)(A:Ac b)(m:MK b):Prop:=∀l,L2.PM X (a l X.env) (JZ X.K A l m)
def _root_.L2.PM.imp(h:L2.PM X a t)(i:∀σ H Q,t' σ H Q->t σ H Q):L2.PM X a t':=λb s σ H Q I q=>h b s σ H Q I (i σ H Q q)
section
variable {α:Type} {X:Cx} {A:Ac α} {g:GM} {mt:TM} {m:MK α} {mi:IM} {e tg iter:Expr} {ifs:List Expr} {d:Nat} {p:Pos} {act:Addr->Env->Sem Unit}
end
end Sm
namespace L2
open PyProof.Rows
theorem nA:∀(xs:List α)(i:Nat)(x:α),xs[i]?=some x->(x::xs.eraseIdx i).Perm xs
 | y::r,0,x,h=>by
  rw[AaU] at h;cases h;exact .refl _
 | y::r,i+1,x,h=>by
  rw[Xq] at h;exact(List.Perm.swap y x _).trans ((nA r i x h).cons y)
theorem CW:∀(n:Nat)(xs:List α)(s:Shared)(Q:List α->Shared->Prop),n=xs.length->(∀ys d,ys.Perm xs->Q ys {s with drawn:=d})->wpAny M A (drawOrder n xs) Q E s
 | 0,xs,s,Q,e,h=>by
  have:xs=[]:=Aaq e.symm;subst this;exact Wb (h [] s.drawn (.refl _))
 | n+1,[],s,Q,e,h=>by cases e
 | n+1,x::r,s,Q,e,h=>by
  unfold drawOrder;refine V8 (show wpAny M A (choose .order (x::r).length) _ E s fromλg p hΓ=>?_);unfold choose;rw[Sem.wp_choose];refine⟨by simp,?_⟩;have b:M.w.draws .order (s.drawn.get .order) % (x::r).length < (x::r).length:=AaB _ (by simp);generalize M.w.draws .order (s.drawn.get .order) % (x::r).length=i at b ⊢;have f:(x::r)[i]?=some ((x::r)[i]):=Wl b;generalize (x::r)[i]=y at f;show Sem.wp M g (pure i) _ _ p _;refine(Wb (M:=M) (A:=A) (E:=E) (a:=i) (s:={s with drawn:=s.drawn.bump .order}) ?_) g p hΓ;rw[f];have c:n=((x::r).eraseIdx i).length:=by rw[AaE b,<-e];rfl
  refine V8 (CW n _ _ _ c λys d j=>Wb ?_);exact h (y::ys) d ((j.cons y).trans (nA _ _ _ f))
theorem DI(nx:Nat->Nat):∀(fuel k:Nat)(left:List α)(out:Array α),fuel=left.length->(pickOrder.go nx fuel k left out).toList.Perm (out.toList++left)
 | 0,k,left,out,e=>by
  have:left=[]:=Aaq e.symm;subst this;unfold pickOrder.go;rw[Xb]
 | fuel+1,k,left,out,e=>by
  unfold pickOrder.go;have a:nx k % left.length < left.length:=AaB _ (by lia);have b:left[nx k % left.length]?=some (left[nx k % left.length]):=Wl a;generalize left[nx k % left.length]=y at b;rw[b];dsimp only;refine(DI nx fuel (k+1) _ _ (by rw[AaE a];lia)).trans ?_;rw[Array.toList_push,W8];exact(nA _ _ _ b).append_left _
def wX(nx:Nat->Nat)(xs:Array α):(pickOrder nx xs).toList.Perm xs.toList:=by
 unfold pickOrder;have:=DI nx xs.size 0 xs.toList #[] (by simp)
 simpa using this
def uN{b:Type}(es:Array (b×Value)){a:List Nat}(hp:a.Perm (List.range es.size)):(a.filterMap λk=>(es[k]?).map (·.2)).Perm (es.toList.map (·.2)):=by
 refine(hp.filterMap _).trans (List.Perm.of_eq ?_);have:∀l:List (b×Value),(List.range l.length).filterMap (λk=>(l[k]?).map (·.2))=l.map (·.2):=by
  intro l;have d:(List.range l.length).filterMap (λk=>(l[k]?).map (·.2))=((List.range l.length).filterMap λk=>l[k]?).map (·.2):=by
   rw[List.map_filterMap]
  rw[d,List.filterMap_getElem?_range_length]
 have c:=this es.toList
 simpa using c
def entry_set_iter':entryFor table "set.__iter__"=some Builtin.«frozenset.__iter__»:=entryFor_alias (id':="frozenset.__iter__") (by ac_nf) rfl (by decide+kernel) (by ac_nf)
def dF:Slot "set_iterator" "__next__" "set_iterator.__next__":=.of (owner:="set_iterator") (n:="__next__") (by rw[Z2,Zc];ac_nf) (by decide+kernel) (by decide+kernel) (by decide+kernel) (by first | exact .inl (by decide+kernel) | exact .inr (by decide+kernel)) (by rw[isSubtype_type];ac_nf)
def mH:entryFor table "set_iterator.__next__"=some Builtin.«set_iterator.__next__»:=entryFor_of_fast (by ac_nf)
def oR(a:Value):argsOk "set_iterator.__next__" ⟨[a],[]⟩:=by unfold argsOk;ac_nf
def wpAny_of_eq'(e:m=m')(h:wpAny M A m' Q E s):wpAny M A m Q E s:=e ▸ h
section
variable {P:Program} {w:World} {A:Around} {E:Value->Shared->Prop} {s:Shared} {a:Addr} {ks:List Str}
def yR(d:s.heap.get? J=some o)(hd:o.data=.fields fs)(f:k < fs.size)(h:∀h' c,(∀b u,b≠J->s.heap.get? b=some u->h'.get? b=some u)->h'.get? J=some c->c.cls=o.cls->c.data=.fields (fs.setIfInBounds k x)->Q () {s with heap:=h'}):wpAny M A (setField (.ref J) k x) Q E s:=by
 refine wpAny_setField d hd f (h _ _ (λb u g e=>(Yd _ _ (Xy g)).trans e) (XZ _ d (Obj.isFreed_of_fields (Zt hd _))) (Obj.cls_mapFields ..) ?_);rw[Zt hd]
def EJ(b:s.heap.get? a=some ob)(c:ob.data=.set es f t)(e:t.fits es.size=true)(d:w.params.followText "set-order"=true)(h:Q (pickOrder (w.params.setOrder a f) es) s):wpAny (model P w) A (setWalk a) Q E s:=by
 unfold setWalk setsByText;refine V8 (XS b c e ?_);dsimp only;refine V8 (V8 (Yg (Wb ?_)));rw[Wg (show(model P w).w.params.followText "set-order"=true from d)];exact V8 (Yg (Wb h))
def w5(b:s.heap.get? a=some ob)(c:ob.data=.set es g t)(f:t.fits es.size=true)(d:w.params.followText "set-order"=true)(h:Q (((pickOrder (w.params.setOrder a g) es)[i]?).map λe=>(e.2,k)) s):wpAny (model P w) A (setNext a k i g) Q E s:=by
 unfold setNext setsByText;refine V8 (XS b c f ?_);dsimp only;refine V8 (V8 (Yg (Wb ?_)));rw[Wg (show(model P w).w.params.followText "set-order"=true from d)];simp only[XI,WA,↓reduceIte];exact V8 (EJ b c f d (Wb h))
def xM{J:Addr}(hh:A.handled=none)(d:∀h',(∀b o,s.heap.get? b=some o->h'.get? b=some o)->Q none {s with heap:=h'}):
  wpAny (model P w) A.in1 (do let x<-newExc (.type "StopIteration") [];raiseNew x:Sem Fin) (λc s'=>∃v,c=Fin.done (Flow.ret v)/\wpAny (model P w) A (pure (some v)) Q E s')
   (λe s'=>wpAny (model P w) A (do let b<-isInstance e (.type "StopIteration");if b=true then pure none else throw e) Q E s') s:=by
 refine V8 ?_;simp only[newExc,newTuple];refine V8 (Xc ?_ (by size_fits));refine V8 (m:=firstArgMember _ _) (wpAny_of_eq (a:=Value.none) (by first | rfl |(simp only[firstArgMember];rfl)) (Xc ?_ (by size_fits)));simp only[raiseNew];refine V8 (wpAny_handled ?_);rw[show A.in1.handled=none from hh];refine V8 (Wb (wpAny_throw ?_));refine V8 (X1 (T:="StopIteration") (b:=true) (show Shared.TypeIs _ (.ref _) _ from⟨_,Ww _ rfl,rfl⟩) YQ ?_);exact Wb (d _ λb o e=>Wa _ (Wa _ e))
end
def vn:splitId "set.__len__"=some ("set","__len__"):=by ac_nf
def sub_set_set:isSubtype (.type "set") (.type "set")=pure true:=by rw[isSubtype_type];ac_nf
def tj:typeLookup (.type "set") (Str.ofString "__len__")=pure (some (.builtin "set.__len__")):=F.slot_set_len.lookup
noncomputable def VY(a b:Str):Bool:=!ltCps b.cps.toList a.cps.toList
def GK(ks:List Str):List Str:=ks.mergeSort VY
def Fs:Mp X newDict (λ_=>.dK []):=λb s c H Q E I h=>by
 unfold newDict;exact Xc (h _ s.toks (I.laid (a:=s.heap.objs.size) (o:=.dK []) (t':=s.toks) (λ_ _ q=>Wa _ q) (Wj _) (oI s.heap I.big)))
def Nw(f e:TE)(l:Addr):TK:=λb H N=>f b H λx g=>e b g λy d=>∃a c,d l=some (.dK a)/\x=kV c/\a.length < sizeLine/\N b (upd d l (.dK (putK a c y)))
def KR(F:PE B k o)(w:PE B v n):PM B (oH k v l B.env) (Nw o n l):=λa s f H N I h=>by
 unfold oH;refine V8 (cU (F a s f H _ I h) λS p L=>?_);obtain⟨x,P,O,t,u⟩:=L;refine V8 (WU (cU (w a p f P _ O u) λQ R J=>?_));obtain⟨y,U,j,r,c,g,e,rfl,T,n2⟩:=J;refine V8 (XR (WU ?_));obtain⟨z,hd,m,b,dd⟩:=xp j.bL e;have i:m.length<=sizeLine:=by rw[<-b.length];exact z
 have hl:(putK c g y).length<=sizeLine:=by have:=ij c g y;lia
 refine wpAny_dictSet_pairs (hsz:=i) (lh t) dd λM d C=>?_;have G:∃q,M.get? l=some q:=let⟨q,_,_,E,_⟩:=d;⟨q,E⟩;exact⟨f,_,jT j (by rw[e];exact True.intro) C G (yY hl hd (b.put g r) d),n2⟩
end L2
namespace Sm
open L2 PyProof.Rows
noncomputable def TQ:Ac (List (Key×D)) where
 at_:=λK b H l a=>∃us,H l=some (.dK us)/\bj K b H us a
 mono:=λ⟨c,e,r⟩ T q=>⟨c,q.trans e,r.mono T⟩
def mD(k v:EM):MK (List (Key×D)):=λb h a=>(k b h).bind λp=>(v b p.2).bind λq=>(oy p.1).bind λc=>if a.length < sizeLine then some (b,q.2,putD a c q.1) else none
theorem nI.put{K:FR}(T:de ρ H a H1)(hl:l∈ρ.rs):nI l ρ H a (upd H1 l o):=by
 have c:l∈a.rs:=by rw[T.rs];exact hl
 exact⟨T.toCh.trans (Ch.put c),T.rs,λb d n=>(az n).trans (T.res b d)⟩
theorem bj.len{K:FR}{ρ:Ad}{H:Hp}:∀{us:List (Key×V)} {ks:List (Key×D)},bj K ρ H us ks->us.length=ks.length
 | _,_,.nil=>rfl
 | _,_,.cons _ r=>by rw[Wq,Wq,r.len]
def Kf(L:SE X k mk)(j:SE X v I):Vy X (λl env=>oH k v l env) TQ (mD mk I):=λl=>(KR L j).imp λA H N ⟨C,n,h,a,E,Z,a',R,S,hl,⟨o,j,p⟩,e,J⟩=>by
 obtain⟨⟨x,q⟩,P,O⟩:=a9 e;obtain⟨⟨y,Y⟩,s,M⟩:=a9 O;obtain⟨c,r,f⟩:=a9 M;dsimp only at s r f
 by_cases i:a.length < sizeLine
 ·rw[Wg i] at f;cases f;refine⟨C,n,h,x,q,R,S,P,λu H1 ⟨g,m,U,G⟩=>⟨g,n,q,y,_,R.mono m.toCh,U,s,λu2 w ⟨b,t,Q,F⟩=>⟨o,c,((m.trans t).res l hl).trans j,il G r,by rw[p.len];exact i,?_⟩⟩⟩;have T:=m.trans t;have d:l∈b.rs:=by rw[T.rs];exact hl
  have z:Ch b w b (upd w l (.dK (putK o c u2))):=Ch.put d;exact J b _ A (nI.put (K:=X.K) T hl) (Q.put d) ((R.mono T.toCh).mono z) ⟨_,aH,((p.mono T.toCh).put F).mono z⟩
 ·rw[Wh i] at f;cases f
end Sm
namespace L2
open PyProof.Rows
def Inv.draw(I:Inv X pins σ H s)(d:Drawn):Inv X pins σ H {s with drawn:=d}:=⟨I.ok,I.os,I.bare,I.base,I.loc,I.cell,I.free,I.lu,I.pin,I.bL,I.len⟩
end L2
namespace Sm
open L2 PyProof.Rows
def Sh{a:Type}(caps:List (Option Nat))(i:IM)(g:GM)(c:TM)(m:MK a)(a0:a)(out:a->D):EM:=λb h=>(i b h).bind λp=>(fV p.2.1 g c m p.1 (mI caps b) p.2.2 a0).map λq=>(out q.2.2,q.2.1)
section
variable {α:Type} {K:FR} {A:Ac α} {g:GM} {mt:TM} {m:MK α}
def NX(s:∀ρ H l,A.at_ K ρ (upd H l (o l)) l a0)(b:∀ρ H l a,A.at_ K ρ H l a->¬ρ.has l->Rep K ρ H (.ref l) (out a))(hh:tM K (Sh caps q g mt m a0 out) σ H Q):pE caps (MB K q) o (EU K g) (Bn K mt) (λl=>JZ K A l m) σ H Q:=by
 obtain⟨ρ,i,h,d,E,R,S,t,k⟩:=hh;obtain⟨⟨j,p,r⟩,x,w⟩:=a9 t;obtain⟨⟨e,C,y⟩,v,u⟩:=dS w;cases u;exact zW s ⟨ρ,i,h,j,p,r,e,_,y,R,S,x,v,λl c F T z n f=>k _ _ ⟨c,T,z,b _ _ _ _ f n⟩⟩
def Rf{caps:List (Option Nat)}{b:IM}{m:MK (List (Key×D))}{σ:L2.St}{H:Hp}{Q:VK}(hh:tM K (Sh caps b g mt m [] .dv) σ H Q):pE caps (MB K b) (λ_=>.dK []) (EU K g) (Bn K mt) (λl=>JZ K TQ l m) σ H Q:=
 NX (A:=TQ) (o:=λ_=>.dK []) (a0:=[]) (out:=.dv) (λc H l=>show ∃us,_ from⟨[],aH,.nil⟩) (λc H l a h n=>by obtain⟨us,e,r⟩:=h;exact .dv e n r) hh
end
section
variable {X:Cx} {k v tg iter elt tg2 iter2:Expr} {pos:Pos} {mk mv me:EM} {mt mt2:TM} {g g2:GM} {N':List Str} {caps:List (Option Nat)} {scope:Scope} {ifs ifs2:List Expr} {mi mi2:IM}
def GZ(C:bp X N' caps scope)(i:X.calm=true)(hi:SI X tg iter mi)(h:∀C a b fp pl,SG (g9 X N' scope C a b fp pl) tg g)(c:∀C a b fp pl,Qz (g9 X N' scope C a b fp pl) ifs mt)
  (f:∀C a b fp pl,SE (g9 X N' scope C a b fp pl) k mk) (d:∀C a b fp pl,SE (g9 X N' scope C a b fp pl) v mv) (e:∀x,foldedSetIterable iter X.env x=pure x:=by intro _;ac_nf):
  SE X (.DictComp k v [⟨tg,iter,ifs,0⟩] scope pos) (Sh caps mi g mt (mD mk mv) [] .dv):=
 (z9 (g:=EU X.K g) (tc:=Bn X.K mt) (tm:=λl=>JZ X.K TQ l (mD mk mv)) C i (BW ..) rfl (λn l env=>Bl ..) Fs hi h c (λC a b fp pl l=>Kf (f C a b fp pl) (d C a b fp pl) l) rfl e).imp λ_ _ _=>
  Rf
end
end Sm
namespace L2
open PyProof.Rows
section
variable {X:Cx} {e st:Expr} {te ts:TE} {pos p2:Pos}
end
end L2
namespace Sm
open L2 PyProof.Rows
section
variable {X:Cx} {e st a b c:Expr} {ma ms mb mc:EM} {pos p2:Pos}
abbrev Mm:=DS->MH->Option (List (Key×D)×MH)
noncomputable def OG:Mm:=λ_ h=>some ([],h)
def mB(k v:EM)(r:Mm):Mm:=λd h=>(k d h).bind λp=>(v d p.2).bind λq=>(oy p.1).bind λf=>(r d q.2).map λz=>((f,q.1)::z.1,z.2)
inductive Ta(K:FR)(m:Mm)(σ:L2.St)(H:Hp)(Q:List (V×V)->Hp->Prop):Prop where
 | mk (ρ δ h kvs h'):cE K ρ H σ δ->bP K ρ h H->(m δ h=some (kvs,h'))->(∀us ρ' H',de ρ H ρ' H'->bP K ρ' h' H'->bj K ρ' H' us kvs->Q (us.map λkv=>(kV kv.1,kv.2)) H')->Ta K m σ H Q
def VP(K:FR)(m:Mm):L2.St->Hp->(List (V×V)->Hp->Prop)->Prop:=λd H Q=>Ta K m d H Q
def SP(X:Cx)(pos:Pos)(g:List (Option Expr))(d:List Expr)(m:Mm):Prop:=∃f,Qo X pos g d f/\∀h H Q,VP X.K m h H Q->xK f h H Q
def GJ:SP X pos [] [] OG:=⟨[],KL,λσ H Q ⟨d,g,h,f,i,R,S,e,k⟩=>by
 cases e;exact k [] d H (.refl _ _) S .nil⟩
def hZ(J:SE X E mk)(I:SE X s C)(hr:SP X pos ks vs m):SP X pos (some E::ks) (s::vs) (mB mk C m):=by
 obtain⟨t,M,L⟩:=hr;refine⟨_,HJ J I M,λσ H Q ⟨q,i,h,F,h',R,S,O,k⟩=>?_⟩;obtain⟨⟨x,n⟩,e1,e2⟩:=a9 O;obtain⟨⟨y,l⟩,e3,Z⟩:=a9 e2;obtain⟨G,Y,U⟩:=a9 Z;obtain⟨⟨r,hz⟩,T,P⟩:=dS U;cases P;refine⟨q,i,h,x,n,R,S,e1,λv H1 ⟨g,j,S1,A⟩=>⟨g,i,n,y,l,R.mono j.toCh,S1,e3,λu H2 ⟨f,p,S2,z⟩=>?_⟩⟩;refine L σ H2 _ ⟨f,i,l,r,_,(R.mono j.toCh).mono p.toCh,S2,T,λus d H3 o S3 w=>?_⟩;have N:=il A Y;subst N;exact k ((G,u)::us) d H3 ((j.trans p).trans o) S3 (.cons (z.mono o.toCh) w)
def M3(m:Mm):EM:=λd h=>(m d h).bind λp=>if p.1.length<=15 then some (.dv (fy [] p.1),p.2) else none
def Ki(h:SP X pos keys vals m)(E:keys.all (·.isSome)=true)(hl:keys.length=vals.length)(U:keys≠[])(hp:∀j,Qo X pos keys vals j->PE X (.Dict keys vals pos) (GB j)):SE X (.Dict keys vals pos) (M3 m):=by
 obtain⟨j,N,M⟩:=h;refine(hp j N).imp λσ H Q ⟨f,L,h,d,Y,R,S,O,k⟩ p l=>?_;obtain⟨⟨q,T⟩,P,t⟩:=a9 O;dsimp only at t
 by_cases z:q.length<=15
 ·rw[Wg z] at t;cases t;have F:Ch f H (f.keep p) (upd H p (.dK [])):=Ch.keep l;have C:¬f.has p:=S.fresh l;refine M σ _ _ ⟨f.keep p,L,h,q,_,R.mono F,S.keep l,P,λus v o u G A=>?_⟩;have x:o p=some (.dK []):=(u.res p We).trans aH;refine⟨x,us,rfl,by rw[A.len];exact z,?_⟩;obtain⟨g,w⟩:=v;have y:w=p::f.rs:=u.rs;subst y;have s:p∈(⟨g,p::f.rs⟩:Ad).rs:=We;have i:∀b∈f.rs,b∈p::f.rs:=λb n=>Wf _ n;have r:∀b∈f.rs,b≠p:=λb n z=>C (.inr (z ▸ n));have I:Ch ⟨g,p::f.rs⟩ o ⟨g,p::f.rs⟩ (upd o p (.dK (bC [] us))):=Ch.put s;have J:Ch ⟨g,p::f.rs⟩ (upd o p (.dK (bC [] us))) ⟨g,f.rs⟩ (upd o p (.dK (bC [] us))):=Ch.free i;refine k _ _ ⟨⟨g,f.rs⟩,⟨((F.trans u.toCh).trans I).trans J,rfl,λb n=>?_⟩,(G.put s).free i,.dv aH (λz=>?_) ((bj.merge .nil A).mono (I.trans J))⟩
  ·show upd o p _ b=H b;rw[az (r b n),u.res b (i b n)];exact az (r b n)
  ·rcases z with z | z
   ·exact(G.vF p We).2 z
   ·exact C (.inr z)
 ·rw[Wh z] at t;cases t
end
end Sm
namespace L2
open PyProof.Rows
open HT in
def EO{t b:Addr}{items:Array Value}{g f:Value}{lo hi:Option Int}{Q:Value->Shared->Prop}(a:IsTup s.heap t items)(i:s.heap.IsSliceOf b g f .none)(pl:IsPart g lo)(j:IsPart f hi)
  (hw:cG items.size 0 lo=0/\cG items.size items.size hi=items.size) (h:Q (.ref t) s):wpAny (model prog w) A (getItem (.ref t) (.ref b)) Q E s:=by
 obtain⟨os,c,d,k⟩:=id i;have e:s.TypeIs (.ref b) "slice":=⟨os,c,d⟩;unfold getItem
 try with_reducible refine WU ?_
 first | refine V8 (Wb ?_) | skip
 refine V8 (wpAny_sequenceKey a.typeIs (by decide) ?_);refine V8 (W4 (name:=Str.ofString "__getitem__") a.typeIs Xv (W3 Xv a.typeIs entry_tuple_getitem ?_ (args_tuple_getitem _ _)));show wpAny _ _ (Builtin.Tuple.tupleItemsOf (.ref t) >>=_) _ _ s;refine V8 (tupleItemsOf_ a (V8 (YD e ?_)));rw[Wg (by decide)];refine V8 (iU i pl j ?_);show wpAny _ _ (if(((cG items.size 0 lo:Nat):Int)==0&&(1:Int)==1&&(cG items.size items.size hi-cG items.size 0 lo)==items.size)=true then _ else _) _ _ s;rw[Wg (by rw[hw.1,hw.2];simp)];unfold Builtin.Tuple.tupleIsExact;simp only[bind_assoc,pure_bind];refine V8 (YD a.typeIs ?_);rw[Wg (by decide)]
 first
  | exact V8 (XG (Wb ⟨_,rfl,Wb h⟩))
  | exact V8 (XG (V8 (Wb (Wb ⟨_,rfl,Wb h⟩))))
def UH(K:FR):V->Option Int->Option Int->Hp->VK->Prop:=λx c d H Q=>∃a b,x=.ref a/\jc K H a b/\(HT.cG b.length 0 c=0/\HT.cG b.length b.length d=b.length)/\Q (.ref a) H
def GL:Qk X (UH X.K):=by
 intro d s m H x v o n t w p Q I g l pl i h;obtain⟨a,f,rfl,j,k,q⟩:=h;cases g;obtain⟨c,r,e,u⟩:=I.tuple j;have b:c.toArray.size=f.length:=by rw[WB];exact r.length.symm
 exact⟨"tuple",_,Xv.lookup,e.typeIs,EO e l pl i (by rw[b];exact k) ⟨.ref a,H,I,rfl,q⟩⟩
end L2
namespace Sm
open L2 PyProof.Rows
section
variable {X:Cx}
def wt(d:D)(lo hi:Option Int)(h:MH):Option (D×MH):=match d with
 | .tup xs=>if HT.cG xs.length 0 lo=0/\HT.cG xs.length xs.length hi=xs.length then some (.tup xs,h) else some (.tup (cutD xs lo hi),h)
 | d=>Sf d lo hi h
def f9(a:EM)(l u:PM):EM:=λb h=>(a b h).bind λp=>(l b p.2).bind λq=>(u b q.2).bind λr=>wt p.1 q.1 r.1 r.2
inductive Nc(K:FR)(x:V)(lo hi:Option Int)(H:Hp)(Q:VK):Prop where
 | mk (ρ h d z h'):bP K ρ h H->Rep K ρ H x d->(wt d lo hi h=some (z,h'))->(∀v H',dJ K ρ H h' z v H'->Q v H')->Nc K x lo hi H Q
def UL(K:FR):V->Option Int->Option Int->Hp->VK->Prop:=λx a b H Q=>Nc K x a b H Q
def NB:Qk X (UL X.K):=by
 intro a s g H x v j i e f l Q I m p pl o hh;obtain⟨q,h,d,z,r,S,rd,b,k⟩:=hh;cases d with
 | tup xs=>
  unfold wt at b;dsimp only at b
  by_cases c:HT.cG xs.length 0 e=0/\HT.cG xs.length xs.length f=xs.length
  ·rw[Wg c] at b;cases b;have n:=rd;cases rd with | tup h0 t=>
   exact GL a s g H _ v j i e f l Q I m p pl o ⟨_,_,rfl,h0.sq,by rw[t.length];exact c,k _ _ (.here S n)⟩
  ·rw[Wh c] at b;exact ME a s g H x v j i e f l Q I m p pl o ⟨q,h,_,z,r,S,rd,by unfold Sf;dsimp only;rw[Wh c];exact b,k⟩
 | _=>exact ME a s g H x v j i e f l Q I m p pl o ⟨q,h,_,z,r,S,rd,b,k⟩
def GS{a:Expr}{lo hi:Option Expr}{pos A:Pos}{o:EM}{n m:PM}(E:SE X a o)(hl:SP' X lo n)(C:SP' X hi m):SE X (.Subscript a (.Slice lo hi none A) pos) (f9 o n m):=
 (HQ NB E hl C).imp λσ H Q ⟨y,g,h,d,F,R,S,e,k⟩=>by
  obtain⟨⟨x,s⟩,N,M⟩:=a9 e;obtain⟨⟨l,r⟩,L,J⟩:=a9 M;obtain⟨⟨u,q⟩,I,G⟩:=a9 J;exact⟨y,g,h,x,s,R,S,N,λv H1 ⟨f,j,T,z⟩=>⟨f,g,s,l,r,R.mono j.toCh,T,L,λc Z i P=>⟨c,g,r,u,q,(R.mono j.toCh).mono i.toCh,P,I,λb Y t O=>
   ⟨b,q,x,d,F,O,z.mono (i.trans t).toCh,G,λw U p=>k w U (p.step (j.trans (i.trans t)))⟩⟩⟩⟩
noncomputable def Cy:Fn:=λa h=>match a with
 | [.bl b]=>some (.int (if b then 1 else 0),h)
 | _=>none
def Jg:jb X (.type "int") Cy:=by
 intro b s i H m us Q I r hh;obtain⟨j,h,g,z,f,S,l,a,k⟩:=hh
 match g,l,a with
 | [],_,a=>exact cX a
 | _::_::_,_,a=>exact absurd a (by unfold Cy;split <;> simp_all)
 | [d],l,a=>
  obtain⟨v,rfl,rd⟩:=rep1 l;cases rd <;> first |(exact cX a) | skip
  cases a;obtain⟨u,rfl,c⟩:=Vals.one r;cases c;exact call_int_bool ⟨.int _,H,I.kept (t':=s.toks+1) (h':=s.heap) λ_ _ e=>e,⟨_,rfl⟩,k _ _ (.here S (.int _))⟩
def qW(d e:D)(h:MH):Option (D×MH):=match d,e with
 | .str x,.int n=>if x.length<=1000/\0<=n/\n<=1000/\PyData.strOk (Txt.mul x n)=true then some (.str (Txt.mul x n),h) else none
 | d,e=>Py d e h
def oj:ph X (binaryOp .Mult) qW:=by
 intro b s o H x y v u Q I j i hh;obtain⟨p,h,d,e,z,m,S,rd,l,a,k⟩:=hh;unfold qW at a
 split at a
 ·rename_i f n
  by_cases c:f.length<=1000/\0<=n/\n<=1000/\PyData.strOk (Txt.mul f n)=true
  ·rw[Wg c] at a;cases a;cases rd;cases l;obtain⟨E,rfl⟩:=j;obtain⟨C,rfl⟩:=i;obtain⟨A,F,w,t⟩:=c;refine SB.mul ⟨?_,λ_ _=>?_,λ_ _=>?_⟩ λg q=>⟨.str _,H,I.kept (t':=q) (h':=s.heap) λ_ _ e=>e,⟨g,rfl⟩,k _ _ (.here S (.str t))⟩
   ·rw[WD (by lia),WD (by lia)];rfl
   ·have r:(9007199254740991:Int)<=(2^63-1) / n:=by
     refine Int.le_ediv_of_mul_le (by lia) ?_;have:9007199254740991*n<=9007199254740991*1000:=Int.mul_le_mul_of_nonneg_left w (by decide)
     lia
    lia
   ·have r:f.length*n.toNat<=1000*1000:=AaA A (by lia);refine WD ?_;have:=XX
    lia
  ·rw[Wh c] at a;cases a
 ·exact OJ b s o H x y v u Q I j i ⟨p,h,_,_,z,m,S,rd,l,a,k⟩
noncomputable def yX(f e:D->D->MH->Option (D×MH))(d c b:EM):EM:=λa h=>(d a h).bind λp=>(c a p.2).bind λq=>(f p.1 q.1 q.2).bind λr=>match r.1 with
 | .bl true=>(b a r.2).bind λu=>e q.1 u.1 u.2
 | .bl false=>some (.bl false,r.2)
 | _=>none
def Hq(hh:tM X.K (yX f Z U O N) σ H Q):GD (rS X.K f) (rS X.K Z) (tM X.K U) (tM X.K O) (tM X.K N) σ H Q:=by
 obtain⟨G,j,h,d,Y,R,S,ee,k⟩:=hh;obtain⟨⟨x,t⟩,e1,e2⟩:=a9 ee;obtain⟨⟨y,s⟩,C,e4⟩:=a9 e2;obtain⟨⟨z,r⟩,A,a⟩:=a9 e4;dsimp only at C A a;refine⟨G,j,h,x,t,R,S,e1,λv H1 ⟨i,n,S1,M⟩=>⟨i,j,t,y,s,R.mono n.toCh,S1,C,λu H2 ⟨g,m,S2,p⟩=>⟨g,s,x,y,z,r,S2,M.mono m.toCh,p,A,λw H3 ⟨e,l,F,L⟩=>?_⟩⟩⟩;cases z with
 | bl b=>
  cases L;refine⟨b,rfl,?_⟩;cases b with
  | false=>
   cases a;exact Pm (k _ _ (dJ.step (n.trans (m.trans l)) (.here F (.bl false))))
  | true=>
   obtain⟨⟨o,q⟩,e7,e8⟩:=a9 a;have T:=n.trans (m.trans l);exact Pl ⟨e,j,r,o,q,R.mono T.toCh,F,e7,λv' H4 ⟨c,E,S4,J⟩=>⟨c,q,y,o,d,Y,S4,p.mono (l.trans E).toCh,J,e8,λI H5 P=>k I H5 (P.step (T.trans E))⟩⟩
 | _=>exact cX a
def G1(j:ph X (compareOp op) f)(e:ph X (compareOp d) n)(m:SE X a i)(l:SE X b h)(k:SE X c g)(hm:lastMarks [op,d] [b,c]=false:=by with_unfolding_all rfl):
  SE X (.Compare a [op,d] [b,c] pos) (yX f n i h g):=(HV j e m l k hm).imp λ_ _ _=>Hq
end
end Sm
namespace L2
open PyProof.Rows
section
variable {X:Cx} {e st:Expr} {te ts:TE} {pos p2:Pos}
end
end L2
namespace Sm
open L2 PyProof.Rows
section
variable {X:Cx} {e st:Expr} {ma ms:EM} {pos p2:Pos}
end
end Sm
namespace L2
open PyProof.Rows
open HT in
def Jn{t b:Addr}{vs ws:List Value}{Q:Value->Shared->Prop}(o:IsTup s.heap t vs.toArray)(p:IsTup s.heap b ws.toArray)(m:vs=[])(h:Q (.ref b) s):wpAny (model prog w) A (binaryOp .Add (.ref t) (.ref b)) Q E s:=by
 obtain⟨⟨q,dd,data,l⟩,i,j,n,hd⟩:=id o;obtain⟨⟨k,f,g,e⟩,a,d,n2,c⟩:=id p;simp only at j hd d c;subst j hd d c;exact concat_meets ⟨_,i,rfl⟩ ⟨_,a,rfl⟩ AaG seq_tuple_add ZC Zv (Zo _ _)
   (tuple_addW0 t b vs.toArray ws.toArray n n2 dd f l e (by simp[m])) ⟨i,a,h⟩
def Ic:pA X (binaryOp .Add) (λx y H Q=>∃a b ys,x=.ref a/\y=.ref b/\jc X.K H a []/\jc X.K H b ys/\Q (.ref b) H):=by
 intro c s n H x y v u Q I f e h;obtain⟨a,b,ys,rfl,rfl,m,l,q⟩:=h;cases f;cases e;obtain⟨k,g,j,_⟩:=I.tuple m;obtain⟨d,o,i,_⟩:=I.tuple l;exact Jn j i (g.sJ.mpr rfl) ⟨.ref b,H,I,rfl,q⟩
end L2
namespace Sm
open L2 PyProof.Rows
def aI(d e:D)(h:MH):Option (D×MH):=match d,e with
 | .tup [],.tup a=>some (.tup a,h)
 | d,e=>IZ d e h
def eV:ph X (binaryOp .Add) aI:=by
 intro a s g H x y v u Q I j i hh;obtain⟨l,h,d,e,z,p,S,rd,f,b,k⟩:=hh;unfold aI at b
 split at b
 ·cases b;have c:=f;cases rd with | tup o m=>cases f with | tup n q=>
  cases m;exact Ic a s g H _ _ v u Q I j i ⟨_,_,_,rfl,rfl,o.sq,n.sq,k _ _ (.here S c)⟩
 ·exact ON a s g H _ _ v u Q I j i ⟨l,h,_,_,z,p,S,rd,f,b,k⟩
noncomputable def IS:Fn:=λa h=>match a with
 | [.int i,.int j]=>some (.int (if j < i then j else i),h)
 | _=>none
noncomputable def IT:Fn:=λa h=>match a with
 | [.int i,.int j]=>some (.int (if j > i then j else i),h)
 | _=>none
def PR(g:X.calm=true):jb X (.builtin "min") IS:=by
 intro b s c H m us Q I r hh;obtain⟨j,h,i,z,n,S,l,a,k⟩:=hh
 match i,l,a with
 | [],_,a=>exact cX a
 | [_],_,a=>exact absurd a (by unfold IS;split <;> simp_all)
 | _::_::_::_,_,a=>exact absurd a (by unfold IS;split <;> simp_all)
 | [d,e],l,a=>
  obtain⟨v,w,rfl,rd,f⟩:=rep2 l;cases rd <;> first |(exact cX a) | skip
  cases f <;> first |(exact cX a) | skip
  cases a;exact Gf g b s c H _ us Q I r ⟨_,_,rfl,k _ _ (.here S (.int _))⟩
def PU(g:X.calm=true):jb X (.builtin "max") IT:=by
 intro b s c H m us Q I r hh;obtain⟨j,h,i,z,n,S,l,a,k⟩:=hh
 match i,l,a with
 | [],_,a=>exact cX a
 | [_],_,a=>exact absurd a (by unfold IT;split <;> simp_all)
 | _::_::_::_,_,a=>exact absurd a (by unfold IT;split <;> simp_all)
 | [d,e],l,a=>
  obtain⟨v,w,rfl,rd,f⟩:=rep2 l;cases rd <;> first |(exact cX a) | skip
  cases f <;> first |(exact cX a) | skip
  cases a;exact Gg g b s c H _ us Q I r ⟨_,_,rfl,k _ _ (.here S (.int _))⟩
def RN:Gp:=λd c h=>(dH d h).bind λb=>match c with
 | [k]=>(oy k).map λa=>((dk b a).getD .bb,h)
 | [k,x]=>(oy k).map λa=>((dk b a).getD x,h)
 | _=>none
def O4(C:X.A.units+1 < cLine):Gs X "dict.get" (rM X.K RN):=by
 intro w s U H x xs v us Q I M rs hh;obtain⟨Y,h,d,R,z,h',S,rd,l,O,k⟩:=hh;obtain⟨N,P,b⟩:=a9 O;obtain⟨a,ws,rfl,E,lk⟩:=jS S rd P;obtain rfl:v=Value.ref a:=M
 match R,l,b with
 | [],_,b=>exact cX b
 | [y],l,b=>
  obtain⟨f,r,q⟩:=dS b;cases q;obtain⟨F,rfl,g⟩:=rep1 l;obtain⟨u,rfl,m⟩:=Vals.one rs;have p:=il g r;subst p;refine PL C I (pv.k E) m λG L t n=>⟨_,H,t,n,k _ _ ?_⟩;rcases lk.val f with⟨e,c⟩ |⟨T,J,e,c,o⟩
  ·rw[e,c];exact .here S .bb
  ·rw[e,c];exact .here S o
 | [y,x0],l,b=>
  obtain⟨f,r,q⟩:=dS b;cases q;obtain⟨F,Z,rfl,g,i⟩:=rep2 l;obtain⟨u,u2,rfl,m,j⟩:=Vals.two rs;have p:=il g r;subst p;refine PK C I (pv.k E) m j λG L t n=>⟨_,H,t,n,k _ _ ?_⟩;rcases lk.val f with⟨e,c⟩ |⟨T,J,e,c,o⟩
  ·rw[e,c];exact .here S i
  ·rw[e,c];exact .here S o
 | _::_::_::_,_,b=>exact absurd b (by simp)
end Sm
namespace L2
open PyProof.Rows
section
variable {X:Cx} {a b:Expr} {rest:List Expr} {pos:Pos} {ta tb:TE}
end
end L2
namespace Sm
open L2 PyProof.Rows
section
variable {X:Cx} {a b:Expr} {pos:Pos} {ma mb:EM}
end
end Sm
namespace L2
open PyProof.Rows
end L2
namespace Sm
open L2 PyProof.Rows
def P9:bootBuiltins "min"=some (.builtin "min"):=by decide+kernel
def Qa:bootBuiltins "max"=some (.builtin "max"):=by decide+kernel
section
variable {X:Cx} {g:GM} {mt:TM} {ma:EM}
end
end Sm
namespace L2
open PyProof.Rows
end L2
namespace Sm
open L2 PyProof.Rows
section
variable {α:Type} {K:FR} {A:Ac α} {l:Addr} {g:GM} {mt:TM} {m:MK α}
mutual
theorem Rep.calm(f:∀a,j.has a->ρ.has a){v:V}{d:D}(r:Rep K ρ H v d)(c:gv 0 d=true):Rep K j H v d:=by
 cases r with
 | bb=>exact .bb
 | bl b=>exact .bl b
 | int i=>exact .int i
 | str h=>exact .str h
 | ty n=>exact .ty n
 | tup h l=>exact .tup (h.elim (λ⟨a,n⟩=>.inl ⟨a,λz=>n (f _ z)⟩) .inr) (ay.calm f l c)
 | lv h n l=>exact .lv h (λz=>n (f _ z)) (ay.calm f l c)
 | ro h l=>exact .ro (h.elim (λ⟨a,n⟩=>.inl ⟨a,λz=>n (f _ z)⟩) .inr) (ay.calm f l c)
 | dv h n l=>exact .dv h (λz=>n (f _ z)) (bj.calm f l c)
 | ob e=>simp[gv] at c
theorem ay.calm(d:∀a,b.has a->ρ.has a){vs:List V}{ds:List D}(r:ay K ρ H vs ds)(c:dY 0 ds=true):ay K b H vs ds:=by
 cases r with
 | nil=>exact .nil
 | cons r l=>have c:=WE.mp c;exact .cons (Rep.calm d r c.1) (ay.calm d l c.2)
theorem bj.calm(d:∀a,b.has a->ρ.has a){vs:List (Key×V)}{ds:List (Key×D)}(r:bj K ρ H vs ds)(c:L3 0 ds=true):bj K b H vs ds:=by
 cases r with
 | nil=>exact .nil
 | cons r l=>have c:=WE.mp c;exact .cons (Rep.calm d r c.1) (bj.calm d l c.2)
end
end
section
variable {X:Cx} {k v tg iter:Expr} {pos:Pos} {mk mv:EM} {mt:TM} {g:GM} {N':List Str} {caps:List (Option Nat)} {scope:Scope} {ifs:List Expr} {mi:IM}
end
end Sm
namespace L2
open PyProof.Rows
def jc.off{K:FR}{H:Hp}{a d:Addr}{ys:List V}{o:HO}(h:jc K H a ys)(hd:H d=none):jc K (upd H d o) a ys:=by
 rcases h with h | h
 ·rcases h with h |⟨u,h⟩
  ·exact .inl (.inl (by rw[az (aJ h hd)];exact h))
  ·exact .inl (.inr ⟨u,by rw[az (aJ h hd)];exact h⟩)
 ·exact .inr h
end L2
namespace Sm
open L2 PyProof.Rows
end Sm
namespace L2
open PyProof.Rows
end L2
namespace Sm
open L2 PyProof.Rows
noncomputable def LN(d e:D)(h:MH):Option (D×MH):=match d,e with
 | .tup xs,.tup []=>some (.bl xs.isEmpty,h)
 | _,_=>none
theorem zO{K:FR}{ρ:Ad}{H:Hp}:∀{vs:List V} {ds:List D},ay K ρ H vs ds->vs.length=ds.length
 | _,_,.nil=>rfl
 | _,_,.cons _ l=>by rw[Wq,Wq,zO l]
def PH(E:X.A.units+64 < cLine)(I:L2.Inv X pins σ H s)(l:L2.RelV x v)(k:L2.RelV y u)(rd:Rep X.K ρ H x (.tup xs))(m:Rep X.K ρ H y (.tup [])):
  (∀Q:Value->Shared->Prop,Q (.bool xs.isEmpty) s->wpAny (model X.prog X.w) X.A (compareOp .Eq v u) Q X.xe s)/\∀Q:Value->Shared->Prop,Q (.bool (!xs.isEmpty)) s->wpAny (model X.prog X.w) X.A (compareOp .NotEq v u) Q X.xe s:=by
 cases rd with
 | @tup a C _ h0 o=>
  cases m with
  | @tup b ws _ t n=>
   cases l;cases k;obtain⟨c,rv,p,_⟩:=I.tuple h0.sq;obtain⟨g,f,q,_⟩:=I.tuple t.sq;have n1:c.length=xs.length:=by rw[<-zO o];exact rv.length.symm
   have n2:g=[]:=by
    cases n;exact Zz.mp (by have:=f.length;simpa using this.symm)
   subst n2;have i:((List.range (min c.toArray.size ([]:List Value).toArray.size)).all (λ_=>true)&&c.toArray.size==([]:List Value).toArray.size)=xs.isEmpty:=by
    cases xs with
    | nil=>
     have:=Zz.mp n1;subst this;rfl
    | cons x r=>
     rw[WB,n1];simp
   have d:X.A.units < cLine:=by lia
   refine⟨λQ z=>PySem.SeqAt.eq_tupleAt (e:=λ_=>true) p q d (λj _ h=>absurd h (by simp)) (by rw[i];exact z),λQ z=>PySem.SeqAt.RcNeAt.tuples (e:=λ_=>true) p q d (λj _ h=>absurd h (by simp)) _ _ _ Q (by rw[i];exact z)⟩
def OL(i:X.A.units+64 < cLine):ph X (compareOp .Eq) LN:=by
 intro b s j H x y v u Q I f c hh;obtain⟨l,h,d,e,z,m,S,rd,g,a,k⟩:=hh;unfold LN at a
 split at a
 ·cases a;exact(PH i I f c rd g).1 _ ⟨.bl _,H,I,rfl,k _ _ (.here S (.bl _))⟩
 ·cases a
end Sm
namespace Hd
open PySem.W PyProof.Rows L2 Sm
noncomputable def Lw(_:Obj):Bool:=true
def Lp(h:Heap)(a:Addr):Option (Addr×Obj):=match h.get? a with
 | some o=>if Lw o then some (a,o) else none
 | none=>none
def aS(h:Heap):Frag:=(List.range h.objs.size).filterMap (Lp h)
theorem qp(h:Heap)(a:Addr):∀l:List Addr,(l.filterMap (Lp h)).lookup a=if a∈l then(Lp h a).map (·.2) else none
 | []=>rfl
 | b::r=>by
  have c:=qp h a r
  by_cases d:a=b
  ·subst d;rw[Wg We];rw[Yo];cases e:Lp h a with
   | none=>
    dsimp only;rw[c,e]
    split <;> rfl
   | some p=>
    have hp:p.1=a:=by
     unfold Lp at e
     split at e
     ·split at e
      ·cases e;rfl
      ·cases e
     ·cases e
    obtain⟨g,i⟩:=p;dsimp only at hp;subst hp;simp
  ·have hm:(a∈b::r)↔a∈r:=by simp[d]
   rw[Yo];cases e:Lp h b with
   | none=>dsimp only;rw[c];simp only[hm]
   | some p=>
    have hp:p.1=b:=by
     unfold Lp at e
     split at e
     ·split at e
      ·cases e;rfl
      ·cases e
     ·cases e
    obtain⟨g,i⟩:=p;dsimp only at hp;subst hp;have f:(a==g)=false:=by simpa using d
    rw[Xj,f];dsimp only;rw[c];simp only[hm]
def lW(e:h.get? a=some o)(f:Lw o=true):(aS h).lookup a=some o:=by
 unfold aS;rw[qp,Wg]
 ·unfold Lp;rw[e];dsimp only;rw[Wg f];rfl
 ·rw[XE];exact Wu e
def Lq(h:Heap):(aS h).In h:=λa o e=>by
 unfold aS at e;rw[qp] at e
 split at e
 ·unfold Lp at e;cases g:h.get? a with
  | none=>rw[g] at e;cases e
  | some b=>
   rw[g] at e;dsimp only at e
   split at e
   ·cases e;rfl
   ·cases e
 ·cases e
noncomputable def posOf(s:Stmt):Pos:=match s with
 | .FunctionDef _ _ _ _ _ _ _ _ _ p=>p
 | _=>⟨0,0,0,0⟩
def wR(n:Str)(s:Stmt):DefRec:=⟨n,oJ s,iq s,ae s,posOf s⟩
def LY(r:h.CodeRec cd q):codeIn (aS h) cd q=true:=by
 obtain⟨c,o,a,t,rfl,g,d,e⟩:=r;have f:Lw o=true:=rfl;unfold codeIn;dsimp only;rw[lW g f];obtain⟨j,i,k,b⟩:=o;dsimp only at d;subst d;dsimp only;obtain⟨l⟩:=a;cases l with
 | nil=>cases e
 | cons x l=>cases l with
  | nil=>cases e
  | cons y r=>cases y <;> first |(cases e;simp;done) |(cases e;done)
def D9{q:Program}{loose:List Str}{b:ExcName->Option Value}{mg s:Str->Option Value}{h:Heap}(T:Top q loose b mg s h){n:Str}{st:Stmt}(e:(recsOf q).find? (λe=>e.name==n)=some (wR n st)):
  ∃f t,mg n=some (.ref f)/\dZ (aS h) n n st f t:=by
 have hm:wR n st∈recsOf q:=List.mem_of_find?_eq_some e;obtain⟨a,o,r,i,j,m,g,d,c⟩:=T.fn _ hm;have f:Lw o=true:=rfl;have lk:=lW g f;have kp:keepIn (aS h) (.ref a)=true:=by
  unfold keepIn;dsimp only;rw[lk];obtain⟨p,l,u,k⟩:=o;dsimp only at d;subst d;rfl
 obtain⟨p,l,u,k⟩:=o;dsimp only at d;subst d;exact⟨a,_,m,⟨p,l,.none,j,r,_,i,_,k,rfl,lk,LY c⟩,kp⟩
def _root_.L2.dZ.one{K:Frag}{x a:Str}{st:Stmt}{f:Addr}{g:FuncData}{p:Str}(F:dZ K x a st f g)
  (h:∀(kV b d:Value)(e:Option Addr)(c ct:Value)(u:Value),bindArgs (PySem.W.fnOf x a (oJ st) (iq st) (ae st) .none kV b d e c ct) ⟨[u],[]⟩=pure [(p,u)]) (s:Shared) (u:Value):BindsTo s g ⟨[u],[]⟩ [(p,u)]:=by
 obtain⟨l,k,kV,b,d,e,c,ct,i,rfl,lk,j⟩:=F.ex;exact .of_eq (h kV b d e c ct u)
def Pr{l:OpenLaw}{q:Program}{loose:List Str}{XP:(Str->Option Value)->Heap->Prop}{YP:World->Heap->Prop}{d:DefRec}{k:Nat}(hn:l.most=some 63)(p:d.params.defaults=[])(hr:fD k callerA)
  (F:∀(w:World)(s₀:Shared)(mg n:Str->Option Value)(h:Heap),Ground q loose [] XP w s₀ mg n h->YP w h->∃(t:Addr)(r:FuncData),mg d.name=some (.ref t)/\(∀(s:Shared)(u:Value),BindsTo s r ⟨[u],[]⟩ [("_law_script",u)])/\
   ∀base:Heap,(aS h).In base->base.Ns mainGlobals mg->aV l.prog w (aS h) mg base dD k t r ["_law_script"] (spT (aS h))):
  WalkO q loose XP YP l.row.toRowW d [] (λf vs=>PySem.call f vs):=by
 refine Att.A0 hn p λw s₀ v mg n t o L O J a vs ns G Y M hd y m j i c x=>?_;obtain⟨I,r,e,A,E⟩:=F w s₀ mg n _ G Y;rw[e] at m;cases m;exact Iw (Lq _) G.T.g G.T.b G.T.builtins G.T.nolimit x j i (WQ c (by decide)) hr E A (λH N C=>⟨a,ns,rfl,C,c,λ_=>rfl⟩) λ_ _ _ z=>z
noncomputable def freeOk(q:Program)(loose xs:List Str):Bool:=xs.all λx=>!startupNames.contains x&&!(looseW q loose).contains x&&!((recsOf q).map (·.name)).contains x&&!((litsOf q).map (·.1)).contains x&&!((clssOf q (looseW q loose)).map (·.name)).contains x
def cf(T:Top q (looseW q loose) a mg c h)(e:freeOk q loose xs=true)(b:x∈xs):mg x=none:=by
 have:=XH.mp e x b;simp only[WC,Bool.not_eq_true',List.contains_eq_mem,AaO] at this;exact T.free x this.1.1.1.1 this.1.1.1.2 this.1.1.2 this.1.2 this.2
end Hd
namespace Sm
open L2
noncomputable def RU(f:Expr->Option D):List Expr->Option (List D)
 | []=>some []
 | e::es=>(f e).bind λd=>(RU f es).bind λa=>some (d::a)
def kD:Nat->Expr->Option D
 | 0,_=>none
 | n+1,e=>match e with
  | .Constant .none _ _=>some .bb
  | .Constant (.bool b) _ _=>some (.bl b)
  | .Constant (.int i) _ _=>some (.int i)
  | .Constant (.str x) _ _=>if PyData.strOk x then some (.str x) else none
  | .UnaryOp .USub (.Constant (.int i) _ _) _=>some (.int (-i))
  | .Tuple es _ _=>(RU (kD n) es).bind λa=>if a.length<=1000 then some (.tup a) else none
  | .List es _=>(RU (kD n) es).bind λa=>if a.length<=1000 then some (.lv a) else none
  | .Dict [] [] _=>some (.dv [])
  | _=>none
noncomputable def aK(ds:List D):AM:=λ_ h=>some (ds,h)
def SO(ds:List D):mr (aK ds) ds.length:=λa h b c e=>by cases e;rfl
section
variable {X:Cx}
def GG(h:kD n e=some d)(es:List Expr):starEach (e::es) X.env=(false,eval e X.env)::starEach es X.env:=by
 cases n with
 | zero=>exact cX h
 | succ n=>cases e <;> first | rfl |(exfalso;exact(nomatch h))
theorem xW(b:∀{e:Expr} {d:D},f e=some d->SE X e (eK d))(a:∀{e:Expr} {d:D},f e=some d->∀es:List Expr,starEach (e::es) X.env=(false,eval e X.env)::starEach es X.env):
  ∀{es:List Expr} {ds:List D},RU f es=some ds->SA X es (aK ds)
 | [],ds,h=>by cases h;exact aA
 | e::es,ds,h=>by
  unfold RU at h;obtain⟨d,c,h⟩:=a9 h;obtain⟨r,g,h⟩:=a9 h;cases h;exact(aa (b c) (xW b a g) (a c es):SA X _ (aD (eK d) (aK r)))
theorem ia:∀(n:Nat) {e:Expr} {d:D},kD n e=some d->SE X e (eK d)
 | 0,_,_,h=>by cases h
 | n+1,e,d,h=>by
  cases e <;> first |(exact cX h) | skip
  case Constant c _ _=>
   cases c <;> first |(exact cX h) | skip
   case none=>cases h;exact Bv
   case bool=>cases h;exact MG
   case int=>cases h;exact bh
   case str x=>
    have h:(if PyData.strOk x then some (D.str x) else none)=some d:=h
    by_cases f:PyData.strOk x=true
    ·rw[Wg f] at h;cases h;exact dm f
    ·rw[Wh f] at h;cases h
  case UnaryOp o e _=>
   cases o <;> first |(exact cX h) | skip
   cases e <;> first |(exact cX h) | skip
   rename_i c _ _;cases c <;> first |(exact cX h) | skip
   cases h;exact(MF Gv bh:SE X _ (i6 cT (eK _)))
  case Tuple es _ _=>
   obtain⟨b,g,a⟩:=a9 h
   by_cases hl:b.length<=1000
   ·rw[Wg hl] at a;cases a;exact(dh (xW (ia n) GG g) (SO b) (WQ hl (by decide)):SE X _ (ai aw (aK b)))
   ·rw[Wh hl] at a;cases a
  case List es _=>
   obtain⟨b,g,a⟩:=a9 h
   by_cases hl:b.length<=1000
   ·rw[Wg hl] at a;cases a;exact(zq.lv (kB (xW (ia n) GG g) (SO b) (WQ hl (by decide))):SE X _ (nB (aK b)))
   ·rw[Wh hl] at a;cases a
  case Dict ks i _=>
   cases ks <;> first |(exact cX h) | skip
   cases i <;> first |(exact cX h) | skip
   cases h;exact Q8
end
end Sm
namespace L2
open PyProof.Rows
end L2
namespace Sm
open L2 PyProof.Rows
theorem repL_ints'{K:FR}{ρ:Ad}{H:Hp}:∀(ns:List Int),ay K ρ H (ns.map V.int) (ns.map D.int)
 | []=>.nil
 | n::r=>.cons (.int n) (repL_ints' r)
def CF(m:Mm):EM:=λa h=>(m a h).bind λp=>if p.1.length<=15 then some (.ob p.2.length,p.2++[.dct (fy [] p.1)]) else none
def GX(h:SP X pos keys vals m)(T:keys.all (·.isSome)=true)(hl:keys.length=vals.length)(h0:keys≠[])(hp:∀l,Qo X pos keys vals l->PE X (.Dict keys vals pos) (GB l)):SE X (.Dict keys vals pos) (CF m):=by
 obtain⟨l,h1,h2⟩:=h;refine(hp l h1).imp λσ H Q ⟨j,Z,h,d,h',R,S,ee,k⟩ p s=>?_;obtain⟨⟨y,E⟩,i,g⟩:=a9 ee;dsimp only at g
 by_cases z:y.length<=15
 ·rw[Wg z] at g;cases g;have U:Ch j H (j.keep p) (upd H p (.dK [])):=Ch.keep s;have nl:¬j.has p:=S.fresh s;refine h2 σ _ _ ⟨j.keep p,Z,h,y,_,R.mono U,S.keep s,i,λus I G F t P=>?_⟩;have L:G p=some (.dK []):=(F.res p We).trans aH;refine⟨L,us,rfl,by rw[P.len];exact z,?_⟩;obtain⟨c,J⟩:=I;have O:J=p::j.rs:=F.rs;subst O;have N:p∈(⟨c,p::j.rs⟩:Ad).rs:=We;have w:p∉c:=(t.vF p N).2;have q:∀b∈j.rs,b≠p:=λb f z=>nl (.inr (z ▸ f));generalize C:upd G p (.dK (bC [] us))=Y;have r:∀b,b≠p->Y b=G b:=λb f=>by rw[<-C,az f]
  have u:Ch ⟨c,p::j.rs⟩ G ⟨c++[p],j.rs⟩ Y:=by
   refine⟨λn a e=>?_,λb o v eb=>⟨λz=>?_,?_⟩⟩
   ·show(c++[p])[n]?=_;rw[Wx (V9.mp e).1];exact e
   ·rcases z with z | z
    ·rcases Xa.mp z with z | z
     ·exact v (.inl z)
     ·exact v (.inr (by rw[Wr.mp z];exact We))
    ·exact v (.inr (Wf _ z))
   ·rw[r b (λz=>v (.inr (by rw[z];exact We)))];exact eb
  refine k _ _ ⟨⟨c++[p],j.rs⟩,⟨(U.trans F.toCh).trans u,rfl,λb f=>?_⟩,?_,.ob (by show(c++[p])[E.length]?=_;rw[<-t.len];simp)⟩
  ·rw[r b (q b f),F.res b (Wf _ f)];exact az (q b f)
  ·refine⟨by show(c++[p]).length=_;simp;exact t.len,?_,λn a x i g=>?_,λb f=>?_⟩
   ·show(c++[p]).Nodup;rw[Aah];exact⟨t.nd,by simp,λa E b f z=>w (by rw[<-Wr.mp f,<-z];exact E)⟩
   ·have i:(c++[p])[n]?=some a:=i;have A:c.length=E.length:=t.len
    by_cases hn:n < c.length
    ·rw[Wx hn] at i;rw[Wx (by lia)] at g;exact(t.at_ n a x i g).mono u (r a λz=>w (z ▸ Wk i))
    ·have l1:=(V9.mp i).1;simp at l1;have M:n=c.length:=by lia
     subst M;rw[Wy (Wj _)] at i;rw[Wy (by lia),A] at g;simp at i g;subst i;subst g;exact⟨bC [] us,by rw[<-C];exact aH,(bj.merge .nil P).mono u⟩
   ·obtain⟨⟨o,eo⟩,v⟩:=t.vF b (Wf _ f);refine⟨⟨o,by rw[r b (q b f)];exact eo⟩,λz=>?_⟩;rcases Xa.mp z with z | z
    ·exact v z
    ·exact q b f (Wr.mp z)
 ·rw[Wh z] at g;cases g
theorem ay.rep{K:FR}{ρ:Ad}{H:Hp}{vs:List V}{ds:List D}(h:ay K ρ H vs ds):∀k:Nat,ay K ρ H (List.replicate k vs).flatten (List.replicate k ds).flatten
 | 0=>.nil
 | k+1=>by
  rw[X4,X4,Yj,Yj];exact h.append (ay.rep h k)
end Sm
namespace L2
open PyProof.Rows
end L2
namespace Sm
open L2 PyProof.Rows
end Sm
namespace Sm
open L2
theorem zX:∀a:List Int,md (a.map D.int)=some (a.map PyData.int)
 | []=>rfl
 | c::r=>by simp only[Wo,md,qS,zX r,Wz,XO]
theorem uR:∀a:List Int,PyData.depthAll (a.map PyData.int)=0
 | []=>rfl
 | c::r=>by simp only[Wo,PyData.depthAll,uR r,PyData.depth];rfl
def FX{h:MH}{c:Nat}{a:List Int}(b:h[c]?=some (.lst (a.map D.int))):rY (.ob c) (.lv []) h=some (.bl (!a.isEmpty),h):=by
 simp only[rY,M1,dH,b,LQ,Bf,zX,qS,md,XO,Wz,PyData.depth,uR];cases a <;> rfl
def lA(hn:h[n]?=some (.lst xs))(e:hW xs i=some d):aB (.ob n) (.int i) h=some (d,h):=by
 simp only[aB,dH,hn,df,Wz,e,XO]
def LL(hn:h[n]?=some (.lst xs)):eN [.ob n] h=some (.int xs.length,h):=by
 simp only[eN,dH,hn,df,XO]
def sO(hn:h[n]?=some (.lst xs))(e:wm xs.length i=some p):AI (.ob n) (.int i) d h=some (h.set n (.lst (xs.set p d))):=by
 simp only[AI,hn,e,XO]
def JB(b:List Int)(i:Int)(c:0<=i)(d:i < b.length):∃z,hW (b.map D.int) i=some (.int z):=by
 have a:i.toNat < b.length:=by lia
 refine⟨b[i.toNat]'a,?_⟩;have e:((i.toNat:Nat):Int)=i:=Z0 c;have q:hW (b.map D.int) ((i.toNat:Nat):Int)=some (D.int (b[i.toNat]'a)):=oP (by rw[Wt,Wl a];rfl);rw[e] at q;exact q
def Qh(b:0<=i)(c:i < xs.length):∃v,hW xs i=some v/\v∈xs:=by
 have a:i.toNat < xs.length:=by lia
 have e:((i.toNat:Nat):Int)=i:=Z0 b;have q:hW xs ((i.toNat:Nat):Int)=some (xs[i.toNat]'a):=oP (Wl a);rw[e] at q;exact⟨_,q,Y5 a⟩
end Sm
namespace Sm
def Rn{b:Type}(o:Option b)(Q:b->Prop):Prop:=∃a,o=some a/\Q a
def rv(e:o=some a)(q:Q a):Rn o Q:=⟨a,e,q⟩
def Rn.imp(r:Rn o Q)(f:∀a,Q a->b a):Rn o b:=let⟨a,e,q⟩:=r;⟨a,e,f a q⟩
def aN(r:Rn o λa=>Rn (f a) Q):Rn (o.bind f) Q:=by
 obtain⟨a,e,b,c,q⟩:=r;exact⟨b,by rw[e];exact c,q⟩
def BJ(r:Rn o λa=>Q (f a)):Rn (o.map f) Q:=by
 obtain⟨a,e,q⟩:=r;exact⟨f a,by rw[e];rfl,q⟩
def ib(e:δ[i]?=some (some d))(q:Q (d,h)):Rn (bF i δ h) Q:=⟨(d,h),by unfold bF;rw[e];rfl,q⟩
def Qv(q:Q (d,h)):Rn (eK d δ h) Q:=⟨_,rfl,q⟩
def BR(r:Rn (a δ h) λp=>Rn (b δ p.2) λq=>Rn (f p.1 q.1 q.2) Q):Rn (ah f a b δ h) Q:=aN (r.imp λ_ r=>aN r)
def UA(r:Rn (a δ h) λp=>Rn (f p.1 p.2) Q):Rn (i6 f a δ h) Q:=aN r
def Dw(q:Q ([],h)):Rn (a8 δ h) Q:=⟨_,rfl,q⟩
def jB(r:Rn (a δ h) λp=>Rn (m δ p.2) λq=>Q (p.1::q.1,q.2)):Rn (aD a m δ h) Q:=aN (r.imp λ_ r=>aN (r.imp λ_ q=>⟨_,rfl,q⟩))
def Kt(r:Rn (m δ h) λp=>Rn (f p.1 p.2) Q):Rn (ai f m δ h) Q:=aN r
def UG(r:Rn (t δ h) λp=>(p.1=true->Rn (a δ p.2) Q)/\(p.1=false->Rn (b δ p.2) Q)):Rn (xn t a b δ h) Q:=aN (r.imp λp ⟨e,d⟩=>by
 obtain⟨c,h⟩:=p;cases c with
 | true=>exact e rfl
 | false=>exact d rfl)
def HA(r:Rn (a δ h) λp=>∃c,p.1=.bl c/\Q (c,p.2)):Rn (au a δ h) Q:=aN (r.imp λp ⟨c,e,q⟩=>⟨(c,p.2),by rw[e],q⟩)
def NZ(r:Rn (a δ h) λp=>∃c,zA p.1 p.2=some c/\Q (c,p.2)):Rn (iT a δ h) Q:=aN (r.imp λp ⟨c,e,q⟩=>⟨(c,p.2),by rw[e];rfl,q⟩)
def N0(r:Rn (t δ h) λp=>Q (!p.1,p.2)):Rn (Sm.rq t δ h) Q:=BJ r
def N4(r:Rn (a δ h) λp=>(p.1=true->Rn (b δ p.2) Q)/\(p.1=false->Q (false,p.2))):Rn (Sm.nO a b δ h) Q:=aN (r.imp λp ⟨e,d⟩=>by
 obtain⟨c,h⟩:=p;cases c with
 | true=>exact e rfl
 | false=>exact⟨_,rfl,d rfl⟩)
def Rg(r:Rn (a δ h) λp=>(p.1=true->Q (true,p.2))/\(p.1=false->Rn (b δ p.2) Q)):Rn (Sm.ET a b δ h) Q:=aN (r.imp λp ⟨e,d⟩=>by
 obtain⟨c,h⟩:=p;cases c with
 | true=>exact⟨_,rfl,e rfl⟩
 | false=>exact d rfl)
def Rq(r:Rn (a δ h) λp=>∃c,p.1=.bl c/\(c=true->Rn (b δ p.2) Q)/\(c=false->Q (.bl false,p.2))):Rn (qC a b δ h) Q:=aN (r.imp λp ⟨c,e,f,d⟩=>by
 rw[e];cases c with
 | true=>exact f rfl
 | false=>exact⟨_,rfl,d rfl⟩)
def UB(r:Rn (a δ h) λp=>∃c,p.1=.bl c/\(c=true->Q (.bl true,p.2))/\(c=false->Rn (b δ p.2) Q)):Rn (Vb a b δ h) Q:=aN (r.imp λp ⟨c,e,f,d⟩=>by
 rw[e];cases c with
 | true=>exact⟨_,rfl,f rfl⟩
 | false=>exact d rfl)
def Rk(r:Rn (a δ h) λp=>∃c,p.1=.bl c/\Q (.bl (!c),p.2)):Rn (LS a δ h) Q:=aN (r.imp λp ⟨c,e,q⟩=>⟨_,by rw[e],q⟩)
def UE(r:Rn (m δ h) λp=>Q (.lv p.1,p.2)):Rn (nB m δ h) Q:=BJ r
def UC(r:Rn (m δ h) λp=>Q (.ob p.2.length,p.2++[.lst p.1])):Rn (Eg m δ h) Q:=BJ r
def Hu(r:Rn (m δ h) λp=>∃d xs ws,p.1=[d]/\df d p.2=some (xs,ws)/\Q (xs,p.2)):Rn (ED m δ h) Q:=aN (r.imp λp ⟨d,xs,ws,e,a,q⟩=>⟨(xs,p.2),by rw[e];dsimp only;rw[a];rfl,q⟩)
def Rh(q:Q (none,h)):Rn (sG δ h) Q:=⟨_,rfl,q⟩
def Ri(r:Rn (a δ h) λp=>∃i,p.1=.int i/\Q (some i,p.2)):Rn (sH a δ h) Q:=aN (r.imp λp ⟨c,e,q⟩=>⟨_,by rw[e],q⟩)
abbrev SQ:=Fl×DS×MH->Prop
def N5(q:Q (.nx,δ,h)):Rn (bU δ h) Q:=⟨_,rfl,q⟩
def N6(q:Q (.bk,δ,h)):Rn (Kk δ h) Q:=⟨_,rfl,q⟩
def j0(b:SM)(Q:SQ):SQ:=λr=>match r.1 with
 | .nx=>Rn (b r.2.1 r.2.2) Q
 | _=>Q r
def mx(r:Rn (a δ h) (j0 b Q)):Rn (ak a b δ h) Q:=aN (r.imp λp q=>by
 obtain⟨f,c,e⟩:=p;cases f with
 | nx=>exact q
 | bk=>exact⟨_,rfl,q⟩
 | ct=>exact⟨_,rfl,q⟩
 | rt d=>exact⟨_,rfl,q⟩)
def Du(r:Rn (e δ h) λp=>Q (.nx,δ.set i (some p.1),p.2)):Rn (aP i e δ h) Q:=aN (r.imp λ_ q=>⟨_,rfl,q⟩)
def ML(r:Rn (e δ h) λp=>Rn (g p.1 δ p.2) λq=>Q (.nx,q.1,q.2)):Rn (fi e g δ h) Q:=aN (r.imp λ_ r=>aN (r.imp λ_ q=>⟨_,rfl,q⟩))
def Hw(r:Rn (e δ h) λp=>Q (.nx,δ,p.2)):Rn (cJ e δ h) Q:=aN (r.imp λ_ q=>⟨_,rfl,q⟩)
def Ht(r:Rn (e δ h) λp=>Q (.rt p.1,δ,p.2)):Rn (aC e δ h) Q:=aN (r.imp λ_ q=>⟨_,rfl,q⟩)
def Dt(r:Rn (t δ h) λp=>(p.1=true->Rn (a δ p.2) Q)/\(p.1=false->Rn (b δ p.2) Q)):Rn (eL t a b δ h) Q:=aN (r.imp λp ⟨e,d⟩=>by
 obtain⟨c,h⟩:=p;cases c with
 | true=>exact e rfl
 | false=>exact d rfl)
def Rj(r:Rn (m δ h) λp=>∃a b,p.1=[a,b]/\Q (.nx,(δ.set i (some a)).set j (some b),p.2)):Rn (BE i j m δ h) Q:=aN (r.imp λp ⟨a,b,e,q⟩=>⟨_,by rw[e],q⟩)
def Fg(q:Q (δ.set i (some d),h)):Rn (gN i d δ h) Q:=⟨_,rfl,q⟩
def Oa(r:Rn (o δ h) λp=>Rn (i δ p.2) λq=>Rn (AI p.1 q.1 v q.2) λh'=>Q (δ,h')):Rn (Sm.yO o i v δ h) Q:=aN (r.imp λ_ r=>aN (r.imp λ_ r=>BJ r))
def N9(hn:xs.length=n)(r:Rn (u xs δ h) Q):Rn (gT n u (.tup xs) δ h) Q:=by
 unfold gT;dsimp only;rw[Wg hn];exact r
def iW(r:Rn (g d δ h) λp=>Rn (u xs p.1 p.2) Q):Rn (ag g u (d::xs) δ h) Q:=aN r
def yg(q:Q (δ,h)):Rn (bo [] δ h) Q:=⟨_,rfl,q⟩
def l9(Q:D×MH->Prop):SQ:=λr=>match r.1 with
 | .rt d=>Q (d,r.2.2)
 | .nx=>Q (.bb,r.2.2)
 | _=>False
def US(q:Q (d,h)):l9 Q (.rt d,δ,h):=q
def UT(q:Q (.bb,h)):l9 Q (.nx,δ,h):=q
def xJ(r:Rn (b δ h) Q):j0 b Q (.nx,δ,h):=r
def T8(q:Q (.rt d,δ,h)):j0 b Q (.rt d,δ,h):=q
def T9(q:Q (.bk,δ,h)):j0 b Q (.bk,δ,h):=q
def Av(I:DS->MH->Prop)(Q:SQ):SQ:=λz=>match z.1 with
 | .nx=>I z.2.1 z.2.2
 | .ct=>I z.2.1 z.2.2
 | .bk=>Q (.nx,z.2.1,z.2.2)
 | .rt d=>Q (.rt d,z.2.1,z.2.2)
def UZ(q:I δ h):Av I Q (.nx,δ,h):=q
def U0(q:Q (.nx,δ,h)):Av I Q (.bk,δ,h):=q
def UY(q:Q (.rt d,δ,h)):Av I Q (.rt d,δ,h):=q
def aY(r:Rn (b (entry len ds) h) (l9 Q)):Rn (fM len b ds h) Q:=aN (r.imp λp q=>by
 obtain⟨f,a,c⟩:=p;cases f with
 | nx=>exact⟨_,rfl,q⟩
 | rt d=>exact⟨_,rfl,q⟩
 | bk=>exact q.elim
 | ct=>exact q.elim)
def Ro(r:Rn (i δ h) λp=>Rn (oE p.2.1 g b p.1 δ p.2.2) Q):Rn (l8 i g b δ h) Q:=aN r
theorem eS:∀{xs:List D} {δ:DS} {h:MH} (I:Nat->DS->MH->Prop),I 0 δ h->(∀i δ h,i<=xs.length->I i δ h->kc ws h=true)->
  (∀i x δ h,xs[i]?=some x->I i δ h->Rn (g x δ h) λq=>Rn (b q.1 q.2) (Av (I (i+1)) Q))->(∀δ h,I xs.length δ h->Q (.nx,δ,h))->Rn (oE ws g b xs δ h) Q
 | [],δ,h,I,h0,e,_,j=>by
  unfold oE;rw[Wg (e 0 δ h (Wj _) h0)];exact⟨_,rfl,j δ h h0⟩
 | x::xs,δ,h,I,h0,e,k,j=>by
  unfold oE;rw[Wg (e 0 δ h (WL _) h0)];obtain⟨q,p,z,o,c⟩:=k 0 x δ h rfl h0;rw[p];show Rn ((b q.1 q.2).bind _) Q;rw[o];obtain⟨f,a,l⟩:=z;have next:I 1 a l->Rn (oE ws g b xs a l) Q:=λn=>eS (λi=>I (i+1)) n (λi δ h hl=>e (i+1) δ h (Aan hl)) (λi x δ h m=>k (i+1) x δ h (by simpa using m)) j
  cases f with
  | nx=>exact next c
  | ct=>exact next c
  | bk=>exact⟨_,rfl,c⟩
  | rt d=>exact⟨_,rfl,c⟩
def kO(r:Rn (e δ h) λp=>∃xs ws,df p.1 p.2=some (xs,ws)/\Q (xs,ws,p.2)):Rn (jQ e δ h) Q:=aN (r.imp λp ⟨xs,ws,e,q⟩=>⟨(xs,ws,p.2),by rw[e];rfl,q⟩)
def t7(r:Rn (m δ h) λp=>∃j:Int,p.1=[.int j]/\-(2^62)<=j/\j < 2^62/\Q ((List.range j.toNat).map λ(k:Nat)=>D.int (k:Int),[],p.2)):Rn (Cr m δ h) Q:=aN (r.imp λp ⟨j,e,b,a,q⟩=>by
 rw[e];dsimp only;rw[Wg ⟨b,a⟩];exact⟨_,rfl,q⟩)
def N7(r:Rn (m δ h) λp=>∃d e xs ys ws a,p.1=[d,e]/\df d p.2=some (xs,ws)/\df e p.2=some (ys,a)/\Q (pB xs ys,ws++a,p.2)):Rn (Pq m δ h) Q:=
 aN (r.imp λp ⟨d,e,xs,ys,ws,a,f,c,b,q⟩=>⟨_,by rw[f];dsimp only;rw[c];dsimp only[Option.bind_some];rw[b];rfl,q⟩)
def lR(r:Rn (m δ h) λp=>∃d xs ws,p.1=[d]/\df d p.2=some (xs,ws)/\Q (j8 0 xs,ws,p.2)):Rn (qV m δ h) Q:=
 aN (r.imp λp ⟨d,xs,ws,b,a,q⟩=>⟨_,by rw[b];dsimp only;rw[a];rfl,q⟩)
def Oc(r:Rn (i δ h) λp=>Rn (bO p.2.1 g c e p.1 (mI caps δ) p.2.2) λq=>q.1.length<=sizeLine/\Q q):Rn (fb caps i g c e δ h) Q:=
 aN (r.imp λp r=>aN (r.imp λq ⟨a,b⟩=>⟨q,by rw[Wg a],b⟩))
def z6(h:k∉kvs.map (·.1)):putD kvs k v=kvs++[(k,v)]:=by
 unfold putD;rw[Wh];intro z;obtain⟨p,hp,e⟩:=Ys.mp z;exact h (WY.mpr ⟨p,hp,Xk e⟩)
def yT(hd:dH d h=some kvs)(a:dk kvs (.inr x)=some v):aB d (.str x) h=some (v,h):=by
 simp only[aB,hd,oy,Wz,a,XO]
end Sm
namespace Sm
def NY(q:Q (d,h))(e:δ[i]?=some (some d):=by with_unfolding_all rfl):Rn (bF i δ h) Q:=ib e q
def Rm(r:Rn (u xs δ h) Q)(hn:xs.length=n:=by with_unfolding_all rfl):Rn (gT n u (.tup xs) δ h) Q:=N9 hn r
end Sm
namespace Sm
open L2
theorem yh:∀(xs:List D)(P:List D->DS->MH->α->Prop)(δ:DS)(h:MH)(a:α),P xs δ h a->
  (∀x r δ h a,P (x::r) δ h a->kc ws h=true/\Rn (g x δ h) λq=>Rn (c q.1 q.2) λt=>if t.1=true then Rn (m q.1 t.2 a) λz=>P r z.1 z.2.1 z.2.2 else P r q.1 t.2 a)->
  (∀δ h a,P [] δ h a->kc ws h=true/\Q (δ,h,a))->Rn (fV ws g c m xs δ h a) Q
 | [],P,δ,h,a,p,_,fin=>by
  obtain⟨d,q⟩:=fin δ h a p;exact⟨_,by unfold fV;rw[Wg d],q⟩
 | x::r,P,δ,h,a,p,step,fin=>by
  obtain⟨d,q,j,t,i,b⟩:=step x r δ h a p;unfold fV;rw[Wg d,j];show Rn ((c q.1 q.2).bind _) Q;rw[i];show Rn (if t.1=true then _ else _) Q
  by_cases z:t.1=true
  ·rw[Wg z] at b ⊢;obtain⟨y,f,e⟩:=b;rw[f];exact yh r P _ _ _ e step fin
  ·rw[Wh z] at b ⊢;exact yh r P _ _ _ b step fin
def Rp{a:Type}{caps:List (Option Nat)}{i:IM}{g:GM}{c:TM}{m:MK a}{a0:a}{out:a->D}{Q:D×MH->Prop}(hh:Rn (i δ h) λp=>Rn (fV p.2.1 g c m p.1 (mI caps δ) p.2.2 a0) λq=>Q (out q.2.2,q.2.1)):Rn (Sh caps i g c m a0 out δ h) Q:=
 aN (hh.imp λp r=>BJ r)
def UD(hh:Rn (k δ h) λp=>Rn (v δ p.2) λq=>∃b,oy p.1=some b/\a.length < sizeLine/\Q (δ,q.2,putD a b q.1)):Rn (mD k v δ h a) Q:=
 aN (hh.imp λp r=>aN (r.imp λq ⟨b,c,l,k⟩=>by rw[c];show Rn (if a.length < sizeLine then _ else _) Q;rw[Wg l];exact⟨_,rfl,k⟩))
def Dv(hh:Rn (k δ h) λp=>Rn (v δ p.2) λq=>∃a,oy p.1=some a/\Rn (r δ q.2) λz=>Q ((a,q.1)::z.1,z.2)):Rn (mB k v r δ h) Q:=
 aN (hh.imp λp x=>aN (x.imp λq ⟨a,b,y⟩=>by rw[b];exact BJ y))
def Ob(hh:Rn (a δ h) λp=>Rn (l δ p.2) λq=>Rn (u δ q.2) λr=>Rn (wt p.1 q.1 r.1 r.2) Q):Rn (f9 a l u δ h) Q:=aN (hh.imp λ_ x=>aN (x.imp λ_ y=>aN y))
def Hz(hh:Rn (d δ h) λp=>Rn (c δ p.2) λq=>Rn (f p.1 q.1 q.2) λr=>∃b,r.1=.bl b/\if b=true then Rn (a δ r.2) λu=>Rn (g q.1 u.1 u.2) Q else Q (.bl false,r.2)):Rn (yX f g d c a δ h) Q:=
 aN (hh.imp λp x=>aN (x.imp λq y=>aN (y.imp λr ⟨b,e,k⟩=>by
  rw[e];cases b with
  | true=>rw[Wg rfl] at k;exact aN k
  | false=>rw[Wh (by simp)] at k;exact⟨_,rfl,k⟩)))
def QC(q:Q (.tup ds,h)):Rn (aw ds h) Q:=⟨_,rfl,q⟩
def QD(q:Q (.int (-a),h)):Rn (cT (.int a) h) Q:=⟨_,rfl,q⟩
def w_add(q:Q (.int (a+b),h)):Rn (aI (.int a) (.int b) h) Q:=⟨_,rfl,q⟩
def w_sub(q:Q (.int (a-b),h)):Rn (IQ (.int a) (.int b) h) Q:=⟨_,rfl,q⟩
def w_lt(q:Q (.bl (decide (a < b)),h)):Rn (LK (.int a) (.int b) h) Q:=⟨_,rfl,q⟩
def TY(q:Q (.bl (decide (b < a)),h)):Rn (Sg (.int a) (.int b) h) Q:=⟨_,rfl,q⟩
def TZ(q:Q (.bl (decide (b<=a)),h)):Rn (TN (.int a) (.int b) h) Q:=⟨_,rfl,q⟩
def QJ(q:Q (.bl (a==b),h)):Rn (bu (.int a) (.int b) h) Q:=⟨_,rfl,q⟩
def QE(q:Q (.bl (!(a==b)),h)):Rn (rY (.int a) (.int b) h) Q:=⟨_,rfl,q⟩
def QI(q:Q (.bl (x==y),h)):Rn (bu (.str x) (.str y) h) Q:=⟨_,rfl,q⟩
def QH(q:Q (d,h)):Rn (aB (.tup (d::r)) (.int 0) h) Q:=⟨_,by
 show((hW (d::r) 0).map λz=>(z,h))=_;have:hW (d::r) 0=some d:=by unfold hW;rw[show wm (d::r).length 0=some 0 by unfold wm;simp;try lia];rfl
 rw[this];rfl,q⟩
def QG(q:Q (e,h)):Rn (aB (.tup (d::e::r)) (.int 1) h) Q:=⟨_,by
 show((hW (d::e::r) 1).map λz=>(z,h))=_;have:hW (d::e::r) 1=some e:=by unfold hW;rw[show wm (d::e::r).length 1=some 1 by unfold wm;simp;try lia];rfl
 rw[this];rfl,q⟩
def QF(q:Q (f,h)):Rn (aB (.tup (d::e::f::r)) (.int 2) h) Q:=⟨_,by
 show((hW (d::e::f::r) 2).map λz=>(z,h))=_;have:hW (d::e::f::r) 2=some f:=by unfold hW;rw[show wm (d::e::f::r).length 2=some 2 by unfold wm;simp;try lia];rfl
 rw[this];rfl,q⟩
def Nj(q:Q (.int r.length,h)):Rn (eN [.tup r] h) Q:=⟨_,rfl,q⟩
inductive Gq{α β:Type}(R:α->β->Prop):List α->List β->Prop where
 | nil:Gq R [] []
 | cons {x y xs ys}:R x y->Gq R xs ys->Gq R (x::xs) (y::ys)
def Sr(r:Rn (e δ h) λp=>Rn (b (δ.set i (some p.1)) p.2) Q):Rn (ak (aP i e) b δ h) Q:=mx (Du (r.imp λ_ q=>xJ q))
def Sx(r:Rn (e δ h) λp=>Rn (g p.1 δ p.2) λq=>Rn (b q.1 q.2) Q):Rn (ak (fi e g) b δ h) Q:=mx (ML (r.imp λ_ q=>q.imp λ_ q=>xJ q))
def P7(r:Rn (e δ h) λp=>Rn (b δ p.2) Q):Rn (ak (cJ e) b δ h) Q:=mx (Hw (r.imp λ_ q=>xJ q))
def V3(r:Rn (m δ h) λq=>Q (d::q.1,q.2))(e:δ[i]?=some (some d):=by with_unfolding_all rfl):Rn (aD (bF i) m δ h) Q:=jB (ib e r)
def V4(r:Rn (m δ h) λq=>Q (d::q.1,q.2)):Rn (aD (eK d) m δ h) Q:=jB (Qv r)
def Vh(r:Rn (f [d] h) Q)(e:δ[i]?=some (some d):=by with_unfolding_all rfl):Rn (ai f (aD (bF i) a8) δ h) Q:=Kt (jB (ib e (Dw r)))
def Vg(r:Rn (f [d,d'] h) Q)(e:δ[i]?=some (some d):=by with_unfolding_all rfl)(a:δ[j]?=some (some d'):=by with_unfolding_all rfl):Rn (ai f (aD (bF i) (aD (bF j) a8)) δ h) Q:=Kt (jB (ib e (jB (ib a (Dw r)))))
def Vf(r:Rn (f [d,d',b] h) Q)(e:δ[i]?=some (some d):=by with_unfolding_all rfl)(c:δ[j]?=some (some d'):=by with_unfolding_all rfl)(a:δ[k]?=some (some b):=by with_unfolding_all rfl):Rn (ai f (aD (bF i) (aD (bF j) (aD (bF k) a8))) δ h) Q:=Kt (jB (ib e (jB (ib c (jB (ib a (Dw r)))))))
def Su(r:Rn (f d c h) Q)(e:δ[i]?=some (some d):=by with_unfolding_all rfl):Rn (ah f (bF i) (eK c) δ h) Q:=BR (ib e (Qv r))
def Ss(r:Rn (f d d' h) Q)(e:δ[i]?=some (some d):=by with_unfolding_all rfl)(a:δ[j]?=some (some d'):=by with_unfolding_all rfl):Rn (ah f (bF i) (bF j) δ h) Q:=BR (ib e (ib a r))
def Vd(r:Rn (b δ h) λq=>Rn (f d q.1 q.2) Q)(e:δ[i]?=some (some d):=by with_unfolding_all rfl):Rn (ah f (bF i) b δ h) Q:=BR (ib e r)
def Ve(r:Rn (a δ h) λq=>Rn (f q.1 c q.2) Q):Rn (ah f a (eK c) δ h) Q:=BR (r.imp λ_ r=>Qv r)
def Sw(q:Q ((δ.set i (some a)).set j (some b),h)):Rn (gT 2 (ag (gN i) (ag (gN j) bo)) (.tup [a,b]) δ h) Q:=N9 rfl (iW (Fg (iW (Fg (yg q)))))
def Sv(q:Q (((δ.set i (some a)).set j (some b)).set k (some c),h)):Rn (gT 3 (ag (gN i) (ag (gN j) (ag (gN k) bo))) (.tup [a,b,c]) δ h) Q:=N9 rfl (iW (Fg (iW (Fg (iW (Fg (yg q)))))))
def P5(q:Q (.rt d,δ,h))(e:δ[i]?=some (some d):=by with_unfolding_all rfl):Rn (aC (bF i) δ h) Q:=Ht (ib e q)
def P6(q:Q (.rt d,δ,h)):Rn (aC (eK d) δ h) Q:=Ht (Qv q)
end Sm
namespace L2
open PyProof.Rows
abbrev UX:Hp:=λ_=>none
structure Tab(P:Program)(w:World)(K:FR)(mg:Str->Option Value)(nm:Str)(tb:List (Str×List Int)):Prop where
 ex:∃(a:Addr)(o:Obj)(es:Array DictEntry)(ep:Nat)(kvs:List (Str×Value)),mg nm=some (.ref a)/\K.lookup a=some o/\o.ExactDict/\o.data=.dict es ep/\(a==sysModules)=false/\KeysOf (strKind P w) es/\Pairs (strKind P w) es.toList kvs/\(kvs.map (·.1)).Nodup/\
  Sm.Gq (λ(x:Str×List Int)(y:Str×Value)=>x.1=y.1/\∃(t:Addr)(u:Obj)(its:Array Value)(n:Nat),y.2=.ref t/\K.lookup t=some u/\u.cls=.type "tuple"/\u.dict=none/\u.data=.seq its n/\its.size<=sizeLine/\IntsAre its.toList x.2) tb kvs
def ES{K:FR}:∀{c:List (Str×List Int)} {kvs:List (Str×Value)},Sm.Gq (λ(x:Str×List Int)(y:Str×Value)=>x.1=y.1/\∃(t:Addr)(u:Obj)(its:Array Value)(n:Nat),y.2=.ref t/\K.lookup t=some u/\u.cls=.type "tuple"/\u.dict=none/\u.data=.seq its n/\its.size<=sizeLine/\IntsAre its.toList x.2) c kvs->∀x:Str,
  (∀f,c.lookup x=some f->∃t,valueAt kvs x=some (.ref t)/\∀H,jc K H t (f.map V.int))/\(valueAt kvs x).isSome=(c.lookup x).isSome:=by
 intro c kvs h
 induction h with
 | nil=>exactλx=>⟨λf e=>(nomatch e),rfl⟩
 | @cons p q c kvs r l o=>
  intro x;obtain⟨a,d⟩:=p;obtain⟨b,v⟩:=q;obtain⟨m,t,u,its,n,k,E,C,A,w,s,j⟩:=r;dsimp only at m k j;subst m;subst k
  by_cases i:x=a
  ·subst i;have g:valueAt ((x,Value.ref t)::kvs) x=some (.ref t):=by unfold valueAt;simp
   have hl:((x,d)::c).lookup x=some d:=by simp
   refine⟨λf e=>?_,by rw[g,hl];rfl⟩;rw[hl] at e;cases e;exact⟨t,g,λH=>.inr ⟨u,its,n,E,C,w,s,pC j,A⟩⟩
  ·have g:valueAt ((a,Value.ref t)::kvs) x=valueAt kvs x:=by
    unfold valueAt;rw[Aa0 (by simpa using λz=>i z.symm)]
   have hl:((a,d)::c).lookup x=c.lookup x:=by
    rw[Xj,show(x==a)=false by simpa using i]
   rw[g,hl];exact o x
def Tab.dict(T:Tab X.prog X.w X.K X.mg nm b)(I:Inv X pins σ H s):∃(a:Addr)(kvs:List (Str×Value)),X.mg nm=some (.ref a)/\(a==sysModules)=false/\s.heap.DictOf (strKind X.prog X.w) a kvs/\∀x:Str,
  (∀c,b.lookup x=some c->∃t,valueAt kvs x=some (.ref t)/\∀H,jc X.K H t (c.map V.int))/\(valueAt kvs x).isSome=(b.lookup x).isSome:=by
 obtain⟨a,o,es,m,kvs,l,k,j,i,h,g,f,e,d⟩:=T.ex;exact⟨a,kvs,l,h,⟨o,es,m,I.xh a o k,j,i,g,f,e⟩,ES d⟩
def Ox(T:Tab X.prog X.w X.K X.mg nm o)(C:Gl X nm)(hi:PE X i n)(A:Mq i)(hd:(nm==("__debug__":Str))=false):
  PE X (.Subscript (.Name nm p) i pos) (λσ H Q=>n σ H λy G=>∃x f,y=.str x/\o.lookup x=some f/\∀t,jc X.K UX t (f.map V.int)->Q (.ref t) G):=by
 intro b s σ H Q I h;obtain⟨a,v,hm,z,dd,L⟩:=T.dict I;refine Ka Zj.lookup A (DU I C hm (cU (hi b s σ H _ I h) λJ s2 ⟨y,F,m,r,x,f,E,l,q⟩=>?_) hd);subst E;obtain⟨t,rfl⟩:=r;obtain⟨M,j,c,k,d,g⟩:=T.dict m;rw[hm] at c;cases c;obtain⟨u,e,sq⟩:=(g x).1 f l;exact⟨d.typeIs,wpAny_getItem_of (by show Value.isStrOf x (.str x t)=true;unfold Value.isStrOf;simp) d.mapOf e ⟨.ref u,F,m.tok _,rfl,q u (sq _)⟩⟩
end L2
namespace Sm
open L2 PyProof.Rows
noncomputable def Px(a:List (Str×List Int))(d:D)(h:MH):Option (D×MH):=match d with
 | .str x=>(a.lookup x).map λb=>(.tup (b.map D.int),h)
 | _=>none
def NJ(T:Tab X.prog X.w X.K X.mg nm j)(hi:SE X i m)(o:Gl X nm:=by unfold Gl;ac_nf)(n:Mq i:=by unfold Mq;intro _ _;ac_nf)(hd:(nm==("__debug__":Str))=false:=by ac_nf):SE X (.Subscript (.Name nm p) i pos) (i6 (Px j) m):=
 (Ox T o hi n hd).imp λσ H Q ⟨f,g,h,d,C,R,S,e,k⟩=>by
  obtain⟨⟨x,q⟩,u,a⟩:=a9 e;dsimp only at a;refine⟨f,g,h,x,q,R,S,u,λv H1 ⟨b,z,A,l⟩=>?_⟩;unfold Px at a
  split at a
  ·rename_i y;obtain⟨c,s,r⟩:=dS a;cases r;cases l;exact⟨_,c,rfl,s,λt sq=>k _ _ ⟨b,z,A,.tup (.inr sq) (repL_ints' c)⟩⟩
  ·cases a
end Sm
namespace Hd
open PySem.W PyProof.Rows L2 Sm
abbrev Sub(h h':Heap):Prop:=∀b o,h.get? b=some o->h'.get? b=some o
def BG(k:Sub h h')(x:rowAt h e=some r):rowAt h' e=some r:=by
 unfold rowAt at x ⊢
 split at x
 ·split at x
  ·split at x
   ·rename_i u a;rw[k _ _ a];exact x
   ·cases x
  ·cases x
 ·cases x
theorem qR(k:Sub h h'):∀{es:List DictEntry} {r:List (Str×Int×List Int)},mY h es=some r->mY h' es=some r
 | [],_,x=>x
 | e::es,r,x=>by
  unfold mY at x ⊢;obtain⟨y,b,x⟩:=Zx.mp x;obtain⟨c,a,x⟩:=Xi.mp x;rw[BG k b,qR k a];exact congrArg some x
def Bm(k:Sub h h')(x:tabAt h nm=some r):tabAt h' nm=some r:=by
 have d:∀v,h.nsMap mainGlobals nm=some v->h'.nsMap mainGlobals nm=some v:=λv e=>by
  unfold Heap.nsMap at e ⊢
  split at e
  ·rename_i o b;rw[k _ _ b];exact e
  ·cases e
 unfold tabAt at x ⊢
 split at x
 ·rename_i a g;rw[d _ g];dsimp only
  split at x
  ·cases x
  ·rename_i c;rw[Wh c]
   split at x
   ·rename_i o b;rw[k _ _ b];dsimp only
    split at x
    ·rename_i f;rw[Wg f]
     split at x
     ·exact qR k x
     ·cases x
    ·cases x
   ·cases x
 ·cases x
theorem Az:∀{vs:List Value} {a:List Int},DY vs=some a->IntsAre vs a
 | [],_,e=>by cases e;exact .nil
 | v::r,a,e=>by
  cases v <;> first |(exact cX e) | skip
  obtain⟨d,c,b⟩:=Xi.mp (show(DY r).map _=some a from e);subst b;exact .cons _ _ (Az c)
def AU(h:Ej v t=true):v=.type t:=by
 unfold Ej at h
 split at h
 ·rw[Xk h]
 ·cases h
theorem tI:∀{es:List DictEntry} {b:List (Str×List Int)},mY h es=some (b.map λx=>(x.1,hashStr w x.1,x.2))->
  ∃kvs:List (Str×Value),(∀e∈es,∃k,(PySem.strKind P w).is k e.key=true/\e.hash=(PySem.strKind P w).hash k)/\Pairs (PySem.strKind P w) es kvs/\kvs.map (·.1)=b.map (·.1)/\
   Gq (λ(x:Str×List Int)(y:Str×Value)=>x.1=y.1/\∃(t:Addr)(u:Obj)(its:Array Value)(n:Nat),y.2=.ref t/\(aS h).lookup t=some u/\u.cls=.type "tuple"/\u.dict=none/\u.data=.seq its n/\its.size<=sizeLine/\IntsAre its.toList x.2) b kvs
 | [],b,x=>by
  have m:b=[]:=by
   have:=Option.some.inj x;exact List.map_eq_nil_iff.mp this.symm
  subst m;exact⟨[],λ_ z=>(nomatch z),.nil,rfl,.nil⟩
 | e::es,b,x=>by
  unfold mY at x;obtain⟨y,a,x⟩:=Zx.mp x;obtain⟨M,J,x⟩:=Xi.mp x;cases b with
  | nil=>cases x
  | cons q b=>
   rw[Wo] at x;obtain⟨rfl,rfl⟩:=List.cons.inj x;obtain⟨kvs,E,C,A,v⟩:=tI (P:=P) J;unfold rowAt at a
   split at a
   ·rename_i i j s
    split at a
    ·rename_i t o
     split at a
     ·rename_i u p
      split at a
      ·rename_i f;rw[WC] at f
       split at a
       ·rename_i its n hd
        split at a
        ·rename_i r;obtain⟨l,I,g⟩:=Xi.mp a;have H:i=q.1:=congrArg (·.1) g;have G:e.hash=hashStr w q.1:=congrArg (·.2.1) g;have F:l=q.2:=congrArg (·.2.2) g;have d:(PySem.strKind P w).is q.1 e.key=true:=by rw[s,H];show Value.isStrOf q.1 (.str q.1 j)=true;unfold Value.isStrOf;simp
         refine⟨(q.1,.ref t)::kvs,λL c=>?_,.cons d o C,by rw[Wo,Wo,A],.cons ⟨rfl,t,u,its,n,rfl,lW p rfl,AU f.1,by simpa using f.2,hd,WQ r (by decide),by rw[<-F];exact Az I⟩ v⟩;rcases Ws.mp c with rfl | c
         ·exact⟨q.1,d,G⟩
         ·exact E L c
        ·cases a
       ·cases a
      ·cases a
     ·cases a
    ·cases a
   ·cases a
def tab_of(x:tabAt h nm=some (d.map λx=>(x.1,hashStr w x.1,x.2)))(g:h.Ns mainGlobals mg)(nd:(d.map (·.1)).Nodup):Tab P w (aS h) mg nm d:=by
 unfold tabAt at x
 split at x
 ·rename_i a k
  split at x
  ·cases x
  ·rename_i f
   split at x
   ·rename_i o i
    split at x
    ·rename_i b;rw[WC,WC] at b
     split at x
     ·rename_i es s hd;obtain⟨c,p,n,m,l⟩:=tI (P:=P) x;have hm:mg nm=some (.ref a):=by
       obtain⟨t,q,r,g1,g2,_,g3⟩:=g;rw[<-g3 nm,<-k];unfold Heap.nsMap;rw[g1];dsimp only;rw[g2]
      exact⟨a,o,es,s,c,hm,lW i rfl,⟨AU b.1.1,by simpa using b.1.2,Xk b.2⟩,hd,by simpa using f,λe j=>p e (X0.mpr j),n,by rw[m];exact nd,l⟩
     ·cases x
    ·cases x
   ·cases x
 ·cases x
end Hd
namespace L2
open PyProof.Rows
end L2
namespace Sm
open L2 PyProof.Rows
end Sm
namespace Sb
open L2 PyProof.Rows
open Builtin.SmallTypes (nextOf ownedTupleIsFree ownedTupleHandOut)
abbrev nJ(h:Heap)(z T U:Addr)(t:Addr)(f:Bool):Prop:=
 h.get? z=some {cls:=.type "zip",dict:=none,data:=.fields #[rawInt t,.bool f,.bool false,.ref T,.ref U],slots:=#[]}
def alive(b:s.heap.get? a=some o)(h:Q (some o) s):wpAny (model P w) A (loadIfAlive a) Q E s:=by
 have c:Q (s.heap.get? a) s:=by rw[b];exact h
 exactλ_ _ _=>c
def seen(d:nJ s.heap z T U t f)(k:∀a,nJ a z T U t true->Heap.SameBut z s.heap a->C false {s with heap:=a}):
  wpAny (model P w) A (if(Value.bool f !=Value.bool true)=true then do setField (.ref z) 1 (.bool true);pure false else pure false) C E s:=by
 cases f with
 | true=>rw[Wh (by decide)];exact Wb (k s.heap d (Heap.SameBut.refl ..))
 | false=>
  rw[Wg (by decide)];refine V8 (wpAny_setField_rec d (by simp) λa b c=>Wb (k a ?_ c));exact b
def JT (D:Zp z T U p q l m) (r:nJ s.heap z T U t f) (O:s.heap.get? t=some Y) (L:IsPair s.heap T (.ref p) (.ref q)) (X:At b s.heap p l i) (S:At c s.heap q m i) (hl:Of b s.heap l xs) (hm:Of c s.heap m ys) (N:xs[i]?=some x) (M:ys[i]?=some y) (k:∀h',nJ h' z T U t true->At b h' p l (i+1)->At c h' q m (i+1)->IsPair h' s.heap.objs.size x y->h'.objs.size=s.heap.objs.size+1->
   (∀a o,a≠z->a≠p->a≠q->s.heap.get? a=some o->h'.get? a=some o)->Q (some (.ref s.heap.objs.size)) {s with heap:=h'}):wpAny (model P w) A (pyNext (.ref z)) Q E s:=by
 have ty:s.TypeIs (.ref z) "zip":=⟨_,r,rfl⟩;unfold pyNext;refine V8 (YJ (W4 (name:=Str.ofString "__next__") ty Ym (W3 Ym ty ZQ ?_ (ZI _))));show wpAny _ _ (field (.ref z) 2 >>=_) _ _ _;refine V8 (W0 r rfl (x:=.bool false) rfl ?_);show wpAny _ _ (field (.ref z) 3 >>=_) _ _ _;refine V8 (W0 r rfl (x:=.ref T) rfl (V8 (Xo L rfl ?_)));show wpAny _ _ (ownedTupleIsFree (.ref z) >>=_) _ _ _;refine V8 ?_;unfold ownedTupleIsFree;refine V8 (W0 r rfl (x:=rawInt t) rfl ?_);show wpAny _ _ (loadIfAlive ((t:Int).toNat) >>=_) _ _ _;rw[WT];refine V8 (alive O ?_);simp only[Option.isNone_some,WA,Xx];refine V8 (W0 r rfl (x:=.bool f) rfl ?_);refine seen r λH v d=>?_;simp only[WA,Xx];have I:IsPair H T (.ref p) (.ref q):=d.extBut _ _ D.Tz L;refine V8 ?_;rw[<-Yc];simp only[Y9,ZT];refine V8 (V8 (WU ?_));show wpAny _ _ (nextOf (.ref p) >>=_) _ _ _;refine V8 (ux (X.up λo e=>d.extBut _ o D.pz e) (hl.up λo e=>d.extBut _ o D.lz e) N λJ G h=>Wb ?_);refine Wb ?_;refine V8 (V8 (WU ?_));show wpAny _ _ (nextOf (.ref q) >>=_) _ _ _;refine V8 (ux (S.up λo e=>h.extBut _ o D.pq.symm (d.extBut _ o D.qz e)) (hm.up λo e=>h.extBut _ o D.mp (d.extBut _ o D.mz e)) M λg C j=>Wb ?_);refine Wb ?_;refine Wb ?_;dsimp only;refine V8 (Zs ?_ (hsz:=by show 2<=sizeLine;rw[XX];lia));have sz:g.objs.size=s.heap.objs.size:=by rw[j.1,h.1,d.1]
 have u:nJ g z T U t true:=j.extBut _ _ D.qz.symm (h.extBut _ _ D.pz.symm v);have n:∀a o,a≠z->a≠p->a≠q->s.heap.get? a=some o->g.get? a=some o:=λa o a1 a3 a4 e=>j.extBut _ _ a4 (h.extBut _ _ a3 (d.extBut _ _ a1 e));have F:At b g p l (i+1):=G.up λo e=>j.extBut _ o D.pq e;refine Wb ⟨_,rfl,Wb ?_⟩;show Q (some (.ref g.objs.size)) _;rw[sz];refine k (g.push {cls:=.type "tuple",data:=.seq #[x,y]}) (Wa _ u) (F.up λo e=>Wa _ e) (C.up λo e=>Wa _ e) ?_ (by rw[Xd,sz]) λa o a1 a3 a4 e=>Wa _ (n a o a1 a3 a4 e);rw[<-sz];exact Ww _ rfl
def zr(hh:A.handled=none)(D:Zp z T U p q l m)(n:nJ s.heap z T U t f)(J:s.heap.get? t=some R)(M:IsPair s.heap T (.ref p) (.ref q))(I:At b s.heap p l i)(N:At c s.heap q m i)(hl:Of b s.heap l xs)(hm:Of c s.heap m ys)(L:xs[i]?=none\/ys[i]?=none)(k:∀h',(∀a o,a≠z->a≠p->a≠q->s.heap.get? a=some o->h'.get? a=some o)->Q none {s with heap:=h'}):wpAny (model P w) A (pyNext (.ref z)) Q E s:=by
 have ty:s.TypeIs (.ref z) "zip":=⟨_,n,rfl⟩;unfold pyNext;refine V8 (YJ (W4 (name:=Str.ofString "__next__") ty Ym (W3 Ym ty ZQ ?_ (ZI _))));show wpAny _ _ (field (.ref z) 2 >>=_) _ _ _;refine V8 (W0 n rfl (x:=.bool false) rfl ?_);show wpAny _ _ (field (.ref z) 3 >>=_) _ _ _;refine V8 (W0 n rfl (x:=.ref T) rfl (V8 (Xo M rfl ?_)));show wpAny _ _ (ownedTupleIsFree (.ref z) >>=_) _ _ _;refine V8 ?_;unfold ownedTupleIsFree;refine V8 (W0 n rfl (x:=rawInt t) rfl ?_);show wpAny _ _ (loadIfAlive ((t:Int).toNat) >>=_) _ _ _;rw[WT];refine V8 (alive J ?_);simp only[Option.isNone_some,WA,Xx];refine V8 (W0 n rfl (x:=.bool f) rfl ?_);refine seen n λH C d=>?_;simp only[WA,Xx];refine V8 ?_;rw[<-Yc];simp only[Y9,ZT];refine V8 (V8 (WU ?_));show wpAny _ _ (nextOf (.ref p) >>=_) _ _ _;cases ex:xs[i]? with
 | none=>
  refine V8 (Ap hh (I.up λo e=>d.extBut _ o D.pz e) (hl.up λo e=>d.extBut _ o D.lz e) ex λv e g ⟨y,h,j⟩=>?_);refine V8 (X1 (T:="StopIteration") (b:=true) ⟨y,h,j⟩ YQ (Wb (k _ λa o a1 a3 _ r=>g _ _ a3 (d.extBut _ _ a1 r))))
 | some x=>
  have O:ys[i]?=none:=by rcases L with r | r;rw[ex] at r;cases r;exact r
  refine V8 (ux (I.up λo e=>d.extBut _ o D.pz e) (hl.up λo e=>d.extBut _ o D.lz e) ex λv F g=>Wb ?_);refine Wb ?_;refine V8 (V8 (WU ?_));show wpAny _ _ (nextOf (.ref q) >>=_) _ _ _;refine V8 (Ap hh (N.up λo e=>g.extBut _ o D.pq.symm (d.extBut _ o D.qz e)) (hm.up λo e=>g.extBut _ o D.mp (d.extBut _ o D.mz e)) O λG e u ⟨y,h,j⟩=>?_);refine V8 (X1 (T:="StopIteration") (b:=true) ⟨y,h,j⟩ YQ (Wb (k _ λa o a1 a3 a4 r=>u _ _ a4 (g.extBut _ _ a3 (d.extBut _ _ a1 r)))))
structure Mh(b c:Bool)(lo:Nat)(z T U p q l m:Addr)(i:Nat)(h:Heap):Prop where
 Uy:IsZip h z T U .none\/∃t f ot,nJ h z T U t f/\h.get? t=some ot/\lo<=t
 T_:IsPair h T (.ref p) (.ref q)
 U_:∃u v,IsPair h U u v
 p_:At b h p l i
 q_:At c h q m i
def D2{lo:Nat}{t d:Addr}(h:lo<=t)(hd:d < lo):t≠d:=λe=>absurd (WN hd h) (by rw[e];exact Xz _)
def Mh.but{lo:Nat}{z T U p q l m d:Addr}{i:Nat}{h h':Heap}(x:Mh b c lo z T U p q l m i h)(hd:∀t∈[z,T,U,p,q],t≠d)(hl:d < lo)(k:∀a o,a≠d->h.get? a=some o->h'.get? a=some o):Mh b c lo z T U p q l m i h':=
 ⟨x.Uy.imp (λy=>k _ _ (hd z (by simp)) y) λ⟨t,f,j,r,n,g⟩=>⟨t,f,j,k _ _ (hd z (by simp)) r,k _ _ (D2 g hl) n,g⟩,k _ _ (hd T (by simp)) x.T_,let⟨u,v,e⟩:=x.U_;⟨u,v,k _ _ (hd U (by simp)) e⟩,x.p_.up λo e=>k _ o (hd p (by simp)) e,x.q_.up λo e=>k _ o (hd q (by simp)) e⟩
def Mh.next{lo:Nat}{z T U p q l m:Addr}{i:Nat}{xs ys:Array Value}{x y:Value}{Q:Option Value->Shared->Prop}(D:Zp z T U p q l m)(st:Mh b c lo z T U p q l m i s.heap)(g:z < lo/\U < lo/\p < lo/\q < lo)(R:lo<=s.heap.objs.size)
  (hl:Of b s.heap l xs) (hm:Of c s.heap m ys) (G:xs[i]?=some x) (F:ys[i]?=some y)
  (k:∀h',Mh b c lo z T U p q l m (i+1) h'->IsPair h' s.heap.objs.size x y->h'.objs.size=s.heap.objs.size+1->
   (∀a o,a≠z->a≠U->a≠p->a≠q->s.heap.get? a=some o->h'.get? a=some o)->Q (some (.ref s.heap.objs.size)) {s with heap:=h'}):wpAny (model P w) A (pyNext (.ref z)) Q E s:=by
 obtain⟨hr,j,⟨u,v,I⟩,L,J⟩:=st;rcases hr with r |⟨t,f,M,r,H,d⟩
 ·refine zu D r j I L J hl hm G F λh' a1 a2 a3 a4 n C h=>?_;exact k h' ⟨.inr ⟨_,false,_,a1,n,R⟩,h _ _ D.Tz D.TU D.Tp D.Tq j,⟨_,_,a2⟩,a3,a4⟩ n C h
 ·refine JT D r H j L J hl hm G F λh' a1 a3 a4 n C h=>?_;exact k h' ⟨.inr ⟨t,true,M,a1,h _ _ (D2 d g.1) (D2 d g.2.2.1) (D2 d g.2.2.2) H,d⟩,h _ _ D.Tz D.Tp D.Tq j,⟨u,v,h _ _ D.Uz D.Up D.Uq I⟩,a3,a4⟩ n C λa o n1 _ O N e=>h a o n1 O N e
def Mh.done{lo:Nat}{z T U p q l m:Addr}{i:Nat}{xs ys:Array Value}{Q:Option Value->Shared->Prop}(hh:A.handled=none)(D:Zp z T U p q l m)(st:Mh b c lo z T U p q l m i s.heap)
  (hl:Of b s.heap l xs) (hm:Of c s.heap m ys) (g:xs[i]?=none\/ys[i]?=none)
  (k:∀h',(∀a o,a≠z->a≠U->a≠p->a≠q->s.heap.get? a=some o->h'.get? a=some o)->Q none {s with heap:=h'}):wpAny (model P w) A (pyNext (.ref z)) Q E s:=by
 obtain⟨hr,h,⟨u,v,F⟩,n,j⟩:=st;rcases hr with d |⟨t,f,H,d,y,C⟩
 ·exact CU hh D d h F n j hl hm g k
 ·exact zr hh D d y h n j hl hm g λh' a=>k h' λG o n1 _ x r e=>a G o n1 x r e
end Sb
namespace PySem
def mm:typeLookup (.type "zip") "__getattr__"=pure none:=by rw[Z2,Zc];ac_nf
def hY:entryFor table "zip.__getattribute__"=some Builtin.«object.__getattribute__»:=
 entryFor_alias (id':="object.__getattribute__") (by ac_nf) (by decide+kernel) (by decide+kernel) (by ac_nf)
def fZ(a:Addr)(fs:Array Value)(h:Array (Option Value))(name:Str)(u:Tok)(e:typeLookup (.type "zip") name=pure none)(b:(["__module__","__name__","__qualname__","__doc__","__annotations__"]:List Str).contains name=false)(hsz:name.length+100<=sizeLine:=by size_fits):
  Meets (Builtin.«object.__getattribute__» ⟨[.ref a,.str name u],[]⟩) (λA R s=>s.heap.get? a=some {cls:=.type "zip",dict:=none,data:=.fields fs,slots:=h}/\raisesAttr (.ref a) name A R s):=
 Meets.of_wp λprog w A R s c=>by
  obtain⟨hp,g,d,f,os⟩:=s;obtain⟨i,c⟩:=c;have j:(⟨hp,g,d,f,os⟩:Shared).TypeIs (.ref a) "zip":=⟨_,i,rfl⟩;unfold Builtin.«object.__getattribute__»
  repeat(any_goals (first | assumption | wp_step))
  simp only[b,WA,Xx]
  repeat(any_goals (first | assumption | wp_step))
  exact wpAny_raiseAttrError c.1 c.2 (attrMsg_fits (by decide+kernel) hsz)
end PySem
namespace L2
open PyProof.Rows
def Ax:typeLookup (.type "zip") "keys"=pure none:=by rw[Z2,Zc];ac_nf
def La(j:s.heap.get? a=some {cls:=.type "zip",dict:=none,data:=.fields fs,slots:=#[]})(n:A.handled=none)(h:∀h' i,(∀b o,s.heap.get? b=some o->h'.get? b=some o)->Q none {s with heap:=h',toks:=i}):
  wpAny (model prog w) A (getAttr? (.ref a) "keys") Q E s:=by
 obtain⟨hp,g,d,i,os⟩:=s;have k:∀c,(⟨hp,g,d,c,os⟩:Shared).TypeIs (.ref a) "zip":=λ_=>⟨_,j,rfl⟩;have v:=sub_AttributeError;have u:=ZP.lookup;have t:=ZP.bind (.ref a);have r:=mm;unfold getAttr? getAttrBy? getAttrBy
 repeat(any_goals (first | assumption | exact k _ |((with_reducible show wpAny _ _ (call (Value.builtin "zip.__getattribute__") _ _) _ _ _);refine ZX ZP (k _) hY (F.args_zip_getattribute_2 _ _) (fZ a fs #[] "keys" _ Ax (by decide+kernel) (by decide)) ⟨j,n,λh' c e f=>?_⟩) | wp_step))
 obtain⟨q,p,l⟩:=f.there;have m:∀c,(⟨h',g,d,c,os⟩:Shared).TypeIs (.ref e) "AttributeError":=λ_=>⟨_,l,rfl⟩;show wpAny _ _ (getattributeRaised _ _ _ _ _ _ _) _ _ _;unfold getattributeRaised
 repeat(any_goals (first | assumption | exact m _ | wp_step))
 exact h _ _ f.keeps
def Inv.wH{a:List (Addr×Obj)}{σ:St}{H:Hp}{s:Shared}{h':Heap}{t':Nat}{fp:List Addr}(I:Inv X a σ H s)(k:∀b o,b∉fp->s.heap.get? b=some o->h'.get? b=some o)(g:∀b∈fp,fE X a H b):Inv X a σ H {s with heap:=h',toks:=t'}:=by
 have f:∀b u,H b=some u->b∉fp:=λb u e z=>by rw[(g b z).1] at e;cases e
 refine I.step (g':=s.gens) (d':=s.drawn) (ch:=fp) (λb i=>?_) (λb o _ _ d e _=>k b o d e) (λb o _ _ d e _=>⟨o.slots,k b o d e⟩) (λ_ _ _ _ n=>n)
  (λb o d e=>⟨o,k b o d e⟩) (λ_ _ e=>e) (λ_ _ _ e=>e) (λb x e=>⟨#[],by rw[e];simp⟩) (λm hm=>?_) (λb u e=>?_) I.bare
 ·obtain⟨_,t,_,p,l,j⟩:=g b i;exact⟨p,t,l,j⟩
 ·obtain⟨o,es,w,h,r⟩:=hm;exact⟨o,es,w,k _ o (λz=>(g _ z).2.1 rfl) h,r⟩
 ·refine(I.bL b u e).xO (λc v d q=>k c v ?_ q) (λ_ q=>q) λ_ _ q=>q;rcases d with z | z
  ·rw[z];exact f b u e
  ·exact f c _ z
def fN.off{K:FR}{H:Hp}{a d:Addr}{ys:List V}{o:HO}(h:fN K H a ys)(hd:H d=none):fN K (upd H d o) a ys:=by
 rcases h with h | h
 ·rcases h with h |⟨u,h⟩
  ·exact .inl (.inl (by rw[az (aJ h hd)];exact h))
  ·exact .inl (.inr ⟨u,by rw[az (aJ h hd)];exact h⟩)
 ·exact .inr h
end L2
namespace L2
open PyProof.Rows Sb
theorem mn.off{b:Bool}{K:FR}{H:Hp}{a d:Addr}{ys:List V}{o:HO}(h:mn b K H a ys)(hd:H d=none):mn b K (upd H d o) a ys:=by
 cases b with
 | true=>exact fN.off (show fN K H a ys from h) hd
 | false=>exact jc.off (show jc K H a ys from h) hd
structure Ql(xs ys:List V)(kvs:List (Key×V)):Prop where
 len:kvs.length=min xs.length ys.length
 at_:∀(i:Nat) kv,kvs[i]?=some kv->xs[i]?=some (kV kv.1)/\ys[i]?=some kv.2
def CI{A:Around}{f:List (Addr×Obj)}{σ:St}{H:Hp}{b c:Bool}{z T U p q l m d:Addr}{lo:Nat}{xs ys:List V}{kvs:List (Key×V)}{R:Result->Shared->Prop}(hA:A.handled=none)(D:Zp z T U p q l m)(hl:mn b X.K H l xs)(hm:mn c X.K H m ys)(hr:Ql xs ys kvs)(hk:kvs.length<=1000000)(hd:H d=none)
  (hlo:z < lo/\U < lo/\p < lo/\q < lo) (hdl:d < lo) (G:∀t∈[z,T,U,p,q],t≠d) (hf:∀t∈[z,U,p,q],fE X f H t)
  (h:∀s',Inv X f σ (upd H d (.dK (bC [] kvs))) s'->R (.ok (.ret .none)) s'):∀(n i:Nat)(s:Shared),kvs.length-i=n->i<=kvs.length->lo<=s.heap.objs.size->Mh b c lo z T U p q l m i s.heap->Inv X f σ (upd H d (.dK (bC [] (kvs.take i)))) s->
   codeAny (model X.prog X.w) A (.builtin "dict.update.loop" ⟨[.ref d,.ref z,rawInt i,.none],[]⟩) R s:=by
 have hsz:sizeLine≥1000001:=by decide
 have F:∀o,∀t∈[z,U,p,q],fE X f (upd H d o) t:=λo t ht=>by
  obtain⟨h0,h1⟩:=hf t ht;refine⟨?_,h1⟩;rw[az (G t (by simp at ht ⊢;rcases ht with rfl | rfl | rfl | rfl <;> simp))];exact h0
 intro n
 induction n with
 | zero=>
  intro i s hn hi r st I;have ei:i=kvs.length:=by lia
  refine Xs j9 ?_;rw[Xe eB _];obtain⟨Y,rv,pl⟩:=Sb.mn.of I (L2.mn.off hl hd (o:=.dK (bC [] (kvs.take i))));obtain⟨S,k,P⟩:=Sb.mn.of I (L2.mn.off hm hd (o:=.dK (bC [] (kvs.take i))));have e1:=rv.length;have e2:=k.length;have e3:=hr.len;show wpAny _ _ (pyNext (.ref z) >>=_) _ _ s;refine V8 (st.done hA D pl P ?_ λv up=>?_)
  ·rcases Nat.le_total xs.length ys.length with y | y
   ·left;simp;lia
   ·right;simp;lia
  show wpAny _ _ (Builtin.Dict.addKeywords d [] >>=λ_=>ret .none) _ _ _;have L:=I.wH (t':=s.toks) (h':=v) (fp:=[z,U,p,q]) (λb o g e=>up b o (λy=>g (by simp[y])) (λy=>g (by simp[y])) (λy=>g (by simp[y])) (λy=>g (by simp[y])) e) (F _);refine V8 (Wb (Wb ?_));rw[ei,Xf] at L;exact h _ L
 | succ n ih=>
  intro i s hn hi r st I;have E:i < kvs.length:=by lia
  refine Xs j9 ?_;rw[Xe eB _];obtain⟨Y,rv,pl⟩:=Sb.mn.of I (L2.mn.off hl hd (o:=.dK (bC [] (kvs.take i))));obtain⟨S,k,P⟩:=Sb.mn.of I (L2.mn.off hm hd (o:=.dK (bC [] (kvs.take i))));have u:kvs[i]?=some (kvs[i]'E):=Wl _;generalize kvs[i]'E=j at u;obtain⟨hxi,hyi⟩:=hr.at_ i j u;obtain⟨Q,hku,rk⟩:=rv.get hxi;obtain⟨M,hvu,O⟩:=k.get hyi;show wpAny _ _ (pyNext (.ref z) >>=_) _ _ s;refine V8 (st.next D hlo r pl P (x:=Q) (y:=M) (by simpa using hku) (by simpa using hvu) λv N pt sz up=>?_);have L:=I.wH (t':=s.toks) (h':=v) (fp:=[z,U,p,q]) (λb o g e=>up b o (λy=>g (by simp[y])) (λy=>g (by simp[y])) (λy=>g (by simp[y])) (λy=>g (by simp[y])) e) (F _);dsimp only;refine V8 (WU ?_);refine V8 (wpAny_tryCatch ?_);unfold Builtin.Dict.pairItems;refine V8 (YD (T:="tuple") ⟨_,pt,rfl⟩ ?_);rw[Wg (by decide)];refine V8 (Xo pt rfl (Wb ?_));show wpAny _ _ (holding [Q,M] (dictSet d Q M)) _ _ _;refine WU ?_;have ed:upd H d (.dK (bC [] (kvs.take i))) d=some (.dK (bC [] (kvs.take i))):=aH;obtain⟨zz,hdm,vs,C,dd⟩:=xp L.bL ed;have Z:vs.length<=sizeLine:=by rw[<-C.length];exact zz
  unfold dictSet;refine WU (V8 ((bg X.prog X.w).pyHash (lh rk) ?_));refine wpAny_dictSetHashed_pairs (hsz:=Z) (lh rk) dd λh2 J hs=>?_;have he:∃q,h2.get? d=some q:=let⟨q,_,_,hq,_⟩:=J;⟨q,hq⟩;have e2:putK (bC [] (kvs.take i)) j.1 j.2=bC [] (kvs.take (i+1)):=by
   rw[YH,u,<-Aq];rfl
  have hl2:(putK (bC [] (kvs.take i)) j.1 j.2).length<=sizeLine:=by
   rw[e2];have:=iL (kvs.take (i+1)) [];rw[WJ] at this;simp only[Xm] at this
   lia
  have I2:=jT (t':=s.toks+1) L (by rw[ed];exact True.intro) hs he (yY (H':=upd (upd H d (.dK (bC [] (kvs.take i)))) d (.dK (putK (bC [] (kvs.take i)) j.1 j.2))) hl2 hdm (C.put j.1 O) J);rw[JV,e2] at I2;have hc:((i:Int)+1)=((i+1:Nat):Int):=by push_cast;rfl
  rw[hc];refine Wb ⟨X2 eB _,ih (i+1) _ (by lia) (by lia) ?_ ?_ I2⟩
  ·show lo<=h2.objs.size;have:h2.objs.size=v.objs.size:=hs.1;rw[this,sz];exact Xr r
  ·exact N.but G hdl λa o na e=>hs.extBut _ _ na e
def BZ{a z:Expr}{Y:TA}{p pos p2 k:Pos}(hc:X.calm=true)(P:Gl X "dict")(O:X.mg "dict"=none)(hv:bootBuiltins "dict"=some (.type "dict"))(hg:Gl X "zip")(hm:X.mg "zip"=none)(ha:PA X [a,z] Y)
  (hs:starEach [a,z] X.env=[(false,eval a X.env),(false,eval z X.env)]) (G:starEach [z] X.env=[(false,eval z X.env)]):
  PE X (.Call (.Name "dict" p) [.Call (.Name "zip" p2) [a,z] [] k] [] pos) (λσ H Q=>Y σ H λvs x=>∃l m b c xs ys kvs,vs=[.ref l,.ref m]/\mn b X.K x l xs/\mn c X.K x m ys/\Ql xs ys kvs/\kvs.length<=1000000/\∀q,x q=none->Q (.ref q) (upd x q (.dK (bC [] kvs)))):=by
 intro i s σ H Q I h;refine Y2 (jN I P O hv ?_);refine XA ?_ rfl rfl;show wpAny _ _ (spliced ((false,eval (.Call (.Name "zip" p2) [a,z] [] k) X.env)::backTo pos (starEach [] X.env))) _ _ s;refine Calls.spliced_cons ?_;refine Y2 (jN I hg hm Sb.boot_zip (XA (cU (ha k i s σ H _ I h) λus s1 ⟨vs,x,M,r1,q1⟩=>?_) (by rw[hs,G]) (by rw[G];rfl)));obtain⟨l,m,b,c,xs,ys,kvs,e,hq,J,hr,hk,q⟩:=q1;subst e;obtain⟨u,v,rfl,ru,C⟩:=Vals.two r1;obtain rfl:u=Value.ref l:=ru;obtain rfl:v=Value.ref m:=C;obtain⟨its,rv,hO⟩:=hq.of M;obtain⟨its',C,L⟩:=J.of M;refine zt hO L λg a1 a2 a3 a4 a5 a6 a7=>?_;have U:L2.Inv X i σ x {s1 with heap:=g}:=M.kept (t':=s1.toks) a7;have R:∀d,s1.heap.objs.size<=d->fE X i x d:=λd hd=>M.wq hd (M.bL.fresh hd);have ll:l < s1.heap.objs.size:=by obtain⟨o,n,e,_⟩:=hO.data;exact Wu e
 have lm:m < s1.heap.objs.size:=by obtain⟨o,n,e,_⟩:=L.data;exact Wu e
 have D:Zp (s1.heap.objs.size+4) (s1.heap.objs.size+2) (s1.heap.objs.size+3) s1.heap.objs.size (s1.heap.objs.size+1) l m:=Mv _ _ _ ll lm;have hA:X.A.handled=none:=I.ok.hd hc;refine Calls.spliced_nil ?_;generalize hn:s1.heap.objs.size=N at*;refine callType_codes (Q₁:=λobj y=>obj=.ref g.objs.size/\y={s1 with heap:=g.push {cls:=.type "dict",data:=.dict #[]}}) F.kt_called_dict (F.kt_typeCall_dict_1 _) F.entry_dict_init (kt_code_dict_new _ ⟨rfl,rfl⟩) ?_;rintro obj y ⟨rfl,rfl⟩;have hd:x g.objs.size=none:=U.fresh;have r:(g.push {cls:=.type "dict",data:=.dict #[]}).DictOf (bg X.prog X.w) g.objs.size []:=Heap.DictOf.new g;have I3:Inv X i σ (upd x g.objs.size (.dK [])) {s1 with heap:=g.push {cls:=.type "dict",data:=.dict #[]}}:=U.laid (t':=s1.toks) (λ_ _ q=>Wa _ q) (Wj _) (oI g U.big);refine⟨r.typeIs,F.args_dict_init_2 _ _,?_⟩;unfold Builtin.«dict.__init__»;refine V8 ?_;unfold Builtin.Dict.selfAndRest;refine V8 (wpAny_notOrdered_dict r.typeIs ?_);show wpAny _ _ (pure (g.objs.size,[Value.ref (N+4)])) _ _ _;refine Wb ?_;show wpAny _ _ (Builtin.Dict.updateFrom "dict.__init__" g.objs.size (.ref (N+4)) [] .none) _ _ _;unfold Builtin.Dict.updateFrom;have b1:IsZip (g.push {cls:=.type "dict",data:=.dict #[]}) (N+4) (N+2) (N+3) .none:=Wa _ a1;refine V8 (YD (T:="zip") ⟨_,b1,rfl⟩ ?_);rw[Wg (by decide)];refine V8 (La b1 (by exact hA) λS tk keep=>?_);have I4:=I3.kept (t':=tk) keep;have j:∀a o,g.get? a=some o->S.get? a=some o:=λa o e=>keep a o (Wa _ e);simp only[Option.isNone_none,YW];refine V8 (XG (V8 (wpAny_pyIter_zip (f0:=.none) (j _ _ a1) ?_)));have f:g.objs.size < S.objs.size:=by obtain⟨o,_,_,e,_⟩:=r;exact Wu (keep _ _ e)
 refine Wb ⟨X2 eB _,?_⟩;refine CI (X:=X) (σ:=σ) (H:=x) (kvs:=kvs) (lo:=S.objs.size) (by exact hA) D hq J hr hk hd ⟨?_,?_,?_,?_⟩ f (λt E=>?_) (λt E=>?_) (λs' I'=>⟨rfl,⟨.ref _,_,I',rfl,q _ hd⟩⟩) kvs.length 0 _ (by lia) (WL _) (Wj _) ⟨.inl (j _ _ a1),j _ _ a2,⟨_,_,j _ _ a3⟩,a4.up λo e=>j _ o e,a5.up λo e=>j _ o e⟩ I4
 ·exact WN (Wu a1) (Yw f)
 ·exact WN (Wu a3) (Yw f)
 ·exact WN a4.lt (Yw f)
 ·exact WN a5.lt (Yw f)
 ·simp at E;rw[a6];rcases E with rfl | rfl | rfl | rfl | rfl <;> (refine WG ?_;lia)
 ·refine R t ?_;simp at E;rcases E with rfl | rfl | rfl | rfl <;> lia
end L2
namespace Sm
open L2 PyProof.Rows Sb
def wO:List D->List D->Option (List (Key×D))
 | x::r,y::s=>(oy x).bind λk=>(wO r s).map λa=>(k,y)::a
 | _,_=>some []
def CG(m:AM):EM:=λb h=>(m b h).bind λp=>match p.1 with
 | [d,e]=>(df d p.2).bind λf=>(df e p.2).bind λc=>(wO f.1 c.1).bind λa=>if a.length<=1000000 then some (.dv (fy [] a),p.2) else none
 | _=>none
theorem Di{K:FR}{ρ:Ad}{H:Hp}:∀{vs:List V} {xs:List D} {us:List V} {ys:List D} {ps:List (Key×D)},ay K ρ H vs xs->ay K ρ H us ys->wO xs ys=some ps->∃kvs,Ql vs us kvs/\bj K ρ H kvs ps
 | _,_,_,_,_,.nil,_,e=>by cases e;exact⟨[],⟨by simp,λi a z=>by simp at z⟩,.nil⟩
 | _,_,_,_,_,.cons _ _,.nil,e=>by cases e;exact⟨[],⟨by simp,λi a z=>by simp at z⟩,.nil⟩
 | v::vs,_,u::us,_,_,.cons d h,.cons c g,e=>by
  obtain⟨j,o,n⟩:=a9 e;obtain⟨q,m,l⟩:=dS n;subst l;obtain⟨kvs,b,f⟩:=Di h g m;have k:=il d o;subst k;refine⟨(j,u)::kvs,⟨by simp[b.len,Nat.succ_min_succ],λi a z=>?_⟩,.cons c f⟩;cases i with
  | zero=>cases z;exact⟨rfl,rfl⟩
  | succ i=>exact b.at_ i a (by simpa using z)
def GY{a b:Expr}{m:AM}{p pos i f:Pos}(Y:X.calm=true)(u:Gl X "dict")(t:X.mg "dict"=none)(O:bootBuiltins "dict"=some (.type "dict"))(U:Gl X "zip")(hm:X.mg "zip"=none)(Z:SA X [a,b] m)(hl:mr m 2)
  (P:starEach [a,b] X.env=[(false,eval a X.env),(false,eval b X.env)]:=by ac_nf) (s:starEach [b] X.env=[(false,eval b X.env)]:=by ac_nf):
  SE X (.Call (.Name "dict" p) [.Call (.Name "zip" i) [a,b] [] f] [] pos) (CG m):=(BZ Y u t O U hm Z P s).imp λσ H Q ⟨F,G,h,d0,h',R,S,e,k⟩=>by
 obtain⟨⟨C,h1⟩,A,x⟩:=a9 e;refine⟨F,G,h,C,h1,R,S,A,λvs E H1 T1 y o=>?_⟩
 match C,hl _ _ _ _ A,x,o with
 | [d,d'],_,x,o=>
  obtain⟨⟨xs,w⟩,e3,e4⟩:=a9 x;obtain⟨⟨ys,w'⟩,e5,e6⟩:=a9 e4;obtain⟨L,z,g⟩:=a9 e6;dsimp only at z g
  by_cases c:L.length<=1000000
  ·rw[Wg c] at g;cases g;obtain⟨v,v',rfl,rd,n⟩:=rep2 o;obtain⟨a,rfl,⟨us,q,l⟩,st⟩:=jg y rd e3;obtain⟨a',rfl,⟨j,J,N⟩,I⟩:=jg y n e5;obtain⟨r,M,i⟩:=Di l N z;exact⟨a,a',uG d,uG d',us,j,r,rfl,q.Dd,J.Dd,M,by rw[i.len];exact c,λq T=>k _ _ (dJ.step T1 (.dv y (bj.merge .nil i) T))⟩
  ·rw[Wh c] at g;cases g
end Sm
namespace Sb
open L2 PyProof.Rows
variable {P:Program} {w:World} {A:Around} {E:Value->Shared->Prop} {s:Shared} {b c:Bool}
end Sb
namespace Sb
open L2 PyProof.Rows
variable {P:Program} {w:World} {A:Around} {E:Value->Shared->Prop} {s:Shared} {b c:Bool}
end Sb
namespace L2
open PyProof.Rows Sb
end L2
namespace Sm
open L2 PyProof.Rows Sb
end Sm
namespace PySem
def ko:typeLookup (.type "tuple") "__rmul__"=pure (some (.builtin "tuple.__rmul__")):=by rw[Z2,Zc];ac_nf
def ql:fillsNumberSlot (.type "tuple") "mul"=pure false:=
 fillsNumberSlot_seq (id:="tuple.__mul__") (r:=some (.builtin "tuple.__rmul__")) AaI.lookup (by decide+kernel) ko (by decide+kernel)
def x6:seqRepeat? (.type "tuple")=pure (some (.builtin "tuple.__mul__")):=by
 unfold seqRepeat?;rw[seqSlot_of (T:="tuple") (name:="__mul__") (id:="tuple.__mul__") AaI.lookup (by decide+kernel),seqSlot_of (T:="tuple") (name:="__rmul__") (id:="tuple.__rmul__") ko (by decide+kernel)];rfl
def jP(a:Int)(t:Tok)(l:Addr)(o:Obj)(items:Array Value)(n:Nat)(b:o.cls=.type "tuple")(hd:o.data=.seq items n):
  Meets (Builtin.«int.__rmul__» ⟨[.int a t,.ref l],[]⟩) (λ_ R s=>s.heap.get? l=some o/\R (.ok (.ret Value.notImplemented)) s):=
 .of_wp λprog w A R s h=>by
  obtain⟨c,dd,i,f⟩:=o;dsimp only at b hd;subst b;subst hd;obtain⟨hp,g,d,e,os⟩:=s;obtain⟨hl,h⟩:=h;wp_walk;exact⟨_,rfl,h⟩
end PySem
namespace L2
open PyProof.Rows
def Ru(K:FR):R2:=λx y H Q=>∃l k a,x=.ref l/\y=.int k/\jc K H l a/\-(2^62)<=k/\k < 2^62/\a.length*k.toNat<=1000000/\
 ((a.isEmpty||k==1)=true->Q (.ref l) H)/\((a.isEmpty||k==1)=false->∀p,H p=none->Q (.ref p) (upd H p (.tup (List.replicate k.toNat a).flatten)))
def Cv(its:List Value)(m:Nat):List.foldl (λb a=>b++a) #[] (List.replicate m its.toArray)=(List.replicate m its).flatten.toArray:=by
 have:=foldl_rep its m [];rw[Aau] at this;exact this
def K5:pA X (binaryOp .Mult) (Ru X.K):=by
 intro g s N H x y v u Q I P O h;obtain⟨l,k,d,rfl,rfl,hH,h1,h2,Z,S,R⟩:=h;cases P;obtain⟨t,rfl⟩:=O;obtain⟨a,rv,pt,Y⟩:=I.tuple hH;have hl:=rv.length;obtain⟨o,z,L,n,J⟩:=id pt;have j:s.TypeIs (.ref l) "tuple":=⟨o,z,L⟩;refine wpAny_binaryOp_repeat_ref (T:="tuple") (U:="int") (by decide) j (λm=>typeIs_int m k t) ql F.fills_int_mul F.slot_int_rmul x6 F.slot_int_index.lookup
  (ZX F.slot_int_rmul (typeIs_int s k t) F.entry_int_rmul (F.args_int_rmul_2 _ _) (jP k t l o a.toArray n L J)
   ⟨z,rfl,j,W3 AaI j F.entry_tuple_mul ?_ (F.args_tuple_mul_2 _ _)⟩)
 show wpAny _ _ (asIndex (.int k t) >>=_) _ _ _;refine V8 (Wb ?_);rw[Wh (by simp;lia)];refine V8 (Aar z J ?_);have r:a.toArray.isEmpty=d.isEmpty:=by
  cases a with
  | nil=>cases d with | nil=>rfl | cons _ _=>simp at hl
  | cons _ _=>cases d with | nil=>simp at hl | cons _ _=>rfl
 rw[r]
 by_cases c:(d.isEmpty||k==1)=true
 ·rw[Wg c];refine V8 ?_;unfold Builtin.Tuple.tupleIsExact;refine V8 (YD j (Wb ?_));rw[Wg (by decide)];refine V8 (XG (Wb ⟨_,rfl,?_⟩));exact⟨.ref l,H,I,rfl,S c⟩
 ·rw[Wh c];have c':(d.isEmpty||k==1)=false:=by simpa using c
  have p:d.isEmpty=false:=by cases hx:d.isEmpty <;> simp_all
  have f:∀(w:List Value),Vals (List.replicate k.toNat d).flatten w->(List.replicate k.toNat d).flatten.length<=sizeLine->wpAny (model X.prog X.w) X.A.in1 (Builtin.Tuple.tupleExact w.toArray >>=λv=>ret v) (λf m=>∃v,f=Fin.done (Flow.ret v)/\EP X g N Q v m) X.xe s:=λw C i=>by
   unfold Builtin.Tuple.tupleExact;refine V8 (Xc (Wb ⟨_,rfl,?_⟩) (by simp[sizeOk];rw[<-C.length];exact i));exact⟨.ref _,_,I.laid (t':=s.toks) (o:=.tup (List.replicate k.toNat d).flatten) (λb o e=>Wa _ e) (Wj _) ⟨i,w,C,wD.new _ _⟩,rfl,R c' _ I.fresh⟩
  by_cases M:k<=0
  ·rw[Wg (by simp[M])];have G:k.toNat=0:=by lia
   refine f [] ?_ ?_
   ·rw[G];exact .nil
   ·rw[G];exact WL _
  ·rw[Wh (by rw[WD M,p];decide)];have hp:a.length*k.toNat<=1000000:=by rw[<-hl];exact Z
   have q:((k.toNat:Nat):Int)=k:=Z0 (by lia);have hpi:((a.toArray.size:Nat):Int)*k<=1000000:=by
    rw[<-q,WB];have E:((a.length*k.toNat:Nat):Int)<=((1000000:Nat):Int):=Int.ofNat_le.mpr hp;rw[Int.natCast_mul] at E;exact E
   rw[Wh (by lia)];rw[Wh (by unfold Builtin.Tuple.tupleTooMany;simp only[XD,Int.not_lt];rw[XX];show _<=(16777216:Int);lia)];rw[Cv];refine f _ (rv.rep k.toNat) ?_;rw[len_rep,Nat.mul_comm,XX]
   lia
end L2
namespace Sm
open L2 PyProof.Rows
noncomputable def AJ(d e:D)(h:MH):Option (D×MH):=match d,e with
 | .tup xs,.int n=>if -1000<=n/\n<=1000/\xs.length<=1000 then some (.tup (List.replicate n.toNat xs).flatten,h) else none
 | _,_=>none
def K3:ph X (binaryOp .Mult) AJ:=by
 intro i s p H x y v u Q I r q hh;obtain⟨A,h,d,e,z,E,S,rd,t,g,k⟩:=hh;cases rd <;> first |(exact cX g) | skip
 cases t <;> first |(exact cX g) | skip
 rename_i a m b o j n
 by_cases c:-1000<=n/\n<=1000/\b.length<=1000
 ·rw[show AJ (.tup b) (.int n) h=some (.tup (List.replicate n.toNat b).flatten,h) by show(if _ then _ else _)=_;rw[Wg c]] at g;cases g;have C:b.length*n.toNat<=1000*1000:=AaA c.2.2 (by lia);refine K5 i s p H _ _ v u Q I r q ⟨a,n,m,rfl,rfl,o.sq,by lia,by lia,by rw[j.length];lia,λf=>?_,λ_ l hl=>k _ _ (.tup S (j.rep _) hl)⟩;have:(List.replicate n.toNat b).flatten=b:=by
   rw[XQ] at f;rcases f with f | f
   ·have w:m=[]:=by cases m with | nil=>rfl | cons _ _=>cases f
    have hd:b=[]:=by have:=j.length;rw[w] at this;cases b with | nil=>rfl | cons _ _=>simp at this
    rw[hd];simp
   ·have:n=1:=by simpa using f
    subst this;simp
  rw[this] at k;exact k _ _ (dJ.here S (.tup o j))
 ·rw[show AJ (.tup b) (.int n) h=none by show(if _ then _ else _)=_;rw[Wh c]] at g;cases g
end Sm
namespace L2
open PyProof.Rows
def fc(xs:Array Nat):Prop:=∀i j (b:i < xs.size) (a:j < xs.size),i < j->xs[i] < xs[j]
theorem u5(xs:Array Nat)(j:Nat)(b:fc xs):∀(fuel lo hi:Nat),hi-lo<=fuel->lo<=hi->hi<=xs.size->(∀i (h:i < xs.size),i < lo->xs[i] < j)->(∀i (h:i < xs.size),hi<=i->j<=xs[i])->
  SetTable.below.go xs j fuel lo hi<=xs.size/\(∀i (h:i < xs.size),i < SetTable.below.go xs j fuel lo hi->xs[i] < j)/\(∀i (h:i < xs.size),SetTable.below.go xs j fuel lo hi<=i->j<=xs[i])
 | 0,lo,hi,hf,hl,c,f,e=>by
  have:lo=hi:=by lia
  subst this;unfold SetTable.below.go;exact⟨c,f,e⟩
 | fuel+1,lo,hi,hf,hl,c,f,e=>by
  unfold SetTable.below.go
  by_cases a:lo < hi
  ·rw[Wg a];dsimp only;have hm:(lo+hi) / 2 < xs.size:=by lia
   have k:xs.getD ((lo+hi) / 2) j=xs[(lo+hi) / 2]:=by simp[Array.getD,hm]
   rw[k]
   by_cases d:xs[(lo+hi) / 2] < j
   ·rw[Wg d];refine u5 xs j b fuel _ _ (by lia) (by lia) c (λi h g=>?_) e;rcases Yv i ((lo+hi) / 2) with q | q
    ·exact ZF (b i _ h hm q) d
    ·have:i=(lo+hi) / 2:=by lia
     subst this;exact d
   ·rw[Wh d];refine u5 xs j b fuel _ _ (by lia) (by lia) (by lia) f (λi h g=>?_);rcases Yv ((lo+hi) / 2) i with q | q
    ·have:=b _ i hm h q;lia
    ·have:i=(lo+hi) / 2:=by lia
     subst this;lia
  ·rw[Wh a];have:lo=hi:=by lia
   subst this;exact⟨c,f,e⟩
def jW(xs:Array Nat)(j:Nat)(a:fc xs):SetTable.below xs j<=xs.size/\(∀i (h:i < xs.size),i < SetTable.below xs j->xs[i] < j)/\(∀i (h:i < xs.size),SetTable.below xs j<=i->j<=xs[i]):=
 u5 xs j a _ _ _ (by lia) (by lia) (Wj _) (λi h z=>absurd z (Xh _)) (λi h z=>absurd (WN h z) (Xz _))
def i7(a:fc xs)(h:xs[i]?=some j):SetTable.below xs j=i:=by
 obtain⟨c,e⟩:=YI.mp h;have b:=jW xs j a;rcases Aaf (SetTable.below xs j) i with q | q | q
 ·have f:=b.2.2 (SetTable.below xs j) (by lia) (Wj _);have d:=a _ i (by lia) c q
  lia
 ·exact q
 ·have:=b.2.1 i c q
  lia
def wM{t:SetTable}{i j:Nat}(a:fc t.place)(h:t.place[i]?=some j):t.slot j=.live i:=by
 unfold SetTable.slot;rw[i7 a h];dsimp only;rw[Wg (by rw[h];simp)]
def Br{t:SetTable}{j:Nat}(hd:t.dummies=#[])(h:j∉t.place.toList):t.slot j=.empty:=by
 unfold SetTable.slot;dsimp only;rw[Wh (by
  intro z;have z:=eq_of_beq z;exact h (by rw[X0];exact Aa8 z)),hd]
 rfl
noncomputable def road(t:SetTable)(h:Int):Nat->SetTable.Probe
 | 0=>t.probeStart h
 | n+1=>t.advance (road t h n)
theorem wQ(e:t.mask=t'.mask)(h:Int):∀n,road t h n=road t' h n
 | 0=>by show t.probeStart h=t'.probeStart h;unfold SetTable.probeStart;rw[e]
 | n+1=>by
  show t.advance (road t h n)=t'.advance (road t' h n);rw[wQ e h n];unfold SetTable.advance;rw[e]
theorem tK(t:SetTable)(h:Int):∀n,(road t h n).dummy=none
 | 0=>rfl
 | n+1=>by
  have:=tK t h n;show(t.advance (road t h n)).dummy=none;unfold SetTable.advance
  split
  ·exact this
  ·exact this
theorem tN(hm:t.mask=7)(h:Int):∀n,(road t h n).more=0/\(road t h n).j=(road t h n).i/\(road t h n).i < 8/\(road t h n).perturb=SetTable.bits h / 32^n
 | 0=>by
  show(t.probeStart h).more=0/\_;unfold road SetTable.probeStart SetTable.runEnd;rw[hm];dsimp only;refine⟨by rw[Wh (by lia)];lia,rfl,AaB _ (by lia),by simp⟩
 | n+1=>by
  obtain⟨b,d,c,a⟩:=tN hm h n;show(t.advance (road t h n)).more=0/\(t.advance (road t h n)).j=(t.advance (road t h n)).i/\(t.advance (road t h n)).i < 8/\(t.advance (road t h n)).perturb=_;unfold SetTable.advance SetTable.leap SetTable.runEnd;rw[hm,b,Wh (by lia)];dsimp only;refine⟨by rw[Wh (by lia)];lia,rfl,AaB _ (by lia),?_⟩;rw[a,Nat.div_div_eq_div_mul,Nat.pow_succ]
def BH(hm:t.mask=7)(h:Int)(n:Nat):(road t h (n+1)).i=((road t h n).i*5+1+(road t h n).perturb / 32) % 8:=by
 obtain⟨a,d,c,b⟩:=tN hm h n;show(t.advance (road t h n)).i=_;unfold SetTable.advance SetTable.leap;rw[hm,a,Wh (by lia)]
def Mc(h:Int):SetTable.bits h < 32^13:=by
 unfold SetTable.bits;have:h % (2^64:Int) < 2^64:=Zi _ (by decide);have a:0<=h % (2^64:Int):=Za _ (by decide)
 lia
noncomputable def VZ(i:Nat):Nat:=(i*5+1) % 8
def Lm:Nat->Nat->Nat
 | 0,i=>i
 | n+1,i=>VZ (Lm n i)
theorem tL(hm:t.mask=7)(h:Int):∀k,(road t h (13+k)).j=Lm k (road t h 13).j
 | 0=>rfl
 | k+1=>by
  have a:=tL hm h k;rw[(tN hm h _).2.1] at a;rw[(tN hm h _).2.1,show 13+(k+1)=(13+k)+1 from rfl,BH hm h (13+k),(tN hm h _).2.2.2];have b:SetTable.bits h / 32^(13+k) / 32=0:=by
   have:SetTable.bits h / 32^(13+k)=0:=by
    refine Nat.div_eq_of_lt (WN (Mc h) ?_);exact Abb (by lia) (by lia)
   rw[this]
  rw[b,a];rfl
def Ln:∀i:_root_.Fin 8,∀j:_root_.Fin 8,∃k:_root_.Fin 8,Lm k.1 i.1=j.1:=by decide
def lcg_all'(i j:Nat)(hi:i < 8)(b:j < 8):∃k,k < 8/\Lm k i=j:=by
 obtain⟨k,a⟩:=Ln ⟨i,hi⟩ ⟨j,b⟩;exact⟨k.1,k.2,a⟩
def E7(hm:t.mask=7)(h:Int)(j:Nat)(d:j < 8):∃n,n < 21/\(road t h n).j=j:=by
 have a:(road t h 13).j < 8:=by rw[(tN hm h 13).2.1];exact(tN hm h 13).2.2.1
 have hl:=tL hm h;revert a hl;generalize (road t h 13).j=r;intro a hl;obtain⟨k,b,c⟩:=lcg_all' r j a d;exact⟨13+k,by lia,(hl k).trans c⟩
theorem uw [DecidableEq W]:∀(l ws:List W),l.Nodup->(∀x∈l,x∈ws)->l.length<=ws.length
 | [],ws,_,_=>WL _
 | x::l,ws,hn,c=>by
  have hn:=X3.mp hn;have b:=c x (.head _);have:=uw l (ws.erase x) hn.2 λy a=>by
   have:y≠x:=λe=>hn.1 (e ▸ a);exact(List.mem_erase_of_ne this).mpr (c y (.tail _ a))
  rw[List.length_erase_of_mem b] at this;have d:0 < ws.length:=List.length_pos_of_mem b;simp only[Wq]
  lia
def BI(hm:t.mask=7)(h:Int)(e:t.place.size < 8):∃n,n < 21/\(road t h n).j∉t.place.toList:=by
 have:∃j,j < 8/\j∉t.place.toList:=by
  apply XC;intro z;have a:List.range 8 ⊆ t.place.toList:=λj b=>by
   apply XC;intro q;exact z ⟨j,XE.mp b,q⟩
  have:=uw (List.range 8) t.place.toList List.nodup_range a;simp at this
  lia
 obtain⟨j,b,hn⟩:=this;obtain⟨n,d,c⟩:=E7 hm h j b;exact⟨n,d,by rw[c];exact hn⟩
theorem IL [DecidablePred p]:∀{n:Nat},p n->∃m,m<=n/\p m/\∀i,i < m->¬p i
 | 0,h=>⟨0,Wj _,h,λi a=>absurd a (Xh _)⟩
 | n+1,h=>by
  by_cases q:∃i,i<=n/\p i
  ·obtain⟨i,a,hp⟩:=q;have:∀k,k<=n->p k->∃m,m<=k/\p m/\∀i,i < m->¬p i:=by
    intro k
    induction k using Nat.strongRecOn with
    | _ k f=>
     intro j b
     by_cases e:∃i,i < k/\p i
     ·obtain⟨i,a,hp⟩:=e;obtain⟨m,g,d,c⟩:=f i a (by lia) hp;exact⟨m,by lia,d,c⟩
     ·exact⟨k,Wj _,b,λi a hp=>e ⟨i,a,hp⟩⟩
   obtain⟨m,g,d,c⟩:=this i a hp;exact⟨m,by lia,d,c⟩
  ·exact⟨n+1,Wj _,h,λi a hp=>q ⟨i,by lia,hp⟩⟩
theorem z8{t:SetTable}(l:fc t.place)(hd:t.dummies=#[])(a:Nat->Int)(h:Int){N:Nat}(u:(road t h N).j∉t.place.toList):∀(fuel m:Nat),m<=N->N-m < fuel->(∀i,i < N->(road t h i).j∈t.place.toList)->
  (SetTable.probe.go t a h fuel (road t h m)=some (.empty (road t h N).j none)/\(∀c i,m<=c->c < N->t.place[i]?=some (road t h c).j->a i≠h))\/
  ∃c i,m<=c/\c < N/\t.place[i]?=some (road t h c).j/\a i=h/\(∀g i,m<=g->g < c->t.place[i]?=some (road t h g).j->a i≠h)/\SetTable.probe.go t a h fuel (road t h m)=some (.candidate (road t h c).j i (road t h (c+1)))
 | 0,m,hm,hf,hl=>absurd hf (Xh _)
 | fuel+1,m,hm,hf,hl=>by
  unfold SetTable.probe.go
  by_cases e:m=N
  ·subst e;rw[Br hd u];refine .inl ⟨?_,λc i n f=>absurd f (by lia)⟩;rw[tK]
  ·have d:m < N:=by lia
   obtain⟨i,x,w⟩:=Abf (X0.mp (hl m d));have o:t.place[i]?=some (road t h m).j:=by rw[WV x,w]
   rw[wM l o];dsimp only;have k:∀b,t.place[b]?=some (road t h m).j->b=i:=λb E=>(i7 l E).symm.trans (i7 l o)
   by_cases hh:a i=h
   ·refine .inr ⟨m,i,Wj _,d,o,hh,λg b n f=>absurd f (by lia),?_⟩;rw[Wg (by rw[hh];simp)];rfl
   ·rw[Wh (by simpa using hh)];show _\/_;rcases z8 l hd a h u fuel (m+1) d (by lia) hl with⟨n,f⟩ |⟨c,v,n,f,C,A,z,y⟩
    ·refine .inl ⟨n,λc b s r hp=>?_⟩;rcases Nat.eq_or_lt_of_le s with q | q
     ·subst q;rw[k b hp];exact hh
     ·exact f c b q r hp
    ·refine .inr ⟨c,v,by lia,f,C,A,λg b s p hp=>?_,y⟩;rcases Nat.eq_or_lt_of_le s with q | q
     ·subst q;rw[k b hp];exact hh
     ·exact z g b q p hp
end L2
namespace L2
open PyProof.Rows PySem.SeqAt
def sD:∀(n:Nat) {d e:PyData},b4 n d=true->b4 n e=true->PyData.eqv d e=true->d=e:=by
 intro n
 induction n with
 | zero=>
  intro d e hd i h;cases d <;> cases e <;> simp_all [b4,PyData.eqv]
 | succ n j=>
  have hl:∀(b a:List PyData),b.all (b4 n)=true->a.all (b4 n)=true->PyData.eqvAll b a=true->b=a:=by
   intro b
   induction b with
   | nil=>intro a _ _ h;cases a with | nil=>rfl | cons _ _=>simp[PyData.eqvAll] at h
   | cons x b c=>
    intro a g f h;cases a with
    | nil=>simp[PyData.eqvAll] at h
    | cons y a=>
     rw[YB,WC] at g f;rw[PyData.eqvAll,WC] at h;rw[j g.1 f.1 h.1,c a g.2 f.2 h.2]
  intro d e hd i h;cases d <;> cases e <;> first
   |(simp_all [b4,PyData.eqv];done)
   |(rename_i b a;rw[PyData.eqv] at h;rw[hl b a hd i h])
def sE:∀(n:Nat) {d:PyData},b4 n d=true->d.canLay0=true/\d.depth<=n:=by
 intro n
 induction n with
 | zero=>
  intro d hd;cases d <;> simp_all [b4,PyData.canLay0,PyData.depth]
 | succ n e=>
  have hl:∀(a:List PyData),a.all (b4 n)=true->PyData.canLayAll0 a=true/\PyData.depthAll a<=n:=by
   intro a
   induction a with
   | nil=>intro _;exact⟨by simp[PyData.canLayAll0],by simp[PyData.depthAll]⟩
   | cons x a b=>
    intro c;rw[YB,WC] at c;obtain⟨a1,a2⟩:=e c.1;obtain⟨f,g⟩:=b c.2;refine⟨by rw[PyData.canLayAll0,a1,f];rfl,?_⟩;rw[PyData.depthAll]
    lia
  intro d hd;cases d <;> first
   |(simp_all [b4,PyData.canLay0,PyData.depth];done)
   |(rename_i a;obtain⟨a1,a2⟩:=hl a hd;refine⟨(by rw[PyData.canLay0];exact a1),?_⟩;rw[PyData.depth];lia)
def xk:∀(n:Nat) {A:Around} {s:Shared} {d:PyData} {v:Value} {as:List Addr} {Q:Int->Shared->Prop},A.units+n < cLine->b4 n d=true->Reads s.heap v d as->(∀k,Q (dQ w n d) {s with toks:=s.toks+k})->
  wpAny (model P w) A (pyHash v) Q E s:=by
 have j:∀(n:Nat) {A:Around} {s:Shared} {d:PyData} {v:Value} {as:List Addr} {Q:Int->Shared->Prop},(∀c,d≠.tuple c)->b4 n d=true->Reads s.heap v d as->(∀k,Q (dQ w n d) {s with toks:=s.toks+k})->wpAny (model P w) A (pyHash v) Q E s:=by
  intro n A s d v as Q f hp hr h;cases hr with
  | int i t=>exact(bg P w).pyHash (k:=.inl i) (k7 P w i t) (by have:=h 1;cases n <;> exact this)
  | str x t=>exact(bg P w).pyHash (k:=.inr x) (kZ P w x t) (by have:=h 1;cases n <;> exact this)
  | tuple=>exact absurd rfl (f _)
  | none=>cases n <;> simp[b4] at hp
  | bool=>cases n <;> simp[b4] at hp
  | list=>cases n <;> simp[b4] at hp
  | dict=>cases n <;> simp[b4] at hp
 intro n
 induction n with
 | zero=>
  intro A s d v as Q L hp hr h;exact j 0 (λc e=>by subst e;simp[b4] at hp) hp hr h
 | succ n J=>
  intro A s d v as Q L hp hr h
  by_cases f:∀c,d≠.tuple c
  ·exact j (n+1) f hp hr h
  ·have:∃c,d=.tuple c:=XC λz=>f λc e=>z ⟨c,e⟩;obtain⟨c,rfl⟩:=this;cases hr with
   | @tuple a o O m _ _ I M hd r=>
    have y:s.TypeIs (.ref a) "tuple":=⟨o,I,M⟩;have p:c.all (b4 n)=true:=hp;unfold pyHash
    first | unfold pyHashByItsType | skip
    first | refine V8 (wpAny_cRoomFor_or (.inr (by lia)) ?_) | skip
    refine V8 (X9 y XT.lookup ?_);show wpAny _ _ (if(some (Value.builtin "tuple.__hash__")==some Value.none)=true then _ else _) Q E s;rw[Wh (by rw[beq_builtin_none];exact WR)];refine V8 (X9 y XT.lookup ?_);show wpAny _ _ (callSpecialIfBoundUnlessNone? (.ref a) "__hash__" _ >>=_) Q E s;refine V8 (Z7 y XT (W3 XT y F.entry_tuple_hash ?_ (F.args_tuple_hash_1 _)));show wpAny _ _ (Builtin.Tuple.tupleItemsOf (.ref a) >>=_) _ _ s;refine V8 (Aar I hd ?_);refine V8 ?_;rw[<-Yc];refine Yy _
     (λg (b:Array Int) C=>∃done left l,c=done++left/\ReadsAll s.heap g left l/\b.toList=done.map (dQ w n)/\∃k,C={s with toks:=s.toks+k})
     _ ?_ ?_ _ _ ⟨[],c,_,rfl,r,rfl,0,rfl⟩
    ·rintro x g b C ⟨done,left,l,e,hl,u,k,rfl⟩;cases hl with
     | @cons _ _ d1 ds bs cs N q=>
      have G:b4 n d1=true:=by
       rw[XH] at p;exact p d1 (by rw[e];simp)
      refine V8 (J (A:=A.in1) (s:={s with toks:=s.toks+k}) (by rw[YU];lia) G N λH=>?_)
      first
       | exact Wb ⟨done++[d1],ds,_,by rw[e];simp,q,by simp[u],k+H,by simp[YA]⟩
       | exact V8 (Wb (Wb ⟨done++[d1],ds,_,by rw[e];simp,q,by simp[u],k+H,by simp[YA]⟩))
    ·rintro b C ⟨done,left,l,e,hl,u,k,rfl⟩;cases hl;rw[Xb] at e;subst e;show wpAny _ _ (retInt (Builtin.Tuple.tupleHashOf b.toList)) _ _ _;rw[u];refine wpAny_ret_mkInt ?_;show wpAny _ _ (if(decide (-(2:Int)^63<=Builtin.Tuple.tupleHashOf (c.map (dQ w n)))&&decide (Builtin.Tuple.tupleHashOf (c.map (dQ w n)) < 2^63))=true then _ else _) Q E _;have h:=h (k+1);unfold dQ reduceHash at h
     by_cases hr:(decide (-(2:Int)^63<=Builtin.Tuple.tupleHashOf (c.map (dQ w n)))&&decide (Builtin.Tuple.tupleHashOf (c.map (dQ w n)) < 2^63))=true
     ·rw[Wg hr];rw[Wg hr] at h;exact Wb (by simpa [YA] using h)
     ·rw[Wh hr];rw[Wh hr] at h;exact V8 (XG (Wb (by simpa [YA] using h)))
def AL(n:Nat)(i:A.units+n < cLine)(c:b4 n d=true)(b:b4 n e=true)(rd:Reads s.heap u d as)(a:Reads s.heap v e bs)(h:Q (PyData.eqv d e) s):
  wpAny (model P w) A (eqBool u v) Q E s:=by
 have g:=sE n c;have f:=sE n b;refine eqBoolOverData P w A E s u v d e as bs Q rd a g.1 f.1 ?_ h;have:min d.depth e.depth<=d.depth:=Y8 _ _
 lia
def kP:∀(n:Nat) {A:Around} {s:Shared} {d:PyData} {v:Value} {as:List Addr} {Q:Bool->Shared->Prop},b4 n d=true->Reads s.heap v d as->Q true s->∀m,n<=m->wpAny (model P w) A (eqIsQuiet m v) Q E s:=by
 intro n
 induction n with
 | zero=>
  intro A s d v as Q hp hr h m hm;have:carriedByValue v=true:=by cases hr <;> first | rfl | simp[b4] at hp
  rw[Aaz _ this];exact Wb h
 | succ n y=>
  intro A s d v as Q hp hr h m hm;cases hr with
  | @tuple a o u k xs _ p z hd e=>
   obtain⟨m,rfl⟩:∃x,m=x+1:=⟨m-1,by lia⟩;have q:s.TypeIs (.ref a) "tuple":=⟨o,p,z⟩;have j:xs.all (b4 n)=true:=hp;unfold eqIsQuiet;refine V8 (X9 q F.slot_tuple_eq.lookup ?_);show wpAny _ _ (isInstance (.ref a) (.type "tuple") >>=_) _ _ s;refine V8 (X1 q isSubtype_tuple_tuple ?_);simp only[XF,WA,Xx];refine V8 (Xo p hd ?_);refine V8 ?_;show wpAny _ _ (forIn u _ _) _ _ s;rw[<-Yc];refine Yy _ (λb r g=>r.1=none/\g=s/\∃l f,ReadsAll s.heap b l f/\l.all (b4 n)=true) _ ?_ ?_ _ _ ⟨rfl,rfl,xs,_,e,j⟩
   ·rintro v b r g ⟨hr,rfl,l,f,hl,c⟩;cases hl with
    | cons G C=>
     rw[YB,WC] at c;refine V8 (y c.1 G ?_ m (by lia));simp only[XF,WA,Xx];exact Wb ⟨rfl,rfl,_,_,C,c.2⟩
   ·rintro⟨I,H⟩ g ⟨hr,rfl,_⟩;simp only at hr;subst hr;exact Wb h
  | int i t=>rw[Aaz _ rfl];exact Wb h
  | str i t=>rw[Aaz _ rfl];exact Wb h
  | none=>simp[b4] at hp
  | bool=>simp[b4] at hp
  | list=>simp[b4] at hp
  | dict=>simp[b4] at hp
def iM(n:Nat)(h:carriedByValue v=true):ofAClassStatement n v=pure false:=by
 cases v with
 | ref a=>simp[carriedByValue] at h
 | _=>first | rfl | simp[ofAClassStatement] |(unfold ofAClassStatement;rfl)
def qZ:∀(n:Nat) {A:Around} {s:Shared} {d:PyData} {v:Value} {as:List Addr} {Q:Bool->Shared->Prop},b4 n d=true->Reads s.heap v d as->Q false s->∀m,n<=m->wpAny (model P w) A (ofAClassStatement m v) Q E s:=by
 intro n
 induction n with
 | zero=>
  intro A s d v as Q hp hr h m hm;have:carriedByValue v=true:=by cases hr <;> first | rfl | simp[b4] at hp
  rw[iM _ this];exact Wb h
 | succ n x=>
  intro A s d v as Q hp hr h m hm;cases hr with
  | @tuple a o q k xs _ p y hd e=>
   obtain⟨m,rfl⟩:∃u,m=u+1:=⟨m-1,by lia⟩;have z:s.TypeIs (.ref a) "tuple":=⟨o,p,y⟩;have j:xs.all (b4 n)=true:=hp;unfold ofAClassStatement;refine V8 (YD z ?_);dsimp only;refine V8 ?_;refine Wb ?_;simp only[XF,WA,Xx];refine V8 (Xo p hd ?_);dsimp only;refine V8 ?_;show wpAny _ _ (forIn q _ _) _ _ s;rw[<-Yc];refine Yy _ (λb r g=>r.1=none/\g=s/\∃l f,ReadsAll s.heap b l f/\l.all (b4 n)=true) _ ?_ ?_ _ _ ⟨rfl,rfl,xs,_,e,j⟩
   ·rintro v b r g ⟨hr,rfl,l,f,hl,c⟩;cases hl with
    | cons F C=>
     rw[YB,WC] at c;refine V8 (x c.1 F ?_ m (by lia));simp only[XF,WA,Xx];exact Wb ⟨rfl,rfl,_,_,C,c.2⟩
   ·rintro⟨H,G⟩ g ⟨hr,rfl,_⟩;simp only at hr;subst hr;exact Wb h
  | int i t=>rw[iM _ rfl];exact Wb h
  | str i t=>rw[iM _ rfl];exact Wb h
  | none=>simp[b4] at hp
  | bool=>simp[b4] at hp
  | list=>simp[b4] at hp
  | dict=>simp[b4] at hp
def FQ:∀(n:Nat) {A:Around} {s:Shared} {d:PyData} {v:Value} {as:List Addr} {Q:Bool->Shared->Prop},b4 n d=true->Reads s.heap v d as->(∀b,Q b s)->∀m,wpAny (model P w) A (hashByValue m v) Q E s:=by
 intro n
 induction n with
 | zero=>
  intro A s d v as Q hp hr h m;cases hr with
  | int i t=>rw[Zb m (x:=.int i t) rfl];exact Wb (h _)
  | str i t=>rw[Zb m (x:=.str i t) rfl];exact Wb (h _)
  | none=>simp[b4] at hp
  | bool=>simp[b4] at hp
  | list=>simp[b4] at hp
  | dict=>simp[b4] at hp
  | tuple=>simp[b4] at hp
 | succ n y=>
  intro A s d v as Q hp hr h m;cases hr with
  | @tuple a o u k xs _ q z hd f=>
   have C:s.TypeIs (.ref a) "tuple":=⟨o,q,z⟩;have l:xs.all (b4 n)=true:=hp;cases m with
   | zero=>unfold hashByValue;exact Wb (h _)
   | succ m=>
    unfold hashByValue;refine V8 (X9 C XT.lookup ?_);dsimp only;refine V8 (Xo q hd ?_);refine V8 ?_;show wpAny _ _ (forIn u _ _) _ _ s;rw[<-Yc];refine Yy _ (λc r j=>r.1=none/\j=s/\∃p g,ReadsAll s.heap c p g/\p.all (b4 n)=true) _ ?_ ?_ _ _ ⟨rfl,rfl,xs,_,f,l⟩
    ·rintro v c r j ⟨hr,rfl,p,g,hl,e⟩;cases hl with
     | cons G F=>
      rw[YB,WC] at e;refine V8 (y e.1 G (λb=>?_) m);cases b with
      | true=>
       simp only[XF,WA,Xx];exact Wb ⟨rfl,rfl,_,_,F,e.2⟩
      | false=>
       simp only[Bool.not_false,YW];exact Wb (Wb (h _))
    ·rintro⟨I,H⟩ j ⟨hr,rfl,_⟩;simp only at hr;subst hr;exact Wb (h _)
  | int i t=>rw[Zb m (x:=.int i t) rfl];exact Wb (h _)
  | str i t=>rw[Zb m (x:=.str i t) rfl];exact Wb (h _)
  | none=>simp[b4] at hp
  | bool=>simp[b4] at hp
  | list=>simp[b4] at hp
  | dict=>simp[b4] at hp
structure oW(es:Array (Int×Value))(t:SetTable):Prop where
 mask:t.mask=7
 Si:t.dummies=#[]
 NT:fc t.place
 sz:t.place.size=es.size
 le:es.size<=4
 reach:∀(i j:Nat)(e:Int×Value),t.place[i]?=some j->es[i]?=some e->∃n,(road t e.1 n).j=j/\∀m,m < n->(road t e.1 m).j∈t.place.toList
def Ng(w:World)(h:Heap)(n:Nat)(e:Int×Value)(d:PyData):Prop:=b4 n d=true/\(∃as,Reads h e.2 d as)/\e.1=dQ w n d/\∃a,e.2=.ref a
def vg(w:World)(h:Heap)(n:Nat)(es:Array (Int×Value))(ds:List PyData):Prop:=ds.length=es.size/\∀(i:Nat)(e:Int×Value)(d:PyData),es[i]?=some e->ds[i]?=some d->Ng w h n e d
def vg.at{w:World}{h:Heap}{n:Nat}{es:Array (Int×Value)}{ds:List PyData}(E:vg w h n es ds){i:Nat}{e:Int×Value}(a:es[i]?=some e):∃d,ds[i]?=some d/\Ng w h n e d:=by
 have b:i < es.size:=(YI.mp a).1;have hd:ds[i]?=some (ds[i]'(by rw[E.1];exact b)):=Wl _;exact⟨_,hd,E.2 i e _ a hd⟩
theorem oW.fits(T:oW es t):t.fits es.size=true:=by
 unfold SetTable.fits SetTable.fill;rw[T.sz,T.Si,T.mask];have:=T.le;simp
 lia
def oW.FW(T:oW es t)(h:Int):∃N,N < 21/\(road t h N).j∉t.place.toList/\∀i,i < N->(road t h i).j∈t.place.toList:=by
 obtain⟨n,f,d⟩:=BI T.mask h (by rw[T.sz];have:=T.le;lia);obtain⟨m,e,b,a⟩:=IL (p:=λi=>(road t h i).j∉t.place.toList) d;exact⟨m,by lia,b,λi c=>XC (a i c)⟩
def GR(hn:n<=8)(g:b4 n k=true)(f:Reads s.heap x k as):∀(ys:List Value),(∀y∈ys,∃d as,b4 n d=true/\Reads s.heap y d as)->∀{Q:Bool->Shared->Prop},Q false s->wpAny (model P w) A (searchCouldBeSeen x ys) Q E s:=by
 intro ys e Q h;unfold searchCouldBeSeen;refine V8 ?_;refine Yy _ (λa r c=>r.1=none/\c=s/\∀y∈a,∃d as,b4 n d=true/\Reads s.heap y d as) _ ?_ ?_ _ _ ⟨rfl,rfl,e⟩
 ·rintro y a r c ⟨hr,rfl,hl⟩;obtain⟨d,bs,i,rd⟩:=hl y (.head _);have b:=λz j=>hl z (.tail _ j);dsimp only
  split
  all_goals
   split
   ·exact Wb ⟨rfl,rfl,b⟩
   ·refine V8 (kP n g f ?_ 8 hn);simp only[XF,WA,Xx];refine V8 (kP n i rd ?_ 8 hn);simp only[XF,WA,Xx];refine V8 (qZ n g f ?_ 8 hn);simp only[WA,Xx];refine V8 (qZ n i rd ?_ 8 hn);simp only[WA,Xx];exact Wb ⟨rfl,rfl,b⟩
 ·rintro⟨m,l⟩ c ⟨hr,rfl,_⟩;simp only at hr;subst hr;exact Wb h
def Bu{a b:Addr}{ob:Obj}{es:Array (Int×Value)}{ep:Nat}{t:SetTable}{n:Nat}{ds:List PyData}{u:PyData}{as:List Addr}{h:Int}{N:Nat}{Q:SetFound->Shared->Prop}
  (M:s.heap.get? a=some ob) (hdt:ob.data=.set es ep t) (T:oW es t) (L:vg w s.heap n es ds) (hn:n<=8) (hu:A.units+n < cLine) (px:b4 n u=true) (rx:Reads s.heap (.ref b) u as) (hh:h=dQ w n u)
  (hN:(road t h N).j∉t.place.toList) (hl:∀i,i < N->(road t h i).j∈t.place.toList) (hN21:N < 21)
  (hit:u∈ds->Q (.there none) s) (I:u∉ds->Q (.free (road t h N).j false) s):
  ∀(k g m:Nat)(l:Option SetTable.Probe),N-m=k->m<=N->N-m < g->l.getD (t.probeStart h)=road t h m->(∀(c i:Nat)(d:PyData),c < m->t.place[i]?=some (road t h c).j->ds[i]?=some d->d≠u)->
   wpAny (model P w) A (setSearchFrom a (.ref b) h true g l) Q E s:=by
 intro k
 induction k using Nat.strongRecOn with
 | _ k ih=>
  intro g m l hk hm hf hst X;obtain⟨g,rfl⟩:∃f,g=f+1:=⟨g-1,by lia⟩;unfold setSearchFrom;refine V8 (XS M hdt T.fits ?_);dsimp only;have hgw:t.gaveWay=false:=by unfold SetTable.gaveWay;rw[T.mask];rfl
  rw[hgw];simp only[WA,Xx];rw[hst];generalize F:(λ(i:Nat)=>((es[i]?.map λ(e:Int×Value)=>e.1).getD 0:Int))=hashAt;have G:N-m < 10*SetTable.turns t.mask:=by unfold SetTable.turns;rw[T.mask];lia
  have hpr:=z8 T.NT T.Si hashAt h hN (10*SetTable.turns t.mask) m hm G hl;have at_:∀i j,t.place[i]?=some j->∃e,es[i]?=some e:=λi j R=>by
   have:i < es.size:=by rw[<-T.sz];exact(YI.mp R).1
   exact⟨es[i],WV this⟩
  have Z:∀i e,es[i]?=some e->hashAt i=e.1:=λi e r=>by rw[<-F];simp[r]
  rcases hpr with⟨p1,p2⟩ |⟨c,i,c1,c2,c3,c4,c5,c6⟩
  ·have hp:t.probe hashAt h (road t h m)=some (.empty (road t h N).j none):=p1;subst F
   erw [hp]
   dsimp only;refine Wb (I λO=>?_);obtain⟨i,Y⟩:=Xg.mp O;have U:i < es.size:=by rw[<-L.1];exact(V9.mp Y).1
   have r:=WV (xs:=es) U;obtain⟨hp1,hr1,hh1,_⟩:=L.2 i _ u r Y;have hpl:i < t.place.size:=by rw[T.sz];exact U
   have R:=WV (xs:=t.place) hpl;obtain⟨H,r1,r2⟩:=T.reach i _ _ R r;rw[hh1,<-hh] at r1 r2;have hn0:H < N:=by
    rcases Aaf H N with q | q | q
    ·exact q
    ·subst q;exact absurd (by rw[r1];simp) hN
    ·exact absurd (r2 N q) hN
   rcases Yv H m with q | q
   ·exact X H i u q (by rw[r1];exact R) Y rfl
   ·exact p2 H i q hn0 (by rw[r1];exact R) (by rw[Z i _ r,hh1,hh])
  ·have hp:t.probe hashAt h (road t h m)=some (.candidate (road t h c).j i (road t h (c+1))):=c6;subst F
   erw [hp]
   dsimp only;obtain⟨⟨h',y⟩,r⟩:=at_ i _ c3
   obtain⟨dy,hdy,py,⟨bs,ry⟩,hhy,⟨ya,J⟩⟩:=L.at r;dsimp only at ry hhy J;subst J;have seen:∀{Q':Bool->Shared->Prop},Q' false s->wpAny (model P w) A (searchCouldBeSeen (.ref b) ((es.filter (·.1==h)).toList.map (·.2))) Q' E s:=λ{Q'} q=>by
    refine GR hn px rx _ (λy hy=>?_) q;obtain⟨e,r,rfl⟩:=WY.mp hy;have v:e∈es.toList:=by
     have:=X0.mp r;exact X0.mpr (Array.mem_filter.mp this).1
    obtain⟨i,Y,hv⟩:=Abf (X0.mp v);obtain⟨d,_,pd,⟨bs,rd⟩,_,_⟩:=L.at (i:=i) (e:=e) (by rw[WV Y,hv]);exact⟨d,bs,pd,rd⟩
   have go:wpAny (model P w) A (do
     let some (_,y):=es[i]? | unsupported "internal:set-entry"
     let equal<-holding [y] (eqBool y (.ref b));let(es',_,t')<-setState a
     if true&&equal then return .there none
     let some same:=t'.sameMemory t.moves t.mask | unsupported "set.changed-during-lookup:is-the-new-block-at-the-old-address"
     let x<-match (if same then t'.slot (road t h c).j else .empty) with
      | .live p=>match es'[p]? with
       | some (_,y')=>do pure (if<-isSame y' y then some p else none)
       | none=>pure none
      | _=>pure none
     match x with
     | none=>rule "set.search.anew";setSearchFrom a (.ref b) h true g none
     | some p=>if equal then return .there (some p) else setSearchFrom a (.ref b) h true g (some (road t h (c+1)))) Q E s:=by
    rw[r];dsimp only;refine V8 (WU (AL n hu py px ry rx ?_));refine V8 (XS M hdt T.fits ?_);dsimp only;cases hq:PyData.eqv dy u with
    | true=>
     rw[Zr,Wg rfl];refine Wb (hit ?_);rw[<-sD n py px hq];exact Wk hdy
    | false=>
     rw[Zr,Wh WR];have hsm:t.sameMemory t.moves t.mask=some true:=by unfold SetTable.sameMemory;rw[Wg (by simp)]
     rw[hsm];dsimp only;rw[Wg rfl,wM T.NT c3];dsimp only;rw[r];dsimp only;refine V8 (wpAny_isSame_ref_self (V8 (Wb ?_)));rw[Wg rfl];dsimp only;rw[Wh WR];refine ih (N-(c+1)) (by lia) g (c+1) _ rfl (by lia) (by lia) rfl λc' p d' hc' C o=>?_;have S:p < es.size:=by rw[<-L.1];exact(V9.mp o).1
     have v:=WV (xs:=es) S;obtain⟨pd',_,hh',_⟩:=L.2 p _ d' v o;rcases Yv c' m with q | q
     ·exact X c' p d' q C o
     ·rcases Yv c' c with q2 | q2
      ·intro z;subst z;exact c5 c' p q q2 C (by rw[Z p _ v,hh',hh])
      ·have:c'=c:=by lia
       subst this;have:p=i:=(i7 T.NT C).symm.trans (i7 T.NT c3);subst this;intro z;rw[hdy] at o;injection o with o
       rw[o,z,eqv_refl u (sE n px).1] at hq;cases hq
   cases hled:t.led with
   | true=>
    simp only[XF,WA,Xx];exact go
   | false=>
    simp only[Bool.not_false,YW];refine V8 (seen ?_);simp only[WA,Xx];exact go
def uI(xs:Array α)(p:Nat)(x:α)(hp:p<=xs.size)(i:Nat):(SetTable.insertAt xs p x)[i]?=if i < p then xs[i]? else if i=p then some x else xs[i-1]?:=by
 rw[<-XW,SetTable.toList_insertAt]
 by_cases a:i < p
 ·rw[Wg a,Wx (by simp;lia),List.getElem?_take,Wg a,XW]
 ·rw[Wh a,Wy (by simp;lia)];have hl:(xs.toList.take p).length=p:=by simp;lia
  rw[hl]
  by_cases b:i=p
  ·subst b;rw[Wg rfl,X6];rfl
  ·rw[Wh b];obtain⟨k,c⟩:∃k,i-p=k+1:=⟨i-p-1,by lia⟩;rw[c,Xq,List.getElem?_drop,XW];congr 1
   lia
def fc.ins(s:fc xs)(G:j∉xs.toList):fc (SetTable.insertAt xs (SetTable.below xs j) j):=by
 obtain⟨C,w,A⟩:=jW xs j s;have g:=uI xs (SetTable.below xs j) j C;generalize SetTable.below xs j=p at C w A g;intro i k H F t;have f:=g i;have c:=g k;rw[WV H] at f;rw[WV F] at c;have m:∀i (h:i < xs.size),p<=i->j < xs[i]:=λi h q=>by
  rcases Yv j xs[i] with z | z
  ·exact z
  ·have L:=A i h q;have E:xs[i]=j:=by lia
   have x:xs[i]∈xs.toList:=by simp
   rw[E] at x;exact absurd x G
 have a:∀{i v:Nat},some v=xs[i]?->∃h:i < xs.size,v=xs[i]:=λ{i v} e=>by
  obtain⟨J,I⟩:=YI.mp e.symm;exact⟨J,I.symm⟩
 by_cases r:i < p
 ·rw[Wg r] at f;obtain⟨d,u⟩:=a f;rw[u]
  by_cases o:k < p
  ·rw[Wg o] at c;obtain⟨b,l⟩:=a c;rw[l];exact s i k d b t
  ·rw[Wh o] at c
   by_cases n:k=p
   ·rw[Wg n] at c;injection c with c
    rw[c];exact w i d r
   ·rw[Wh n] at c;obtain⟨b,l⟩:=a c;rw[l];exact ZF (w i d r) (m _ b (by lia))
 ·rw[Wh r] at f;have o:¬k < p:=by lia
  have n:¬k=p:=by lia
  rw[Wh o,Wh n] at c;obtain⟨b,l⟩:=a c;rw[l]
  by_cases y:i=p
  ·rw[Wg y] at f;injection f with f
   rw[f];exact m _ b (by lia)
  ·rw[Wh y] at f;obtain⟨d,u⟩:=a f;rw[u];exact s _ _ d b (by lia)
def Lx(hp:p<=xs.size):k∈(SetTable.insertAt xs p j).toList↔k=j\/k∈xs.toList:=by
 rw[(ZY xs p j).mem_iff];simp[or_comm]
def oW.put(T:oW es t)(u:es.size<=3)(v:(road t h N).j∉t.place.toList)(hl:∀i,i < N->(road t h i).j∈t.place.toList)(s:t'.mask=t.mask/\t'.dummies=t.dummies/\t'.place=SetTable.insertAt t.place (SetTable.below t.place (road t h N).j) (road t h N).j):
  oW (SetTable.insertAt es (SetTable.below t.place (road t h N).j) (h,x)) t':=by
 obtain⟨o,r,d⟩:=s;have l:=(jW t.place (road t h N).j T.NT).1;have k:SetTable.below t.place (road t h N).j<=es.size:=by rw[<-T.sz];exact l
 have g:(SetTable.insertAt t.place (SetTable.below t.place (road t h N).j) (road t h N).j).size=t.place.size+1:=by
  have:=(ZY t.place (SetTable.below t.place (road t h N).j) (road t h N).j).length_eq
  simpa using this
 have c:(SetTable.insertAt es (SetTable.below t.place (road t h N).j) (h,x)).size=es.size+1:=by
  have:=(ZY es (SetTable.below t.place (road t h N).j) (h,x)).length_eq
  simpa using this
 have hr:∀f n,road t' f n=road t f n:=λf n=>wQ o f n;refine⟨o.trans T.mask,r.trans T.Si,by rw[d];exact T.NT.ins v,by rw[d,g,c,T.sz],by rw[c];lia,λi j e a b=>?_⟩;rw[d,uI _ _ _ l] at a;rw[uI _ _ _ k] at b;simp only[hr,d,Lx l]
 by_cases q:i < SetTable.below t.place (road t h N).j
 ·rw[Wg q] at a b;obtain⟨n,n1,n2⟩:=T.reach i j e a b;exact⟨n,n1,λm hm=>.inr (n2 m hm)⟩
 ·rw[Wh q] at a b
  by_cases p:i=SetTable.below t.place (road t h N).j
  ·rw[Wg p] at a b;injection a with a
   injection b with b
   subst a;subst b;exact⟨N,rfl,λm hm=>.inr (hl m hm)⟩
  ·rw[Wh p] at a b;obtain⟨n,n1,n2⟩:=T.reach _ j e a b;exact⟨n,n1,λm hm=>.inr (n2 m hm)⟩
def t6(k:∀b o vs m,h.get? b=some o->o.data=.seq vs m->h'.get? b=some o):∀(n:Nat) {d:PyData} {v:Value} {as:List Addr},b4 n d=true->Reads h v d as->Reads h' v d as:=by
 intro n
 induction n with
 | zero=>
  intro d v as hp hr;cases hr with
  | int i t=>exact .int i t
  | str x t=>exact .str x t
  | none=>simp[b4] at hp
  | bool=>simp[b4] at hp
  | list=>simp[b4] at hp
  | dict=>simp[b4] at hp
  | tuple=>simp[b4] at hp
 | succ n j=>
  have hl:∀(a:List PyData) {vs:List Value} {as:List Addr},a.all (b4 n)=true->ReadsAll h vs a as->ReadsAll h' vs a as:=by
   intro a
   induction a with
   | nil=>intro vs as _ hr;cases hr;exact .nil
   | cons d a c=>
    intro vs as hp hr;rw[YB,WC] at hp;cases hr with
    | cons f e=>exact .cons (j hp.1 f) (c hp.2 e)
  intro d v as hp hr;cases hr with
  | int i t=>exact .int i t
  | str x t=>exact .str x t
  | none=>simp[b4] at hp
  | bool=>simp[b4] at hp
  | list=>simp[b4] at hp
  | dict=>simp[b4] at hp
  | tuple f e g l=>exact .tuple (k _ _ _ _ f g) e g (hl _ hp l)
def take_snoc{a:Type}{l:List a}{i:Nat}{x:a}(h:l[i]?=some x):l.take (i+1)=l.take i++[x]:=by rw[YZ,h];rfl
end L2
namespace Sm
open L2 PyProof.Rows
end Sm
namespace Hd
open PySem.W PyProof.Rows L2 Sm
end Hd
namespace L2
open PyProof.Rows
end L2
namespace Sm
open L2 PyProof.Rows
end Sm
namespace L2
open PyProof.Rows
theorem xo(hh:A.handled=none)(h:t≠it):∀(n i:Nat)(s:Shared)(Q:List Value->Shared->Prop),s.heap.IsListIter it t i->s.heap.IsList t items->i+n<=items.size->
  (∀h' m,h'.IsListIter it t (i+n)->h'.IsList t items->Heap.ExtBut it s.heap h'->Q ((items.toList.drop i).take n) {s with heap:=h',toks:=m})->wpAny (model P w) A (draw (.ref it) n) Q E s
 | 0,i,s,Q,hit,hl,_,l=>by
  show wpAny _ _ (pure []) Q E s;exact Wb (by simpa using l s.heap s.toks hit hl (λb o _ e=>e))
 | n+1,i,s,Q,hit,x,hle,l=>by
  have f:i < items.size:=by lia
  show wpAny _ _ (pyNext (.ref it) >>=_) Q E s;have W:=Walks.list (prog:=P) (w:=w) hh it t h items;refine V8 (W.item i s _ _ f ⟨hit,x⟩ λv p m u st r=>?_);refine V8 (WU (xo hh h n (i+1) _ _ st.1 st.2 (by lia) λg j a d c=>Wb ?_));have hd:items.toList.drop i=items[i]::items.toList.drop (i+1):=by simp[YN,f]
  have:=l g j (by rw[show i+(n+1)=i+1+n by lia];exact a) d (λb o q e=>c b o q (r b o (by simpa using q) e));rw[hd,List.take_succ_cons] at this;have k:v=items[i]:=by
   have:items[i]?=some v:=u;rw[WV f] at this;injection this with this
   exact this.symm
  rw[k];exact this
def oQ{p}(hh:A.handled=none)(k:s.heap.IsList t items)(hn:(assignEach elts env).length=items.size)(d:(assignEach elts env).findIdx? (·.1)=none)(h:∀h' r,Heap.ExtBut s.heap.objs.size s.heap h'->wpAny (model P w) A (assignInOrder ((assignEach elts env).map (·.2)) items.toList) Q E {s with heap:=h',toks:=r}):
  wpAny (model P w) A (assign (.Tuple elts p pos) env (.ref t)) Q E s:=by
 rw[assign_Tuple];refine V8 (XR ?_);unfold unpack;rw[hn,d];refine V8 (WU ?_);have i:t≠s.heap.objs.size:=by obtain⟨o,v,_⟩:=k;exact WG (Wu v)
 unfold unpackItems;refine V8 ?_;unfold notIterableAtAll;refine V8 (X9 k.typeIs F.slot_list_iter.lookup ?_);refine Wb ?_;simp only[WA,Xx];refine V8 (WU (YM k ?_));refine V8 (WU (xo hh i items.size 0 _ _ ⟨_,Ww _ rfl,rfl,rfl⟩ (k.push _) (by lia) λm q a f c=>?_));have j:List.take items.size (List.drop 0 items.toList)=items.toList:=by
  rw[Zh];exact Yx (by simp)
 rw[j];rw[Wh (by simp)];have W:=Walks.list (prog:=P) (w:=w) hh s.heap.objs.size t i items;rw[X5] at a;refine V8 (WU (W.done _ _ _ ⟨a,f⟩ λg l u=>?_));simp only[Option.isSome_none,WA,Xx];exact Wb (h g l λb o n e=>u b o (by simpa using n) (c b o n (Wa _ e)))
def U8(K:FR)(n:Nat)(t:Nb):TG:=λv c H Q=>∃a b,v=.ref a/\fN K H a b/\b.length=n/\t b c H Q
def Ou(w:X.calm=true)(h:Mo X es t)(hn:(assignEach es X.env).length=n:=by rfl)(g:(assignEach es X.env).findIdx? (·.1)=none:=by rfl):PG X (.Tuple es k pos) (U8 X.K n t):=by
 intro c s i H v u Q I r f;obtain⟨a,l,y,q,hl,f⟩:=f;subst y;cases r;obtain⟨d,rv,p,C⟩:=I.list q;refine oQ (items:=d.toArray) (I.ok.hd w) p.isList (by simp[hn,<-hl,rv.length]) g λx j m=>?_;have z:Inv X c i H {s with heap:=x,toks:=j}:=I.kept (t':=j) λb o e=>m b o (WG (Wu e)) e;exact h c _ i H l _ Q z (by simpa using rv) f
end L2
namespace Sm
open L2 PyProof.Rows
def Pt(n:Nat)(u:Gu):GM:=λd b h=>(iY d h).bind λa=>if a.length=n then u a b h else none
def Bt(o:X.calm=true)(h:To X es gs)(hn:(assignEach es X.env).length=n:=by ac_nf)(f:(assignEach es X.env).findIdx? (·.1)=none:=by ac_nf):SG X (.Tuple es k0 pos) (Pt n gs):=
 (Ou o h hn f).imp λv σ H Q ⟨i,j,h,d,c,q,R,S,r,e,k⟩=>by
  obtain⟨g,s,b⟩:=a9 e;obtain⟨a,m,rfl,p,l⟩:=ig S r s
  by_cases z:g.length=n
  ·rw[Wg z] at b;exact⟨a,m,rfl,fN.of p,by rw[l.length];exact z,i,j,h,g,c,q,R,S,l,b,k⟩
  ·rw[Wh z] at b;cases b
end Sm
namespace L2
open PyProof.Rows
end L2
namespace Sm
open L2
end Sm
namespace Sm
open L2 PyProof.Rows
end Sm
namespace L2
open PyProof.Rows
end L2
namespace Sm
open L2 PyProof.Rows
def sr(d:Df X.prog X.w X.K X.mg X.base nm k ps n F)(hr:fD c X.A)(i:SA X (e::es) m)(f:k<=c:=by decide)(hl:mr m n:=by repeat(first | exact aF | refine af ?_))(g:Gl X nm:=by unfold Gl;ac_nf)(b:(nm==("__debug__":Str))=false:=by ac_nf)(h:starEach (e::es) X.env=(false,eval e X.env)::starEach es X.env:=by ac_nf)(a:(backTo pos (starEach es X.env)).any (·.1)=false:=by ac_nf):SE X (.Call (.Name nm p) (e::es) [] pos) (ai F m):=Q9 d hr f i hl g b h a
def Bw{x:Str}{id:String}{p pos:Pos}{e:Expr}{es:List Expr}{f:Fn}{m:AM}(g:jb X (.builtin id) f)(hm:X.mg x=none)(c:bootBuiltins x=some (.builtin id))(h:SA X (e::es) m)(d:Gl X x:=by unfold Gl;ac_nf)(hn:x≠"__name__":=by decide)(b:(x==("__debug__":Str))=false:=by ac_nf)
  (he:starEach (e::es) X.env=(false,eval e X.env)::starEach es X.env:=by ac_nf) (a:(backTo pos (starEach es X.env)).any (·.1)=false:=by ac_nf):SE X (.Call (.Name x p) (e::es) [] pos) (ai f m):=G3 g d hm c h hn b he a
def G5{x:Str}{id:String}{p pos:Pos}{e:Expr}{es:List Expr}{f:Fn}{m:AM}(g:jb X (.type id) f)(hm:X.mg x=none)(c:bootBuiltins x=some (.type id))(h:SA X (e::es) m)(d:Gl X x:=by unfold Gl;ac_nf)(hn:x≠"__name__":=by decide)(b:(x==("__debug__":Str))=false:=by ac_nf)
  (he:starEach (e::es) X.env=(false,eval e X.env)::starEach es X.env:=by ac_nf) (a:(backTo pos (starEach es X.env)).any (·.1)=false:=by ac_nf):SE X (.Call (.Name x p) (e::es) [] pos) (ai f m):=G2 g d hm c h hn b he a
def Kb(hm:X.mg x=none)(a:bootBuiltins x=some (.type n))(b:Gl X x:=by unfold Gl;ac_nf)(hn:x≠"__name__":=by decide)(hd:(x==("__debug__":Str))=false:=by ac_nf):SE X (.Name x pos) (eK (.ty n)):=Q2 b hm a hn hd
def six(hr:fD k X.A)(g:SE X a d)(f:SE X b c)(e:jY b:=by unfold jY;intro _ _;ac_nf):SE X (.Subscript a b pos) (ah aB d c):=Q6 hr.units g f e
end Sm
namespace Hd
open PySem.W PyProof.Rows L2 Sm
def u0{P:List Value->Prop}(h:P [])(us:List Value)(hl:us.length=0):P us:=by cases us with | nil=>exact h | cons _ _=>cases hl
def u1{P:List Value->Prop}(h:∀a,P [a])(us:List Value)(hl:us.length=1):P us:=by
 cases us with
 | nil=>cases hl
 | cons a r=>exact u0 (P:=λr=>P (a::r)) (h a) r (Nat.succ.inj hl)
def u2{P:List Value->Prop}(h:∀a b,P [a,b])(us:List Value)(hl:us.length=2):P us:=by
 cases us with
 | nil=>cases hl
 | cons a r=>exact u1 (P:=λr=>P (a::r)) (h a) r (Nat.succ.inj hl)
def u3{P:List Value->Prop}(h:∀a b c,P [a,b,c])(us:List Value)(hl:us.length=3):P us:=by
 cases us with
 | nil=>cases hl
 | cons a r=>exact u2 (P:=λr=>P (a::r)) (h a) r (Nat.succ.inj hl)
def u4{P:List Value->Prop}(h:∀a b c d,P [a,b,c,d])(us:List Value)(hl:us.length=4):P us:=by
 cases us with
 | nil=>cases hl
 | cons a r=>exact u3 (P:=λr=>P (a::r)) (h a) r (Nat.succ.inj hl)
def aR{q:Program}{loose:List Str}{b:ExcName->Option Value}{mg d:Str->Option Value}{h base:Heap}{P:Program}{w:World}(T:Top q loose b mg d h){n:Str}{st:Stmt}(e:(recsOf q).find? (λe=>e.name==n)=some (wR n st)){ps:List Str}{k N:Nat}{F:Fn}
  (c:∀{f:Addr} {a:FuncData},dZ (aS h) n n st f a->Binds (aS h) a ps []) (ok:∀{f:Addr} {a:FuncData},dZ (aS h) n n st f a->keepIn (aS h) (.ref f)=true->Binds (aS h) a ps []->mg n=some (.ref f)->aV P w (aS h) mg base dD k f a ps (eu (aS h) N F)):Df P w (aS h) mg base n k ps N F:=by
 obtain⟨f,a,m,G⟩:=D9 T e;exact⟨f,a,ok G G.kp (c G) m,G.kp,c G,m⟩
end Hd
namespace L2
open PyProof.Rows Builtin.Str
end L2
namespace L2
open PyProof.Rows
end L2
namespace Sm
open L2 PyProof.Rows Builtin.Str
end Sm
namespace L2
open PyProof.Rows
section
variable {X:Cx}
end
end L2
namespace Sm
open L2 PyProof.Rows
section
variable {X:Cx}
end
theorem qu{h:Heap}{f:Value->Bool}{p:PyData}:∀{us:List Value} {ds:List PyData} {as:List Addr},ReadsAll h us ds as->(∀u d as,u∈us->Reads h u d as->d∈ds->f u=PyData.eqv d p)->us.findIdx? f=ds.findIdx? λb=>PyData.eqv b p
 | _,_,_,.nil,_=>rfl
 | _,_,_,.cons r l,hf=>by
  rw[Aac,Aac,hf _ _ _ We r We,qu l λu d as a hr hd=>hf u d as (Wf _ a) hr (Wf _ hd)]
def lT:Gp:=λd c h=>match c with
 | [x]=>(iY d h).bind λa=>(Bf h x).bind λp=>(md a).bind λbs=>if p.depth<=60/\PyData.depthAll bs<=60 then(bs.findIdx? λb=>PyData.eqv b p).map λj:Nat=>(D.int (Int.ofNat j),h) else none
 | _=>none
def xc{X:Cx}(hu:X.A.units+64 < cLine):Gs X "list.index" (rM X.K lT):=by
 intro G s σ H x xs v us Q I N rs hh;obtain⟨ρ,h,d,ds,z,h',S,rd,l,b,k⟩:=hh
 match ds,l,b with
 | [],_,b=>exact cX b
 | _::_::_,_,b=>exact cX b
 | [y],l,b=>
  obtain⟨ys,e1,e2⟩:=a9 b;obtain⟨p,e3,e4⟩:=a9 e2;obtain⟨bs,e5,i⟩:=a9 e4
  by_cases w:p.depth<=60/\PyData.depthAll bs<=60
  ·rw[Wg w] at i;obtain⟨j,e7,e8⟩:=dS i;cases e8;obtain⟨a,vs,rfl,ha,Y⟩:=ig S rd e1;obtain rfl:v=Value.ref a:=N;obtain⟨yv,rfl,M⟩:=rep1 l;obtain⟨u,rfl,O⟩:=Vals.one rs;obtain⟨T,c1⟩:=oa S M e3;obtain⟨R,t⟩:=Y.sy e5;obtain⟨as,P⟩:=T.reads I O;obtain⟨c,rv,pl,hz⟩:=I.list (.inl (.inl ha));obtain⟨bs',E⟩:=R.reads I rv;have hj:=(qu (f:=Ef s.heap p) E λu d as _ hr hd=>qA hr (cB t hd)).trans e7;obtain⟨j1,j2,Z⟩:=Ye.mp hj;have q:∀y,y∈c.toArray->PySem.SeqAt.EqAt X.A.in1 s y u (Ef s.heap p y):=by
    intro y hy;obtain⟨d,C,hr,hd⟩:=lQ E y (by simpa using hy);rw[qA hr (cB t hd)];refine YX d p _ s y u C as hr P (cB t hd) c1 ?_;have h1:=l3 hd;have h2:min d.depth p.depth<=d.depth:=Y8 _ _;show X.A.units+1+min d.depth p.depth < cLine;have h3:=w.2
    lia
   obtain⟨o,n,g,o1,L,J⟩:=pl;obtain⟨oc,od,U,os⟩:=o;dsimp only at o1 L J;subst o1 L J;have hz2:=rv.length;rw[XX] at hz;refine ZX Zu ⟨_,g,rfl⟩ PySem.F.entry_list_index (PySem.F.args_list_index_2 _ _)
    (PySem.SeqAt.list_indexAt a c.toArray n none os u (Ef s.heap p) j (by simpa using j1) (by lia) (by simpa using j2) (λm hm r=>by simpa using Z m r)) ⟨g,q,?_⟩
   exact⟨.int _,H,I.kept (t':=s.toks+1) λ_ _ e=>e,⟨_,rfl⟩,k _ _ (.here S (.int _))⟩
  ·rw[Wh w] at i;cases i
def vm(l:Addr)(items:Array Value)(n:Nat)(dd:Option Addr)(v:Array (Option Value))(x:Value)(e:Value->Bool)(j:Nat)(G:j < items.size)
  (hit:e items[j]=true) (t:∀m (hm:m < items.size),m < j->e items[m]=false):
  Meets (Builtin.«tuple.index» ⟨[.ref l,x],[]⟩)
   (λA R s=>s.heap.get? l=some {cls:=.type "tuple",dict:=dd,data:=.seq items n,slots:=v}/\(∀y,y∈items->PySem.SeqAt.EqAt A.in1 s y x (e y))/\R (.ok (.ret (.int j s.toks))) {s with toks:=s.toks+1}):=
 .of_wp λprog w A R s h=>by
  obtain⟨hp,g,d,u,os⟩:=s;obtain⟨hl,C,h⟩:=h
  wp_walk using wpAny_loadPart' hl
  change wpAny _ _ (forIn (m:=Sem) ({start:=0,stop:=min items.size items.size,step:=1,step_pos:=by decide}:Std.Legacy.Range) _ (λ(i:Nat)(_:Option Fin×Unit)=>match items[i]? with
   | some y=>do
    let b<-eqBool y x
    if b=true then do
     let r<-retInt (i:Int)
     pure (ForInStep.done (some r,()))
    else pure (ForInStep.yield (none,()))
   | _=>pure (ForInStep.yield (none,())))) _ _ _
  rw[Std.Legacy.Range.forIn_eq_forIn_range'];simp only[Std.Legacy.Range.size,AaZ,Z9,Nat.div_one,Nat.min_self];refine Yy _ (λa _ o=>o=⟨hp,g,d,u,os⟩/\∃i,i<=j/\a=List.range' i (items.size-i)) _ ?_ ?_ _ _ ⟨rfl,0,WL _,rfl⟩
  ·rintro i a b o ⟨rfl,k,z,hr⟩;have f:k < items.size:=by lia
   obtain⟨rfl,c⟩:i=k/\a=List.range' (k+1) (items.size-(k+1)):=by
    have e:items.size-k=(items.size-(k+1))+1:=by lia
    rw[e,List.range'_succ] at hr;injection hr with F E
    exact⟨F,E⟩
   rw[WV f];refine V8 (C _ (Array.getElem_mem f) prog w _ _ ?_)
   by_cases q:i=j
   ·subst q;rw[hit]
    wp_walk
    exact⟨_,rfl,h⟩
   ·rw[t i f (by lia)]
    wp_walk
    exact⟨rfl,i+1,by lia,c⟩
  ·rintro b o ⟨rfl,i,z,hr⟩;have p:=congrArg List.length hr;simp at p
   lia
def sL:Gp:=λd c h=>match d,c with
 | .tup a,[x]=>(Bf h x).bind λp=>(md a).bind λbs=>if p.depth<=60/\PyData.depthAll bs<=60 then(bs.findIdx? λb=>PyData.eqv b p).map λj:Nat=>(D.int (Int.ofNat j),h) else none
 | _,_=>none
def FA{X:Cx}(hu:X.A.units+64 < cLine):Gs X "tuple.index" (rM X.K sL):=by
 intro G s σ H x xs v us Q I N rs hh;obtain⟨ρ,h,d,ds,z,h',S,rd,l,b,k⟩:=hh;cases rd <;> first |(exact cX b) | skip
 rename_i ys a vs ha Y
 match ds,l,b with
 | [],_,b=>exact cX b
 | _::_::_,_,b=>exact cX b
 | [y],l,b=>
  obtain⟨p,e3,e4⟩:=a9 b;obtain⟨bs,e5,i⟩:=a9 e4
  by_cases w:p.depth<=60/\PyData.depthAll bs<=60
  ·rw[Wg w] at i;obtain⟨j,e7,e8⟩:=dS i;cases e8;obtain⟨yv,rfl,M⟩:=rep1 l;obtain⟨u,rfl,O⟩:=Vals.one rs;obtain⟨T,c1⟩:=oa S M e3;obtain⟨R,t⟩:=Y.sy e5;obtain⟨as,P⟩:=T.reads I O;cases N;obtain⟨c,rv,pl,hz⟩:=I.Gy ha.sq;obtain⟨bs',E⟩:=R.reads I rv;have hj:=(qu (f:=Ef s.heap p) E λu d as _ hr hd=>qA hr (cB t hd)).trans e7;obtain⟨j1,j2,Z⟩:=Ye.mp hj;have q:∀y,y∈c.toArray->PySem.SeqAt.EqAt X.A.in1 s y u (Ef s.heap p y):=by
    intro y hy;obtain⟨d,C,hr,hd⟩:=lQ E y (by simpa using hy);rw[qA hr (cB t hd)];refine YX d p _ s y u C as hr P (cB t hd) c1 ?_;have h1:=l3 hd;have h2:min d.depth p.depth<=d.depth:=Y8 _ _;show X.A.units+1+min d.depth p.depth < cLine;have h3:=w.2
    lia
   obtain⟨o,g,o1,⟨n,J⟩,L⟩:=pl;obtain⟨oc,od,U,os⟩:=o;dsimp only at o1 L J;subst o1 L J;refine ZX AaJ ⟨_,g,rfl⟩ PySem.F.entry_tuple_index (PySem.F.args_tuple_index_2 _ _)
    (vm _ c.toArray n none os u (Ef s.heap p) j (by simpa using j1) (by simpa using j2) (λm hm r=>by simpa using Z m r)) ⟨g,q,?_⟩
   exact⟨.int _,H,I.kept (t':=s.toks+1) λ_ _ e=>e,⟨_,rfl⟩,k _ _ (.here S (.int _))⟩
  ·rw[Wh w] at i;cases i
end Sm
namespace L2
open PyProof.Rows
def VT(K:FR)(r:V->List V->Hp->VK->Prop)(e:TE)(t:TA):TE:=λc H Q=>e c H λx d=>(∃a b,x=.ref a/\jc K d a b)/\t c d λb f=>r x b f Q
def RB{X:Cx}{o e:Expr}{es:List Expr}{p:TE}{t:TA}{name:Str}{i b:Pos}{id:String}{r:V->List V->Hp->VK->Prop}(slot:Slot "tuple" name id)(n:typeOf (.builtin id)=pure (.type "method_descriptor"))(hm:Gs X id r)(J:PE X o p)(L:PA X (e::es) t)
  (k:attributeBase o name X.env (eval o X.env)=eval o X.env)
  (l:((backTo b (starEach (e::es) X.env)).all (λx=>!x.1)&&(backToKw b (keywordEach [] X.env)).all (λx=>x.1.isSome)
   &&decide ((e::es).length+([]:List Keyword).length+(if([]:List Keyword).isEmpty then 0 else 1) < 30))=true)
  (j:(i.endLine==b.line)=true) (G:starEach (e::es) X.env=(false,eval e X.env)::starEach es X.env) (f:(backTo b (starEach es X.env)).any (·.1)=false):
  PE X (.Call (.Attribute o name i) (e::es) [] b) (VT X.K r p t):=by
 intro d s m H Q I h;refine wpAny_Call_method_late k l j rfl (cU (J d s m H _ I h) λv s1 ⟨x,H1,u,z,⟨a,xs,ex,ty⟩,C⟩=>?_);subst ex;cases z;obtain⟨E,_,⟨ob,g,c,_,dd⟩,_⟩:=u.Gy ty;refine⟨"tuple",id,PySem.F.plainAttrs_tuple,slot,n,⟨ob,g,c⟩,λa e=>by cases e;exact⟨ob,g,dd⟩,?_⟩;have q:=L b d s1 m H1 _ u C;rw[G] at q ⊢;refine ZZ (by show(false||(backTo b (starEach es X.env)).any (·.1))=false;rw[f] <;> rfl) (Calls.evalArgs_plain ?_);exact cU q λus s2 ⟨w,N,M,y,A⟩=>hm d s2 m N (.ref a) w (.ref a) us Q M rfl y A
end L2
namespace Sm
open L2 PyProof.Rows
noncomputable def Po(d:D)(_:MH):Bool:=match d with
 | .tup _=>true
 | _=>false
def Q4{X:Cx}{id:String}{name:Str}{o e:Expr}{es:List Expr}{g a:Pos}{f:Gp}{A:EM}{m:AM}(slot:Slot "tuple" name id)(s:typeOf (.builtin id)=pure (.type "method_descriptor"))(hm:Gs X id (rM X.K f))(M:SE X o A)(t:SA X (e::es) m)
  (j:attributeBase o name X.env (eval o X.env)=eval o X.env:=by ac_nf)
  (l:((backTo a (starEach (e::es) X.env)).all (λx=>!x.1)&&(backToKw a (keywordEach [] X.env)).all (λx=>x.1.isSome)
   &&decide ((e::es).length+([]:List Keyword).length+(if([]:List Keyword).isEmpty then 0 else 1) < 30))=true:=by ac_nf)
  (i:(g.endLine==a.line)=true:=by ac_nf) (L:starEach (e::es) X.env=(false,eval e X.env)::starEach es X.env:=by ac_nf) (b:(backTo a (starEach es X.env)).any (·.1)=false:=by ac_nf):
  SE X (.Call (.Attribute o name g) (e::es) [] a) (eM Po f A m):=(RB slot s hm M t j l i L b).imp λσ H Q ⟨I,y,h,d,N,R,S,e,k⟩=>by
 obtain⟨⟨x,u⟩,T,n⟩:=a9 e;dsimp only at n
 by_cases c:Po x u=true
 ·rw[Wg c] at n;obtain⟨⟨E,C⟩,P,O⟩:=a9 n;refine⟨I,y,h,x,u,R,S,T,λv H1 ⟨r,G,Y,z⟩=>⟨?_,r,y,u,E,C,R.mono G,Y,P,λvs q H2 F U J=>⟨q,C,x,E,d,N,U,z.mono F,J,O,λw Z p=>k w Z (p.step (G.trans F))⟩⟩⟩;cases z <;> first |(cases c;done) | skip
  rename_i t _ _;exact⟨_,_,rfl,t.sq⟩
 ·rw[Wh c] at n;cases n
end Sm
namespace L2
open PyProof.Rows
inductive CQ(w:World)(h:Heap)(a:Addr)(es:Array (Int×Value))(ep:Nat)(t:SetTable)(vs:List Value)(i:Nat):Value->Prop where
 | drawn {T:Addr} {idx:List Nat} {o:Obj} {n:Nat} (ho:h.get? T=some o) (hcT:o.cls=.type "tuple") (hd:o.data=.seq (idx.map λ(k:Nat)=>rawInt (k:Int)).toArray n) (hp:idx.Perm (List.range es.size)) (hv:vs=idx.filterMap λk=>(es[k]?).map (·.2)):CQ w h a es ep t vs i (.ref T)
 | text (ht:w.params.followText "set-order"=true) (hv:vs=(pickOrder (w.params.setOrder a ep) es).toList.map (·.2)):CQ w h a es ep t vs i (.int 0 0)
 | led {slot:Nat} (ht:w.params.followText "set-order"=false) (hr:fc t.place) (hz:(!t.plain&&decide (es.size > 1))=false) (hl:t.led=true) (hs:slot=if i=0 then 0 else(t.place.getD (i-1) 0)+1) (hv:vs=es.toList.map (·.2)):CQ w h a es ep t vs i (.int slot 0)
def Bc(w:World)(h:Heap)(J a:Addr)(es:Array (Int×Value))(b:Nat)(t:SetTable)(vs:List Value)(i:Nat):Prop:=
 (∃ob,h.get? a=some ob/\ob.data=.set es b t)/\t.fits es.size=true/\∃o first,h.get? J=some o/\o.cls=.type "set_iterator"/\o.data=.fields #[first,.int i 0,.ref a,.int es.size 0,.int b 0]/\CQ w h a es b t vs i first
def CQ.perm(x:CQ w h a es j t vs i f):vs.Perm (es.toList.map (·.2)):=by
 cases x with
 | drawn g _ hd hp b=>subst b;exact uN es hp
 | text c b=>subst b;exact(wX _ es).map _
 | led c hr d hl e b=>subst b;exact .refl _
def lL(w:World)(h:Heap)(a:Addr)(es:Array (Int×Value)):Prop:=
 ∃o b t,h.get? a=some o/\o.ExactSet/\o.data=.set es b t/\es.size < scanBound/\t.fits es.size=true/\(t.led=!w.params.followText "set-order")/\(t.plain=true->fc t.place)
def qy{t:SetTable}{n:Nat}(h:t.fits n=true):t.place.size=n:=by
 unfold SetTable.fits at h;rw[WC,Zf] at h;exact h.1
def below_at(d:fc xs)(hi:i<=xs.size):SetTable.below xs (if i=0 then 0 else xs.getD (i-1) 0+1)=i:=by
 obtain⟨f,a,c⟩:=jW xs (if i=0 then 0 else xs.getD (i-1) 0+1) d;generalize SetTable.below xs (if i=0 then 0 else xs.getD (i-1) 0+1)=b at f a c
 by_cases z:i=0
 ·rw[Wg z] at a;rcases Nat.eq_zero_or_pos b with q | q
  ·lia
  ·exact absurd (a 0 (by lia) q) (Xh _)
 ·rw[Wh z] at a c;have e:xs.getD (i-1) 0=xs[i-1]'(by lia):=by
   rw[Aax,WV (by lia)];rfl
  rw[e] at a c;rcases Aaf b i with q | q | q
  ·have:=c (i-1) (by lia) (by lia);lia
  ·exact q
  ·have h:=a i (by lia) q;have g:=d (i-1) i (by lia) (by lia) (by lia)
   lia
def x5(h:xs.size<=1):fc xs:=λi j b a z=>by lia
section
variable {P:Program} {w:World} {A:Around} {E:Value->Shared->Prop} {s:Shared} {a:Addr} {es:Array (Int×Value)}
def lL.type(h:lL w s.heap a es):s.TypeIs (.ref a) "set":=let⟨o,_,_,e,x,_⟩:=h;⟨o,e,x.1⟩
def JE(v:lL w s.heap a es)(h:∀h' d J k t vs,(∀b o,s.heap.get? b=some o->h'.get? b=some o)->s.heap.objs.size<=J->vs.Perm (es.toList.map (·.2))->Bc w h' J a es k t vs 0->Q (.ref J) {s with heap:=h',drawn:=d}):
  wpAny (model P w) A (pyIter (.ref a)) Q E s:=by
 have u:=v.type;obtain⟨ob,k,t,c,C,g,L,i,I,H⟩:=v;have out:∀(h':Heap)(d:Drawn)(J:Addr)(vs:List Value) {f:Value},(∀b o,s.heap.get? b=some o->h'.get? b=some o)->s.heap.objs.size<=J->(∃o,h'.get? J=some o/\o.cls=.type "set_iterator"/\o.data=.fields #[f,.int 0 0,.ref a,.int es.size 0,.int k 0])->CQ w h' a es k t vs 0 f->Q (.ref J) {s with heap:=h',drawn:=d}:=
  λh' d J vs f r G ⟨o,O,N,M⟩ p=>by
   have hp:=p.perm;exact h h' d J k t vs r G hp ⟨⟨ob,r _ _ c,g⟩,i,o,f,O,N,M,p⟩
 refine wpAny_pyIter_slot u F.slot_set_iter (W3 F.slot_set_iter u entry_set_iter' ?_ (F.args_set_iter_1 _));unfold Builtin.«frozenset.__iter__» Builtin.Frozenset.slot0 slotArgs Builtin.Frozenset.sizeOf Builtin.Frozenset.addrOf;simp only[ZA,XF,WA,↓reduceIte,bind_assoc,Xm,XI,pure_bind];refine V8 (Aal c g i ?_);unfold setDrawn setsByText;simp only[bind_assoc];refine V8 (XS c g i ?_);dsimp only;refine V8 (Yg ?_);simp only[pure_bind];cases n:(!(model P w).w.params.followText "set-order"&&(!t.plain&&decide (es.size > 1))) with
 | true=>
  refine wpAny_of_eq' (Wg n) ?_;refine V8 (CW _ _ _ _ (by simp) λy d hp=>V8 (Zs ?_ (by rw[Wc,hp.length_eq,WK];exact Aay L)));have x:∀(o1:Obj) b o,s.heap.get? b=some o->(s.heap.push o1).get? b=some o:=λo1 b o e=>Wa _ e;refine V8 (wpAny_setEpoch_of (x _ _ _ c) g i (V8 (Xc (Wb ⟨_,rfl,"set_iterator",_,⟨_,Ww _ rfl,rfl⟩,dF.lookup,?_⟩))));exact out _ d _ _ (λb o e=>Wa _ (Wa _ e)) (by rw[Xd];exact YG _) ⟨_,Ww _ rfl,rfl,rfl⟩ (.drawn (Wa _ (Ww _ rfl)) rfl rfl hp rfl)
 | false=>
  refine wpAny_of_eq' (Wh λz=>Bool.noConfusion (n.symm.trans z)) ?_;refine V8 (wpAny_setEpoch_of c g i (V8 (Xc (Wb ⟨_,rfl,"set_iterator",_,⟨_,Ww _ rfl,rfl⟩,dF.lookup,?_⟩))));have j:(!w.params.followText "set-order"&&(!t.plain&&decide (es.size > 1)))=false:=n;cases l:w.params.followText "set-order" with
  | true=>exact out _ s.drawn _ _ (λb o e=>Wa _ e) (Wj _) ⟨_,Ww _ rfl,rfl,rfl⟩ (.text l rfl)
  | false=>
   have m:(!t.plain&&decide (es.size > 1))=false:=by
    rw[l] at j;exact j
   have hr:fc t.place:=by
    cases q:t.plain with
    | true=>exact H q
    | false=>
     rw[q] at m;refine x5 ?_;rw[qy i]
     simpa using m
   exact out _ s.drawn _ _ (λb o e=>Wa _ e) (Wj _) ⟨_,Ww _ rfl,rfl,rfl⟩ (.led (slot:=0) l hr m (by rw[I,l];rfl) rfl rfl)
def Ao(b:s.heap.get? a=some ob)(c:ob.data=.set es l t)(g:t.fits es.size=true)(f:w.params.followText "set-order"=false)(e:(!t.plain&&decide (es.size > 1))=false)(hl:t.led=true)(h:Q (match es[SetTable.below t.place k]?,t.place[SetTable.below t.place k]? with | some (_,x),some j=>some (x,j+1) | _,_=>none) s):wpAny (model P w) A (setNext a k i l) Q E s:=by
 unfold setNext setsByText;refine V8 (XS b c g ?_);dsimp only;refine V8 (V8 (Yg (Wb ?_)));rw[Wh (show ¬(model P w).w.params.followText "set-order"=true by rw[show(model P w).w.params.followText "set-order"=false from f];simp)];have d:¬(!t.plain&&decide (es.size > 1))=true:=by rw[e];simp
 refine wpAny_of_eq' (Wh d) ?_;refine V8 (wpAny_of_eq' (m':=pure ()) (Wh (show ¬(!t.led&&!es.isEmpty)=true by rw[hl];simp)) (Wb ?_));exact Wb h
def JC(hS:Bc w s.heap J a es ep t vs i)(X:vs[i]?=some v)(p:J≠a)(h:∀h',(∀b o,b≠J->s.heap.get? b=some o->h'.get? b=some o)->Bc w h' J a es ep t vs (i+1)->Q (some v) {s with heap:=h'}):wpAny (model P w) A (pyNext (.ref J)) Q E s:=by
 obtain⟨⟨ob,d,f⟩,I,o,first,R,hc,hd,wy⟩:=hS;have hT:s.TypeIs (.ref J) "set_iterator":=⟨o,R,hc⟩;unfold pyNext;refine V8 (YJ (W4 (name:=Str.ofString "__next__") hT dF (W3 dF hT mH ?_ (oR _))));unfold Builtin.«set_iterator.__next__» slotArgs;simp only[ZA,XF,WA,↓reduceIte,bind_assoc,Xm,XI,pure_bind];refine V8 (wpAny_fieldsOf R hd ?_);dsimp only;refine V8 (Aal d f I ?_);simp only[XI,WA,↓reduceIte];cases wy with
 | @drawn T idx oT nT G hcT H hp c=>
  have hTJ:T≠J:=λz=>by subst z;rw[R] at G;cases G;rw[hd] at H;cases H
  refine V8 (m:=seqItems? (.ref T)) (Xo G H ?_);dsimp only;have hlen:idx.length=es.size:=by rw[hp.length_eq,WK]
  have hall:∀k∈idx,∃e,es[k]?=some e:=λk y=>by
   have:k < es.size:=by have:=hp.mem_iff.mp y;simpa using this
   exact⟨_,WV this⟩
  have Z:∀(l:List Nat)(i:Nat)(v:Value),(∀k∈l,∃e,es[k]?=some e)->(l.filterMap λk=>(es[k]?).map (·.2))[i]?=some v->∃k e,l[i]?=some k/\es[k]?=some e/\e.2=v:=by
   intro l
   induction l with
   | nil=>intro i v _ h;simp at h
   | cons k r ih=>
    intro i v ha h;obtain⟨e,he⟩:=ha k We;rw[Yo,he] at h;dsimp only[Option.map] at h;cases i with
    | zero=>rw[AaU] at h;cases h;exact⟨k,e,rfl,he,rfl⟩
    | succ j=>
     rw[Xq] at h;obtain⟨k',e',a1,a2,a3⟩:=ih j v (λx hx=>ha x (Wf _ hx)) h;exact⟨k',e',by rw[Xq];exact a1,a2,a3⟩
  rw[c] at X;obtain⟨k,e,O,S,rfl⟩:=Z idx i v hall X;have e3:((idx.map λ(k:Nat)=>rawInt (k:Int)).toArray)[(i:Int).toNat]?=some (rawInt (k:Int)):=by
   rw[WT,Aa7,Wt,O];rfl
  rw[e3];show wpAny _ _ (setNextDrawn a (k:Int).toNat (ep:Int).toNat >>=_) _ _ s;rw[WT,WT];unfold setNextDrawn;simp only[bind_assoc];refine V8 (XS d f I ?_);dsimp only;simp only[XI,WA,↓reduceIte];rw[S];simp only[pure_bind];refine V8 (yR R hd (by simp) λh' U y n F C=>Wb ⟨_,rfl,Wb (h h' y ?_)⟩);exact⟨⟨ob,y _ _ (Xy p) d,f⟩,I,U,.ref T,n,F.trans hc,C,.drawn (y _ _ hTJ G) hcT H hp (by rw[c])⟩
 | text Y c=>
  show wpAny _ _ (setNext a (0:Int).toNat (i:Int).toNat (ep:Int).toNat >>=_) _ _ s;rw[WT,WT];refine V8 (w5 d f I Y ?_);have g:=X;rw[c,Wt] at g;obtain⟨e,O,S⟩:=Xi.mp g;rw[XW] at O;rw[O];dsimp only[Option.map];refine V8 (yR R hd (by simp) λh1 o1 q L N M=>V8 (yR L M (by simp) λh' U y n F C=>Wb ⟨_,rfl,Wb ?_⟩));rw[S];refine h h' (λb u hb z=>y b u hb (q b u hb z)) ⟨⟨ob,y _ _ (Xy p) (q _ _ (Xy p) d),f⟩,I,U,_,n,(F.trans N).trans hc,C,.text Y c⟩
 | @led slot Y hr hz hl hs c=>
  show wpAny _ _ (setNext a (slot:Int).toNat (i:Int).toNat (ep:Int).toNat >>=_) _ _ s;rw[WT,WT,WT];have hlt:i < es.size:=by
   have:=(V9.mp X).1;rw[c] at this
   simpa using this
  have hpz:=qy I;refine V8 (Ao d f I Y hz hl ?_);rw[hs,below_at hr (by lia),WV (show i < t.place.size by lia)];have g:=X;rw[c,Wt] at g;obtain⟨e,O,S⟩:=Xi.mp g;rw[XW] at O;obtain⟨eh,ev⟩:=e;rw[O];dsimp only at S ⊢;refine V8 (yR R hd (by simp) λh1 o1 q L N M=>V8 (yR L M (by simp) λh' U y n F C=>Wb ⟨_,rfl,Wb ?_⟩));rw[S];refine h h' (λb u hb z=>y b u hb (q b u hb z)) ⟨⟨ob,y _ _ (Xy p) (q _ _ (Xy p) d),f⟩,I,U,_,n,(F.trans N).trans hc,C,.led (slot:=t.place[i]+1) Y hr hz hl ?_ c⟩;rw[Wh (Nat.succ_ne_zero i),Z9,Aax,WV (show i < t.place.size by lia)];rfl
def Mg(hh:A.handled=none)(hS:Bc w s.heap J a es x t vs vs.length)(h:∀h',(∀b o,b≠J->s.heap.get? b=some o->h'.get? b=some o)->Q none {s with heap:=h'}):wpAny (model P w) A (pyNext (.ref J)) Q E s:=by
 obtain⟨⟨ob,e,g⟩,v,o,first,n,Z,hd,M⟩:=hS;have O:s.TypeIs (.ref J) "set_iterator":=⟨o,n,Z⟩;have d:vs.length=es.size:=by have:=M.perm.length_eq;simpa using this
 unfold pyNext;refine V8 (YJ (W4 (name:=Str.ofString "__next__") O dF (W3 dF O mH ?_ (oR _))));unfold Builtin.«set_iterator.__next__» slotArgs;simp only[ZA,XF,WA,↓reduceIte,bind_assoc,Xm,XI,pure_bind];refine V8 (wpAny_fieldsOf n hd ?_);dsimp only;refine V8 (Aal e g v ?_);simp only[XI,WA,↓reduceIte];cases M with
 | @drawn T idx oT nT F X I hp j=>
  refine V8 (m:=seqItems? (.ref T)) (Xo F I ?_);dsimp only;have e3:((idx.map λ(k:Nat)=>rawInt (k:Int)).toArray)[(vs.length:Int).toNat]?=none:=by
   rw[WT,Aa7,Wt,WO (by rw[hp.length_eq,WK,d];exact Wj _)];rfl
  rw[e3];refine V8 (yR n hd (by simp) λh1 o1 H G Y L=>V8 (yR G L (by simp) λR N c l r q=>?_));exact xM (J:=J) hh λh' p=>h h' λb u i z=>p b u (c b u i (H b u i z))
 | text C j=>
  show wpAny _ _ (setNext a (0:Int).toNat (vs.length:Int).toNat (x:Int).toNat >>=_) _ _ s;rw[WT,WT];refine V8 (w5 e g v C ?_);have y:(pickOrder (w.params.setOrder a x) es).size=es.size:=by have:=(wX (w.params.setOrder a x) es).length_eq;simpa using this
  rw[Aa2 (by rw[y,d];exact Wj _)];dsimp only[Option.map];refine V8 (yR n hd (by simp) λR N c l r q=>?_);exact xM (J:=J) hh λh' p=>h h' λb u i z=>p b u (c b u i z)
 | @led slot C hr y hl S j=>
  show wpAny _ _ (setNext a (slot:Int).toNat (vs.length:Int).toNat (x:Int).toNat >>=_) _ _ s;rw[WT,WT,WT];refine V8 (Ao e g v C y hl ?_);have U:=qy v;have f:es[SetTable.below t.place slot]?=none:=by
   rw[S,below_at hr (by lia)];exact Aa2 (by lia)
  rw[f];dsimp only;refine V8 (yR n hd (by simp) λR N c l r q=>?_);exact xM (J:=J) hh λh' p=>h h' λb u i z=>p b u (c b u i z)
def Bc.off(x:Bc w h J a es I t vs i)(H:h.get? S=some q)(F:q.cls=.type "list")(y:S≠J)(G:S≠a)(k:∀b o,b≠S->h.get? b=some o->h'.get? b=some o):Bc w h' J a es I t vs i:=by
 obtain⟨⟨ob,g,j⟩,C,o,first,v,m,hd,p⟩:=x;refine⟨⟨ob,k _ _ (Xy G) g,j⟩,C,o,first,k _ _ (Xy y) v,m,hd,?_⟩;cases p with
 | @drawn T idx L M d e l hp c=>
  have n:T≠S:=λz=>by subst z;rw[H] at d;cases d;rw[F] at e;exact absurd e (by decide)
  exact .drawn (k _ _ n d) e l hp c
 | text f c=>exact .text f c
 | led f hr r hl u c=>exact .led f hr r hl u c
def EZ(hh:A.handled=none)(z:S≠J)(O:S≠a)(y:J≠a)(T:vs.length<=sizeLine):
  ∀(m i:Nat)(s:Shared)(c:Nat),vs.length-i=m->i<=vs.length->Bc w s.heap J a es U t vs i->s.heap.get? S=some {cls:=.type "list",dict:=none,data:=.seq (vs.take i).toArray c,slots:=#[]}->
  (∀h' r,(∀b o,b≠S->b≠J->s.heap.get? b=some o->h'.get? b=some o)->h'.get? S=some {cls:=.type "list",dict:=none,data:=.seq vs.toArray r,slots:=#[]}->R (.ok (.ret (.ref S))) {s with heap:=h'})->
  codeAny (model P w) A (.builtin "list.extend.loop" ⟨[.ref S,.ref J,.ref S],[]⟩) R s:=by
 intro m
 induction m with
 | zero=>
  intro i s c hm N st v I;have C:i=vs.length:=by lia
  subst C;refine Xs F.entry_extend_loop ?_;rw[Xe Zk _];show wpAny _ A.in1 (pyNext (.ref J) >>=_) _ _ s;refine V8 (Mg (A:=A.in1) hh st λh' u=>Wb (I h' c (λb o _ j e=>u b o j e) ?_));rw[Xf] at v;exact u _ _ z v
 | succ m M=>
  intro i s c hm N st v I;have k:i < vs.length:=by lia
  have L:vs[i]?=some vs[i]:=Wl k;refine Xs F.entry_extend_loop ?_;rw[Xe Zk _];show wpAny _ A.in1 (pyNext (.ref J) >>=_) _ _ s;refine V8 (JC (A:=A.in1) st L y λq n x=>?_);have h:=n _ _ z v;show wpAny _ A.in1 (updateSeq S (·.push vs[i]) >>=_) _ _ _;have d:(vs.take i).toArray.size=i:=by rw[WB,WJ];lia
  refine V8 (AaV (s:={s with heap:=q}) h rfl (Wb ⟨X2 Zk _,?_⟩) (by rw[d];lia) (by show((vs.take i).toArray.push vs[i]).size<=sizeLine+1;rw[Array.size_push,d];lia));have G:=XZ (Obj.mapSeq (·.push vs[i])) h rfl;have l:∀b o,b≠S->q.get? b=some o->(q.update S (Obj.mapSeq (·.push vs[i]))).get? b=some o:=λb o j e=>(Yd _ _ (Xy j)).trans e;have f:(vs.take i).toArray.push vs[i]=(vs.take (i+1)).toArray:=by
   rw[YH,L];simp
  have g:∃r,(q.update S (Obj.mapSeq (·.push vs[i]))).get? S=some {cls:=.type "list",dict:=none,data:=.seq (vs.take (i+1)).toArray r,slots:=#[]}:=by
   rw[<-f];exact⟨_,G⟩
  obtain⟨Q,g⟩:=g;exact M (i+1) {s with heap:=q.update S (Obj.mapSeq (·.push vs[i]))} Q (by lia) k (x.off h rfl z O l) g λh' r u H=>I h' r (λb o j p e=>u b o j p (l b o j (n b o p e))) H
def AQ(hh:A.handled=none)(H:lL w s.heap a es)(h:∀h' d vs,s.heap.objs.size<=h'.objs.size->(∀b o,s.heap.get? b=some o->h'.get? b=some o)->vs.Perm (es.toList.map (·.2))->Q vs {s with heap:=h',drawn:=d}):wpAny (model P w) A (collect (.ref a)) Q E s:=by
 have hT:=H.type;have v:a < s.heap.objs.size:=let⟨o,_,_,e,_⟩:=H;Wu e;have M:es.size<=sizeLine:=let⟨_,_,_,_,_,_,X,_⟩:=H;Aay X;unfold collect;refine V8 (wpAny_runValue (Xs F.entry_proto_collect ?_));rw[Xe F.plain_proto_collect _];show wpAny _ A.in1 (newList [] >>=λl=>again (.builtin "list.__iadd__" ⟨[l,.ref a],[]⟩)) _ _ s;refine V8 (Xc (Wb ⟨X2 F.plain_list_iadd _,Xs F.entry_list_iadd ?_⟩));rw[Xe F.plain_list_iadd _];generalize u:({cls:=.type "list",data:=.seq ([]:List Value).toArray}:Obj)=i;have R:∀b o,s.heap.get? b=some o->(s.heap.push i).get? b=some o:=λb o e=>Wa _ e;have q:lL w (s.heap.push i) a es:=let⟨o,I,t,e,r⟩:=H;⟨o,I,t,R _ _ e,r⟩;have p:s.heap.objs.size≠a:=(WG v).symm;have N:(s.heap.push i).get? s.heap.objs.size=some i:=Ww _ (by rw[<-u];rfl);show wpAny _ A.in1 (Builtin.List.listExtendWith (.ref s.heap.objs.size) (.ref a) (.ref s.heap.objs.size)) _ _ {s with heap:=s.heap.push i};unfold Builtin.List.listExtendWith;refine V8 (YD (s:={s with heap:=s.heap.push i}) (lL.type (s:={s with heap:=s.heap.push i}) q) ?_);have e1:Builtin.List.listSameRef (.ref s.heap.objs.size) (.ref a)=false:=by simp[Builtin.List.listSameRef,p]
 have Z:(Value.type "set"==Value.type "list")=false:=by decide
 have Y:(Value.type "set"==Value.type "tuple")=false:=by decide
 simp only[e1,Z,Y,Z5,WA,Xx];refine V8 (JE (s:={s with heap:=s.heap.push i}) q λm d J I t vs L U hp st=>?_);refine V8 (WU ?_);have O:lL w m a es:=let⟨o,I,t,e,r⟩:=q;⟨o,I,t,L _ _ e,r⟩;have n:Shared.TypeIs {s with heap:=m,drawn:=d} (.ref a) "set":=lL.type (s:={s with heap:=m,drawn:=d}) O;unfold Builtin.List.listLengthHint;refine V8 (X9 n tj ?_);dsimp only;rw[vn];dsimp only;refine V8 (X1 n sub_set_set ?_);simp only[XF,WA,Xx];refine wpAny_of_eq' (Wg (by decide+kernel)) ?_;refine V8 (YD n (Wb ?_));have f:m.get? s.heap.objs.size=some {cls:=.type "list",data:=.seq ([]:List Value).toArray}:=by rw[u];exact L _ _ N
 have g:s.heap.objs.size < J:=by
  have:=U;rw[show(s.heap.push i).objs.size=s.heap.objs.size+1 from Xd _ _] at this;exact this
 have x:vs.length=es.size:=by have:=hp.length_eq;simpa using this
 refine wpAny_of_eq' (Wg (by decide+kernel)) (V8 (XG (V8 ?_)));show wpAny _ A.in1 (updateSeq s.heap.objs.size (·.push .none) >>=λ_=>updateSeq s.heap.objs.size (·.pop)) _ _ _;refine V8 (AaV (s:={s with heap:=m,drawn:=d}) f rfl ?_);have k:=XZ (Obj.mapSeq (·.push Value.none)) f rfl;refine AaV k rfl ?_;have y:=XZ (Obj.mapSeq (·.pop)) k rfl;have j:∀b o,b≠s.heap.objs.size->m.get? b=some o->((m.update s.heap.objs.size (Obj.mapSeq (·.push Value.none))).update s.heap.objs.size (Obj.mapSeq (·.pop))).get? b=some o:=
  λb o C e=>(Yd _ _ (Xy C)).trans ((Yd _ _ (Xy C)).trans e)
 have c:∃S,((m.update s.heap.objs.size (Obj.mapSeq (·.push Value.none))).update s.heap.objs.size (Obj.mapSeq (·.pop))).get? s.heap.objs.size=some {cls:=.type "list",dict:=none,data:=.seq (vs.take 0).toArray S,slots:=#[]}:=⟨_,y⟩;obtain⟨c4,c⟩:=c;refine Wb ⟨X2 Zk _,EZ (A:=A) hh (WG g) p (λz=>?_) (by rw[x];exact M) vs.length 0 _ c4 rfl (WL _) (st.off f rfl (WG g) p j) c λh' S T G=>?_⟩
 ·rw[z] at g;exact Nat.lt_asymm g v
 ·show wpAny _ A (load s.heap.objs.size >>=_) _ _ _;refine V8 (wpAny_load G (Wb ?_));refine h h' d vs (Yw (Wu G)) (λb o e=>?_) hp;have C:b≠s.heap.objs.size:=WG (Wu e);exact T b o C (WG (ZF (Wu e) g)) (j b o C (L b o (R b o e)))
end
end L2
namespace L2
open PyProof.Rows PySem.SeqAt
def wA{prog:Program}{w:World}{A:Around}{E:Value->Shared->Prop}{s:Shared}(a:Value){Q₁:Value->Shared->Prop}
  (h:Q₁ (.ref s.heap.objs.size) {s with heap:=s.heap.push {cls:=.type "set",dict:=none,data:=.set #[] 0 (.fresh 0 0 (!w.params.followText "set-order"))}}):
  codeAny (model prog w) A (.call (.builtin "set.__new__") ⟨[.type "set",a],[]⟩) (wants Q₁ E) s:=by
 refine AaW ?_;show wpAny _ A.in1 (do checkBuiltinCall "set.__new__" ⟨[.type "set",a],[]⟩;again (.builtin "set.__new__" ⟨[.type "set",a],[]⟩)) _ _ s;refine V8 (wpAny_of_eq (F.newCall_set_1 a) (Wb ⟨X2 F.plain_set_new _,Xs F.entry_set_new ?_⟩));rw[Xe F.plain_set_new _];unfold Builtin.«set.__new__» Builtin.Frozenset.newClass;have b:=sub_set_self;obtain⟨hp,g,d,c,os⟩:=s;dsimp only
 wp_walk
 refine Yg (Wb ?_);dsimp only;simp only[newObj];refine V8 (wpAny_alloc (Wb ?_));exact Wb h
structure JL(P:Program)(w:World)(A:Around)(h₀:Heap)(S:Addr)(items:Array Value)(J:Nat->Heap->Prop):Prop where
 frame:∀(i:Nat)(h h':Heap),(∀o,h.get? S=some o->h'.get? S=some o)->J i h->J i h'
 fresh:∀(h:Heap),h.get? S=some {cls:=.type "set",dict:=none,data:=.set #[] 0 (.fresh 0 0 (!w.params.followText "set-order"))}->J 0 h
 step:∀(i:Nat)(v:Value)(s:Shared)(E:Value->Shared->Prop)(Q:Bool->Shared->Prop),items[i]?=some v->J i s.heap->(∀b o,h₀.get? b=some o->s.heap.get? b=some o)->
  (∀r h' tk,s.toks<=tk->Heap.SameBut S s.heap h'->J (i+1) h'->Q r {s with heap:=h',toks:=tk})->wpAny (model P w) A (setAdd S v) Q E s
def EY{A:Around}{R:Result->Shared->Prop}{I:Addr}{fp g:List Addr}{G:Array GenState->Array GenState->Prop}{items:Array Value}{St:Nat->Shared->Prop}{h₀:Heap}{S:Addr}{J:Nat->Heap->Prop}
  (W:WalksS P w A.in1 I fp g G items.size (λi v=>items[i]?=some v) St) (q:S∉fp) (D:JL P w A.in1 h₀ S items J) (y:∀b∈g,h₀.get? b=none) (C:h₀.get? S=none):
  ∀(k i:Nat)(s:Shared),items.size-i=k->i<=items.size->St i s->J i s.heap->(∀b o,h₀.get? b=some o->s.heap.get? b=some o)->
   (∀s',Moved (S::g) G s s'->J items.size s'.heap->R (.ok (.ret .none)) s')->
   codeAny (model P w) A (.builtin "set.update.loop" ⟨[.ref S,.ref I],[]⟩) R s:=by
 have p:S∉g:=λh=>q (W.sub _ h);have a:∀b∈g,b∈S::g:=λb f=>Wf _ f;intro k
 induction k with
 | zero=>
  intro i s Q T c M N E;have z:i=items.size:=by lia
  subst z;refine Xs F.entry_set_update_loop ?_;rw[Xe Aak _];show wpAny _ A.in1 (pyNext (.ref I) >>=_) _ _ s;refine V8 (W.done s _ _ c λs' hm=>?_);show wpAny _ A.in1 (ret Value.none) _ _ s';exact Wb (E s' (hm.mono a) (D.frame _ _ _ (λo e=>hm.heap S o p e) M))
 | succ k O=>
  intro i s Q T c M N E;have n:i < items.size:=by lia
  refine Xs F.entry_set_update_loop ?_;rw[Xe Aak _];show wpAny _ A.in1 (pyNext (.ref I) >>=_) _ _ s;refine V8 (W.item i s _ _ n c λv s' U l hm=>?_);have L:=D.frame i s.heap s'.heap (λo e=>hm.heap S o p e) M;have u:∀b o,h₀.get? b=some o->s'.heap.get? b=some o:=λb o e=>hm.heap b o (λf=>by rw[y b f] at e;cases e) (N b o e);show wpAny _ A.in1 (holding [v] (setAdd S v) >>=_) _ _ s';refine V8 (WU (D.step i v s' _ _ U L u λr Y X j d H=>?_));refine Wb ⟨X2 Aak _,O (i+1) _ (by lia) n (W.frame _ s' _ _ l j λb f o e=>?_) H (λb o e=>?_) λx m t=>?_⟩
  ·rw[d.2 b (λh:b=S=>q (by rw[<-h];exact f))];exact e
  ·rw[d.2 b (λh:b=S=>by rw[h,C] at e;cases e)];exact u b o e
  ·refine E x (Moved.trans W.gtrans ((hm.mono a).then_heap j λb o f e=>?_) m) t;rw[d.2 b (λh:b=S=>f (by rw[h];exact We))];exact e
set_option maxHeartbeats 3200000 in
def uZ{l:Addr}{items:Array Value}{J:Nat->Heap->Prop}{Q:Value->Shared->Prop}
  (hh:A.handled=none) (hl:s.heap.IsList l items) (D:∀Z:Around,Z.handled=none->Z.units<=A.units+8->JL P w Z s.heap s.heap.objs.size items J)
  (h:∀(h':Heap)(I:Nat),J items.size h'->(∀b o,b < s.heap.objs.size->s.heap.get? b=some o->h'.get? b=some o)->Q (.ref s.heap.objs.size) {s with heap:=h',toks:=I}):
  wpAny (model P w) A (call (.type "set") [.ref l]) Q E s:=by
 obtain⟨c,tl,hmro⟩:=YT.mro;have O:=YT.made;have hsub:=YT.sub;refine wpAny_call (AaW ?_);show wpAny _ _ (callAny (.type "set") _) _ _ _;refine Wb ⟨Code.quiet_builtin _ (by decide+kernel),Xs F.entry_type_call ?_⟩;rw[Around.under_plain (weight_type_call_type "set" [.ref l] []) rfl];have h1:=YT.notType;have h2:=YT.canCreate;have hct:=F.typeCall_set_1 (.ref l)
 repeat(any_goals (first | assumption | wp_step))
 refine Zm (wA (.ref l) (E:=E) (Q₁:=λobj i=>∃led:Bool,led=(!w.params.followText "set-order")/\obj=.ref s.heap.objs.size/\i={s with heap:=s.heap.push {cls:=.type "set",dict:=none,data:=.set #[] 0 (.fresh 0 0 led)}}) ⟨_,rfl,rfl,rfl⟩) λr i hr=>?_;cases r with
 | error e=>exact hr
 | ok fl=>
  cases fl with
  | ret obj=>
   obtain⟨led,x,rfl,rfl⟩:=hr;have hS:(s.heap.push {cls:=.type "set",dict:=none,data:=.set #[] 0 (.fresh 0 0 led)}).get? s.heap.objs.size=some {cls:=.type "set",dict:=none,data:=.set #[] 0 (.fresh 0 0 led)}:=Ww _ rfl;have hT:Shared.TypeIs {s with heap:=s.heap.push {cls:=.type "set",dict:=none,data:=.set #[] 0 (.fresh 0 0 led)}} (.ref s.heap.objs.size) "set":=⟨_,hS,rfl⟩;have hli:=YT.init.lookup;have hbi:=YT.init.bind (.ref s.heap.objs.size)
   repeat(any_goals (first | assumption | wp_step))
   refine Zm (codeAny_call_builtin (R:=wants (λr g=>r=.none/\∃h' I,g={s with heap:=h',toks:=I}/\J items.size h'/\
     (∀b o,b < s.heap.objs.size->s.heap.get? b=some o->h'.get? b=some o)) E) YT.init.plain F.entry_set_init (check_set_init_1 hT ?_)) λp g d=>?_
   ·obtain⟨ol,u,H,nl,G⟩:=hl;obtain⟨ocls,j,N,f⟩:=ol;simp only at H G;subst H;subst G;have t:(s.heap.push {cls:=.type "set",dict:=none,data:=.set #[] 0 (.fresh 0 0 led)}).get? l=some {cls:=.type "list",dict:=j,data:=.seq items nl,slots:=f}:=Wa _ u;have hsls:=F.sub_list_set;have hslf:=F.sub_list_frozenset;have hne:(Value.type "list"==Value.type "dict")=false:=by decide
    have z:(s.heap.push {cls:=.type "set",dict:=none,data:=.set #[] 0 (.fresh 0 0 led)}).IsList l items:=⟨_,t,rfl,nl,rfl⟩;unfold Builtin.«set.__init__» noKeywords Builtin.Frozenset.updateFrom;generalize Y:pyIter=PI
    wp_walk
    subst Y;refine YM z ?_;refine V8 (wpAny_runValue ?_);have y:l < s.heap.objs.size:=Wu u;have C:A.in1.in1.in1.handled=none:=by simp[hh]
    have v:l≠(s.heap.push {cls:=.type "set",dict:=none,data:=.set #[] 0 (.fresh 0 0 led)}).objs.size:=by
     rw[Xd];exact WG (Zl y)
    have X:s.heap.objs.size∉[(s.heap.push {cls:=.type "set",dict:=none,data:=.set #[] 0 (.fresh 0 0 led)}).objs.size,l]:=by
     rw[Xd];simp only[Ws,Wr,YL,ZN,not_or];exact⟨WG (Yb _),ZE y⟩
    have a:∀b,s.heap.objs.size<=b->s.heap.get? b=none:=λb k=>by
     cases q:s.heap.get? b with
     | none=>rfl
     | some o=>exact absurd (Wu q) (Nat.not_lt.mpr k)
    refine EY ((Walks.list C _ l v items).toS) X (D _ C (by simp only[YU];lia)) (λb k=>?_) (a _ (Wj _)) (items.size-0) 0 _ (by lia) (WL _)
     ⟨⟨_,Ww _ rfl,rfl,rfl⟩,(z.push _)⟩ ?hS0 ?hK ?hR
    ·rw[Wr] at k;subst k;exact a _ (by rw[Xd];lia)
    case hS0=>
     exact(D A hh (by lia)).fresh _ (by rw[<-x];exact Wa _ hS)
    case hK=>
     intro b o e;exact Wa _ (Wa _ e)
    case hR=>
     intro s' hm m;obtain⟨h',g',d',L,M⟩:=s';have eg:g'=s.gens:=hm.gens;have ed:d'=s.drawn:=hm.drawn;have eo:M=s.os:=hm.os;subst eg;subst ed;subst eo;show wpAny _ _ _ _ _ _;refine Wb ?_;show wpAny _ _ (ret Value.none) _ _ _;refine Wb ⟨rfl,h',L,rfl,m,λb o k e=>?_⟩;have U:b≠s.heap.objs.size:=WG k;have T:b≠(s.heap.push {cls:=.type "set",dict:=none,data:=.set #[] 0 (.fresh 0 0 led)}).objs.size:=by
      rw[Xd];exact WG (Zl k)
     exact hm.heap b o (by simp only[Ws,Wr,YL,ZN,not_or];exact⟨U,T⟩) (Wa _ (Wa _ e))
   ·cases p with
    | error e=>exact d
    | ok n=>
     cases n with
     | ret r=>
      obtain⟨rfl,h',I,rfl,m,S⟩:=d
      repeat(any_goals (first | assumption | wp_step))
      exact h _ _ m S
     | _=>exact d.elim
  | _=>exact hr.elim
end L2
namespace L2
open PyProof.Rows
section
variable {P:Program} {w:World} {A:Around} {E:Value->Shared->Prop} {s:Shared} {a:Addr} {ks:List Int}
end
end L2
namespace Sm
open L2 PyProof.Rows
end Sm
namespace L2
open PyProof.Rows
end L2
namespace Sm
open L2 PyProof.Rows
end Sm
namespace L2
open PyProof.Rows PySem.SeqAt
noncomputable def PJ:Nat->PyData->Nat
 | n+1,.tuple xs=>(xs.map (PJ n)).sum+1
 | _,_=>1
section
variable {P:Program} {w:World} {E:Value->Shared->Prop}
def Cs:∀(n:Nat) {A:Around} {s:Shared} {d:PyData} {v:Value} {as:List Addr} {Q:Int->Shared->Prop},A.units+n < cLine->b4 n d=true->Reads s.heap v d as->Q (dQ w n d) {s with toks:=s.toks+PJ n d}->
  wpAny (model P w) A (pyHash v) Q E s:=by
 have j:∀(n:Nat) {A:Around} {s:Shared} {d:PyData} {v:Value} {as:List Addr} {Q:Int->Shared->Prop},(∀c,d≠.tuple c)->b4 n d=true->Reads s.heap v d as->Q (dQ w n d) {s with toks:=s.toks+PJ n d}->wpAny (model P w) A (pyHash v) Q E s:=by
  intro n A s d v as Q f hp hr h;cases hr with
  | int i t=>exact(bg P w).pyHash (k:=.inl i) (k7 P w i t) (by cases n <;> exact h)
  | str x t=>exact(bg P w).pyHash (k:=.inr x) (kZ P w x t) (by cases n <;> exact h)
  | tuple=>exact absurd rfl (f _)
  | none=>cases n <;> simp[b4] at hp
  | bool=>cases n <;> simp[b4] at hp
  | list=>cases n <;> simp[b4] at hp
  | dict=>cases n <;> simp[b4] at hp
 intro n
 induction n with
 | zero=>
  intro A s d v as Q J hp hr h;exact j 0 (λc e=>by subst e;simp[b4] at hp) hp hr h
 | succ n I=>
  intro A s d v as Q J hp hr h
  by_cases f:∀c,d≠.tuple c
  ·exact j (n+1) f hp hr h
  ·have:∃c,d=.tuple c:=XC λz=>f λc e=>z ⟨c,e⟩;obtain⟨c,rfl⟩:=this;cases hr with
   | @tuple a o N m _ _ H L hd r=>
    have y:s.TypeIs (.ref a) "tuple":=⟨o,H,L⟩;have p:c.all (b4 n)=true:=hp;unfold pyHash
    first | unfold pyHashByItsType | skip
    first | refine V8 (wpAny_cRoomFor_or (.inr (by lia)) ?_) | skip
    refine V8 (X9 y XT.lookup ?_);show wpAny _ _ (if(some (Value.builtin "tuple.__hash__")==some Value.none)=true then _ else _) Q E s;rw[Wh (by rw[beq_builtin_none];exact WR)];refine V8 (X9 y XT.lookup ?_);show wpAny _ _ (callSpecialIfBoundUnlessNone? (.ref a) "__hash__" _ >>=_) Q E s;refine V8 (Z7 y XT (W3 XT y F.entry_tuple_hash ?_ (F.args_tuple_hash_1 _)));show wpAny _ _ (Builtin.Tuple.tupleItemsOf (.ref a) >>=_) _ _ s;refine V8 (Aar H hd ?_);refine V8 ?_;rw[<-Yc];refine Yy _
     (λg (b:Array Int) C=>∃done left l,c=done++left/\ReadsAll s.heap g left l/\b.toList=done.map (dQ w n)/\C={s with toks:=s.toks+(done.map (PJ n)).sum})
     _ ?_ ?_ _ _ ⟨[],c,_,rfl,r,rfl,rfl⟩
    ·rintro x g b C ⟨done,left,l,e,hl,u,rfl⟩;cases hl with
     | @cons _ _ d1 ds bs cs M q=>
      have G:b4 n d1=true:=by
       rw[XH] at p;exact p d1 (by rw[e];simp)
      refine V8 (I (A:=A.in1) (s:={s with toks:=s.toks+(done.map (PJ n)).sum}) (by rw[YU];lia) G M ?_)
      first
       | exact Wb ⟨done++[d1],ds,_,by rw[e];simp,q,by simp[u],by simp[YA]⟩
       | exact V8 (Wb (Wb ⟨done++[d1],ds,_,by rw[e];simp,q,by simp[u],by simp[YA]⟩))
    ·rintro b C ⟨done,left,l,e,hl,u,rfl⟩;cases hl;rw[Xb] at e;subst e;show wpAny _ _ (retInt (Builtin.Tuple.tupleHashOf b.toList)) _ _ _;rw[u];refine wpAny_ret_mkInt ?_;show wpAny _ _ (if(decide (-(2:Int)^63<=Builtin.Tuple.tupleHashOf (c.map (dQ w n)))&&decide (Builtin.Tuple.tupleHashOf (c.map (dQ w n)) < 2^63))=true then _ else _) Q E _;unfold dQ reduceHash PJ at h
     by_cases hr:(decide (-(2:Int)^63<=Builtin.Tuple.tupleHashOf (c.map (dQ w n)))&&decide (Builtin.Tuple.tupleHashOf (c.map (dQ w n)) < 2^63))=true
     ·rw[Wg hr];rw[Wg hr] at h;exact Wb (by simpa [YA] using h)
     ·rw[Wh hr];rw[Wh hr] at h;exact V8 (XG (Wb (by simpa [YA] using h)))
end
def eqv_refl:∀(n:Nat) {d:PyData},b4 n d=true->PyData.eqv d d=true:=by
 intro n
 induction n with
 | zero=>intro d h;cases d <;> simp[b4] at h <;> simp[PyData.eqv]
 | succ n c=>
  intro d h;cases d <;> simp[b4] at h <;> simp[PyData.eqv]
  rename_i b;have:∀l:List PyData,(∀x∈l,b4 n x=true)->PyData.eqvAll l l=true:=by
   intro l
   induction l with
   | nil=>intro _;simp[PyData.eqvAll]
   | cons x r a=>intro hl;simp[PyData.eqvAll,c (hl x (by simp)),a λy e=>hl y (by simp[e])]
  exact this b h
noncomputable local instance:DecidableEq PyData:=λa b=>Classical.propDecidable _
def JK(h:Heap)(k:PyData)(a:Addr):Prop:=b4 8 k=true/\∃as,Reads h (.ref a) k as
def yi(P:Program)(w:World):HeapKind P w PyData where
 is:=JK
 hash:=dQ w 8
 draws:=PJ 8
 room:=λA=>A.units+8 < cLine
 inj:=λ{h a x y} ⟨p,_,r⟩ ⟨_,_,c⟩=>Reads.unique x y _ _ _ (sE 8 p).1 r c
 keeps:=λ{h t k a d o es u} ⟨p,as,r⟩ j hd i=>⟨p,as,t6 (λb n l m e q=>by
  by_cases z:b=d
  ·subst z;rw[j] at e;cases e;rw[hd] at q;cases q
  ·exact(i.2 b z).trans e) 8 p r⟩
 pyHash:=λf ⟨p,_,r⟩ h=>Cs 8 f p r h
 eqBool:=λ{A E s x y a b Q} f ⟨p,_,r⟩ ⟨g,_,c⟩ h=>AL 8 f p g r c (by
  have:PyData.eqv x y=decide (x=y):=by
   by_cases z:x=y
   ·subst z;rw[eqv_refl 8 p,WI rfl]
   ·rw[WD z];cases q:PyData.eqv x y with
    | false=>rfl
    | true=>exact absurd (sD 8 p g q) z
  rw[this];exact h)
 quiet:=λ⟨p,_,r⟩ h=>kP 8 p r h 8 (Wj _)
end L2
namespace L2
open PyProof.Rows PySem.W
abbrev aq:=Str×Int
noncomputable def mj(a b:aq):Bool:=decide (a.1.cps.toList < b.1.cps.toList)||(decide (a.1=b.1)&&decide (a.2 < b.2))
noncomputable def runK{b:Type}(lt:Nat->Nat->Bool):KasT b->b
 | .ret a=>a
 | .ask i j k=>runK lt (k (lt i j))
noncomputable def FN{a:Type}(n:Nat):KasT a->Bool
 | .ret _=>true
 | .ask i j k=>decide (i < n)&&decide (j < n)&&FN n (k true)&&FN n (k false)
theorem Hb{d:Type}{n:Nat}{c:Nat->Nat->(Bool->Shared->Prop)->Shared->Prop}{lt:Nat->Nat->Bool}{s:Shared}(e:∀i j C,i < n->j < n->C (lt i j) s->c i j C s){Q:d->Shared->Prop}:∀(t:KasT d),FN n t=true->Q (runK lt t) s->t.kasWp c Q s
 | .ret a,_,h=>h
 | .ask i j k,b,h=>by
  have b:(decide (i < n)&&decide (j < n)&&FN n (k true)&&FN n (k false))=true:=b;simp only[WC,XD] at b;refine e i j _ b.1.1.1 b.1.1.2 ?_;refine Hb e (k (lt i j)) ?_ h;cases lt i j with
  | true=>exact b.1.2
  | false=>exact b.2
noncomputable def Gj(n:Nat):Nat->List (List Nat)
 | 0=>[[]]
 | k+1=>(Gj n k).flatMap λl=>(List.range n).map λx=>x::l
theorem A8{n:Nat}:∀{l:List Nat},(∀x∈l,x < n)->l∈Gj n l.length
 | [],_=>Wr.mpr rfl
 | x::r,h=>List.mem_flatMap.mpr ⟨r,A8 λy a=>h y (Wf _ a),WY.mpr ⟨x,XE.mpr (h x We),rfl⟩⟩
def AB(n:Nat)(l:List Nat):Bool:=!decide l.Nodup||((runK (λi j=>decide (l.getD i 0 < l.getD j 0)) (kas_sort n)).toList.map (λi=>l.getD i 0)==List.range n&&(runK (λi j=>decide (l.getD i 0 < l.getD j 0)) (kas_sort n)).toList.isPerm (List.range n))
def good2:(Gj 2 2).all (AB 2)=true:=by decide+kernel
def good3:(Gj 3 3).all (AB 3)=true:=by decide+kernel
def Sa:(Gj 4 4).all (AB 4)=true:=by decide+kernel
def IB:FN 2 (kas_sort 2)=true/\FN 3 (kas_sort 3)=true/\FN 4 (kas_sort 4)=true:=by decide+kernel
def yG(a:aq):mj a a=false:=by
 unfold mj;rw[WD (List.lt_irrefl _),WD (Int.lt_irrefl _),ZU];rfl
def yH{a b:aq}:mj a b=true↔a.1.cps.toList < b.1.cps.toList\/(a.1=b.1/\a.2 < b.2):=by
 unfold mj;rw[XQ,WC,Yt,Yt,Yt]
def qm{a b c:aq}(h:mj a b=true)(g:mj b c=true):mj a c=true:=by
 rw[yH] at*;rcases h with h |⟨d,e⟩ <;> rcases g with g |⟨g1,g2⟩
 ·exact .inl (List.lt_trans h g)
 ·exact .inl (g1 ▸ h)
 ·exact .inl (d ▸ g)
 ·exact .inr ⟨d.trans g1,Int.lt_trans e g2⟩
def Bo{a b:Str}(h:a.cps.toList=b.cps.toList):a=b:=by
 obtain⟨a⟩:=a;obtain⟨b⟩:=b;have:=Aao.mp h;exact congrArg _ this
def yF{a b:aq}(h:a≠b):mj a b=true\/mj b a=true:=by
 rw[yH,yH]
 by_cases d:a.1.cps.toList < b.1.cps.toList
 ·exact .inl (.inl d)
 by_cases c:b.1.cps.toList < a.1.cps.toList
 ·exact .inr (.inl c)
 have e:a.1=b.1:=Bo (List.le_antisymm (List.not_lt.mp c) (List.not_lt.mp d));rcases Int.lt_trichotomy a.2 b.2 with q | q | q
 ·exact .inl (.inr ⟨e,q⟩)
 ·exact absurd (Prod.ext e q) h
 ·exact .inr (.inr ⟨e.symm,q⟩)
def Io{a b:aq}(h:mj a b=true)(g:mj b a=true):False:=by
 have:=qm h g;rw[yG] at this;cases this
def FK(k:aq):List aq->List aq
 | []=>[k]
 | x::r=>if mj k x then k::x::r else x::FK k r
def kz:List aq->List aq
 | []=>[]
 | k::r=>FK k (kz r)
theorem qt(k:aq):∀l:List aq,(FK k l).Perm (k::l)
 | []=>.refl _
 | x::r=>by
  unfold FK
  split
  ·exact .refl _
  ·exact((qt k r).cons x).trans (.swap ..)
theorem eF:∀l:List aq,(kz l).Perm l
 | []=>.refl _
 | k::r=>(qt k _).trans ((eF r).cons k)
theorem qT{k:aq}:∀{l:List aq},k∉l->l.Pairwise (λa b=>mj a b=true)->(FK k l).Pairwise λa b=>mj a b=true
 | [],_,_=>List.pairwise_singleton _ _
 | x::r,f,h=>by
  rw[Zg] at h;have e:k≠x:=λz=>f (z ▸ We);unfold FK
  by_cases c:mj k x=true
  ·rw[Wg c];refine Zg.mpr ⟨λy d=>?_,Zg.mpr h⟩;rcases Ws.mp d with rfl | d
   ·exact c
   ·exact qm c (h.1 y d)
  ·rw[Wh c];refine Zg.mpr ⟨λy d=>?_,qT (λz=>f (Wf _ z)) h.2⟩;rcases Ws.mp ((qt k r).mem_iff.mp d) with rfl | d
   ·exact(yF e).resolve_left c
   ·exact h.1 y d
theorem kq:∀{l:List aq},l.Nodup->(kz l).Pairwise λa b=>mj a b=true
 | [],_=>.nil
 | k::r,h=>by
  rw[X3] at h;exact qT (λz=>h.1 ((eF r).mem_iff.mp z)) (kq h.2)
def Dc{ks l:List aq}(hp:l.Perm ks)(c:l.Pairwise λa b=>mj a b=true)(nd:ks.Nodup):l=kz ks:=
 List.Perm.eq_of_pairwise (λa b _ _ x y=>(Io x y).elim) c (kq nd) (hp.trans (eF ks).symm)
noncomputable def se:aq:=(Str.ofString "",0)
def JO(ks:List aq)(i:Nat):Nat:=(ks.filter λk=>mj k (ks.getD i se)).length
theorem filter_le{a:Type}{p q:a->Bool}:∀{l:List a},(∀x∈l,p x=true->q x=true)->(l.filter p).length<=(l.filter q).length
 | [],_=>Wj _
 | x::r,h=>by
  have i:=filter_le (l:=r) λy b=>h y (Wf _ b);have c:=h x We;rw[Y6,Y6];cases hp:p x with
  | true=>rw[Wg rfl,Wg (c hp)];simp only[Wq];lia
  | false=>
   rw[Wh (by simp)]
   split
   ·simp only[Wq];lia
   ·exact i
theorem filter_lt{b:Type}{p q:b->Bool}:∀{l:List b},(∀x∈l,p x=true->q x=true)->(∃y∈l,q y=true/\p y=false)->(l.filter p).length < (l.filter q).length
 | [],_,⟨_,h,_⟩=>by cases h
 | x::r,h,⟨y,a,d,c⟩=>by
  have hr:=λy a=>h y (Wf x a);rw[Y6,Y6];rcases Ws.mp a with rfl | a
  ·rw[c,Wh (by simp),Wg d,Wq];have:=filter_le hr
   lia
  ·have i:=filter_lt hr ⟨y,a,d,c⟩;cases hp:p x with
   | true=>rw[Wg rfl,Wg (h x We hp)];simp only[Wq];lia
   | false=>
    rw[Wh (by simp)]
    split
    ·simp only[Wq];lia
    ·exact i
section
variable {ks:List aq} {i j:Nat}
def JA(hi:i < ks.length):ks.getD i se∈ks:=by
 rw[XM,Wl hi];exact Y5 hi
def sx(hi:i < ks.length)(h:mj (ks.getD i se) (ks.getD j se)=true):JO ks i < JO ks j:=
 filter_lt (λx _ q=>qm q h) ⟨_,JA hi,h,yG _⟩
def Rb(hi:i < ks.length):JO ks i < ks.length:=by
 have:=filter_lt (l:=ks) (p:=λk=>mj k (ks.getD i se)) (q:=λ_=>true) (λ_ _ _=>rfl) ⟨_,JA hi,rfl,yG _⟩;rw[List.filter_eq_self.mpr λ_ _=>rfl] at this;exact this
def Hj(hi:i < ks.length)(a:j < ks.length):decide (JO ks i < JO ks j)=mj (ks.getD i se) (ks.getD j se):=by
 cases c:mj (ks.getD i se) (ks.getD j se) with
 | true=>exact WI (sx hi c)
 | false=>
  refine WD λz=>?_
  by_cases e:ks.getD i se=ks.getD j se
  ·unfold JO at z;rw[e] at z;exact Xz _ z
  ·have:=(yF e).resolve_left (by rw[c];simp);have:=sx a this
   lia
def getD_inj(nd:ks.Nodup)(hi:i < ks.length)(a:j < ks.length)(e:ks.getD i se=ks.getD j se):i=j:=by
 rw[XM,XM,Wl hi,Wl a] at e;exact(Aai hi nd).mp (by rw[Wl hi,Wl a];exact congrArg some e)
def NS(nd:ks.Nodup)(hi:i < ks.length)(b:j < ks.length)(e:JO ks i=JO ks j):i=j:=by
 refine XC λz=>?_;have a:ks.getD i se≠ks.getD j se:=λq=>z (getD_inj nd hi b q);rcases yF a with q | q
 ·have:=sx hi q;lia
 ·have:=sx b q;lia
end
def nY(ks:List aq):List Nat:=(List.range ks.length).map (JO ks)
def x4{ks:List aq}{i:Nat}(hi:i < ks.length):(nY ks).getD i 0=JO ks i:=by
 unfold nY;rw[XM,Wt,Yn hi];rfl
theorem tH{c:Type}{n:Nat}{f g:Nat->Nat->Bool}(h:∀i j,i < n->j < n->f i j=g i j):∀t:KasT c,FN n t=true->runK f t=runK g t
 | .ret a,_=>rfl
 | .ask i j k,b=>by
  have b:(decide (i < n)&&decide (j < n)&&FN n (k true)&&FN n (k false))=true:=b;simp only[WC,XD] at b;show runK f (k (f i j))=runK g (k (g i j));rw[h i j b.1.1.1 b.1.1.2];refine tH h _ ?_;cases g i j with
  | true=>exact b.1.2
  | false=>exact b.2
def rL(ks:List aq):List Nat:=(runK (λi j=>mj (ks.getD i se) (ks.getD j se)) (kas_sort ks.length)).toList
def OO{ks:List aq}(nd:ks.Nodup)(t:2<=ks.length)(s:ks.length<=4):(rL ks).map (λi=>ks.getD i se)=kz ks/\(∀i∈rL ks,i < ks.length)/\(rL ks).length=ks.length/\FN ks.length (kas_sort ks.length)=true:=by
 have hl:(nY ks).length=ks.length:=by unfold nY;rw[Wc,WK]
 have hm:nY ks∈Gj ks.length ks.length:=by
  have:=A8 (n:=ks.length) (l:=nY ks) λx p=>by
   obtain⟨i,d,rfl⟩:=WY.mp p;exact Rb (XE.mp d)
  rw[hl] at this;exact this
 have vh:(nY ks).Nodup:=by
  unfold nY;rw[List.nodup_iff_pairwise_ne,Aag];refine AaM (λ{a b} k f q z=>q (NS nd (XE.mp k) (XE.mp f) z)) List.nodup_range
 have c:AB ks.length (nY ks)=true/\FN ks.length (kas_sort ks.length)=true:=by
  obtain e | e | e:ks.length=2\/ks.length=3\/ks.length=4:=by lia
  ·rw[e] at hm ⊢;exact⟨XH.mp good2 _ hm,IB.1⟩
  ·rw[e] at hm ⊢;exact⟨XH.mp good3 _ hm,IB.2.1⟩
  ·rw[e] at hm ⊢;exact⟨XH.mp Sa _ hm,IB.2.2⟩
 have g:=c.1;unfold AB at g;rw[WI vh,XF,AaN,WC] at g;have r:runK (λi j=>decide ((nY ks).getD i 0 < (nY ks).getD j 0)) (kas_sort ks.length)=runK (λi j=>mj (ks.getD i se) (ks.getD j se)) (kas_sort ks.length):=
  tH (n:=ks.length) (λi j d o=>by rw[x4 d,x4 o,Hj d o]) _ c.2
 rw[r] at g;have g1:(rL ks).map (λi=>(nY ks).getD i 0)=List.range ks.length:=eq_of_beq g.1;have m:(rL ks).Perm (List.range ks.length):=List.isPerm_iff.mp g.2;have g2:∀i∈rL ks,i < ks.length:=λi d=>XE.mp (m.mem_iff.mp d);have g3:(rL ks).length=ks.length:=by have:=congrArg List.length g1;rw[Wc,WK] at this;exact this
 have pw:(rL ks).Pairwise λa b=>(nY ks).getD a 0 < (nY ks).getD b 0:=by
  have:=List.pairwise_lt_range (n:=ks.length);rw[<-g1,Aag] at this;exact this
 have pl:((rL ks).map λi=>ks.getD i se).Pairwise λa b=>mj a b=true:=by
  rw[Aag];refine AaM (λ{a b} k f q=>?_) pw;rw[x4 (g2 a k),x4 (g2 b f)] at q;rw[<-Hj (g2 a k) (g2 b f)];exact WI q
 refine⟨Dc ((m.map _).trans (.of_eq ?_)) pl nd,g2,g3,c.2⟩;refine Yk λi=>?_;rw[Wt]
 by_cases h:i < ks.length
 ·rw[Yn h,Wl h,XO,XM,Wl h];rfl
 ·rw[WO (by simpa using h),WO (by simpa using h)];rfl
def fe(h:Heap)(v:Value)(k:aq):Prop:=∃b o m t u,v=.ref b/\h.get? b=some o/\o.cls=.type "tuple"/\o.data=.seq #[.str k.1 t,.int k.2 u] m
abbrev fW(h:Heap):List Value->List aq->Prop:=Paired λv k=>fe h v k
section
variable {P:Program} {w:World} {A:Around} {E:Value->Shared->Prop} {s:Shared}
def Lf{x y:Value}{k a:aq}{Q:Bool->Shared->Prop}(p:fe s.heap x k)(n:fe s.heap y a)(h:Q (mj k a) s):wpAny (model P w) A (keyLt' (tuples' true) x y) Q E s:=by
 obtain⟨b,o,m,t,u,rfl,r,_,q⟩:=p;obtain⟨F,v,C,l,j,rfl,i,_,g⟩:=n;refine kat_lt r q i g ?_;show KatLex P w A true _ Q [(Value.str k.1 t,Value.str a.1 l),(Value.int k.2 u,Value.int a.2 j)] 0 s;refine kat_cons (eqBool_str (kat_go (λc=>?_) λc=>?_))
 ·have f:k.1=a.1:=eq_of_beq c;have e:¬k.1.cps.toList < a.1.cps.toList:=by rw[f];exact List.lt_irrefl _
  refine kat_yes (kat_cons (wpAny_eqBool_int (kat_go (λd=>?_) λd=>?_)))
  ·have d1:k.2=a.2:=eq_of_beq d;refine kat_yes (kat_nil ?_);have:mj k a=false:=by unfold mj;rw[WD e,d1,WD (Int.lt_irrefl _),ZU];rfl
   rw[this] at h;exact h
  ·refine kat_no (kat_one _ _ (lt_int ?_));have:mj k a=decide (k.2 < a.2):=by unfold mj;rw[WD e,WI f];rfl
   rw[this] at h;exact h
 ·have f:¬k.1=a.1:=λz=>by rw[z,X8] at c;cases c
  refine kat_no (kas_lt_str ?_);have:mj k a=decide (k.1.cps.toList < a.1.cps.toList):=by unfold mj;rw[WD f,Bool.false_and,Z5]
  rw[this] at h;exact h
def fe.keep{h h':Heap}{v:Value}{k:aq}(x:fe h v k)(d:∀b o m its,h.get? b=some o->o.cls=.type "tuple"->o.data=.seq its m->h'.get? b=some o):fe h' v k:=
 let⟨b,o,m,t,u,e,f,c,a⟩:=x
 ⟨b,o,m,t,u,e,d b o m _ f c a,c,a⟩
theorem fW.at_{h:Heap}:∀{vs:List Value} {ks:List aq} {i:Nat},fW h vs ks->i < ks.length->fe h (vs.getD i Value.none) (ks.getD i se)
 | _,_,0,.cons r _,_=>r
 | _,_,i+1,.cons _ t,a=>fW.at_ (i:=i) t (by simpa using a)
theorem fW.of_map{h:Heap}{vs:List Value}{ks:List aq}(x:fW h vs ks):∀{a:List Nat},(∀i∈a,i < ks.length)->fW h (a.map λi=>vs.getD i Value.none) (a.map λi=>ks.getD i se)
 | [],_=>.nil
 | i::r,b=>.cons (x.at_ (b i We)) (fW.of_map x λj c=>b j (Wf _ c))
theorem fW.rp{h:Heap}:∀{vs:List Value} {ks:List aq},fW h vs ks->∃fs,KatTups h vs fs/\fs.length=vs.length/\∀f∈fs,∃x t,f=Value.str x t
 | _,_,.nil=>⟨[],.nil,rfl,λ_ z=>(nomatch z)⟩
 | _,_,.cons ⟨b,o,m,t,u,e,k,j,i⟩ r=>by
  obtain⟨fs,g,d,c⟩:=fW.rp r;subst e;refine⟨_::fs,.cons k j i rfl g,by simp[d],λf a=>?_⟩;rcases Ws.mp a with rfl | a
  ·exact⟨_,_,rfl⟩
  ·exact c f a
def Bq{a:Addr}{vs:List Value}{ks:List aq}{n:Nat}{C:PySem.Fin->Shared->Prop}(F:s.heap.get? a=some (seqObj "list" vs.toArray n))(hp:fW s.heap vs ks)(nd:ks.Nodup)(h4:ks.length<=4)
  (fin:∀out:List Value,fW s.heap out (kz ks)->(∀v∈out,v∈vs)->C (.done (.ret .none)) {s with heap:=sortedHeap s.heap a vs out.toArray}):
  wpAny (model P w) A (Builtin.«list.sort» ⟨[.ref a],[]⟩) C E s:=by
 have c:vs.length=ks.length:=hp.length;have hva:vs.toArray.size=vs.length:=by simp
 have hlt:a < s.heap.objs.size:=Wu F;rw[list_sort_plain];refine V8 (listItems_at F rfl (V8 (listUpdate_at F rfl ?_)));obtain⟨U,d⟩:∃U,(s.heap.update a (Obj.mapSeq λ_=>#[])).get? a=some (seqObj "list" #[] U):=⟨_,get?_update_seq F λ_=>#[]⟩;refine V8 (seqEpoch_at d rfl (V8 (Zs (V8 (wpAny_newList (WU ?_))))));generalize hG:((s.heap.update a (Obj.mapSeq λ_=>#[])).push (seqObj "tuple" vs.toArray 0)).push (seqObj "list" #[] 0)=G;have g:G.get? a=some (seqObj "list" #[] U):=by
  rw[<-hG,ZH _ _ _ (by rw[size_push',ZO];lia),ZH _ _ _ (by rw[ZO];lia)];exact d
 have R:∀b o m t,s.heap.get? b=some o->o.cls=.type "tuple"->o.data=.seq t m->G.get? b=some o:=λb o m t e hc hd=>by
  have hb:=Wu e;have M:b≠a:=λz=>by
   subst z;rw[F] at e;cases e;injection hc with z
   exact absurd z (by decide)
  rw[<-hG,ZH _ _ _ (by rw[size_push',ZO];lia),ZH _ _ _ (by rw[ZO];lia),Heap.get?_update_ne _ _ _ _ M];exact e
 show wpAny (model P w) A _ C E {s with heap:=G};dsimp only
 by_cases J:vs.toArray.size < 2
 ·rw[Wg J,Wg J];refine V8 (Wb ?_);rw[StateT.run_pure];refine V8 (Wb ?_);dsimp only;refine V8 (seqEpoch_at g rfl (V8 (listUpdate_at g rfl ?_ (hsz2:=by rw[Array.size_map];show(pairsOf vs).size<=_;rw[pairsOf_size,XX];lia))));simp only[XI,WA,Xx];refine Wb ?_;have es:kz ks=ks:=by
   match ks,c with
   | [],_=>rfl
   | [_],_=>rfl
   | _::_::_,z=>simp only[Wq] at z;lia
  have:=fin vs (by rw[es];exact hp) λ_ z=>z;unfold sortedHeap at this;rw[hG] at this;have ev:(pairsOf vs).map (·.2)=vs.toArray:=by
   apply Aao.mp;unfold pairsOf;simp;exact List.map_snd_zip (Wj _)
  rw[<-ev] at this;exact this
 ·have S:2<=vs.length:=by lia
  rw[Wh J,Wh J];have h:fW G vs ks:=Paired.imp' (λv k x=>x.keep R) hp;obtain⟨fs,t1,t2,Z⟩:=h.rp;obtain⟨g1,g2,g3,g4⟩:=OO nd (by lia) h4;refine V8 (kat_kind (s:={s with heap:=G}) t1 (by lia) (T:=Value.type "str") (λv L=>?_) (by decide) ?_)
  ·obtain⟨x,u,rfl⟩:=Z v L;exact .now
  rw[show(Value.type "str" !=Value.type "tuple")=true by decide];refine V8 (Xn (kat_run (s:={s with heap:=G}) (ks:=vs) (vs:=vs) (κ:=tuples' true) (Q:=λf l=>l={s with heap:=G}/\(arrOf f).map (·.2)=((rL ks).map λi=>vs.getD i Value.none).toArray/\failedOf f=none) rfl S (by lia) (G:=λp l=>l={s with heap:=G}/\p.toList=rL ks) (λp f l hps O I Y=>⟨Y.1,by rw[kat_snds rfl O,Y.2],I⟩) ?_) (λr l hq=>?_) λ_ _ e=>e)
  case refine_2=>
   obtain⟨⟨⟩,f⟩:=r;obtain⟨rfl,X,I⟩:=hq;dsimp only at X I ⊢;refine V8 (seqEpoch_at g rfl (V8 (listUpdate_at g rfl ?_ (hsz2:=by rw[X,XX];simp;lia))));rw[I];simp only[XI,WA,Xx];refine Wb ?_;have:=fin ((rL ks).map λi=>vs.getD i Value.none) (by rw[<-g1];exact hp.of_map g2) λv L=>by
    obtain⟨i,N,rfl⟩:=WY.mp L;have H:i < vs.length:=by rw[c];exact g2 i N
    rw[XM,Wl H];exact Y5 H
   unfold sortedHeap at this;rw[hG] at this;rw[X];exact this
  ·rw[c];refine Hb (n:=ks.length) (lt:=λi j=>mj (ks.getD i se) (ks.getD j se)) (λi j Q N hj q=>?_) _ g4 ⟨rfl,rfl⟩;exact Lf (s:={s with heap:=G}) (h.at_ N) (h.at_ hj) q
end
end L2
namespace L2
open PyProof.Rows PySem.W PySem.SeqAt
noncomputable def hV(k:aq):PyData:=.tuple [.str k.1,.int k.2]
def p4{k:aq}(h:PyData.strOk k.1=true):b4 8 (hV k)=true:=by simp[hV,b4,h]
def KJ{k c:aq}(h:hV k=hV c):k=c:=by
 unfold hV at h;injection h with h
 injection h with b a
 injection b with b
 injection a with a
 injection a with a
 exact Prod.ext b a
def Vw(w:World)(q:Addr×aq):Int×Value:=(dQ w 8 (hV q.2),.ref q.1)
def rj(w:World)(h:Heap)(a:Addr)(c:List (Addr×aq)):Prop:=
 (c.map (·.2)).Nodup/\∃o es d t,∃b:List (Addr×aq),h.get? a=some o/\o.ExactSet/\o.data=.set es d t/\oW es t/\es.toList=b.map (Vw w)/\b.Perm c/\(t.led=!w.params.followText "set-order")
noncomputable def addQ(a:List (Addr×aq))(b:Addr)(k:aq):List (Addr×aq):=if k∈a.map (·.2) then a else a++[(b,k)]
noncomputable def Lz(ds:List (Addr×aq))(p:Nat)(d:Addr×aq):List (Addr×aq):=ds.take p++d::ds.drop p
def FJ(ds:List (Addr×aq))(p:Nat)(d:Addr×aq):(Lz ds p d).Perm (ds++[d]):=by
 unfold Lz;have a:(ds.take p++d::ds.drop p).Perm (d::(ds.take p++ds.drop p)):=List.perm_middle;rw[ZM] at a;exact a.trans (List.perm_append_singleton d ds).symm
def QA(h:Heap)(a:List (Addr×aq)):Prop:=∀q∈a,PyData.strOk q.2.1=true/\∃as,Reads h (.ref q.1) (hV q.2) as
def LR{es:Array (Int×Value)}(e:es.toList=a.map (Vw w))(hr:QA h a):vg w h 8 es (a.map λq=>hV q.2):=by
 refine⟨by rw[Wc,<-YO,e,Wc],λi x d b hd=>?_⟩;rw[<-XW,e,Wt] at b;rw[Wt] at hd;cases c:a[i]? with
 | none=>rw[c] at hd;cases hd
 | some q=>
  rw[c] at b hd;cases b;cases hd;have hh:=hr q (Wk c);exact⟨p4 hh.1,hh.2,rfl,⟨_,rfl⟩⟩
section
variable {P:Program} {w:World} {A:Around} {E:Value->Shared->Prop} {s:Shared} {a:Addr}
def my{b:Addr}{k:aq}{as:List Addr}{F:List (Addr×aq)}{Q:Bool->Shared->Prop}(hS:rj w s.heap a F)(hr:QA s.heap F)(hu:A.units+8 < cLine)(ok:PyData.strOk k.1=true)(Y:Reads s.heap (.ref b) (hV k) as)(u:F.length<=3)(h:∀r h',Heap.SameBut a s.heap h'->rj w h' a (addQ F b k)->Q r {s with heap:=h'}):wpAny (model P w) A (setAddHashed a (.ref b) (dQ w 8 (hV k))) Q E s:=by
 obtain⟨nd,ob,es,ep,t,p,m,X,g,T,O,f,M⟩:=id hS;have L:vg w s.heap 8 es (p.map λq=>hV q.2):=LR O λq H=>hr q (f.mem_iff.mp H);obtain⟨N,N1,N2,N3⟩:=T.FW (dQ w 8 (hV k));have n:hV k∈(p.map λq=>hV q.2)↔k∈F.map (·.2):=by
  constructor
  ·intro z;obtain⟨q,H,e⟩:=WY.mp z;exact WY.mpr ⟨q,f.mem_iff.mp H,KJ e⟩
  ·intro z;obtain⟨q,H,e⟩:=WY.mp z;exact WY.mpr ⟨q,f.mem_iff.mpr H,by rw[e]⟩
 unfold setAddHashed setAddHashedIn;refine WU (V8 (XS m g T.fits ?_));dsimp only;rw[Wh (by show ¬(byScan (Value.ref b) es=true);unfold byScan Value.scannable;simp)];refine V8 ?_;unfold setSearch;refine Bu m g T L (Wj _) hu (p4 ok) Y rfl N2 N3 N1 (λU=>?_) (λG=>?_) _ 100000 0 none rfl (WL _) (by lia) rfl (λc i d hc=>absurd hc (Xh _))
 ·dsimp only;refine Wb ?_;refine h false s.heap (Heap.SameBut.refl a s.heap) ?_;unfold addQ;rw[Wg (n.mp U)];exact hS
 ·dsimp only;have I:¬k∈F.map (·.2):=λz=>G (n.mpr z);refine V8 (XS m g T.fits ?_);dsimp only;have J:es.size<=3:=by rw[<-L.1,Wc,f.length_eq];exact u
  have v:(t.put (road t (dQ w 8 (hV k)) N).j).1.dummies=t.dummies:=by
   unfold SetTable.put;dsimp only;rw[T.Si];rfl
  have C:∀(l:SetTable),l.mask=t.mask->l.dummies=t.dummies->l.place=SetTable.insertAt t.place (SetTable.below t.place (road t (dQ w 8 (hV k)) N).j) (road t (dQ w 8 (hV k)) N).j->l.led=t.led->
    wpAny (model P w) A (do
     storeSet a (SetTable.insertAt es (SetTable.below t.place (road t (dQ w 8 (hV k)) N).j) (dQ w 8 (hV k),.ref b)) l
     if(!false&&l.tooFull)=true then do
      setRelay a (SetTable.grown (es.size+1))
      pure true
     else pure true) Q E s:=λl m1 m2 m3 m4=>by
   have R:=T.put J (x:=.ref b) N2 N3 ⟨m1,m2,m3⟩;have hsz:=R.le;refine V8 (wpAny_storeSet_of m g ?_ (Aay (by unfold scanBound;lia)));have S:l.tooFull=false:=by
    unfold SetTable.tooFull SetTable.fill;have h1:=R.sz;rw[R.mask,R.Si];simp
    lia
   rw[S,Wh (by simp)];refine Wb (h true _ (Aam s.heap a (Obj.putSet _ l)) ?_);have o:=XZ (Obj.putSet (SetTable.insertAt es (SetTable.below t.place (road t (dQ w 8 (hV k)) N).j) (dQ w 8 (hV k),.ref b)) l) m (by rw[putSet_of _ l g];rfl);rw[putSet_of _ l g] at o;unfold addQ;rw[Wh I];refine⟨?_,_,_,_,_,Lz p (SetTable.below t.place (road t (dQ w 8 (hV k)) N).j) (b,k),o,X,rfl,R,?_,(FJ _ _ _).trans (f.append_right _),m4.trans M⟩
   ·rw[Wv];refine Aah.mpr ⟨nd,by simp,λx hx y Z z=>?_⟩;rw[List.map_singleton,Wr] at Z;subst Z;subst z;exact I hx
   ·rw[SetTable.toList_insertAt,O];unfold Lz;rw[Wv,Wo,AaK,AaL];rfl
  cases hpn:(t.put (road t (dQ w 8 (hV k)) N).j).1.plain with
  | true=>
   rw[Wg rfl];refine V8 (FQ 8 (p4 ok) Y (λbv=>?_) 8);cases bv with
   | true=>exact C _ rfl v rfl rfl
   | false=>exact C _ rfl v rfl rfl
  | false=>
   rw[Wh WR];refine V8 (Wb ?_);exact C _ rfl v rfl rfl
def KI{b:Addr}{k:aq}{as:List Addr}{f:List (Addr×aq)}{Q:Value->Shared->Prop}(l:rj w s.heap a f)(hr:QA s.heap f)(p:A.units+64 < cLine)(ok:PyData.strOk k.1=true)(i:Reads s.heap (.ref b) (hV k) as)(c:f.length<=3)(h:∀h' t,Heap.SameBut a s.heap h'->rj w h' a (addQ f b k)->Q .none {s with heap:=h',toks:=t}):wpAny (model P w) A (call (.builtin "set.add") [.ref a,.ref b]) Q E s:=by
 have n:s.TypeIs (.ref a) "set":=let⟨_,o,_,_,_,_,e,x,_⟩:=l;⟨o,e,x.1⟩;have d:A.in1.units+8 < cLine:=by show A.units+1+8 < cLine;lia
 refine W3 F.slot_set_add n F.entry_set_add ?_ (F.args_set_add_2 _ _);unfold Builtin.«set.add» Builtin.Frozenset.oneOther Builtin.Frozenset.addrOf setAdd;simp only[ZA,bind_assoc,pure_bind];refine V8 (WU (V8 (xk 8 d (p4 ok) i λj=>?_)));refine my (s:={s with toks:=s.toks+j}) l hr d ok i c λr h' m g=>?_;exact Wb ⟨_,rfl,h h' _ m g⟩
def HP{d k:Type}{f:d->k}:∀{vs ws:List k},vs.Perm ws->∀{l:List d},ws=l.map f->∃c:List d,c.Perm l/\vs=c.map f:=by
 intro vs ws h
 induction h with
 | nil=>intro l e;exact⟨l,.refl _,e⟩
 | cons x _ C=>
  intro l e;cases l with
  | nil=>cases e
  | cons y l=>
   rw[Wo] at e;injection e with j b
   obtain⟨c,p,q⟩:=C b;exact⟨y::c,p.cons y,by rw[Wo,j,q]⟩
 | swap x y r=>
  intro l e
  match l,e with
  | [],e=>cases e
  | [_],e=>cases e
  | u::v::l,e=>
   rw[Wo,Wo] at e;injection e with j b
   injection b with b F
   exact⟨v::u::l,.swap ..,by rw[Wo,Wo,j,b,F]⟩
 | trans _ _ i g=>
  intro l e;obtain⟨G,o,m⟩:=g e;obtain⟨z,t,n⟩:=i m;exact⟨z,t.trans o,n⟩
def Fe{h:Heap}{l:List Value}{x:Str}{i:Int}{as:List Addr}(r:ReadsAll h l [.str x,.int i] as):∃t u,l=[.str x t,.int i u]:=by
 cases r with
 | cons e d=>
  cases d with
  | cons c b=>
   cases b;cases e with
   | str x t=>
    cases c with
    | int i u=>exact⟨t,u,rfl⟩
def Fp{h:Heap}{b:Addr}{k:aq}{as:List Addr}(r:Reads h (.ref b) (hV k) as):fe h (.ref b) k:=by
 unfold hV at r;cases r with
 | tuple g f d c=>
  obtain⟨t,u,e⟩:=Fe c;have i:=Aao.mp (show _=(#[Value.str k.1 t,Value.int k.2 u]:Array Value).toList from e);subst i;exact⟨_,_,_,t,u,rfl,g,f,d⟩
def B6{h:Heap}{v:Value}{k f:aq}(x:fe h v k)(y:fe h v f):k=f:=by
 obtain⟨b,o,m,t,u,rfl,i,_,g⟩:=x;obtain⟨q,n,p,l,j,z,d,_,c⟩:=y;cases z;rw[i] at d;cases d;rw[g] at c;injection c with e _
 have:=congrArg Array.toList e;simp at this;exact Prod.ext this.1.1 this.2.1
theorem DE{h:Heap}{c:List (Addr×aq)}(e:∀q∈c,fe h (.ref q.1) q.2):∀{vs:List Value} {ks:List aq},fW h vs ks->(∀v∈vs,v∈c.map λq=>Value.ref q.1)->∃out:List (Addr×aq),vs=out.map (λq=>Value.ref q.1)/\out.map (·.2)=ks/\∀q∈out,q∈c
 | _,_,.nil,_=>⟨[],rfl,rfl,λ_ z=>(nomatch z)⟩
 | _,_,.cons r t,hm=>by
  obtain⟨out,j,i,g⟩:=DE e t λv f=>hm v (Wf _ f);obtain⟨q,b,rfl⟩:=WY.mp (hm _ We);have:=B6 (e q b) r;subst this;refine⟨q::out,by rw[Wo,j],by rw[Wo,i],λx d=>?_⟩;rcases Ws.mp d with rfl | d
  ·exact b
  ·exact g x d
theorem wV{h:Heap}:∀{b:List (Addr×aq)},(∀q∈b,fe h (.ref q.1) q.2)->fW h (b.map λq=>Value.ref q.1) (b.map (·.2))
 | [],_=>.nil
 | q::r,c=>.cons (c q We) (wV λx d=>c x (Wf _ d))
def zF{r:List (Addr×aq)}(hh:A.handled=none)(Z:rj w s.heap a r)(hr:QA s.heap r)(h4:r.length<=4){Q:Value->Shared->Prop}
  (h:∀h' d l n (out:List (Addr×aq)),(∀b o,s.heap.get? b=some o->h'.get? b=some o)->s.heap.objs.size<=l->h'.get? l=some (seqObj "list" (out.map λq=>Value.ref q.1).toArray n)->out.map (·.2)=kz (r.map (·.2))->(∀q∈out,q∈r)->Q (.ref l) {s with heap:=h',drawn:=d}):
  wpAny (model P w) A (call (.builtin "sorted") [.ref a]) Q E s:=by
 obtain⟨nd,o,es,ep,t,S,e,ex,dd,T,J,p,y⟩:=Z;refine Calls.call_function_entry kind_sorted plain_sorted entry_sorted (args_sorted1 _) ?_;unfold Builtin.«sorted»;refine V8 (m:=checkCount "sorted" 1 1 _) (Wb ?_);refine V8 (AQ (A:=A.in1) (es:=es) hh ⟨o,ep,t,e,ex,dd,by have:=T.le;unfold scanBound;lia,T.fits,y,λ_=>T.NT⟩ λi d g C N hp=>?_);rw[J,Y0] at hp;obtain⟨c,U,rfl⟩:=HP (f:=λq:Addr×aq=>Value.ref q.1) hp rfl;have p3:=U.trans p;have u:(c.map (·.2)).Nodup:=(p3.map (·.2)).nodup_iff.mpr nd;have I:c.length<=4:=by rw[p3.length_eq];exact h4
 have M:kz (c.map (·.2))=kz (r.map (·.2)):=Dc ((eF _).trans (p3.map _)) (kq u) nd;have G:∀q∈c,fe i (.ref q.1) q.2:=λq x=>by
  obtain⟨_,as,R⟩:=hr q (p3.mem_iff.mp x);exact(Fp R).keep λb o _ _ z _ _=>N b o z
 refine V8 (wpAny_newList ?_ (by rw[XX,Wc];lia));generalize v:(c.map λq:Addr×aq=>Value.ref q.1)=g;have L:(i.push (seqObj "list" g.toArray 0)).get? i.objs.size=some (seqObj "list" g.toArray 0):=Ww _ rfl;have k:∀q∈c,fe (i.push (seqObj "list" g.toArray 0)) (.ref q.1) q.2:=λq x=>(G q x).keep λb o _ _ z _ _=>Wa _ z;have F:fW (i.push (seqObj "list" g.toArray 0)) g (c.map (·.2)):=by subst v;exact wV k
 show wpAny _ _ _ _ _ {s with heap:=i.push (seqObj "list" g.toArray 0),drawn:=d};refine V8 (WU (W3 slot_list_sort ⟨_,L,rfl⟩ entry_list_sort (Bq (s:={s with heap:=i.push (seqObj "list" g.toArray 0),drawn:=d}) L F u (by rw[Wc];exact I) λout g1 g2=>⟨_,rfl,?_⟩) (args_list_sort _)));obtain⟨j,rfl,Y,X⟩:=DE k g1 (by rw[v];exact g2);have H:i.objs.size < (i.push (seqObj "list" g.toArray 0)).objs.size:=by rw[Xd];exact Yb _
 obtain⟨n,hn⟩:=sortedHeap_at (vs:=g) (out:=(j.map λq:Addr×aq=>Value.ref q.1).toArray) L;refine Wb ⟨_,rfl,h _ d _ n j (λb o e=>?_) C hn (Y.trans M) λq x=>p3.mem_iff.mp (X q x)⟩;have e:=N b o e;have O:=Wu e;rw[sortedHeap_old (WG O) (ZF O H)];exact Wa _ e
end
noncomputable def Bg(w:World)(a:Addr)(b:List (Addr×aq)):HO:=.ext λh=>rj w h a b
def BU(x:rj w h a c):cD j f H h a (Bg w a c):=
 ⟨x,let⟨_,o,_,_,_,_,e,_⟩:=x;⟨o,e⟩,λi g y k=>let⟨q,o,es,d,t,b,e,r⟩:=y;⟨q,o,es,d,t,b,k o e,r⟩⟩
def Fq:Mp X (newSet (.type "set")) (λl=>Bg X.w l []):=λc s d H Q E I h=>by
 unfold newSet setsByText;refine V8 (V8 (Yg (Wb ?_)));dsimp only;refine Xc (h _ s.toks (I.laid (a:=s.heap.objs.size) (t':=s.toks) (λ_ _ q=>Wa _ q) (Wj _) (BU ⟨.nil,_,#[],0,_,[],Ww _ rfl,⟨rfl,rfl,rfl⟩,rfl,?_⟩)));refine⟨⟨rfl,rfl,λi j b=>absurd b (Xh _),rfl,WL _,λi j e b=>?_⟩,rfl,.refl _,rfl⟩;exact absurd b (by simp[SetTable.fresh])
def Ml(K:FR)(H:Hp)(q:Addr×aq):Prop:=PyData.strOk q.2.1=true/\CS K H (.ref q.1) (hV q.2)
def Hl(I:Inv X pins σ H s)(h:∀q∈b,Ml X.K H q):QA s.heap b:=λq a=>⟨(h q a).1,(h q a).2.reads I rfl⟩
def Nv(K:FR)(w:World)(te:TE)(l:Addr):TK:=λd H N=>te d H λx c=>∃a b k,c l=some (Bg w l a)/\x=.ref b/\Ml K c (b,k)/\(∀q∈a,Ml K c q)/\a.length<=3/\N d (upd c l (Bg w l (addQ a b k)))
def KQ{B:Cx}{f:Expr}{te:TE}{l:Addr}(r:B.A.units+64 < cLine)(v:PE B f te):PM B (emitSet f (.ref l) B.env) (Nv B.K B.w te l):=λa s j H N I h=>by
 unfold emitSet;refine V8 (cU (v a s j H _ I h) λu F z=>?_);obtain⟨x,J,g,o,G,b,k,e,rfl,m,i,p,n1⟩:=z;cases o;refine V8 (XR (V8 ?_));obtain⟨y,_,_⟩:=g.bL l _ e;obtain⟨as,n⟩:=m.2.reads g rfl;refine KI y (Hl g i) r m.1 n p λC E t d=>Wb ?_;have c:∃q,C.get? l=some q:=let⟨_,q,_,_,_,_,i,_⟩:=d;⟨q,i⟩;exact⟨j,_,jT g (by rw[e];exact True.intro) t c (BU d),n1⟩
def uY{X:Cx}(x:X.calm=true):fX X (.builtin "sorted") (λxs H Q=>∃a b,xs=[.ref a]/\H a=some (Bg X.w a b)/\(∀q∈b,Ml X.K H q)/\b.length<=4/\∀l (out:List (Addr×aq)),H l=none->out.map (·.2)=kz (b.map (·.2))->(∀q∈out,q∈b)->Q (.ref l) (upd H l (.lst (out.map λq=>V.ref q.1)))):=by
 intro c s C H xs us Q I r h;obtain⟨a,b,rfl,e,p,z,q⟩:=h;obtain⟨u,rfl,g⟩:=vals1 r;cases g;obtain⟨y,_,_⟩:=I.bL a _ e;refine zF (I.ok.hd x) y (Hl I p) z λF d l n out k hl t f A=>?_;have v:out.length<=4:=by
  have:=congrArg List.length f;rw[(eF _).length_eq,Wc,Wc] at this
  lia
 have j:(out.map λq=>V.ref q.1).length<=sizeLine:=by rw[Wc,XX];lia
 have m:∀out:List (Addr×aq),Vals (out.map λq=>V.ref q.1) (out.map λq=>Value.ref q.1):=λout=>by
  induction out with
  | nil=>exact .nil
  | cons q r i=>exact .cons rfl i
 exact⟨.ref l,_,(I.laid (t':=s.toks) (o:=.lst (out.map λq=>V.ref q.1)) k hl ⟨j,_,n,m out,t⟩).draw d,rfl,q l out (I.bL.fresh hl) f A⟩
end L2
namespace Sm
open L2 PyProof.Rows
noncomputable def HI:D->Option aq
 | .tup [.str x,.int i]=>some (x,i)
 | _=>none
noncomputable def dU(k:aq):D:=.tup [.str k.1,.int k.2]
def DF{d:D}{k:aq}(e:HI d=some k):d=dU k:=by
 unfold HI at e
 split at e
 ·cases e;rfl
 ·cases e
def BK{K:FR}{ρ:Ad}{H:Hp}{v:V}{k:aq}(r:Rep K ρ H v (dU k)):∃b,v=.ref b/\Ml K H (b,k):=by
 unfold dU at r;have a:PyData.strOk k.1=true:=by
  cases r with
  | tup _ l=>cases l with
   | cons q _=>cases q with
    | str x=>exact x
 have:=r.sy (p:=hV k) rfl;cases r with
 | tup h l=>exact⟨_,rfl,a,this.1⟩
def SR(w:World):Ac (List aq) where
 at_:=λK c H l a=>∃b,H l=some (Bg w l b)/\a=b.map (·.2)/\∀q∈b,Rep K c H (.ref q.1) (dU q.2)
 mono:=λ⟨b,e,r,k⟩ T q=>⟨b,q.trans e,r,λx d=>(k x d).mono T⟩
noncomputable def zl(ks:List aq)(k:aq):List aq:=if k∈ks then ks else ks++[k]
def mP(e:EM):MK (List aq):=λb h a=>(e b h).bind λp=>(HI p.1).bind λk=>if a.length<=3 then some (b,p.2,zl a k) else none
def sA{K:FR}{ρ:Ad}{H:Hp}{q:Addr×aq}(r:Rep K ρ H (.ref q.1) (dU q.2)):Ml K H q:=by
 obtain⟨b,e,h⟩:=BK r;cases e;exact h
def Ke{X:Cx}{j:Expr}{r:EM}(J:X.A.units+64 < cLine)(L:SE X j r):Vy X (λl env=>emitSet j (.ref l) env) (SR X.w) (mP r):=λl=>(KQ J L).imp λy H N ⟨C,F,h,a,E,U,Y,R,S,hl,⟨o,I,s,bL⟩,e,G⟩=>by
 obtain⟨⟨x,T⟩,P,O⟩:=a9 e;obtain⟨c,t,k⟩:=a9 O;dsimp only at t k
 by_cases n:a.length<=3
 ·rw[Wg n] at k;cases k;refine⟨C,F,h,x,_,R,S,P,λu H1 ⟨d,m,Q,p⟩=>?_⟩;have:=DF t;subst this;obtain⟨b,rfl,M⟩:=BK p;have f:∀q∈o,Rep X.K d H1 (.ref q.1) (dU q.2):=λq g=>(bL q g).mono m.toCh;refine⟨o,b,c,(m.res l hl).trans I,rfl,M,λq g=>sA (f q g),by rw[s,Wc] at n;exact n,?_⟩;have i:l∈d.rs:=by rw[m.rs];exact hl
  have v:Ch d H1 d (upd H1 l (Bg X.w l (addQ o b c))):=Ch.put i;refine G d _ y (nI.put (K:=X.K) m hl) (Q.put i) ((R.mono m.toCh).mono v) ⟨_,aH,?_,λq g=>?_⟩
  ·unfold zl addQ;rw[s]
   split
   ·rfl
   ·rw[Wv];rfl
  ·refine Rep.mono v ?_;unfold addQ at g
   split at g
   ·exact f q g
   ·rcases Xa.mp g with z | z
    ·exact f q z
    ·rw[Wr] at z;subst z;exact p
 ·rw[Wh n] at k;cases k
def CD(caps:List (Option Nat))(i:IM)(g:GM)(c:TM)(m:MK (List aq)):EM:=λa h=>(i a h).bind λp=>(fV p.2.1 g c m p.1 (mI caps a) p.2.2 []).bind λq=>if q.2.2.length<=4 then some (.lv ((kz q.2.2).map dU),q.2.1) else none
theorem tP{K:FR}{ρ:Ad}{H:Hp}:∀{a:List (Addr×aq)},(∀q∈a,Rep K ρ H (.ref q.1) (dU q.2))->ay K ρ H (a.map λq=>V.ref q.1) ((a.map (·.2)).map dU)
 | [],_=>.nil
 | q::r,h=>.cons (h q We) (tP λx b=>h x (Wf _ b))
def Hn{X:Cx}{caps:List (Option Nat)}{p:IM}{g:GM}{j:TM}{m:MK (List aq)}{σ:L2.St}{H:Hp}{Q:VK}(hh:tM X.K (CD caps p g j m) σ H Q):
  Uj (λxs H Q=>∃a b,xs=[.ref a]/\H a=some (Bg X.w a b)/\(∀q∈b,Ml X.K H q)/\b.length<=4/\∀l (out:List (Addr×aq)),H l=none->out.map (·.2)=kz (b.map (·.2))->(∀q∈out,q∈b)->Q (.ref l) (upd H l (.lst (out.map λq=>V.ref q.1)))) (λσ H Q=>pE caps (MB X.K p) (λl=>Bg X.w l []) (EU X.K g) (Bn X.K j) (λl=>JZ X.K (SR X.w) l m) σ H λv c=>Q [v] c) σ H Q:=by
 obtain⟨t,y,h,d,U,R,S,G,k⟩:=hh;obtain⟨⟨xs,z,F⟩,M,L⟩:=a9 G;obtain⟨⟨i,P,u⟩,J,e⟩:=a9 L;dsimp only at e
 by_cases f:u.length<=4
 ·rw[Wg f] at e;cases e;show pE caps (MB X.K p) (λl=>Bg X.w l []) (EU X.K g) (Bn X.K j) (λl=>JZ X.K (SR X.w) l m) σ H λv c=>∃a b,[v]=[V.ref a]/\c a=some (Bg X.w a b)/\(∀q∈b,Ml X.K c q)/\b.length<=4/\∀l (out:List (Addr×aq)),c l=none->out.map (·.2)=kz (b.map (·.2))->(∀q∈out,q∈b)->Q (.ref l) (upd c l (.lst (out.map λq=>V.ref q.1)));refine zW (A:=SR X.w) (o:=λl=>Bg X.w l []) (a0:=[]) (λt H l=>⟨[],aH,rfl,λk E=>(nomatch E)⟩) ⟨t,y,h,xs,z,F,i,_,u,R,S,M,J,λl x Z T N n ⟨b,at',I,ok⟩=>?_⟩;subst I;refine⟨l,b,rfl,at',λq r=>sA (ok q r),by rw[Wc] at f;exact f,λO out s o1 C=>?_⟩;rw[<-o1] at k;exact k _ _ (dJ.step T (dJ.lv N (tP λq r=>ok q (C q r)) s))
 ·rw[Wh f] at e;cases e
def E1{X:Cx}{j d i:Expr}{p pos e:Pos}{m:EM}{k:TM}{g:GM}{N':List Str}{caps:List (Option Nat)}{a:Scope}{f:List Expr}{r:IM}(C:bp X N' caps a)(s:X.calm=true)(q:Gl X "sorted")(n:X.mg "sorted"=none)(t:X.A.units+64 < cLine)(hi:SI X j d r)(v:∀C b c fp pl,SG (g9 X N' a C b c fp pl) j g)(o:∀C b c fp pl,Qz (g9 X N' a C b c fp pl) f k)(y:∀C b c fp pl,SE (g9 X N' a C b c fp pl) i m)(u:∀x,foldedSetIterable d X.env x=pure x:=by intro _;ac_nf):
  SE X (.Call (.Name "sorted" p) [.SetComp i [⟨j,d,f,0⟩] a e] [] pos) (CD caps r g k (mP m)):=by
 have h:=z9 (g:=EU X.K g) (tc:=Bn X.K k) (tm:=λl=>JZ X.K (SR X.w) l (mP m)) C s (Fj i [⟨j,d,f,0⟩] a e) rfl (λG l env=>EK ..) Fq hi v o
  (λC b c fp pl l=>Ke (X:=g9 X N' a C b c fp pl) t (y C b c fp pl) l) rfl u
 exact(uc (uY s) q n (by decide+kernel) (sF h yk)).imp λz H Q hh=>Hn hh
end Sm
namespace L2
open PyProof.Rows
noncomputable def Mr(lo c:Int)(n:Nat):It:=⟨λi _=>i < n,λi H x a=>a=H/\x=.int (lo+i*c),λi _=>n<=i⟩
def zy{P:Program}{w:World}{K:FR}{J:Expr}(it:Addr)(lo c:Int)(n:Nat):Turn P w K J (Mr lo c n) [it] it (λi h=>IsRangeIter h it (lo+(i:Nat)*c) ((n:Int)-(i:Nat)) c) where
 mem:=by simp
 obj:=λi h st b d=>by
  have e:b=it:=by simpa using d
  subst e;exact⟨_,st,λv z=>by
   have G:Data.fields _=Data.cell v:=z;cases G⟩
 keep:=λi h j st k=>k it (by simp) _ st
 item:=by
  intro X q l r p i a s C H E I g st m;subst q l r;obtain⟨f0,A,N,y,x,u⟩:=g it (by simp);have W:=Walks.range (prog:=X.prog) (w:=X.w) (I.ok.hd p) it lo c n;refine W.item i s _ _ m st λv j F M f L=>?_;obtain⟨t,rfl⟩:=M;have Q:Inv X a C H {s with heap:=j,toks:=F}:=I.turned (λb o d e=>L b o (by simpa using d) e) f0 A y x u;exact⟨_,rfl,D1 (s:={s with heap:=j,toks:=F}) (n:="range_iterator") f rfl rfl (by decide) ⟨.int (lo+i*c),H,Q,⟨t,rfl⟩,⟨rfl,rfl⟩,f,λb d=>(g b d).1⟩⟩
 done:=by
  intro X q l r p i a s C H E I g st m;subst q l r;obtain⟨f0,A,N,y,x,u⟩:=g it (by simp);exact wpAny_pyNext_range_end (I.ok.hd p) st (by have:n<=i:=m;lia) λj O=>⟨rfl,I.turned (t':=s.toks) (λb o d e=>O b o d e) f0 A y x u⟩
 self:=λ_ _ _ _ _ st h=>wpAny_pyIter_rangeiter st h
def JP(i j c:Int):Prop:=(-1000000<=i/\i<=1000000)/\(-1000000<=j/\j<=1000000)/\0 < c/\c<=1000
instance:Decidable (JP i j c):=by unfold JP;exact inferInstance
def size_pos(h:JP i j c):0<=Builtin.Range.rangeSize i j c/\Builtin.Range.rangeSize i j c<=2000000:=by
 obtain⟨g,f,d,e⟩:=h;unfold Builtin.Range.rangeSize;rw[Wg d]
 split
 ·have:=Int.ediv_nonneg (a:=j-i-1) (b:=c) (by lia) (by lia);have:=Int.ediv_le_self (a:=j-i-1) c (by lia)
  lia
 ·lia
def Ff{a:List (Addr×Obj)}{σ:St}{H:Hp}{s:Shared}{R:It->Hp->Prop}{E:Value->Shared->Prop}{lo hi c:Int}{t u v:Tok}{d:Nat}(I:Inv X a σ H s)(g:JP lo hi c)
  (q:R (Mr lo c (Builtin.Range.rangeSize lo hi c).toNat) H):wpAny (model X.prog X.w) X.A (pyIter (.ref s.heap.objs.size)) (Vl X a σ l R) E {s with heap:=s.heap.push {cls:=.type "range",data:=.fields #[.int lo t,.int hi u,.int c v]},toks:=d}:=by
 have h:=size_pos g;refine wpAny_pyIter_range (IsRange.new ..) ?_ ?_
 ·obtain⟨g1,g2,g3,g4⟩:=g;unfold Builtin.Range.small;simp only[Builtin.Range.rangeFitsLong,WC,XQ,XD,Zf,show c > 0 from g3,YW];refine⟨⟨⟨⟨⟨?_,?_⟩,?_,?_⟩,?_,?_⟩,?_,?_⟩,.inr ⟨?_,?_⟩⟩ <;> lia
 have f:Inv X a σ H {s with heap:=s.heap.push {cls:=.type "range",data:=.fields #[.int lo t,.int hi u,.int c v]},toks:=d}:=I.kept λb o e=>Wa _ e;refine⟨(s.heap.push {cls:=.type "range",data:=.fields #[.int lo t,.int hi u,.int c v]}).objs.size,[(s.heap.push {cls:=.type "range",data:=.fields #[.int lo t,.int hi u,.int c v]}).objs.size],_,_,H,rfl,
  f.kept (t':=d) λb o e=>Wa _ e,zy _ lo c (Builtin.Range.rangeSize lo hi c).toNat,?_,λb i=>?_,q⟩
 ·have k:lo+((0:Nat):Int)*c=lo:=by simp
  have j:(((Builtin.Range.rangeSize lo hi c).toNat:Nat):Int)-((0:Nat):Int)=Builtin.Range.rangeSize lo hi c:=by lia
  show IsRangeIter _ _ (lo+((0:Nat):Int)*c) ((((Builtin.Range.rangeSize lo hi c).toNat:Nat):Int)-((0:Nat):Int)) c;rw[k,j];exact Ww _ rfl
 ·have e:b=(s.heap.push {cls:=.type "range",data:=.fields #[.int lo t,.int hi u,.int c v]}).objs.size:=by simpa using i
  subst e;exact f.wq (Wj _) (f.bL.fresh (Wj _))
def RX(d:TA):TI:=λa H R=>d a H λb e=>∃i j c:Int,b=[.int i,.int j,.int c]/\JP i j c/\R (Mr i c (Builtin.Range.rangeSize i j c).toNat) e
def Fm{X:Cx}{u a b c:Expr}{p pos:Pos}{n:TA}(A:Gl X "range")(hm:X.mg "range"=none)(C:PA X [a,b,c] n)(z:starEach [a,b,c] X.env=[(false,eval a X.env),(false,eval b X.env),(false,eval c X.env)]:=by rfl)(k:starEach [b,c] X.env=[(false,eval b X.env),(false,eval c X.env)]:=by rfl):
  PI X u (.Call (.Name "range" p) [a,b,c] [] pos) (RX n):=by
 intro g s o H R I h;refine Call_ (jN I A hm boot_range (XA (cU (C pos g s o H _ I h) λus s1 ⟨F,H1,E,w,y⟩=>?_) (by rw[z,k]) (by rw[k];rfl)));obtain⟨i,j,d,e,m,q⟩:=y;subst e;cases w with
 | cons r f=>
  cases f with
  | cons x f=>
   cases f with
   | cons l f=>
    cases f;obtain⟨t,rfl⟩:=r;obtain⟨G,rfl⟩:=x;obtain⟨v,rfl⟩:=l;refine call_range_3 (by have:=m.2.2.1;lia) (Ff E m q) (.inl ?_);obtain⟨g1,g2,g3,g4⟩:=m;exact PyProof.noPylong_small (by lia)
end L2
namespace Sm
open L2 PyProof.Rows
noncomputable def LA(m:AM):IM:=λa h=>(m a h).bind λp=>match p.1 with
 | [.int i,.int j,.int c]=>if JP i j c then some ((List.range (Builtin.Range.rangeSize i j c).toNat).map λ(k:Nat)=>D.int (i+(k:Int)*c),[],p.2) else none
 | _=>none
def Ls{K:FR}{ρ:Ad}{H:Hp}(lo c:Int)(n:Nat):Qr K (Mr lo c n) ρ H [] ((List.range n).map λ(k:Nat)=>D.int (lo+(k:Int)*c)):=by
 refine yL λb l o T S m=>⟨(List.range n).map λ(k:Nat)=>V.int (lo+(k:Int)*c),?_,λi e=>?_,λi v d=>?_⟩
 ·have:=lP (K:=K) (ρ:=b) (H:=l) ((List.range n).map λ(k:Nat)=>lo+(k:Int)*c);rw[Y0,Y0] at this;exact this
 ·rw[Wc,WK] at e;exact e
 ·rw[Wt] at d;obtain⟨j,h,g⟩:=dS d;obtain⟨a,f⟩:=V9.mp h;rw[WK] at a;rw[Aab] at f;subst f;subst g;exact⟨a,λu r ⟨p,q⟩=>⟨p,q⟩⟩
def EX{X:Cx}{t a b c:Expr}{p pos:Pos}{m:AM}(y:Gl X "range")(hm:X.mg "range"=none)(A:SA X [a,b,c] m)(w:starEach [a,b,c] X.env=[(false,eval a X.env),(false,eval b X.env),(false,eval c X.env)]:=by ac_nf)(o:starEach [b,c] X.env=[(false,eval b X.env),(false,eval c X.env)]:=by ac_nf)(hl:mr m 3):
  SI X t (.Call (.Name "range" p) [a,b,c] [] pos) (LA m):=
 (Fm y hm A w o).imp λσ H Q ⟨q,s,h,xs,ws,L,R,S,e,k⟩=>by
  obtain⟨⟨x,C⟩,E,f⟩:=a9 e;refine⟨q,s,h,x,C,R,S,E,λJ g I F G u=>?_⟩;dsimp only at f
  split at f
  ·rename_i _ i j d
   by_cases z:JP i j d
   ·rw[Wg z] at f;cases f;refine⟨i,j,d,?_,z,k _ g I F G (Ls i d _)⟩;cases u with
    | cons r l=>cases l with
     | cons v l=>cases l with
      | cons n l=>cases l;cases r;cases v;cases n;rfl
   ·rw[Wh z] at f;cases f
  ·cases f
end Sm
namespace L2
open PyProof.Rows PySem.SeqAt
def i8(ps:List (Addr×aq)):List (Addr×aq):=ps.foldl (λa p=>addQ a p.1 p.2) []
def u7(ps:List (Addr×aq))(p:Addr×aq):i8 (ps++[p])=addQ (i8 ps) p.1 p.2:=by unfold i8;rw[List.foldl_append];rfl
theorem nF{ps:List (Addr×aq)}:∀(i:Nat),(i8 (ps.take i)).length<=i/\∀q∈i8 (ps.take i),q∈ps
 | 0=>⟨Wj _,λ_ z=>(nomatch z)⟩
 | i+1=>by
  obtain⟨c,b⟩:=nF (ps:=ps) i;cases e:ps[i]? with
  | none=>
   have hl:ps.length<=i:=Xw.mp e;rw[Yx (Xr hl)];rw[Yx hl] at c b;exact⟨Xr c,b⟩
  | some p=>
   rw[YZ,e,YV,u7];unfold addQ
   split
   ·exact⟨Xr c,b⟩
   ·refine⟨by rw[Wn];simpa using c,λq a=>?_⟩;rcases Xa.mp a with a | a
    ·exact b q a
    ·rw[Wr] at a;subst a;exact Wk e
def JG{P:Program}{w:World}{A:Around}{h₀:Heap}{S:Addr}{items:Array Value}{ps:List (Addr×aq)}(u:A.units+8 < cLine)(G:∀(i:Nat)(v:Value),items[i]?=some v->∃p,ps[i]?=some p/\v=.ref p.1)(hr:QA h₀ ps)(N:ps.length<=4):
  JL P w A h₀ S items (λi h=>rj w h S (i8 (ps.take i))) where
 frame:=λi h x k=>by
  rintro⟨n,o,es,J,t,a,e,r⟩;exact⟨n,o,es,J,t,a,k o e,r⟩
 fresh:=λh e=>by
  rw[AaC];refine⟨AaD,_,#[],0,_,[],e,⟨rfl,rfl,rfl⟩,rfl,?_⟩;refine⟨⟨rfl,rfl,λi j d=>absurd d (Xh _),rfl,WL _,λi j e d=>?_⟩,rfl,.refl _,rfl⟩;exact absurd d (by simp[SetTable.fresh])
 step:=λi v s E Q C I keep h=>by
  obtain⟨p,hp,rfl⟩:=G i v C;have H:i < ps.length:=(V9.mp hp).1;obtain⟨M,z⟩:=nF (ps:=ps) i;have rd:∀q∈ps,PyData.strOk q.2.1=true/\∃as,Reads s.heap (.ref q.1) (hV q.2) as:=λq c=>by
   obtain⟨l,as,y⟩:=hr q c;exact⟨l,as,t6 (λb o L m e _=>keep b o e) 8 (p4 l) y⟩
  obtain⟨ok,as,g⟩:=rd p (Wk hp);unfold setAdd;refine WU (V8 (xk 8 u (p4 ok) g λj=>?_));refine my (s:={s with toks:=s.toks+j}) I (λq c=>rd q (z q c)) u ok g (by lia) λr x F f=>?_;refine h r x (s.toks+j) (W9 _ _) F ?_;rw[YZ,hp,YV,u7];exact f
def Ge{X:Cx}(G:X.calm=true)(O:X.A.units+64 < cLine):fX X (.type "set") (λxs H Q=>∃(a:Addr)(ps:List (Addr×aq)),xs=[.ref a]/\fN X.K H a (ps.map λq=>V.ref q.1)/\(∀q∈ps,Ml X.K H q)/\ps.length<=4/\∀l,H l=none->Q (.ref l) (upd H l (Bg X.w l (i8 ps)))):=by
 intro m s L H xs us Q I r h;obtain⟨a,ps,rfl,E,hr,J,q⟩:=h;obtain⟨u,rfl,t⟩:=vals1 r;cases t;obtain⟨d,rv,pt,N⟩:=I.list E;have c:=rv.length;rw[Wc] at c;refine uZ (items:=d.toArray) (I.ok.hd G) pt.isList (λS _ P=>JG (ps:=ps) (by lia) (λi v z=>?_) (Hl I hr) J) λR p n k=>?_
 ·have f:d[i]?=some v:=by simpa using z
  have F:i < ps.length:=by rw[c];exact(V9.mp f).1
  have j:ps[i]?=some ps[i]:=Wl F;obtain⟨u,g,y⟩:=Vals.get rv (x:=.ref ps[i].1) (i:=i) (by rw[Wt,j];rfl);rw[f] at g;cases g;cases y;exact⟨_,j,rfl⟩
 ·have C:d.toArray.size=ps.length:=by rw[c];rfl
  rw[C,Xf] at n;exact⟨.ref _,_,I.laid (t':=p) (o:=Bg X.w s.heap.objs.size (i8 ps)) (λb o e=>k b o (Wu e) e) (Wj _) (BU n),rfl,q _ I.fresh⟩
end L2
namespace Sm
open L2 PyProof.Rows
def Fh:List D->Option (List aq)
 | []=>some []
 | d::r=>(HI d).bind λk=>(Fh r).map λks=>k::ks
def EC(ks:List aq):List aq:=ks.foldl zl []
def lZ(m:EM):EM:=λa h=>(m a h).bind λp=>(iY p.1 p.2).bind λb=>(Fh b).bind λks=>if ks.length<=4 then some (.lv ((kz (EC ks)).map dU),p.2) else none
theorem DD{K:FR}{ρ:Ad}{H:Hp}:∀{vs:List V} {xs:List D} {ks:List aq},ay K ρ H vs xs->Fh xs=some ks->∃ps:List (Addr×aq),vs=ps.map (λq=>V.ref q.1)/\ps.map (·.2)=ks/\∀q∈ps,Rep K ρ H (.ref q.1) (dU q.2)
 | _,_,_,.nil,e=>by cases e;exact⟨[],rfl,rfl,λ_ z=>(nomatch z)⟩
 | _,_,_,.cons r l,e=>by
  obtain⟨k,i,h⟩:=a9 e;obtain⟨ks,g,rfl⟩:=dS h;obtain⟨ps,f,d,c⟩:=DD l g;have:=DF i;subst this;obtain⟨b,rfl,j⟩:=BK r;refine⟨(b,k)::ps,by rw[f];rfl,by rw[<-d];rfl,λq a=>?_⟩;rcases Ws.mp a with rfl | a
  ·exact r
  ·exact c q a
def Gk(ps:List (Addr×aq)):(i8 ps).map (·.2)=EC (ps.map (·.2)):=by
 have:∀(ps a:List (Addr×aq)),(ps.foldl (λb p=>addQ b p.1 p.2) a).map (·.2)=(ps.map (·.2)).foldl zl (a.map (·.2)):=by
  intro ps
  induction ps with
  | nil=>intro a;rfl
  | cons p ps c=>
   intro a;rw[Yz,c,Wo,Yz];congr 1;unfold addQ zl
   split
   ·rfl
   ·rw[Wv];rfl
 exact this ps []
def zG{p I pos g:Pos}(C:X.calm=true)(hr:fD k X.A)(y:Gl X "sorted")(t:X.mg "sorted"=none)(x:Gl X "set")(s:X.mg "set"=none)(O:SE X e L)(z:starEach [e] X.env=(false,eval e X.env)::starEach [] X.env:=by ac_nf):
  SE X (.Call (.Name "sorted" p) [.Call (.Name "set" I) [e] [] g] [] pos) (lZ L):=
 (uc (uY C) y t (by decide+kernel) (sF (p6 (Ge C hr.units) x s (by decide+kernel) (sF O yk z) (by decide) (by decide) z) yk)).imp λσ H Q ⟨E,F,h,d,h',R,S,U,k⟩=>by
  obtain⟨⟨d1,T⟩,e1,e2⟩:=a9 U;obtain⟨ys,e3,Z⟩:=a9 e2;obtain⟨ks,Y,j⟩:=a9 Z
  by_cases c:ks.length<=4
  ·rw[Wg c] at j;cases j;refine⟨E,F,h,d1,T,R,S,e1,λv H1 ⟨n,T1,m,G⟩=>?_⟩;obtain⟨a,vs,rfl,P,M⟩:=ig m G e3;obtain⟨b,rfl,rfl,hp⟩:=DD M Y;rw[Wc] at c;refine⟨a,b,rfl,fN.of P,λq f=>sA (hp q f),c,λl hl=>?_⟩;have T2:=T1.trans (de.laid (o:=Bg X.w l (i8 b)) m hl);obtain⟨N,r⟩:=nF (ps:=b) b.length;rw[Xf] at N r;have i:∀q∈i8 b,Rep X.K n (upd H1 l (Bg X.w l (i8 b))) (.ref q.1) (dU q.2):=λq f=>(hp q (r q f)).mono (de.laid m hl).toCh;refine⟨l,i8 b,rfl,aH,λq f=>sA (i q f),by lia,λr out u o1 J=>?_⟩;rw[Gk] at o1;rw[<-o1] at k;exact k _ _ (dJ.step T2 (dJ.lv (m.laid hl) (tP λq f=>i q (J q f)) u))
  ·rw[Wh c] at j;cases j
end Sm
namespace Sm
open L2 PyProof.Rows PySem.SeqAt
noncomputable local instance:DecidableEq PyData:=λa b=>Classical.propDecidable _
def zp(k:PyData)(d:D):Bool:=match qS d with
 | some p=>PyData.eqv p k
 | none=>false
def iS(kvs:List (D×D))(k:PyData):Option D:=(kvs.find? λa=>zp k a.1).map (·.2)
def m8(kvs:List (D×D))(k:PyData)(e v:D):List (D×D):=
 if(kvs.any λa=>zp k a.1)=true then kvs.map (λa=>if zp k a.1=true then(a.1,v) else a) else kvs++[(e,v)]
def Co(d:D):Option PyData:=match d with
 | .tup xs=>(qS (.tup xs)).bind λp=>if b4 8 p=true then some p else none
 | _=>none
def yV(hp:b4 8 p=true)(a:b4 8 k=true):PyData.eqv p k=decide (p=k):=by
 by_cases z:p=k
 ·subst z;rw[eqv_refl 8 hp,WI rfl]
 ·rw[WD z];cases q:PyData.eqv p k with
  | false=>rfl
  | true=>exact absurd (sD 8 hp a q) z
inductive R3(K:FR)(ρ:Ad)(H:Hp):List (Addr×V)->List (PyData×Addr×Value)->List (D×D)->Prop where
 | nil:R3 K ρ H [] [] []
 | cons {b:Addr} {v:V} {u:Value} {p:PyData} {d e:D} {us:List (Addr×V)} {ys:List (PyData×Addr×Value)} {kvs:List (D×D)}:
  Rep K ρ H (.ref b) d->Rep K ρ H v e->RelV v u->qS d=some p->b4 8 p=true->R3 K ρ H us ys kvs->R3 K ρ H ((b,v)::us) ((p,b,u)::ys) ((d,e)::kvs)
section
variable {K:FR} {ρ ρ':Ad} {H H':Hp}
theorem R3.of:∀{us:List (Addr×V)} {ys:List (PyData×Addr×Value)} {kvs:List (D×D)},ay K ρ H (us.map λu=>V.ref u.1) (kvs.map (·.1))->ay K ρ H (us.map (·.2)) (kvs.map (·.2))->md (kvs.map (·.1))=some (ys.map (·.1))->
  (ys.map (·.1)).all (b4 8)=true->Paired (λ(u:Addr×V)(y:PyData×Addr×Value)=>u.1=y.2.1/\RelV u.2 y.2.2) us ys->R3 K ρ H us ys kvs
 | us,ys,[],a,b,c,d,e=>by
  cases us with
  | cons _ _=>cases a
  | nil=>cases e;exact .nil
 | us,ys,(d,e)::kvs,a,b,c,al,pr=>by
  cases us with
  | nil=>cases a
  | cons u us=>
   obtain⟨v,s⟩:=u;cases pr with
   | @cons _ y _ ys h t=>
    obtain⟨q,r,o⟩:=y;obtain⟨g,f⟩:=h;dsimp only at g f;subst g;cases a with
    | cons a1 a2=>
     cases b with
     | cons n m=>
      obtain⟨p,l,k⟩:=a9 (show(qS d).bind (λa=>(md (kvs.map (·.1))).map λb=>a::b)=_ from c);obtain⟨w,j,i⟩:=dS k;rw[Wo] at i;obtain⟨rfl,rfl⟩:=List.cons.inj i;rw[Wo,YB,WC] at al;exact .cons a1 n f l al.1 (R3.of a2 m j al.2 t)
theorem R3.mono(S:Ch ρ H ρ' H'):∀{us:List (Addr×V)} {ys:List (PyData×Addr×Value)} {kvs:List (D×D)},R3 K ρ H us ys kvs->R3 K ρ' H' us ys kvs
 | _,_,_,.nil=>.nil
 | _,_,_,.cons a b c d e f=>.cons (a.mono S) (b.mono S) c d e (R3.mono S f)
theorem R3.parts:∀{us:List (Addr×V)} {ys:List (PyData×Addr×Value)} {kvs:List (D×D)},R3 K ρ H us ys kvs->ay K ρ H (us.map λu=>V.ref u.1) (kvs.map (·.1))/\ay K ρ H (us.map (·.2)) (kvs.map (·.2))/\md (kvs.map (·.1))=some (ys.map (·.1))/\
  (ys.map (·.1)).all (b4 8)=true/\Paired (λ(u:Addr×V)(y:PyData×Addr×Value)=>u.1=y.2.1/\RelV u.2 y.2.2) us ys/\us.length=kvs.length/\ys.length=kvs.length
 | _,_,_,.nil=>⟨.nil,.nil,rfl,rfl,.nil,rfl,rfl⟩
 | _,_,_,.cons a b c d e f=>by
  obtain⟨m,l,k,j,i,h,g⟩:=f.parts;refine⟨.cons a m,.cons b l,?_,?_,.cons ⟨rfl,c⟩ i,congrArg Nat.succ h,congrArg Nat.succ g⟩
  ·rw[Wo,Wo,md,d,Wz,k];rfl
  ·rw[Wo,YB,e,j];rfl
theorem R3.reads{X:Cx}{g:List (Addr×Obj)}{σ:L2.St}{s:Shared}(I:Inv X g σ H s):∀{us:List (Addr×V)} {ys:List (PyData×Addr×Value)} {kvs:List (D×D)},R3 X.K ρ H us ys kvs->∀y∈ys,JK s.heap y.1 y.2.1
 | _,_,_,.nil=>λ_ z=>(nomatch z)
 | _,_,_,.cons a b c d e f=>λy h=>by
  rcases Ws.mp h with rfl | h
  ·exact⟨e,CS.reads I (a.sy d).1 rfl⟩
  ·exact f.reads I y h
theorem R3.val{k:PyData}(c:b4 8 k=true):∀{us:List (Addr×V)} {ys:List (PyData×Addr×Value)} {kvs:List (D×D)},R3 K ρ H us ys kvs->(atKey ys k=none/\iS kvs k=none)\/∃p d v,atKey ys k=some p/\iS kvs k=some d/\RelV v p.2/\Rep K ρ H v d
 | _,_,_,.nil=>.inl ⟨rfl,rfl⟩
 | _,_,_,.cons (b:=b) (v:=v) (u:=u) (p:=p) (d:=d) (e:=e) (us:=us) (ys:=ys) (kvs:=kvs) n m l j i f=>by
  have a:zp k d=decide (p=k):=by unfold zp;rw[j];exact yV i c
  by_cases z:p=k
  ·refine .inr ⟨(b,u),e,v,?_,?_,l,m⟩
   ·unfold atKey;rw[Xp,WI z];rfl
   ·unfold iS;rw[Xp,a,WI z];rfl
  ·have h:atKey ((p,b,u)::ys) k=atKey ys k:=by unfold atKey;rw[Xp,WD z]
   have g:iS ((d,e)::kvs) k=iS kvs k:=by unfold iS;rw[Xp,a,WD z]
   rw[h,g];exact f.val c
theorem R3.old{k:PyData}(o:b4 8 k=true){x:V}{c:Value}{w:D}(m:RelV x c)(g:Rep K ρ H x w):∀{us:List (Addr×V)} {ys:List (PyData×Addr×Value)} {kvs:List (D×D)},R3 K ρ H us ys kvs->∃a,R3 K ρ H a (ys.map (putAt k c)) (kvs.map λh=>if zp k h.1=true then(h.1,w) else h)
 | _,_,_,.nil=>⟨[],.nil⟩
 | _,_,_,.cons (b:=b) (v:=v) (u:=u) (p:=p) (d:=d) (e:=e) r t s l j f=>by
  have n:zp k d=decide (p=k):=by unfold zp;rw[l];exact yV j o
  obtain⟨a,q⟩:=f.old o m g
  by_cases z:p=k
  ·refine⟨(b,x)::a,?_⟩;have i:putAt k c (p,b,u)=(p,b,c):=by simp[putAt,z]
   rw[Wo,Wo,i,n,WI z,Wg rfl];exact .cons r g m l j q
  ·refine⟨(b,v)::a,?_⟩;have i:putAt k c (p,b,u)=(p,b,u):=by simp[putAt,z]
   rw[Wo,Wo,i,n,WD z,Wh WR];exact .cons r t s l j q
def R3.app{us j:List (Addr×V)}{ys i:List (PyData×Addr×Value)}{kvs h:List (D×D)}(g:R3 K ρ H j i h):R3 K ρ H us ys kvs->R3 K ρ H (us++j) (ys++i) (kvs++h):=λf=>by
 induction f with
 | nil=>exact g
 | cons a b c d e f k=>exact .cons a b c d e k
theorem R3.any{k:PyData}(a:b4 8 k=true):∀{us:List (Addr×V)} {ys:List (PyData×Addr×Value)} {kvs:List (D×D)},R3 K ρ H us ys kvs->(kvs.any λc=>zp k c.1)=(atKey ys k).isSome
 | _,_,_,.nil=>rfl
 | _,_,_,.cons (b:=b) (v:=v) (u:=u) (p:=p) (d:=d) (e:=e) (us:=us) (ys:=ys) (kvs:=kvs) m l j i h f=>by
  have g:zp k d=decide (p=k):=by unfold zp;rw[i];exact yV h a
  rw[XY,g,f.any a];unfold atKey;rw[Xp]
  by_cases z:p=k
  ·rw[WI z];rfl
  ·rw[WD z];rfl
def R3.put{k:PyData}(e:b4 8 k=true){b:Addr}{x:V}{g:Value}{d w:D}(i:Rep K ρ H (.ref b) d)(j:qS d=some k)(h:RelV x g)(a:Rep K ρ H x w){us:List (Addr×V)}{ys:List (PyData×Addr×Value)}{kvs:List (D×D)}(f:R3 K ρ H us ys kvs):
  ∃c,R3 K ρ H c (storedH ys k b g) (m8 kvs k d w):=by
 unfold storedH m8;rw[f.any e]
 by_cases z:(atKey ys k).isSome=true
 ·rw[Wg z,Wg z];exact f.old e h a
 ·rw[Wh z,Wh z];exact⟨_,R3.app (.cons i a h j e .nil) f⟩
end
def Jd{X:Cx}{b:List (Addr×Obj)}{σ:L2.St}{H:Hp}{s:Shared}{ρ:Ad}{a:Addr}{kvs:List (D×D)}(I:Inv X b σ H s)(x:Bh X.K ρ H a (.dcH kvs)):
  ∃us ys ps,H a=some (.JQ (qN a us ps))/\R3 X.K ρ H us ys kvs/\s.heap.DictOfH (yi X.prog X.w) a ys/\(a==sysModules)=false/\us.length<=sizeLine:=by
 obtain⟨us,ps,e,d,c,p⟩:=x;obtain⟨⟨z,h,hp,nd,ys,g,rfl,o,es,m,l,k,j,i⟩,_⟩:=I.bL a _ e;have f:=R3.of d c p hp g;exact⟨us,ys,_,e,f,⟨o,es,m,l,k,j,i,f.reads I,nd⟩,h,z⟩
def sM(e:Co d=some k):qS d=some k/\b4 8 k=true/\∃xs,d=.tup xs:=by
 unfold Co at e
 split at e
 ·obtain⟨p,b,a⟩:=a9 e
  split at a
  ·rename_i z;cases a;exact⟨b,z,_,rfl⟩
  ·cases a
 ·cases e
noncomputable def wx(d:D)(h:MH):Option (List (D×D)):=match d with
 | .ob n=>match h[n]? with
  | some (.dcH a)=>some a
  | _=>none
 | _=>none
def sQ{K:FR}{ρ:Ad}{H:Hp}{h:MH}{v:V}{d:D}{kvs:List (D×D)}(S:bP K ρ h H)(r:Rep K ρ H v d)(e:wx d h=some kvs):∃n a,d=.ob n/\h[n]?=some (.dcH kvs)/\v=.ref a/\ρ.ob[n]?=some a/\Bh K ρ H a (.dcH kvs):=by
 unfold wx at e
 split at e
 ·split at e
  ·rename_i q;cases e;cases r with
   | ob hn=>exact⟨_,_,rfl,q,rfl,hn,S.at_ _ _ _ hn q⟩
  ·cases e
 ·cases e
def AK(d e:D)(h:MH):Option (D×MH):=(wx d h).bind λa=>(Co e).bind λk=>(iS a k).map λz=>(z,h)
def As:Gp:=λd b h=>(wx d h).bind λa=>match b with
 | [e,x]=>(Co e).map λk=>((iS a k).getD x,h)
 | _=>none
def xl(o i v:D)(h:MH):Option MH:=match o with
 | .ob n=>match h[n]? with
  | some (.dcH a)=>(Co i).bind λk=>if a.length < sizeLine then some (h.set n (.dcH (m8 a k i v))) else none
  | _=>none
 | _=>none
def xj(d:D)(h:MH):Bool:=(wx d h).isSome
section
variable {X:Cx}
def Cn{a:List (Addr×Obj)}{σ:L2.St}{H:Hp}{s:Shared}{ρ:Ad}{y:V}{u:Value}{e:D}{k:PyData}(I:Inv X a σ H s)(d:Rep X.K ρ H y e)(c:RelV y u)(g:Co e=some k):∃b,y=.ref b/\u=.ref b/\JK s.heap k b:=by
 obtain⟨i,h,j,rfl⟩:=sM g;cases d with
 | @tup b m ds f l=>
  obtain rfl:u=Value.ref b:=c;exact⟨b,rfl,rfl,h,CS.reads I ((Rep.tup f l).sy i).1 rfl⟩
def Pn(hu:X.A.units+64 < cLine):QB X (rS X.K AK):=by
 intro i j m s P H x y v u Q I C t hh L;obtain⟨R,h,d,e,z,h',S,rd,E,c,k⟩:=hh;obtain⟨F,O,c⟩:=a9 c;obtain⟨Z,q,c⟩:=a9 c;obtain⟨T,g,c⟩:=dS c;cases c;obtain⟨n,a,rfl,hn,rfl,ha,ob⟩:=sQ S rd O;obtain rfl:v=Value.ref a:=C;obtain⟨us,U,Y,ea,f,dd,J,hz⟩:=Jd I ob;obtain⟨b,rfl,rfl,G⟩:=Cn I E t q;rcases f.val (sM q).2.1 with⟨o,l⟩ |⟨p,d',r,o,l,N,M⟩
 ·rw[l] at g;cases g
 ·rw[l] at g;cases g;exact tail_any dd.typeIs Zj.lookup (wpAny_getItem_heap (knd:=yi X.prog X.w) (show X.A.in1.units+8 < cLine by rw[YU];lia) G dd o ⟨r,H,I.tok _,N,k _ _ (.here S M)⟩) L
def GV(hr:fD n X.A)(g:SE X a d)(f:SE X b c)(e:jY b:=by unfold jY;intro _ _;ac_nf):SE X (.Subscript a b pos) (ah AK d c):=(MM (Pn hr.units) g f e).imp λ_ _ _=>zV
def Le(hu:X.A.units+64 < cLine):Gs X "dict.get" (rM X.K As):=by
 intro o s Z H x xs v us Q I G rs hh;obtain⟨ρ,h,d,Y,z,h',S,rd,l,R,k⟩:=hh;obtain⟨M,U,c⟩:=a9 R;obtain⟨n,a,rfl,hn,rfl,ha,ob⟩:=sQ S rd U;obtain rfl:v=Value.ref a:=G;obtain⟨E,r,ps,ea,f,dd,i,hz⟩:=Jd I ob
 match Y,l,c with
 | [],_,c=>cases c
 | [_],_,c=>cases c
 | _::_::_::_,_,c=>exact absurd c (by simp)
 | [dy,dx],l,c=>
  obtain⟨y,t,rfl,F,e⟩:=rep2 l;obtain⟨L,q,T⟩:=dS c;cases T;obtain⟨u,u2,rfl,J,g⟩:=Vals.two rs;obtain⟨b,rfl,rfl,N⟩:=Cn I F J q;refine ZW XU dd.typeIs Yu (Zw _ _ _) (meetsH_dict_get_default (yi X.prog X.w) a b i u2) ⟨show X.A.in1.units+8 < cLine by rw[YU];lia,L,r,N,dd,?_⟩;rcases f.val (sM q).2.1 with⟨m,j⟩ |⟨p,d',C,m,j,P,O⟩
  ·rw[m];refine⟨t,H,I.tok _,g,k _ _ ?_⟩;rw[j];exact .here S e
  ·rw[m];refine⟨C,H,I.tok _,P,k _ _ ?_⟩;rw[j];exact .here S O
def Np{K:FR}{ρ:Ad}{H:Hp}{h:MH}{v:V}{d:D}(S:bP K ρ h H)(r:Rep K ρ H v d)(e:xj d h=true):My K "dict" v H:=by
 obtain⟨b,g⟩:=YS.mp e;obtain⟨n,a,rfl,hn,rfl,j,us,i,ob,_⟩:=sQ S r g;exact .inr (.inr (.inl ⟨rfl,.inr (.inr ⟨_,ob,λw h ⟨_,_,_,_,_,_,_,o,_,_,f,c,_⟩=>⟨o,f,c⟩⟩)⟩))
inductive JJ(K:FR)(o i v:V)(H:Hp)(Q:Hp->Prop):Prop where
 | mk (ρ h a b c h'):bP K ρ h H->Rep K ρ H o a->Rep K ρ H i b->Rep K ρ H v c->(xl a b c h=some h')->(∀ρ' H',de ρ H ρ' H'->bP K ρ' h' H'->Q H')->JJ K o i v H Q
def Rt(K:FR):V->V->V->Hp->(Hp->Prop)->Prop:=λo i v H Q=>JJ K o i v H Q
def D3(o i:EM):GM:=λv a h=>(o a h).bind λp=>(i a p.2).bind λq=>(xl p.1 q.1 v q.2).map λb=>(a,b)
def _root_.L2.qN.stays{a:Addr}{us:List (Addr×V)}{ps:List PyData}{w:World}{h:Heap}(x:qN a us ps w h):(∃o,h.get? a=some o)/\∀b c:Heap,qN a us ps w b->(∀o,b.get? a=some o->c.get? a=some o)->qN a us ps w c:=by
 obtain⟨_,_,_,_,_,_,_,o,_,_,b,_⟩:=x;exact⟨⟨o,b⟩,λ_ _ ⟨n,m,l,j,f,i,g,o,es,p,e,d⟩ k=>⟨n,m,l,j,f,i,g,o,es,p,k _ e,d⟩⟩
def KG(hu:X.A.units+64 < cLine):Mn X (Rt X.K):=by
 intro J s σ H o i v ov iv u Q I ro U rv hh;obtain⟨t,h,d,e,c,h',S,rd,G,Y,g,k⟩:=hh;cases d <;> first |(cases g;done) | skip
 rename_i n;unfold xl at g;dsimp only at g;cases q:h[n]? with
 | none=>rw[q] at g;cases g
 | some w=>
  rw[q] at g;cases w with
  | lst _=>cases g
  | dct _=>cases g
  | dcH l=>
   dsimp only at g;obtain⟨r,P,g⟩:=a9 g
   by_cases z:l.length < sizeLine
   ·rw[Wg z] at g;cases g;obtain⟨n',a,C,hn,rfl,N,ob⟩:=sQ S rd (show wx (.ob n) h=some l by unfold wx;dsimp only;rw[q]);cases C;obtain rfl:ov=Value.ref a:=ro;obtain⟨us,x,ps,ea,f,dd,y,hz⟩:=Jd I ob;obtain⟨b,rfl,rfl,Z⟩:=Cn I G U P;obtain⟨ek,hk,R,rfl⟩:=sM P;obtain⟨j,O⟩:=f.put hk G ek rv Y;have hl:=f.parts;have m:=O.parts;refine wpAny_setItem_heap (knd:=yi X.prog X.w) (hsz:=by have:=hl.2.2.2.2.2.2;lia) (show X.A.in1.units+8 < cLine by rw[YU];lia) Z dd λh2 F hs=>?_;obtain⟨L,es,ep,M,g2,g3,g4,g5,g6⟩:=F;have T:de t H t (upd H a (.JQ (qN a j ((storedH x r b u).map (·.1))))):=de.wrote S (Wk N);have p:(m8 l r (.tup R) c).length<=sizeLine:=by
     unfold m8
     split
     ·rw[Wc];lia
     ·rw[Wn];simp;lia
    have new:qN a j ((storedH x r b u).map (·.1)) X.w h2:=⟨by rw[m.2.2.2.2.2.1];exact p,y,m.2.2.2.1,g6,_,m.2.2.2.2.1,rfl,L,es,ep,M,g2,g3,g4⟩;refine⟨_,jT (ob:=.JQ (qN a j ((storedH x r b u).map (·.1)))) I (by rw[ea];exact True.intro) hs ⟨L,M⟩ ⟨new,L2.qN.stays new⟩,k t _ T (S.wrote N ?_)⟩;have E:=(O.mono T.toCh).parts;exact⟨j,_,aH,E.1,E.2.1,E.2.2.1⟩
   ·rw[Wh z] at g;cases g
def Dk (hr:fD n X.A) (C:SE X o mo) (hi:SE X i z) (E:∀v,assign (.Subscript o i pos) X.env v=(do
   let ov<-holding [v] (eval o X.env);let a<-holding [v,ov] (eval i X.env)
   standAt pos
   holding [v,ov,a] (setItem ov a v)
   release [v,ov,a] []):=by intro _;ac_nf):SG X (.Subscript o i pos) (D3 mo z):=
 (HN C hi (KG hr.units) E).imp λv σ H Q ⟨s,l,h,d,t,Y,R,S,r,e,k⟩=>by
  obtain⟨⟨x,p⟩,M,L⟩:=a9 e;obtain⟨⟨y,m⟩,J,I⟩:=a9 L;obtain⟨U,G,F⟩:=dS I;cases F;exact⟨s,l,h,x,p,R,S,M,λov H1 ⟨j,c,P,w⟩=>⟨j,l,p,y,m,R.mono c,P,J,λa Z ⟨g,b,O,u⟩=>
   ⟨g,m,x,y,d,_,O,w.mono b,u,r.mono (c.trans b).toCh,G,λf T q N=>k f T σ (c.trans (b.trans q)) N (R.mono (c.trans (b.trans q)).toCh)⟩⟩⟩
noncomputable def LU:EM:=λ_ h=>some (.ob h.length,h++[.dcH []])
def GW:SE X (.Dict [] [] pos) LU:=by
 intro pins s σ H Q I ⟨b,c,h,d,g,R,S,e,k⟩;cases e;have hp:H s.heap.objs.size=none:=I.bL.fresh (Wj _);have new:qN s.heap.objs.size [] [] X.w (s.heap.push {cls:=.type "dict",data:=.dict #[]}):=by
  refine⟨WL _,?_,rfl,AaD,[],.nil,rfl,_,#[],0,Ww _ rfl,⟨rfl,rfl,rfl⟩,rfl,rfl⟩;have:=I.big;simp
  lia
 refine wpAny_Dict_empty ⟨.ref s.heap.objs.size,_,I.laid (a:=s.heap.objs.size) (o:=.JQ (qN s.heap.objs.size [] [])) (t':=s.toks) (λ_ _ q=>Wa _ q) (Wj _) ⟨new,L2.qN.stays new⟩,rfl,k _ _ ?_⟩;exact⟨b.more _,de.made S hp,S.made hp ⟨[],[],aH,.nil,.nil,rfl⟩,.ob (show(b.ob++[s.heap.objs.size])[h.length]?=_ by rw[<-S.len,Wy (Wj _)];simp)⟩
end
end Sm
namespace Sm
open L2 PyProof.Rows
abbrev v0:EM:=bF 0
abbrev v1:EM:=bF 1
abbrev v2:EM:=bF 2
abbrev v3:EM:=bF 3
abbrev v4:EM:=bF 4
abbrev v5:EM:=bF 5
abbrev v6:EM:=bF 6
abbrev v7:EM:=bF 7
abbrev v8:EM:=bF 8
abbrev v9:EM:=bF 9
abbrev v10:EM:=bF 10
abbrev v11:EM:=bF 11
abbrev JM:EM:=bF 12
abbrev Qu:EM:=bF 13
abbrev Vq:EM:=bF 14
abbrev QK:EM:=bF 15
abbrev ki(i:Int):EM:=eK (.int i)
abbrev ks(x:Str):EM:=eK (.str x)
abbrev a1(x:EM):AM:=aD x a8
abbrev a2(x y:EM):AM:=aD x (aD y a8)
abbrev a3(x y z:EM):AM:=aD x (aD y (aD z a8))
abbrev a4(x y z u:EM):AM:=aD x (aD y (aD z (aD u a8)))
section
variable {P:Program} {w:World} {K:FR} {mg:Str->Option Value} {base:Heap} {x qual:Str} {st:Stmt} {f:Addr} {fd:FuncData} {N ps:List Str} {k:Nat}
def av(F:dZ K x qual st f fd)(b:ar N ps (ae st))(d:∀(a:Value)(A:Around)(outer:List Env)(s:Shared)(H:Hp)(E:XK),fD k (A.deeper (envOfC qual (ae st) s.heap.objs.size f a))->N.Nodup->JR (AO dD P w K mg base N qual (ae st) f a A outer s H E).Qw (iq st) body):
  aV P w K mg base dD (k+1) f fd ps (eu K ps.length (fM N.length body)):=Pw F b λc A o s H E hr=>d c A o s H E hr b.nd
end
def QZ{c:CmpOp}(g:ph X (compareOp c) f)(i:SE X a e)(h:SE X b d)(hm:behindInMarks c b=false:=by first | exact qk _ | ac_nf):ST X (.Compare a [c] [b] pos) (au (ah f e d)):=pI g i h hm
def Q1{c:CmpOp}(g:ph X (compareOp c) f)(i:SE X a e)(h:SE X b d)(hm:behindInMarks c b=false:=by first | exact qk _ | ac_nf):SE X (.Compare a [c] [b] pos) (ah f e d):=G0 g i h hm
def Ur{a}(h:SA X es a8):SE X (.Tuple es a pos) (ai aw a8):=dh h aF
def Uo{a}(h:SA X es (aD m0 a8)):SE X (.Tuple es a pos) (ai aw (aD m0 a8)):=dh h (af aF)
def Um{a}(h:SA X es (aD m0 (aD b a8))):SE X (.Tuple es a pos) (ai aw (aD m0 (aD b a8))):=dh h (af (af aF))
def Ul{a}(h:SA X es (aD m0 (aD c (aD b a8)))):SE X (.Tuple es a pos) (ai aw (aD m0 (aD c (aD b a8)))):=dh h (af (af (af aF)))
def Uv(h:SA X es a8):zq X (.List es pos) a8:=kB h aF
def Uu(h:SA X es (aD m0 a8)):zq X (.List es pos) (aD m0 a8):=kB h (af aF)
def Ut(h:SA X es (aD m0 (aD a a8))):zq X (.List es pos) (aD m0 (aD a a8)):=kB h (af (af aF))
def Us(h:SA X es (aD m0 (aD b (aD a a8)))):zq X (.List es pos) (aD m0 (aD b (aD a a8))):=kB h (af (af (af aF)))
end Sm
end
namespace Pg
open PySem Sm L2
abbrev Term:=Str×Int
abbrev Lock:=Str×Term
inductive Row where
 | say (w:Str)
 | call (d:Str) (ts:List Term)
 | within (l:Lock) (b:List Row)
 | all (ls:List Lock) (b:List Row)
 | ask (l:Lock) (b e:List Row)
 | vi (s t:Term) (a b c:List Row)
 | either (a b:List Row)
 | again (a:List Row)
noncomputable def bx(t:Term):D:=.tup [.str t.1,.int t.2]
def dX(l:Lock):D:=.tup [.str l.1,bx l.2]
mutual
noncomputable def aG:Row->D
 | .say w=>.tup [.str "say",.str w]
 | .call d f=>.tup [.str "call",.str d,.tup (f.map bx)]
 | .within l b=>.tup [.str "within",dX l,.tup (eD b)]
 | .all ls b=>.tup [.str "all",.tup (ls.map dX),.tup (eD b)]
 | .ask l b e=>.tup [.str "ask",dX l,.tup (eD b),.tup (eD e)]
 | .vi s t a b c=>.tup [.str "by",bx s,bx t,.tup (eD a),.tup (eD b),.tup (eD c)]
 | .either a b=>.tup [.str "either",.tup (eD a),.tup (eD b)]
 | .again a=>.tup [.str "again",.tup (eD a)]
noncomputable def eD:List Row->List D
 | []=>[]
 | r::rs=>aG r::eD rs
end
theorem dW:∀l:List Row,eD l=l.map aG
 | []=>by simp[eD]
 | r::rs=>by simp[eD,dW rs]
mutual
noncomputable def cnt:Row->Nat
 | .say _=>1
 | .call _ _=>1
 | .within _ b=>1+aX b
 | .all _ b=>1+aX b
 | .ask _ b e=>1+aX b+aX e
 | .vi _ _ a b c=>1+aX a+aX b+aX c
 | .either a b=>1+aX a+aX b
 | .again a=>1+aX a
noncomputable def aX:List Row->Nat
 | []=>0
 | r::rs=>cnt r+aX rs
end
theorem uU:∀a b:List Row,aX (a++b)=aX a+aX b
 | [],b=>by simp[aX]
 | r::a,b=>by simp[aX,uU a b];lia
structure Wd where
 names:List Str
 ao:List Str
 params:List (List Str)
def uq(ps:List Str)(t:Term):Prop:=(t.1=Str.ofString ""\/t.1∈ps)/\-99<=t.2/\t.2<=99
def ur(W:Wd)(ps:List Str)(l:Lock):Prop:=l.1∈W.names/\uq ps l.2
mutual
def bE(W:Wd)(ps:List Str):Nat->Row->Prop
 | _,.say _=>True
 | _,.call d f=>(∃(j:Nat)(g:List Str),W.ao[j]?=some d/\W.params[j]?=some g/\f.length=g.length)/\∀t∈f,uq ps t
 | n,.within l b=>ur W ps l/\n < 5/\b.length<=12/\bZ W ps (n+1) b
 | n,.all ls b=>(2<=ls.length/\ls.length<=4/\ls.Nodup/\∀l∈ls,ur W ps l)/\n < 5/\b.length<=12/\bZ W ps (n+1) b
 | n,.ask l b e=>ur W ps l/\n < 5/\b.length<=12/\e.length<=12/\bZ W ps (n+1) b/\bZ W ps (n+1) e
 | n,.vi s t a b c=>uq ps s/\uq ps t/\n < 5/\a.length<=12/\b.length<=12/\c.length<=12/\bZ W ps (n+1) a/\bZ W ps (n+1) b/\bZ W ps (n+1) c
 | n,.either a b=>n < 5/\a.length<=12/\b.length<=12/\bZ W ps (n+1) a/\bZ W ps (n+1) b
 | n,.again a=>n < 5/\a.length<=12/\bZ W ps (n+1) a
def bZ(W:Wd)(ps:List Str):Nat->List Row->Prop
 | _,[]=>True
 | n,r::rs=>bE W ps n r/\bZ W ps n rs
end
theorem qj{W:Wd}{ps:List Str}{n:Nat}:∀{a:List Row},bZ W ps n a->∀r∈a,bE W ps n r
 | [],_,_,z=>by cases z
 | r::a,h,x,b=>by
  unfold bZ at h;rcases Ws.mp b with rfl | b
  ·exact h.1
  ·exact qj h.2 x b
end Pg
set_option hygiene false in
local macro_rules | `(tactic| ac_rfl) => do {let t <- (("|Sm.sv _|Sm.bh|Sm.aA|Sm.aa ? ?|Sm.ab ? ?|Sm.aE ?|Sm.bG ?|Sm.sset _ @ ?|Sm.eO ? ? ?|Sm.fu|Sm.six hr ? ?|Sm.sr @ hr ?|Sm.dm|Sm.Bv|Sm.MG|Sm.Um ?|Sm.Uo ?|Sm.Ul ?|Sm.Ur ?|Sm.stp4 ?|Sm.stp5 ?|Sm.stp6 ?|Sm.QZ ? ? ?|Sm.dq ? ? ?|Sm.eV|Sm.B7 hr.units|Sm.OI hr.units|Sm.MQ|Sm.RF|Sm.MR|Sm.MS|Sm.OK|Sm.K4|Sm.Ia hr.units|Sm.HZ hr.units|Sm.OH|Sm.yo|Sm.MF Sm.Gv ?|Sm.GS ? ? ?|Sm.Dg|Sm.De ?|Sm.iB ? ?|Sm.pJ rfl ?|Sm.cH ? ?|Sm.jf|Sm.sgn _ @|Sm.Bw Sm.PV B.SH Sm.Qb ?|Sm.G5 Sm.eY B.eC Sm.c8 ?|Sm.pH ?|Sm.GH ?|Sm.Q7 ? ? ?|Sm.nR ?|Sm.zH Sm.mM PySem.F.plainAttrs_list PySem.F.slot_list_append PySem.F.type_list_append Sm.lS ? ?|Sm.Q5 Sm.mM PySem.F.plainAttrs_list PySem.F.slot_list_pop PySem.F.type_list_pop Sm.O3 ?|Sm.zq.lv ?|Sm.zq.ob ?|Sm.Uv ?|Sm.Uu ?|Sm.Ut ?|Sm.Us ?|Sm.sfl4 ?|Sm.sfl5 ?|Sm.sfl6 ?|Sm.sfl7 ?|Sm.sfl8 ?|Sm.sY ? ?|Sm.MC ? ?|Sm.nP ?|Sm.NA ?|Sm.fO PassesOwn.never rfl ? ? ?|Sm.mO ?|Sm.ND|Sm.Bw Sm.PU~rfl B.SF Sm.Qa ?|Sm.Bw Sm.PR~rfl B.SD Sm.P9 ?|Sm.G5 Sm.Jg B.EB Sm.zh ?|Sm.Bw Sm.PZ B.SN Sm.Qe ?|Sm.Q1 ? ? ?|Sm.SW.st ?".splitOn "|").drop 1).toArray.mapM (λl => do {let x <- (l.splitOn " ").toArray.mapM (λz => if z == "?" then `(?_) else if z == "_" then `(_) else if z == "@" then `(‹_›) else(let y := (z.splitOn "~").toArray.map (λw => (Lean.mkIdent w.toName : Lean.TSyntax `term));pure (Lean.Syntax.mkApp y[0]! (y.extract 1 y.size))));`(Lean.Parser.Tactic.tacticSeq| refine $(Lean.Syntax.mkApp x[0]! (x.extract 1 x.size)) <;> ac_rfl)});`(tactic| with_reducible first $[| $t]*)}
local macro_rules | `(tactic| walk_at "v") => `(tactic|(conv => arg 2;whnf))
local macro_rules | `(tactic| walk_at "u") => `(tactic|(walk_at "v";ac_rfl))
namespace Mi
open PySem L2 Sm PySem.Spec PyProof.Rows
structure Bs(P:Program)(w:World)(K:FR)(mg:Str->Option Value):Prop where
 SN:mg "abs"=none
 SK:mg "all"=none
 SJ:mg "any"=none
 Jz:mg "bool"=none
 Qg:mg "dict"=none
 eI:mg "enumerate"=none
 EB:mg "int"=none
 bX:mg "isinstance"=none
 SH:mg "len"=none
 Jy:mg "list"=none
 SF:mg "max"=none
 SD:mg "min"=none
 l4:mg "range"=none
 Sz:mg "set"=none
 AZ:mg "sorted"=none
 M9:mg "str"=none
 eC:mg "tuple"=none
 M8:mg "zip"=none
 JH:Tab P w K mg "SHAPES" lM
abbrev jw:Stmt:=top 39
abbrev jL:List Str:=["_law_script"]
def vE:ar ["_law_script"] jL (ae jw):=by walk_at "s"
def fh:Fn:=fM 1
  (aC (Eg (a3 (ki 0) (Eg (ED (a1 (f9 v0 sG (sH (ki 63)))))) (ki 0))))
abbrev kI:Stmt:=top 40
abbrev kT:List Str:=["_law_state"]
def jj:ar ["_law_state","_law_cells","_law_tour","_law_cell","_law_mixed"] kT (ae kI):=by walk_at "s"
def iy:Fn:=fM 5
  (ak (aP 1 (ah aB v0 (ki 1)))
  (ak (aP 2 (ah aB v0 (ki 2)))
  (ak (fi (ah aI v2 (ki 1)) (yO v0 (ki 2)))
  (ak (aP 3 (ki 0))
  (ak (eL (au (ah rY v1 (nB a8))) (aP 3 (ah aB v1 (ah wu v2 (ai eN (a1 v1))))) bU)
  (eL (nO (au (ah LK v2 (ai eN (a1 v1)))) (au (ah TN (ai PD (a1 v3)) (ah LH (ki 10) (ki 18))))) (fi (ai PD (a1 v3)) (yO v0 (ki 0))) (ak (aP 4 (ah wu (ah qW (ah aI (ah aI (ah wu v3 (ki 2305843009213693951)) (ah qW (ah qW (ki 7919) v2) v2)) (ki 11)) (ki 48271)) (ki 2305843009213693951)))
  (ak (aP 4 (ah wu (ah qW v4 v4) (ki 2305843009213693921)))
  (fi (ah aI (ah wu (ah aI (ah aI (ah qW v4 (ki 69621)) v2) (ki 104729)) (ki 2305843009213693951)) (ah LH (ki 10) (ki 9))) (yO v0 (ki 0)))))))))))
abbrev kG:Stmt:=top 41
abbrev kR:List Str:=["_law_state","_law_many"]
def xS:ar ["_law_state","_law_many","_law_found"] kR (ae kG):=by walk_at "s"
def aU:Fn:=fM 3
  (ak (eL (au (ah LK (ah aB v0 (ki 0)) v1)) (cJ (ai iy (a1 v0))) bU)
  (ak (aP 2 (ah wu (ah aB v0 (ki 0)) v1))
  (ak (fi (ah IW (ah aB v0 (ki 0)) v1) (yO v0 (ki 0)))
  (aC v2))))
abbrev pR:Stmt:=top 42
abbrev qh:List Str:=["_law_state","_law_some"]
def BD:ar ["_law_state","_law_some"] qh (ae pR):=by walk_at "s"
def dO:Fn:=fM 2
  (aC (ah aB v1 (ai aU (a2 v0 (ai eN (a1 v1))))))
abbrev fR:Stmt:=top 59
abbrev cj:List Str:=["_law_state","_law_room","_law_deed","_law_deep"]
def pL:ar ["_law_state","_law_room","_law_deed","_law_deep","_law_rows","_law_turn"] cj (ae fR):=by walk_at "s"
abbrev fQ:Stmt:=top 60
abbrev cg:List Str:=["_law_state","_law_room","_law_deed","_law_deep"]
def cI:ar ["_law_state","_law_room","_law_deed","_law_deep","_law_way","_law_lots_here","_law_one","_law_other","_law_some"] cg (ae fQ):=by walk_at "s"
mutual
noncomputable def bz:Nat->Fn
 | 0=>λ_ _=>none
 | n+1=>MU 6
  (ak (aP 4 (Eg a8))
  (ak (l8 (Cr (a1 (ai aU (a2 v0 (ki 3))))) (gN 5) (eL (au (ah Sg (ah aB v1 (ki 0)) (ki 0))) (ak (fi (ah IQ (ah aB v1 (ki 0)) (ki 1)) (yO v1 (ki 0)))
  (cJ (eM bK bt v4 (a1 (ai (cp n) (a4 v0 v1 v2 v3)))))) bU))
  (aC (ai cA (a1 v4)))))
noncomputable def cp:Nat->Fn
 | 0=>λ_ _=>none
 | n+1=>fM 9
  (ak (aP 4 (ai aU (a2 v0 (ki 9))))
  (ak (eL (ET (au (ah LK v4 (ki 2))) (au (ah bu v3 (ki 5)))) (ak (eL (nO (au (ah LK v2 (ki 2))) (au (ah bu (ai aU (a2 v0 (ki 2))) (ki 0)))) (aC (ai aw (a3 (ks "call") (ah aB (eK (.lv [.str "da",.str "db",.str "dc"])) (ah aI (ah aI v2 (ki 1)) (ai aU (a2 v0 (ah IQ (ki 2) v2))))) (ai aw a8)))) bU)
  (aC (ai aw (a2 (ks "say") (ks "x"))))) bU)
  (ak (aP 5 (ai cA (a1 (nB (fb [none,some 2,some 3,some 1,some 0] (Cr (a1 (ah aB (eK (.lv [.int 1,.int 2,.int 3])) (ai aU (a2 v0 (ki 3)))))) (gN 0) cV (ai (bz n) (a4 v4 v3 v1 (ah aI v2 (ki 1)))))))))
  (ak (BE 6 7 (a2 (ai aw (a2 (ks "n") (ai aw (a2 (ks "") (ai aU (a2 v0 (ki 2))))))) (ai aw (a2 (ks "n") (ai aw (a2 (ks "") (ah aI (ki 2) (ai aU (a2 v0 (ki 2))))))))))
  (ak (eL (au (ah bu (ai eN (a1 v5)) (ki 1))) (ak (aP 8 (nB (a3 (ah aI (ai aw (a1 (ks "again"))) v5) (ah aI (ai aw (a2 (ks "within") v6)) v5) (ah aI (ai aw (a2 (ks "all") (ai aw (a2 v6 v7)))) v5))))
  (aC (ai dO (a2 v0 v8)))) bU)
  (ak (eL (au (ah bu (ai eN (a1 v5)) (ki 2))) (aC (ai dO (a2 v0 (nB (a2 (ah aI (ai aw (a1 (ks "either"))) v5) (ah aI (ai aw (a2 (ks "ask") v6)) v5)))))) bU)
  (aC (ah aI (ai aw (a3 (ks "by") (ah aB v6 (ki 1)) (ai aw (a2 (ks "") (ai aU (a2 v0 (ki 2))))))) v5))))))))
end
abbrev kL:Stmt:=top 61
abbrev kX:List Str:=["_law_state"]
def xV:ar ["_law_state","_law_room","_law_deeds","_law_k","_law_deed","_law_rows"] kX (ae kL):=by walk_at "s"
def iA:Fn:=MU 6
  (ak (aP 1 (Eg (a1 (ki 20))))
  (ak (aP 2 (Eg a8))
  (ak (l8 (qV (a1 (eK (.lv [.str "da",.str "db",.str "dc"])))) (gT 2 (ag (gN 3) (ag (gN 4) bo))) (ak (aP 5 (ai (bz 12) (a4 v0 v1 v3 (ki 1))))
  (cJ (eM bK bt v2 (a1 (ai aw (a3 v4 (ai aw a8) (ah aI v5 (ah AJ v5 (ai aU (a2 v0 (ki 2))))))))))))
  (aC (ai aw (a2 (ai aw (a1 (ks "n"))) (ai cA (a1 v2))))))))
abbrev kH:Stmt:=top 43
abbrev kS:List Str:=["_law_row"]
def xT:ar ["_law_row"] kS (ae kH):=by walk_at "s"
def ix:Fn:=fM 1
  (aC (eM IA RN (M3 (mB (ks "within") (f9 v0 (sH (ki 2)) sG) (mB (ks "all") (f9 v0 (sH (ki 2)) sG) (mB (ks "ask") (f9 v0 (sH (ki 2)) sG) (mB (ks "by") (f9 v0 (sH (ki 3)) sG) (mB (ks "either") (f9 v0 (sH (ki 1)) sG) (mB (ks "again") (f9 v0 (sH (ki 1)) sG) OG))))))) (a2 (ah aB v0 (ki 0)) (ai aw a8))))
abbrev jr:Stmt:=top 44
abbrev eU:List Str:=["_law_rows","_law_ahead","_law_table_here"]
def vA:ar ["_law_rows","_law_ahead","_law_table_here","_law_k","_law_row","_law_lot","_law_inner"] eU (ae jr):=by walk_at "s"
def bY:Nat->Fn
 | 0=>λ_ _=>none
 | n+1=>fM 7
  (ak (fi (ai eN (a1 v0)) (D3 (ah aB v2 (ks "size")) v1))
  (ak (l8 (qV (a1 v0)) (gT 2 (ag (gN 3) (ag (gN 4) bo))) (ak (fi v4 (D3 (ah aB v2 (ks "row")) (ah aI v1 (ai aw (a1 v3)))))
  (l8 (qV (a1 (ai ix (a1 v4)))) (gT 2 (ag (gN 5) (ag (gN 6) bo))) (cJ (ai (bY n) (a3 v6 (ah aI v1 (ai aw (a2 v3 v5))) v2))))))
  (aC v2)))
abbrev iD:Stmt:=top 45
abbrev iI:List Str:=["_law_program"]
def tu:ar ["_law_program"] iI (ae iD):=by walk_at "s"
def fH:Fn:=fM 1
  (aC (nB (fb [none] (jQ (ah aB v0 (ki 1))) (gN 0) cV (ai (bY 8) (a3 (ah aB v0 (ki 2)) (ai aw a8) (CF (mB (ks "size") LU (mB (ks "row") LU OG))))))))
abbrev iE:Stmt:=top 46
abbrev iJ:List Str:=["_law_path"]
def tw:ar ["_law_path"] iJ (ae iE):=by walk_at "s"
def br:Fn:=fM 1
  (aC (ah aI (f9 v0 sG (sH (i6 cT (ki 1)))) (ai aw (a1 (ah aI (ah aB v0 (i6 cT (ki 1))) (ki 1))))))
abbrev gF:Stmt:=top 47
abbrev gL:List Str:=["_law_tables_here","_law_frames"]
def j7:ar ["_law_tables_here","_law_frames","_law_deed","_law_known","_law_path","_law_word","_law_below","_law_numbers","_law_at"] gL (ae gF):=by walk_at "s"
def bQ:Fn:=fM 9
  (ak (gy (nO (au (ah rY v1 (nB a8))) (au (ah bu (ah aB (ah aB (ah aB v1 (i6 cT (ki 1))) (ki 2)) (i6 cT (ki 1))) (ah AK (ah aB (ah aB v0 (ah aB (ah aB v1 (i6 cT (ki 1))) (ki 0))) (ks "size")) (f9 (ah aB (ah aB v1 (i6 cT (ki 1))) (ki 2)) sG (sH (i6 cT (ki 1)))))))) (ak (fi (eM bK wb v1 a8) (gT 3 (ag (gN 2) (ag (gN 3) (ag (gN 4) bo)))))
  (eL (au (ah Sg (ai eN (a1 v4)) (ki 1))) (ak (aP 5 (ah aB (ah AK (ah aB (ah aB v0 v2) (ks "row")) (f9 v4 sG (sH (i6 cT (ki 2))))) (ki 0)))
  (ak (eL (ET (au (ah r8 v5 (ai aw (a2 (ks "within") (ks "all"))))) (nO (au (ah bu v5 (ks "ask"))) (au (ah bu (ah aB v4 (i6 cT (ki 2))) (ki 0))))) (ak (cJ (eM bK bt v1 (a1 (ai aw (a3 v2 v3 v4)))))
  (aC v1)) bU)
  (cJ (eM bK bt v1 (a1 (ai aw (a3 v2 v3 (xn (au (ah bu v5 (ks "again"))) (f9 v4 sG (sH (i6 cT (ki 2)))) (ai br (a1 (f9 v4 sG (sH (i6 cT (ki 2)))))))))))))) (eL (au (ah rY v1 (nB a8))) (ak (fi (eM bK wb v1 a8) (gT 3 (ag (gN 6) (ag (gN 7) (ag (gN 8) bo)))))
  (cJ (eM bK bt v1 (a1 (ai aw (a3 v6 v7 (ai br (a1 v8)))))))) bU))) 1000000)
  (aC v1))
abbrev jx:Stmt:=top 48
abbrev jM:List Str:=["_law_program","_law_tables_here","_law_town"]
def mw:ar ["_law_program","_law_tables_here","_law_town","_law_deeds","_law_world","_law_deed","_law_numbers"] jM (ae jx):=by walk_at "s"
def gm:Fn:=fM 7
  (ak (aP 3 (nB (fb [none] (jQ (ah aB v0 (ki 1))) (gN 0) cV (ah aB v0 (ki 0)))))
  (ak (aP 4 (Eg a8))
  (ak (l8 (jQ v2) (gT 2 (ag (gN 5) (ag (gN 6) bo))) (cJ (eM bK bt v4 (a1 (Eg (a2 (ai bQ (a2 v1 (Eg (a1 (ai aw (a3 (eM bK lT v3 (a1 v5)) v6 (ai aw (a1 (ki 0))))))))) (Eg a8)))))))
  (aC v4))))
abbrev kF:Stmt:=top 58
abbrev fJ:List Str:=["_law_found","_law_due"]
def xR:ar ["_law_found","_law_due"] fJ (ae kF):=by walk_at "s"
def cw:Nat->Fn
 | 0=>λ_ _=>none
 | n+1=>fM 2
  (ak (eL (iT (ai rZ (a2 v1 (eK (.ty "tuple"))))) (ak (eL (ET (rq (iT (ai rZ (a2 v0 (eK (.ty "tuple")))))) (au (ah rY (ai eN (a1 v0)) (ai eN (a1 v1))))) (aC (eK (.bl false))) bU)
  (aC (ai PC (a1 (nB (fb [none,none] (Pq (a2 v0 v1)) (gT 2 (ag (gN 0) (ag (gN 1) bo))) cV (ai (cw n) (a2 v0 v1)))))))) bU)
  (ak (eL (au (ah oF v1 (eK .bb))) (aC (ah oF v0 (eK .bb))) bU)
  (ak (eL (iT (ai rZ (a2 v1 (eK (.ty "str"))))) (aC (qC (ai rZ (a2 v0 (eK (.ty "str")))) (ah bu v0 v1))) bU)
  (aC (qC (ai rZ (a2 v0 (eK (.ty "int")))) (qC (LS (ai rZ (a2 v0 (eK (.ty "bool"))))) (ah bu v0 v1)))))))
abbrev ju:Stmt:=top 49
abbrev jJ:List Str:=["_law_world"]
def vC:ar ["_law_world"] jJ (ae ju):=by walk_at "s"
def dN:Fn:=fM 1
  (aC (ai cA (a1 (nB (fb [none,none] (jQ v0) (Pt 2 (ag (gN 0) (ag (gN 1) bo))) cV (ai aw (a2 (ai cA (a1 v0)) (ai cA (a1 v1)))))))))
abbrev gE:Stmt:=top 11
abbrev gK:List Str:=["program"]
def rD:ar ["program"] gK (ae gE):=by walk_at "s"
def cP:Fn:=fM 1
  (aC (Sh [none,none] (qV (a1 (ah aB v0 (ki 1)))) (gT 2 (ag (gN 0) (ag (gN 1) bo))) cV (mD (ah aB v1 (ki 0)) v0) [] .dv))
abbrev pO:Stmt:=top 9
abbrev qe:List Str:=["row"]
def BA:ar ["row"] qe (ae pO):=by walk_at "s"
def ja:Fn:=fM 1
  (aC (f9 v0 (sH (ah aB (i6 (Px lM) (ah aB v0 (ki 0))) (ki 0))) sG))
abbrev tD:Stmt:=top 15
abbrev ue:List Str:=["rows","path"]
def E4:ar ["rows","path","lot","at"] ue (ae tD):=by walk_at "s"
def lJ:Fn:=fM 4
  (ak (aP 2 v0)
  (ak (l8 (LA (a3 (ki 1) (ai eN (a1 v1)) (ki 2))) (gN 3) (aP 2 (ah aB (ai ja (a1 (ah aB v2 (ah aB v1 (ah IQ v3 (ki 1)))))) (ah aB v1 v3))))
  (aC v2)))
abbrev tx:Stmt:=top 16
abbrev ud:List Str:=["rows","path"]
def E3:ar ["rows","path","lot"] ud (ae tx):=by walk_at "s"
def gZ:Fn:=fM 3
  (ak (aP 2 (ai lJ (a2 v0 v1)))
  (aC (xn (au (ah LK (ah aB v1 (i6 cT (ki 1))) (ai eN (a1 v2)))) (ah aB v2 (ah aB v1 (i6 cT (ki 1)))) (eK .bb))))
abbrev fP:Stmt:=top 20
abbrev fS:List Str:=["row","lot"]
def pK:ar ["row","lot"] fS (ae fP):=by walk_at "s"
def c9:Fn:=fM 2
  (aC (Vb (ah r8 (ah aB v0 (ki 0)) (ai aw (a2 (ks "within") (ks "all")))) (qC (ah bu (ah aB v0 (ki 0)) (ks "ask")) (ah bu v1 (ki 0)))))
abbrev tF:Stmt:=top 19
abbrev ug:List Str:=["path"]
def E6:ar ["path"] ug (ae tF):=by walk_at "s"
def fL:Fn:=fM 1
  (aC (ah aI (f9 v0 sG (sH (i6 cT (ki 1)))) (ai aw (a1 (ah aI (ah aB v0 (i6 cT (ki 1))) (ki 1))))))
abbrev jk:Stmt:=top 21
abbrev jC:List Str:=["rows","path"]
def vp:ar ["rows","path","around","row"] jC (ae jk):=by walk_at "s"
def fg:Fn:=fM 4
  (ak (gy (au (ah oF (ai gZ (a2 v0 v1)) (eK .bb))) (ak (eL (au (ah bu (ai eN (a1 v1)) (ki 1))) (aC (eK .bb)) bU)
  (ak (aP 2 (f9 v1 sG (sH (i6 cT (ki 2)))))
  (ak (aP 3 (ai gZ (a2 v0 v2)))
  (ak (eL (iT (ai c9 (a2 v3 (ah aB v1 (i6 cT (ki 2)))))) (aC v1) bU)
  (aP 1 (xn (au (ah bu (ah aB v3 (ki 0)) (ks "again"))) v2 (ai fL (a1 v2)))))))) 1000000)
  (aC v1))
abbrev pN:Stmt:=top 13
abbrev qc:List Str:=["program","deed"]
def By:ar ["program","deed"] qc (ae pN):=by walk_at "s"
def gx:Fn:=fM 2
  (aC (ah aB (ah aB (ah aB v0 (ki 1)) v1) (ki 2)))
abbrev gC:Stmt:=top 22
abbrev gI:List Str:=["program","frames"]
def j6:ar ["program","frames","left","deed","numbers","path"] gI (ae gC):=by walk_at "s"
def cO:Fn:=MU 6
  (ak (aP 2 (Eg (ED (a1 v1))))
  (ak (gy (iT v2) (ak (fi (eM bK wb v2 a8) (gT 3 (ag (gN 3) (ag (gN 4) (ag (gN 5) bo)))))
  (ak (aP 5 (ai fg (a2 (ai gx (a2 v0 v3)) v5)))
  (ak (eL (au (ah gR v5 (eK .bb))) (ak (cJ (eM bK bt v2 (a1 (ai aw (a3 v3 v4 v5)))))
  Kk) bU)
  (eL (iT v2) (ak (fi (eM bK wb v2 a8) (gT 3 (ag (gN 3) (ag (gN 4) (ag (gN 5) bo)))))
  (cJ (eM bK bt v2 (a1 (ai aw (a3 v3 v4 (ai fL (a1 v5)))))))) bU)))) 1000000)
  (aC (ai cA (a1 v2)))))
abbrev xZ:Stmt:=top 23
abbrev yn:List Str:=["program","town"]
def G9:ar ["program","town","numbers_of","scene","deed","numbers","frame"] yn (ae xZ):=by walk_at "s"
def l7:Fn:=MU 7
  (ak (aP 2 (ai cP (a1 v0)))
  (ak (aP 3 (Eg a8))
  (ak (l8 (jQ v1) (gT 2 (ag (gN 4) (ag (gN 5) bo))) (ak (aP 6 (ai aw (a3 (ah aB v2 v4) v5 (ai aw (a1 (ki 0))))))
  (cJ (eM bK bt v3 (a1 (ai aw (a2 (ai cO (a2 v0 (ai aw (a1 v6)))) (ai aw a8))))))))
  (aC (ai cA (a1 v3))))))
abbrev jt:Stmt:=top 50
abbrev jI:List Str:=["_law_tables_here","_law_frames"]
def vB:ar ["_law_tables_here","_law_frames"] jI (ae jt):=by walk_at "s"
def dM:Fn:=fM 2
  (ak (eL (au (ah bu v1 (nB a8))) (aC (eK .bb)) bU)
  (aC (eM xj As (ah aB (ah aB v0 (ah aB (ah aB v1 (i6 cT (ki 1))) (ki 0))) (ks "row")) (a2 (ah aB (ah aB v1 (i6 cT (ki 1))) (ki 2)) (eK .bb)))))
abbrev jq:Stmt:=top 51
abbrev jH:List Str:=["_law_program","_law_frame","_law_term"]
def vz:ar ["_law_program","_law_frame","_law_term"] jH (ae jq):=by walk_at "s"
def aW:Fn:=fM 3
  (ak (eL (au (ah bu (ah aB v2 (ki 0)) (ks ""))) (aC (ah aB v2 (ki 1))) bU)
  (aC (ah aI (ah aB (ah aB v1 (ki 1)) (eM Po sL (ah aB (ah aB (ah aB v0 (ki 1)) (ah aB v1 (ki 0))) (ki 1)) (a1 (ah aB v2 (ki 0))))) (ah aB v2 (ki 1)))))
abbrev kE:Stmt:=top 52
abbrev kQ:List Str:=["_law_program","_law_frame","_law_row"]
def xQ:ar ["_law_program","_law_frame","_law_row","_law_some"] kQ (ae kE):=by walk_at "s"
def eJ:Fn:=fM 4
  (ak (aP 3 (xn (au (ah bu (ah aB v2 (ki 0)) (ks "all"))) (ah aB v2 (ki 1)) (ai aw (a1 (ah aB v2 (ki 1))))))
  (aC (ai cA (a1 (lZ (nB (fb [none,none,some 1,some 0] (jQ v3) (gT 2 (ag (gN 0) (ag (gN 1) bo))) cV (ai aw (a2 v0 (ai aW (a3 v3 v2 v1)))))))))))
abbrev kJ:Stmt:=top 53
abbrev kU:List Str:=["_law_world","_law_lock"]
def xU:ar ["_law_world","_law_lock","_law_hand","_law_frames","_law_held_here","_law_block"] kU (ae kJ):=by walk_at "s"
def cS:Fn:=fM 6
  (ak (l8 (qV (a1 v0)) (gT 2 (ag (gN 2) (ag (Pt 2 (ag (gN 3) (ag (gN 4) bo))) bo))) (l8 (jQ v4) (gN 5) (eL (au (ah r8 v1 v5)) (aC v2) bU)))
  (aC (eK .bb)))
abbrev jo:Stmt:=top 54
abbrev jG:List Str:=["_law_program","_law_tables_here","_law_world","_law_hand"]
def vy:ar ["_law_program","_law_tables_here","_law_world","_law_hand","_law_frames","_law_row"] jG (ae jo):=by walk_at "s"
def gh:Fn:=fM 6
  (ak (aP 4 (ah aB (ah aB v2 v3) (ki 0)))
  (ak (aP 5 (ai dM (a2 v1 v4)))
  (ak (eL (ET (au (ah oF v5 (eK .bb))) (au (ah yS (ah aB v5 (ki 0)) (ai aw (a2 (ks "within") (ks "all")))))) (aC (ai aw a8)) bU)
  (aC (ai cA (a1 (nB (fb [none,some 2] (jQ (ai eJ (a3 v0 (ah aB v4 (i6 cT (ki 1))) v5))) (gN 0) (au (ah gR (ai cS (a2 v1 v0)) (eK .bb))) v0))))))))
abbrev jv:Stmt:=top 55
abbrev jK:List Str:=["_law_program","_law_tables_here","_law_world"]
def vD:ar ["_law_program","_law_tables_here","_law_world","_law_found","_law_hand","_law_row"] jK (ae jv):=by walk_at "s"
def gj:Fn:=MU 6
  (ak (aP 3 (Eg a8))
  (ak (l8 (Cr (a1 (ai eN (a1 v2)))) (gN 4) (ak (aP 5 (ai dM (a2 v1 (ah aB (ah aB v2 v4) (ki 0)))))
  (eL (nO (au (ah rY (ah aB (ah aB v2 v4) (ki 0)) (nB a8))) (au (ah LN (ai gh (a4 v0 v1 v2 v4)) (ai aw a8)))) (ak (cJ (eM bK bt v3 (a1 (ai aw (a2 v4 (ki 0))))))
  (eL (nO (au (ah gR v5 (eK .bb))) (au (ah r8 (ah aB v5 (ki 0)) (ai aw (a2 (ks "either") (ks "again")))))) (cJ (eM bK bt v3 (a1 (ai aw (a2 v4 (ki 1)))))) bU)) bU)))
  (aC v3)))
abbrev iF:Stmt:=top 56
abbrev iK:List Str:=["_law_program","_law_frame","_law_row","_law_choice"]
def gz:ar ["_law_program","_law_frame","_law_row","_law_choice","_law_one","_law_other"] iK (ae iF):=by walk_at "s"
def en:Fn:=fM 6
  (ak (eL (au (ah bu (ah aB v2 (ki 0)) (ks "by"))) (ak (BE 4 5 (a2 (ai aW (a3 v0 v1 (ah aB v2 (ki 1)))) (ai aW (a3 v0 v1 (ah aB v2 (ki 2))))))
  (aC (ah aI (ai Cy (a1 (ah TN v4 v5))) (ai Cy (a1 (ah Sg v4 v5)))))) bU)
  (ak (eL (au (ah bu (ah aB v2 (ki 0)) (ks "either"))) (aC v3) bU)
  (aC (xn (au (ah bu v3 (ki 1))) (ki 0) (eK .bb)))))
abbrev kK:Stmt:=top 57
abbrev kW:List Str:=["_law_program","_law_tables_here","_law_world","_law_move"]
def eR:ar ["_law_program","_law_tables_here","_law_world","_law_move","_law_hand","_law_choice","_law_frames","_law_held_here","_law_row","_law_event","_law_deed","_law_known","_law_path","_law_lot","_law_numbers","_law_locks"] kW (ae kK):=by walk_at "s"
def iz:Fn:=MU 16
  (ak (fi v3 (gT 2 (ag (gN 4) (ag (gN 5) bo))))
  (ak (fi (ah aB v2 v4) (Pt 2 (ag (gN 6) (ag (gN 7) bo))))
  (ak (BE 8 9 (a2 (ai dM (a2 v1 v6)) (eK .bb)))
  (ak (fi (eM bK wb v6 a8) (gT 3 (ag (gN 10) (ag (gN 11) (ag (gN 12) bo)))))
  (ak (aP 13 (eK .bb))
  (ak (eL (au (ah oF v8 (eK .bb))) (ak (cJ (eM bK wb v7 a8))
  (aP 12 (f9 JM sG (sH (i6 cT (ki 2)))))) (eL (au (ah bu (ah aB v8 (ki 0)) (ks "say"))) (aP 9 (ai aw (a2 v4 (ah aB v8 (ki 1))))) (eL (au (ah bu (ah aB v8 (ki 0)) (ks "call"))) (ak (aP 14 (ai cA (a1 (nB (fb [none,some 10,some 11,some 0] (jQ (ah aB v8 (ki 2))) (gN 0) cV (ai aW (a3 v3 (ai aw (a2 v1 v2)) v0)))))))
  (ak (cJ (eM bK bt v6 (a1 (ai aw (a3 v10 v11 JM)))))
  (fi (ai aw (a3 (eM bK lT (nB (fb [none] (jQ (ah aB v0 (ki 1))) (gN 0) cV (ah aB v0 (ki 0)))) (a1 (ah aB v8 (ki 1)))) Vq (ai aw (a1 (i6 cT (ki 1)))))) (gT 3 (ag (gN 10) (ag (gN 11) (ag (gN 12) bo))))))) (eL (au (ah r8 (ah aB v8 (ki 0)) (eK (.tup [.str "within",.str "all",.str "ask"])))) (ak (aP 15 (ai eJ (a3 v0 (ai aw (a2 v10 v11)) v8)))
  (ak (aP 13 (ai Cy (a1 (qC (ah bu (ah aB v8 (ki 0)) (ks "ask")) (ah gR (ai cS (a2 v2 (ah aB QK (ki 0)))) (eK .bb))))))
  (eL (au (ah bu Qu (ki 0))) (cJ (eM bK bt v7 (a1 QK))) bU))) (aP 13 (ai en (a4 v0 (ai aw (a2 v10 v11)) v8 v5)))))))
  (ak (aP 12 (xn (au (ah oF Qu (eK .bb))) (ai br (a1 JM)) (ah aI JM (ai aw (a2 Qu (ki 0))))))
  (ak (cJ (eM bK bt v6 (a1 (ai aw (a3 v10 v11 JM)))))
  (ak (cJ (ai bQ (a2 v1 v6)))
  (aC v9))))))))))
abbrev mW:Stmt:=top 4
abbrev nj:List Str:=["thing"]
def zM:ar ["thing"] nj (ae mW):=by walk_at "s"
def jZ:Fn:=fM 1
  (aC (qC (ai rZ (a2 v0 (eK (.ty "int")))) (LS (ai rZ (a2 v0 (eK (.ty "bool")))))))
abbrev iC:Stmt:=top 5
abbrev iH:List Str:=["thing","many"]
def tq:ar ["thing","many"] iH (ae iC):=by walk_at "s"
def iR:Fn:=fM 2
  (aC (qC (ai rZ (a2 v0 (eK (.ty "tuple")))) (ah bu (ai eN (a1 v0)) v1)))
abbrev mS:Stmt:=top 17
abbrev nc:List Str:=["program","frame"]
def zJ:ar ["program","frame","deed","numbers","path"] nc (ae mS):=by walk_at "s"
def cc:Fn:=fM 5
  (ak (fi v1 (gT 3 (ag (gN 2) (ag (gN 3) (ag (gN 4) bo)))))
  (aC (ai gZ (a2 (ai gx (a2 v0 v2)) v4))))
abbrev gB:Stmt:=top 18
abbrev gH:List Str:=["program","scene","hand"]
def rB:ar ["program","scene","hand","frames"] gH (ae gB):=by walk_at "s"
def dB:Fn:=fM 4
  (ak (aP 3 (ah aB (ah aB v1 v2) (ki 0)))
  (aC (xn (iT v3) (ai cc (a2 v0 (ah aB v3 (i6 cT (ki 1))))) (eK .bb))))
abbrev mV:Stmt:=top 10
abbrev ni:List Str:=["row"]
def zL:ar ["row"] ni (ae mV):=by walk_at "s"
def g7:Fn:=fM 1
  (ak (eL (au (ah bu (ah aB v0 (ki 0)) (ks "all"))) (aC (ah aB v0 (ki 1))) bU)
  (aC (xn (au (ah r8 (ah aB v0 (ki 0)) (ai aw (a2 (ks "within") (ks "ask"))))) (ai aw (a1 (ah aB v0 (ki 1)))) (ai aw a8))))
abbrev jl:Stmt:=top 14
abbrev jD:List Str:=["program","frame"]
def vq:ar ["program","frame","deed","numbers","path"] jD (ae jl):=by walk_at "s"
def cY:Fn:=fM 5
  (ak (fi v1 (gT 3 (ag (gN 2) (ag (gN 3) (ag (gN 4) bo)))))
  (aC (CG (a2 (ah aB (ah aB (ah aB v0 (ki 1)) v2) (ki 1)) v3))))
abbrev mR:Stmt:=top 6
abbrev m9:List Str:=["term","numbers"]
def zI:ar ["term","numbers","word","figure"] m9 (ae mR):=by walk_at "s"
def bI:Fn:=fM 4
  (ak (fi v0 (gT 2 (ag (gN 2) (ag (gN 3) bo))))
  (aC (xn (au (ah bu v2 (ks ""))) v3 (ah aI (ah aB v1 v2) v3))))
abbrev jm:Stmt:=top 25
abbrev jE:List Str:=["program","frame"]
def vt:ar ["program","frame","locks","numbers"] jE (ae jm):=by walk_at "s"
def cZ:Fn:=fM 4
  (ak (aP 2 (ai g7 (a1 (ai cc (a2 v0 v1)))))
  (ak (aP 3 (ai cY (a2 v0 v1)))
  (aC (ai cA (a1 (CD [none,none,some 3] (jQ v2) (gT 2 (ag (gN 0) (ag (gN 1) bo))) cV (mP (ai aw (a2 v0 (ai bI (a2 v1 v2)))))))))))
abbrev pP:Stmt:=top 24
abbrev qf:List Str:=["scene","lock"]
def BB:ar ["scene","lock","hand","frames","held"] qf (ae pP):=by walk_at "s"
def fF:Fn:=fM 5
  (ak (l8 (qV (a1 v0)) (gT 2 (ag (gN 2) (ag (gT 2 (ag (gN 3) (ag (gN 4) bo))) bo))) (eL (iT (ai PB (a1 (nB (fb [none,some 1] (jQ v4) (gN 0) cV (ah r8 v1 v0)))))) (aC v2) bU))
  (aC (eK .bb)))
abbrev xX:Stmt:=top 26
abbrev yl:List Str:=["program","scene","hand"]
def G6:ar ["program","scene","hand","row"] yl (ae xX):=by walk_at "s"
def l6:Fn:=fM 4
  (ak (aP 3 (ai dB (a3 v0 v1 v2)))
  (ak (eL (ET (au (ah oF v3 (eK .bb))) (au (ah yS (ah aB v3 (ki 0)) (ai aw (a2 (ks "within") (ks "all")))))) (aC (ai aw a8)) bU)
  (aC (ai cA (a1 (nB (fb [none,some 1] (jQ (ai cZ (a2 v0 (ah aB (ah aB (ah aB v1 v2) (ki 0)) (i6 cT (ki 1)))))) (gN 0) (au (ah gR (ai fF (a2 v1 v0)) (eK .bb))) v0)))))))
abbrev jn:Stmt:=top 28
abbrev jF:List Str:=["program","scene","hand"]
def vw:ar ["program","scene","hand","frames","row"] jF (ae jn):=by walk_at "s"
def cv:Fn:=fM 5
  (ak (aP 3 (ah aB (ah aB v1 v2) (ki 0)))
  (ak (eL (rq (iT v3)) (aC (ai aw a8)) bU)
  (ak (aP 4 (ai cc (a2 v0 (ah aB v3 (i6 cT (ki 1))))))
  (ak (eL (nO (au (ah gR v4 (eK .bb))) (au (ah r8 (ah aB v4 (ki 0)) (ai aw (a2 (ks "either") (ks "again")))))) (aC (ai aw (a2 (ki 0) (ki 1)))) bU)
  (aC (xn (iT (ai l6 (a3 v0 v1 v2))) (ai aw a8) (ai aw (a1 (ki 0)))))))))
abbrev tE:Stmt:=top 29
abbrev uf:List Str:=["program","scene","move"]
def E5:ar ["program","scene","move","hand","choice"] uf (ae tE):=by walk_at "s"
def lK:Fn:=fM 5
  (ak (eL (ET (rq (iT (ai iR (a2 v2 (ki 2))))) (ET (rq (iT (ai jZ (a1 (ah aB v2 (ki 0)))))) (rq (iT (ai jZ (a1 (ah aB v2 (ki 1)))))))) (aC (eK (.bl false))) bU)
  (ak (fi v2 (gT 2 (ag (gN 3) (ag (gN 4) bo))))
  (aC (qC (yX Vu LK (ki 0) v3 (ai eN (a1 v1))) (ah r8 v4 (ai cv (a3 v0 v1 v3)))))))
abbrev mX:Stmt:=top 35
abbrev nk:List Str:=["program","scene","hand"]
def zN:ar ["program","scene","hand","row"] nk (ae mX):=by walk_at "s"
def g8:Fn:=fM 4
  (ak (aP 3 (ai cc (a2 v0 (ah aB (ah aB (ah aB v1 v2) (ki 0)) (i6 cT (ki 1))))))
  (aC (xn (nO (au (ah gR v3 (eK .bb))) (au (ah bu (ah aB v3 (ki 0)) (ks "say")))) (ai aw (a2 v2 (ah aB v3 (ki 1)))) (eK .bb))))
abbrev gD:Stmt:=top 30
abbrev gJ:List Str:=["program","frame"]
def rC:ar ["program","frame","sort","deed","terms","numbers"] gJ (ae gD):=by walk_at "s"
def dC:Fn:=fM 6
  (ak (fi (ai cc (a2 v0 v1)) (gT 3 (ag (gN 2) (ag (gN 3) (ag (gN 4) bo)))))
  (ak (aP 5 (ai cY (a2 v0 v1)))
  (aC (ai aw (a3 (ah aB (ai cP (a1 v0)) v3) (ai cA (a1 (nB (fb [none,some 5] (jQ v4) (gN 0) cV (ai bI (a2 v0 v1)))))) (ai aw (a1 (ki 0))))))))
abbrev fv:Stmt:=top 31
abbrev fx:List Str:=["row","numbers"]
def eQ:ar ["row","numbers","one","other"] fx (ae fv):=by walk_at "s"
def cN:Fn:=fM 4
  (ak (BE 2 3 (a2 (ai bI (a2 (ah aB v0 (ki 1)) v1)) (ai bI (a2 (ah aB v0 (ki 2)) v1))))
  (ak (eL (au (ah LK v2 v3)) (aC (ki 0)) bU)
  (aC (xn (au (ah bu v2 v3)) (ki 1) (ki 2)))))
abbrev mT:Stmt:=top 32
abbrev ng:List Str:=["program","scene","frame","choice"]
def zK:ar ["program","scene","frame","choice","row","sort","lock"] ng (ae mT):=by walk_at "s"
def g0:Fn:=fM 7
  (ak (aP 4 (ai cc (a2 v0 v2)))
  (ak (aP 5 (ah aB v4 (ki 0)))
  (ak (eL (au (ah bu v5 (ks "by"))) (aC (ai cN (a2 v4 (ai cY (a2 v0 v2))))) bU)
  (ak (eL (au (ah bu v5 (ks "either"))) (aC v3) bU)
  (ak (eL (au (ah bu v5 (ks "again"))) (aC (xn (au (ah bu v3 (ki 1))) (ki 0) (eK .bb))) bU)
  (ak (eL (au (ah bu v5 (ks "ask"))) (ak (aP 6 (ah aB (ai cZ (a2 v0 v2)) (ki 0)))
  (aC (xn (au (ah oF (ai fF (a2 v1 v6)) (eK .bb))) (ki 0) (ki 1)))) bU)
  (aC (xn (au (ah r8 v5 (ai aw (a2 (ks "within") (ks "all"))))) (ki 0) (eK .bb)))))))))
abbrev xY:Stmt:=top 33
abbrev ym:List Str:=["sort","lot"]
def G7:ar ["sort","lot"] ym (ae xY):=by walk_at "s"
def pj:Fn:=fM 2
  (aC (qC (ah r8 v0 (eK (.tup [.str "within",.str "all",.str "ask"]))) (ah bu v1 (ki 0))))
abbrev pQ:Stmt:=top 34
abbrev qg:List Str:=["program","scene","hand","choice"]
def BC:ar ["program","scene","hand","choice","frames","held","deed","numbers","path","row","lot"] qg (ae pQ):=by walk_at "s"
def cn:Fn:=fM 11
  (ak (fi (ah aB v1 v2) (gT 2 (ag (gN 4) (ag (gN 5) bo))))
  (ak (fi (ah aB v4 (i6 cT (ki 1))) (gT 3 (ag (gN 6) (ag (gN 7) (ag (gN 8) bo)))))
  (ak (aP 9 (ai cc (a2 v0 (ah aB v4 (i6 cT (ki 1))))))
  (ak (eL (au (ah oF v9 (eK .bb))) (aC (ai aw (a2 (ah aI (f9 v4 sG (sH (i6 cT (ki 1)))) (ai aw (a1 (ai aw (a3 v6 v7 (ai fL (a1 (f9 v8 sG (sH (i6 cT (ki 2))))))))))) (f9 v5 sG (sH (i6 cT (ki 1))))))) bU)
  (ak (eL (au (ah bu (ah aB v9 (ki 0)) (ks "call"))) (aC (ai aw (a2 (ah aI v4 (ai aw (a1 (ai dC (a2 v0 (ah aB v4 (i6 cT (ki 1)))))))) v5))) bU)
  (ak (aP 10 (ai g0 (a4 v0 v1 (ah aB v4 (i6 cT (ki 1))) v3)))
  (ak (aP 8 (xn (au (ah oF v10 (eK .bb))) (ai fL (a1 v8)) (ah aI v8 (ai aw (a2 v10 (ki 0))))))
  (ak (eL (iT (ai pj (a2 (ah aB v9 (ki 0)) v10))) (aP 5 (ah aI v5 (ai aw (a1 (ai cZ (a2 v0 (ah aB v4 (i6 cT (ki 1))))))))) bU)
  (aC (ai aw (a2 (ah aI (f9 v4 sG (sH (i6 cT (ki 1)))) (ai aw (a1 (ai aw (a3 v6 v7 v8))))) v5)))))))))))
abbrev gA:Stmt:=top 36
abbrev gG:List Str:=["program","scene","move"]
def rA:ar ["program","scene","move","hand","choice","frames","held"] gG (ae gA):=by walk_at "s"
def dA:Fn:=fM 7
  (ak (fi v2 (gT 2 (ag (gN 3) (ag (gN 4) bo))))
  (ak (fi (ai cn (a4 v0 v1 v3 v4)) (gT 2 (ag (gN 5) (ag (gN 6) bo))))
  (aC (ah aI (ah aI (f9 v1 sG (sH v3)) (ai aw (a1 (ai aw (a2 (ai cO (a2 v0 v5)) v6))))) (f9 v1 (sH (ah aI v3 (ki 1))) sG)))))
abbrev pM:Stmt:=top 37
abbrev p9:List Str:=["program","scene","move"]
def Bx:ar ["program","scene","move"] p9 (ae pM):=by walk_at "s"
def gw:Fn:=fM 3
  (ak (eL (rq (iT (ai lK (a3 v0 v1 v2)))) Ha bU)
  (aC (ai aw (a2 (ai dA (a3 v0 v1 v2)) (ai g8 (a3 v0 v1 (ah aB v2 (ki 0))))))))
abbrev qQ:Stmt:=top 62
abbrev MN:List Str:=["_law_script"]
def G8:ar ["_law_script","_law_state","_law_k","_law_program","_law_tables_here","_law_town","_law_world","_law_turn","_law_some","_law_move","_law_scene_here","_law_event"] MN (ae qQ):=by walk_at "s"
def EH:Fn:=fM 12
  (ak (aP 1 (ai fh (a1 v0)))
  (ak (l8 (Cr (a1 (ai IT (a2 (ki 3) (ai IS (a2 (ki 8) (ai eN (a1 v0)))))))) (gN 2) (ak (aP 3 (ai iA (a1 v1)))
  (ak (aP 4 (ai fH (a1 v3)))
  (ak (aP 5 (ai aw (a2 (ai aw (a2 (ks "da") (ai aw a8))) (ai aw (a2 (ai dO (a2 v1 (eK (.lv [.str "da",.str "db",.str "dc"])))) (ai aw a8))))))
  (ak (aP 6 (ai gm (a3 v3 v4 v5)))
  (ak (eL (rq (iT (ai (cw 8) (a2 (ai l7 (a2 v3 v5)) (ai dN (a1 v6)))))) (aC (eK (.bl false))) bU)
  (l8 (Cr (a1 (ki 40))) (gN 7) (ak (aP 8 (ai gj (a3 v3 v4 v6)))
  (ak (eL (au (ah bu v8 (nB a8))) Kk bU)
  (ak (aP 9 (ai dO (a2 v1 v8)))
  (ak (aP 10 (ai dN (a1 v6)))
  (ak (aP 11 (ai iz (a4 v3 v4 v6 v9)))
  (eL (rq (iT (ai (cw 8) (a2 (ai gw (a3 v3 v10 v9)) (ai aw (a2 (ai dN (a1 v6)) v11)))))) (aC (eK (.bl false))) bU)))))))))))))
  (aC (eK (.bl true)))))
section
variable (P:Program) (w:World) (K:FR) (mg:Str->Option Value) (base:Heap)
abbrev pb:Prop:=Df P w K mg base "_law_drawn" 1 jL 1 fh
abbrev rf:Prop:=Df P w K mg base "_law_load" 1 kT 1 iy
abbrev iu:Prop:=Df P w K mg base "_law_next" 2 kR 2 aU
abbrev qL:Prop:=Df P w K mg base "_law_of" 3 qh 2 dO
abbrev ke:Prop:=Df P w K mg base "_law_bare_lot" 16 cj 4 (bz 12)
abbrev sf:Prop:=Df P w K mg base "_law_bare_row" 16 cg 4 (cp 12)
abbrev rh:Prop:=Df P w K mg base "_law_bare" 17 kX 1 iA
abbrev q9:Prop:=Df P w K mg base "_law_lots" 1 kS 1 ix
abbrev o7:Prop:=Df P w K mg base "_law_table" 10 eU 3 (bY 8)
abbrev mK:Prop:=Df P w K mg base "_law_tables" 11 iI 1 fH
abbrev iP:Prop:=Df P w K mg base "_law_onward" 1 iJ 1 br
abbrev gY:Prop:=Df P w K mg base "_law_settled" 2 gL 2 bQ
abbrev pf:Prop:=Df P w K mg base "_law_begun" 3 jM 3 gm
abbrev q5:Prop:=Df P w K mg base "_law_same" 9 fJ 2 (cw 8)
abbrev o8:Prop:=Df P w K mg base "_law_scene" 1 jJ 1 dN
abbrev gX:Prop:=Df P w K mg base "deed_numbers" 1 gK 1 cP
abbrev xF:Prop:=Df P w K mg base "lots_of" 1 qe 1 ja
abbrev Ba:Prop:=Df P w K mg base "lot_on" 2 ue 2 lJ
abbrev va:Prop:=Df P w K mg base "row_on" 3 ud 2 gZ
abbrev kd:Prop:=Df P w K mg base "stands_at_end" 1 fS 2 c9
abbrev oZ:Prop:=Df P w K mg base "behind" 1 ug 1 fL
abbrev oX:Prop:=Df P w K mg base "path_stood" 4 jC 2 fg
abbrev qJ:Prop:=Df P w K mg base "rows_in" 1 qc 2 gx
abbrev gW:Prop:=Df P w K mg base "frames_stood" 5 gI 2 cO
abbrev EG:Prop:=Df P w K mg base "begun" 6 yn 2 l7
abbrev gg:Prop:=Df P w K mg base "_law_stood" 1 jI 2 dM
abbrev gf:Prop:=Df P w K mg base "_law_value" 1 jH 3 aW
abbrev lH:Prop:=Df P w K mg base "_law_told" 2 kQ 3 eJ
abbrev lI:Prop:=Df P w K mg base "_law_held" 1 kU 2 cS
abbrev o6:Prop:=Df P w K mg base "_law_waits" 3 jG 4 gh
abbrev o9:Prop:=Df P w K mg base "_law_moves" 4 jK 3 gj
abbrev mL:Prop:=Df P w K mg base "_law_inside" 2 iK 4 en
abbrev rg:Prop:=Df P w K mg base "_law_goes" 3 kW 4 iz
abbrev vd:Prop:=Df P w K mg base "is_whole" 1 nj 1 jZ
abbrev mJ:Prop:=Df P w K mg base "is_tuple_of" 1 iH 2 iR
abbrev dz:Prop:=Df P w K mg base "row_here" 4 nc 2 cc
abbrev lF:Prop:=Df P w K mg base "row_stood_at" 5 gH 3 dB
abbrev vc:Prop:=Df P w K mg base "locks_of" 1 ni 1 g7
abbrev gc:Prop:=Df P w K mg base "numbers_in" 1 jD 2 cY
abbrev jX:Prop:=Df P w K mg base "value_of" 1 m9 2 bI
abbrev gd:Prop:=Df P w K mg base "locks_told" 5 jE 2 cZ
abbrev qK:Prop:=Df P w K mg base "held_by" 1 qf 2 fF
abbrev EE:Prop:=Df P w K mg base "waits" 6 yl 3 l6
abbrev oY:Prop:=Df P w K mg base "choices_of" 7 jF 3 cv
abbrev Bb:Prop:=Df P w K mg base "can_be" 8 uf 3 lK
abbrev ve:Prop:=Df P w K mg base "event_of" 5 nk 3 g8
abbrev lG:Prop:=Df P w K mg base "frame_called" 5 gJ 2 dC
abbrev i9:Prop:=Df P w K mg base "lot_by_numbers" 2 fx 2 cN
abbrev vb:Prop:=Df P w K mg base "lot_done" 6 ng 4 g0
abbrev EF:Prop:=Df P w K mg base "takes" 1 ym 2 pj
abbrev xG:Prop:=Df P w K mg base "gone_on" 7 qg 4 cn
abbrev lE:Prop:=Df P w K mg base "scene_behind" 8 gG 3 dA
abbrev xE:Prop:=Df P w K mg base "stepped" 9 p9 3 gw
end
section
variable {P:Program} {w:World} {K:FR} {mg:Str->Option Value} {base:Heap}
def vY(F:dZ K "_law_drawn" "_law_drawn" jw f fd)(B:Bs P w K mg):aV P w K mg base dD 1 f fd jL (eu K 1 fh):=
 (av F vE λ_ _ _ _ _ _ hr _=>by walk_at "v";with_reducible exact(aE (bG (zq.ob (kB (aa bh (aa (zq.ob (Dl (by unfold Gl;ac_nf) B.Jy Et (by ac_rfl) (af aF))) (by ac_rfl))) (af (af (af aF))))))))
def yx(F:dZ K "_law_load" "_law_load" kI f fd)(B:Bs P w K mg):aV P w K mg base dD 1 f fd kT (eu K 1 iy):=
 (av F jj λ_ _ _ _ _ _ hr _=>by walk_at "v";with_reducible exact(ab (by ac_rfl)
   (ab (by ac_rfl)
   (ab (iB (by ac_rfl) (tf hr.units (sv 0) bh))
   (ab (by ac_rfl)
   (ab (by ac_rfl)
   (aE (eO (SW.st (sY (by ac_rfl) (nP (pI MS (by ac_rfl) (dq HY bh bh) (qk _))))) (aE (iB (by ac_rfl) (tf hr.units (sv 0) bh))) (ab (sset 4 jj.nd (dq yo (dq oj (dq eV (dq eV (by ac_rfl) (dq oj (dq oj bh (sv 2)) (sv 2))) bh) bh) bh))
   (ab (sset 4 jj.nd (dq yo (dq oj (sv 4) (sv 4)) bh))
   (aE (iB (dq eV (dq yo (dq eV (dq eV (dq oj (sv 4) bh) (sv 2)) bh) bh) (dq HY bh bh)) (tf hr.units (sv 0) bh)))))))))))))
def yt(F:dZ K "_law_next" "_law_next" kG f fd)(B:Bs P w K mg)(a:rf P w K mg base):aV P w K mg base dD 2 f fd kR (eu K 2 aU):=
 (av F xS λ_ _ _ _ _ _ hr _=>by walk_at "v";with_reducible exact(ab (by ac_rfl)
   (ab (by ac_rfl)
   (ab (iB (dq OM (by ac_rfl) (sv 1)) (tf hr.units (sv 0) bh))
   (by ac_rfl)))))
def Ce(F:dZ K "_law_of" "_law_of" pR f fd)(B:Bs P w K mg)(a:iu P w K mg base):aV P w K mg base dD 3 f fd qh (eu K 2 dO):=
 (av F BD λ_ _ _ _ _ _ hr _=>by walk_at "u")
theorem DM{j:Addr}{c:FuncData}(r:dZ K "_law_bare_lot" "_law_bare_lot" fR j c)(h:PySem.W.keepIn K (.ref j)=true)(l:Binds K c cj [])(f:mg "_law_bare_lot"=some (.ref j)){i:Addr}{b:FuncData}(q:dZ K "_law_bare_row" "_law_bare_row" fQ i b)(g:PySem.W.keepIn K (.ref i)=true)(k:Binds K b cg [])(e:mg "_law_bare_row"=some (.ref i))(B:Bs P w K mg)(a:iu P w K mg base)(d:qL P w K mg base):∀n,aV P w K mg base dD (4+n) j c cj (eu K 4 (bz n))/\aV P w K mg base dD (4+n) i b cg (eu K 4 (cp n))
 | 0=>⟨sI,sI⟩
 | n+1=>by
  obtain⟨t,s⟩:=DM r h l f q g k e B a d n;have o:Df P w K mg base "_law_bare_lot" (4+n) cj 4 (bz n):=⟨j,c,t,h,l,f⟩;have m:Df P w K mg base "_law_bare_row" (4+n) cg 4 (cp n):=⟨i,b,s,g,k,e⟩;refine⟨?_,?_⟩
  ·exact i4 (av r pL λ_ _ _ _ _ _ hr _=>by walk_at "v";with_reducible exact(ab (by ac_rfl)
   (ab (fO Xu rfl (iV (by unfold Gl;ac_nf) B.l4 (aa (sr a hr (by ac_rfl) (WQ (by decide) (W9 _ _))) aA) (hl:=(af aF))) (by ac_rfl) (aE (eO (by ac_rfl) (ab (iB (by ac_rfl) (tf hr.units (sv 1) bh))
   (aE (nR (zH (oz:=bK) mM Yp YY Zn lS (sv 4) (aa (sr m hr (by ac_rfl) (Wj _)) aA))))) fu)))
   (by ac_rfl))))
  ·exact(av q cI λ_ _ _ _ _ _ hr _=>by walk_at "v";with_reducible exact(ab (sset 4 cI.nd (sr a hr (by ac_rfl) (WQ (by decide) (W9 _ _))))
   (ab (eO (by ac_rfl) (ab (eO (SW.st (sY (by ac_rfl) (nP (pI (B7 hr.units) (sr a hr (by ac_rfl) (WQ (by decide) (W9 _ _))) bh (qk _))))) (aE (bG (dh (aa dm (aa (six hr (ia 9 (by ac_nf)) (dq eV (by ac_rfl) (sr a hr (by ac_rfl) (WQ (by decide) (W9 _ _))))) (by ac_rfl))) (af (af (af aF)))))) fu)
   (by ac_rfl)) fu)
   (ab (sset 5 cI.nd (G5 eY B.eC c8 (aa (eP (N':=["_law_k","_law_deed","_law_deep","_law_room","_law_state"]) (caps:=[none,some 2,some 3,some 1,some 0]) (bR (by ac_nf)) rfl (iV (by unfold Gl;ac_nf) B.l4 (aa (six hr (ia 9 (by ac_nf)) (sr a hr (by ac_rfl) (WQ (by decide) (W9 _ _)))) aA) (hl:=(af aF))) (λ_ _ _ _ _=>(sgn 0 (by show(["_law_k","_law_deed","_law_deep","_law_room","_law_state"]:List Str).Nodup;decide+kernel))) (λ_ _ _ _ _=>eA) (λ_ _ _ _ _=>(sr o hr (by ac_rfl) (Wj _)))) aA)))
   (ab (Kd 6 7 cI.nd (af (af aF)) rfl (by decide) (by with_unfolding_all exact(yj rfl cI.nd rfl rfl (by decide) rfl rfl (aa (dh (aa dm (aa (dh (aa dm (aa (sr a hr (aa (sv 0) (aa bh aA)) (WQ (by decide) (W9 _ _))) aA)) (af (af aF))) aA)) (af (af aF))) (aa (dh (aa dm (aa (dh (aa dm (aa (dq eV bh (sr a hr (aa (sv 0) (aa bh aA)) (WQ (by decide) (W9 _ _)))) aA)) (af (af aF))) aA)) (af (af aF))) aA)) rfl)))
   (ab (eO (by ac_rfl) (ab (by ac_rfl)
   (aE (bG (sr d hr (by ac_rfl) (WQ (by decide) (W9 _ _)))))) fu)
   (ab (eO (by ac_rfl) (aE (bG (sr d hr (by ac_rfl) (WQ (by decide) (W9 _ _))))) fu)
   (aE (bG (dq eV (dh (aa dm (aa (by ac_rfl) (aa (dh (aa dm (aa (sr a hr (by ac_rfl) (WQ (by decide) (W9 _ _))) aA)) (af (af aF))) aA))) (af (af (af aF)))) (sv 5)))))))))))
def yB(F:dZ K "_law_bare" "_law_bare" kL f fd)(B:Bs P w K mg)(a:ke P w K mg base)(b:iu P w K mg base):aV P w K mg base dD 17 f fd kX (eu K 1 iA):=
 i4 (av F xV λ_ _ _ _ _ _ hr _=>by walk_at "v";with_reducible exact(ab (by ac_rfl)
   (ab (by ac_rfl)
   (ab (fO Xu rfl (lN (by unfold Gl;ac_nf) B.eI (aa (ia 9 (by ac_nf)) aA) (af aF)) (by ac_rfl) (ab (by ac_rfl)
   (aE (nR (zH (oz:=bK) mM Yp YY Zn lS (sv 2) (aa (dh (aa (sv 4) (aa (by ac_rfl) (aa (dq eV (sv 5) (dq K3 (sv 5) (by ac_rfl))) aA))) (af (af (af aF)))) aA))))))
   (by ac_rfl)))))
def yw(F:dZ K "_law_lots" "_law_lots" kH f fd)(B:Bs P w K mg):aV P w K mg base dD 1 f fd kS (eu K 1 ix):=
 (av F xT λ_ _ _ _ _ _ hr _=>by walk_at "v";with_reducible exact(aE (bG (zH (oz:=IA) Nn AaQ XU Aa3 (O4 (RZ hr)) (Ki (hZ dm (by ac_rfl) (hZ dm (by ac_rfl) (hZ dm (by ac_rfl) (hZ dm (by ac_rfl) (hZ dm (by ac_rfl) (hZ dm (by ac_rfl) GJ)))))) (by ac_nf) (by ac_nf) (by simp) λa h=>DJ h (by ac_nf) (by ac_nf) (by simp) (by decide)) (by ac_rfl)))))
theorem mC(F:dZ K "_law_table" "_law_table" jr f fd)(B:Bs P w K mg)(d:PySem.W.keepIn K (.ref f)=true)(e:Binds K fd eU [])(c:mg "_law_table"=some (.ref f))(a:q9 P w K mg base):∀n,aV P w K mg base dD (2+n) f fd eU (eu K 3 (bY n))
 | 0=>sI
 | n+1=>by
  have b:Df P w K mg base "_law_table" (2+n) eU 3 (bY n):=⟨f,fd,mC F B d e c a n,d,e,c⟩;exact(av F vA λ_ _ _ _ _ _ hr _=>by walk_at "v";with_reducible exact(ab (iB (by ac_rfl) (Dk hr (by ac_rfl) (sv 1)))
   (ab (fO Xu rfl (lN (by unfold Gl;ac_nf) B.eI (by ac_rfl) (af aF)) (by ac_rfl) (ab (iB (sv 4) (Dk hr (by ac_rfl) (by ac_rfl)))
   (aE (fO Xu rfl (lN (by unfold Gl;ac_nf) B.eI (aa (sr a hr (by ac_rfl) (WQ (by decide) (W9 _ _))) aA) (af aF)) (by ac_rfl) (aE (nR (sr b hr (by ac_rfl) (Wj _))))))))
   (by ac_rfl))))
def uk(F:dZ K "_law_tables" "_law_tables" iD f fd)(B:Bs P w K mg)(a:o7 P w K mg base):aV P w K mg base dD 11 f fd iI (eu K 1 fH):=
 (av F tu λ_ _ _ _ _ _ hr _=>by walk_at "v";with_reducible exact(aE (bG (eP (N':=["_law_deed"]) (caps:=[none]) (bR (by ac_nf)) rfl (by ac_rfl) (λ_ _ _ _ _=>(sgn 0 (by show(["_law_deed"]:List Str).Nodup;decide+kernel))) (λ_ _ _ _ _=>eA) (λ_ _ _ _ _=>(sr a hr (aa (by ac_rfl) (aa (by ac_rfl) (aa (GX (hZ dm GW (hZ dm GW GJ)) (by ac_nf) (by ac_nf) (by simp) λc h=>DJ h (by ac_nf) (by ac_nf) (by simp) (by decide)) aA)))))))))
def um(F:dZ K "_law_onward" "_law_onward" iE f fd)(B:Bs P w K mg):aV P w K mg base dD 1 f fd iJ (eu K 1 br):=
 (av F tw λ_ _ _ _ _ _ hr _=>by walk_at "u")
def rT(F:dZ K "_law_settled" "_law_settled" gF f fd)(B:Bs P w K mg)(a:iP P w K mg base):aV P w K mg base dD 2 f fd gL (eu K 2 bQ):=
 (av F j7 λ_ _ _ _ _ _ hr _=>by walk_at "v";with_reducible exact(ab (sZ (n:=1000000) Xu (SW.st (sY (by ac_rfl) (nP (pI (B7 hr.units) (by ac_rfl) (GV hr (by ac_rfl) (by ac_rfl)) (qk _))))) (ab (by ac_rfl)
   (aE (eO (by ac_rfl) (ab (sset 5 j7.nd (six hr (GV hr (by ac_rfl) (by ac_rfl)) bh))
   (by ac_rfl)) (by ac_rfl)))))
   (by ac_rfl)))
def vZ(F:dZ K "_law_begun" "_law_begun" jx f fd)(B:Bs P w K mg)(a:gY P w K mg base):aV P w K mg base dD 3 f fd jM (eu K 3 gm):=
 (av F mw λ_ _ _ _ _ _ hr _=>by walk_at "v";with_reducible exact(ab (Kc (i:=3) mw.nd (by ac_nf) (by ac_nf) (N':=["_law_deed"]) (caps:=[none]) (bR (by ac_nf)) rfl (by ac_rfl) (λ_ _ _ _ _=>(sgn 0 (by show(["_law_deed"]:List Str).Nodup;decide+kernel))) (λ_ _ _ _ _=>eA) (λ_ _ _ _ _=>(by ac_rfl)))
   (ab (by ac_rfl)
   (ab (fO Xu rfl (mO (sv 2)) (by ac_rfl) (aE (nR (zH (oz:=bK) mM Yp YY Zn lS (sv 4) (aa (zq.ob (kB (aa (sr a hr (aa (sv 1) (aa (zq.ob (kB (aa (dh (aa (zH (oz:=bK) mM Yp Zu AaP (xc hr.units) (sv 3) (by ac_rfl)) (by ac_rfl)) (af (af (af aF)))) aA) (af aF))) aA))) (by ac_rfl)) (af (af aF)))) aA)))))
   (by ac_rfl)))))
theorem oq(F:dZ K "_law_same" "_law_same" kF f fd)(B:Bs P w K mg)(c:PySem.W.keepIn K (.ref f)=true)(e:Binds K fd fJ [])(b:mg "_law_same"=some (.ref f)):∀n,aV P w K mg base dD (1+n) f fd fJ (eu K 2 (cw n))
 | 0=>sI
 | n+1=>by
  have a:Df P w K mg base "_law_same" (1+n) fJ 2 (cw n):=⟨f,fd,oq F B c e b  n,c,e,b⟩;exact(av F xR λ_ _ _ _ _ _ hr _=>by walk_at "v";with_reducible exact(ab (eO (pH (Bw jU B.bX bN (aa (sv 1) (aa (Kb B.eC c8) aA)))) (ab (eO (SW.st (MC (GH (pH (Bw jU B.bX bN (aa (sv 0) (aa (Kb B.eC c8) aA))))) (by ac_rfl))) (by ac_rfl) fu)
   (aE (bG (Bw (PY rfl) B.SK Qd (aa (eP (N':=["_law_one","_law_other"]) (caps:=[none,none]) (bR (by ac_nf)) rfl (NH (by unfold Gl;ac_nf) B.M8 (by ac_rfl) (af (af aF))) (λ_ _ _ _ _=>(pJ rfl (cH (sgn 0 (by show(["_law_one","_law_other"]:List Str).Nodup;decide+kernel)) (cH (sgn 1 (by show(["_law_one","_law_other"]:List Str).Nodup;decide+kernel)) jf)))) (λ_ _ _ _ _=>eA) (λ_ _ _ _ _=>(sr a hr (by ac_rfl) (Wj _)))) aA))))) fu)
   (ab (by ac_rfl)
   (ab (eO (pH (Bw jU B.bX bN (aa (sv 1) (aa (Kb B.M9 Ju) aA)))) (aE (bG (ji (Bw jU B.bX bN (aa (sv 0) (aa (Kb B.M9 Ju) aA))) (jh (by ac_rfl))))) fu)
   (aE (bG (ji (Bw jU B.bX bN (aa (sv 0) (aa (Kb B.EB zh) aA))) (ji (GU (Bw jU B.bX bN (aa (sv 0) (aa (Kb B.Jz Eu) aA)))) (jh (by ac_rfl))))))))))
def vW(F:dZ K "_law_scene" "_law_scene" ju f fd)(B:Bs P w K mg):aV P w K mg base dD 1 f fd jJ (eu K 1 dN):=
 (av F vC λ_ _ _ _ _ _ hr _=>by walk_at "v";with_reducible exact(aE (bG (G5 eY B.eC c8 (aa (eP (N':=["_law_frames","_law_held_here"]) (caps:=[none,none]) (bR (by ac_nf)) rfl (mO (sv 0)) (λ_ _ _ _ _=>(Bt rfl (cH (sgn 0 (by show(["_law_frames","_law_held_here"]:List Str).Nodup;decide+kernel)) (cH (sgn 1 (by show(["_law_frames","_law_held_here"]:List Str).Nodup;decide+kernel)) jf)))) (λ_ _ _ _ _=>eA) (λ_ _ _ _ _=>(by ac_rfl))) aA)))))
def rR(F:dZ K "deed_numbers" "deed_numbers" gE f fd)(B:Bs P w K mg):aV P w K mg base dD 1 f fd gK (eu K 1 cP):=
 (av F rD λ_ _ _ _ _ _ hr _=>by walk_at "v";with_reducible exact(aE (bG (GZ (N':=["number","deed"]) (caps:=[none,none]) (bR (by ac_nf)) rfl (lN (by unfold Gl;ac_nf) B.eI (by ac_rfl) (af aF)) (λ_ _ _ _ _=>(pJ rfl (cH (sgn 0 (by show(["number","deed"]:List Str).Nodup;decide+kernel)) (cH (sgn 1 (by show(["number","deed"]:List Str).Nodup;decide+kernel)) jf)))) (λ_ _ _ _ _=>eA) (λ_ _ _ _ _=>(by ac_rfl)) (λ_ _ _ _ _=>(sv 0))))))
def Cb(F:dZ K "lots_of" "lots_of" pO f fd)(B:Bs P w K mg):aV P w K mg base dD 1 f fd qe (eu K 1 ja):=
 (av F BA λ_ _ _ _ _ _ hr _=>by walk_at "v";with_reducible exact(aE (bG (GS (sv 0) (De (six hr (NJ B.JH (by ac_rfl)) bh)) Dg))))
def Fu(F:dZ K "lot_on" "lot_on" tD f fd)(B:Bs P w K mg)(a:xF P w K mg base):aV P w K mg base dD 2 f fd ue (eu K 2 lJ):=
 (av F E4 λ_ _ _ _ _ _ hr _=>by walk_at "v";with_reducible exact(ab (by ac_rfl)
   (ab (fO Xu rfl (EX (by unfold Gl;ac_nf) B.l4 (by ac_rfl) (hl:=(af (af (af aF))))) (by ac_rfl) (by ac_rfl))
   (by ac_rfl))))
def Ft(F:dZ K "row_on" "row_on" tx f fd)(B:Bs P w K mg)(a:Ba P w K mg base):aV P w K mg base dD 3 f fd ud (eu K 2 gZ):=
 (av F E3 λ_ _ _ _ _ _ hr _=>by walk_at "u")
def qi(F:dZ K "stands_at_end" "stands_at_end" fP f fd)(B:Bs P w K mg):aV P w K mg base dD 1 f fd fS (eu K 2 c9):=
 (av F pK λ_ _ _ _ _ _ hr _=>by walk_at "v";with_reducible exact(aE (bG (Q3 (by ac_rfl) (jh (ji (by ac_rfl) (jh (by ac_rfl))))))))
def Fw(F:dZ K "behind" "behind" tF f fd)(B:Bs P w K mg):aV P w K mg base dD 1 f fd ug (eu K 1 fL):=
 (av F E6 λ_ _ _ _ _ _ hr _=>by walk_at "u")
def vP(F:dZ K "path_stood" "path_stood" jk f fd)(B:Bs P w K mg)(c:va P w K mg base)(a:kd P w K mg base)(b:oZ P w K mg base):aV P w K mg base dD 4 f fd jC (eu K 2 fg):=
 (av F vp λ_ _ _ _ _ _ hr _=>by walk_at "v";with_reducible exact(ab (sZ (n:=1000000) Xu (by ac_rfl) (by ac_rfl))
   (by ac_rfl)))
def Ca(F:dZ K "rows_in" "rows_in" pN f fd)(B:Bs P w K mg):aV P w K mg base dD 1 f fd qc (eu K 2 gx):=
 (av F By λ_ _ _ _ _ _ hr _=>by walk_at "u")
def rP(F:dZ K "frames_stood" "frames_stood" gC f fd)(B:Bs P w K mg)(a:oX P w K mg base)(c:qJ P w K mg base)(b:oZ P w K mg base):aV P w K mg base dD 5 f fd gI (eu K 2 cO):=
 i4 (av F j6 λ_ _ _ _ _ _ hr _=>by walk_at "v";with_reducible exact(ab (sset 2 j6.nd (zq.ob (Dl (by unfold Gl;ac_nf) B.Jy Et (by ac_rfl) (af aF))))
   (ab (sZ (n:=1000000) Xu (pH (sv 2)) (by ac_rfl))
   (by ac_rfl))))
def Ih(F:dZ K "begun" "begun" xZ f fd)(B:Bs P w K mg)(b:gX P w K mg base)(a:gW P w K mg base):aV P w K mg base dD 6 f fd yn (eu K 2 l7):=
 i4 (av F G9 λ_ _ _ _ _ _ hr _=>by walk_at "u")
def vV(F:dZ K "_law_stood" "_law_stood" jt f fd)(B:Bs P w K mg):aV P w K mg base dD 1 f fd jI (eu K 2 dM):=
 (av F vB λ_ _ _ _ _ _ hr _=>by walk_at "v";with_reducible exact(ab (by ac_rfl)
   (aE (bG (zH (oz:=xj) Np AaQ XU Aa3 (Le hr.units) (by ac_rfl) (by ac_rfl))))))
def vU(F:dZ K "_law_value" "_law_value" jq f fd)(B:Bs P w K mg):aV P w K mg base dD 1 f fd jH (eu K 3 aW):=
 (av F vz λ_ _ _ _ _ _ hr _=>by walk_at "v";with_reducible exact(ab (by ac_rfl)
   (aE (bG (dq eV (six hr (by ac_rfl) (Q4 AaJ PySem.F.type_tuple_index (FA hr.units) (by ac_rfl) (by ac_rfl))) (by ac_rfl))))))
def yr(F:dZ K "_law_told" "_law_told" kE f fd)(B:Bs P w K mg)(b:gf P w K mg base):aV P w K mg base dD 2 f fd kQ (eu K 3 eJ):=
 (av F xQ λ_ _ _ _ _ _ hr _=>by walk_at "v";with_reducible exact(ab (by ac_rfl)
   (aE (bG (G5 eY B.eC c8 (aa (zG rfl hr (by unfold Gl;ac_nf) B.AZ (by unfold Gl;ac_nf) B.Sz (eP (N':=["_law_name","_law_term","_law_frame","_law_program"]) (caps:=[none,none,some 1,some 0]) (bR (by ac_nf)) rfl (mO (sv 3)) (λ_ _ _ _ _=>(pJ rfl (cH (sgn 0 (by show(["_law_name","_law_term","_law_frame","_law_program"]:List Str).Nodup;decide+kernel)) (cH (sgn 1 (by show(["_law_name","_law_term","_law_frame","_law_program"]:List Str).Nodup;decide+kernel)) jf)))) (λ_ _ _ _ _=>eA) (λ_ _ _ _ _=>(by ac_rfl)))) aA))))))
def yz(F:dZ K "_law_held" "_law_held" kJ f fd)(B:Bs P w K mg):aV P w K mg base dD 1 f fd kU (eu K 2 cS):=
 (av F xU λ_ _ _ _ _ _ hr _=>by walk_at "v";with_reducible exact(ab (fO Xu rfl (lN (by unfold Gl;ac_nf) B.eI (by ac_rfl) (af aF)) (pJ rfl (cH (by ac_rfl) (cH (Bt rfl (by ac_rfl)) jf))) (by ac_rfl))
   (by ac_rfl)))
def vT(F:dZ K "_law_waits" "_law_waits" jo f fd)(B:Bs P w K mg)(d:gg P w K mg base)(c:lH P w K mg base)(b:lI P w K mg base):aV P w K mg base dD 3 f fd jG (eu K 4 gh):=
 (av F vy λ_ _ _ _ _ _ hr _=>by walk_at "v";with_reducible exact(ab (by ac_rfl)
   (ab (by ac_rfl)
   (ab (by ac_rfl)
   (aE (bG (G5 eY B.eC c8 (aa (eP (N':=["_law_lock","_law_world"]) (caps:=[none,some 2]) (bR (by ac_nf)) rfl (by ac_rfl) (λ_ _ _ _ _=>(sgn 0 (by show(["_law_lock","_law_world"]:List Str).Nodup;decide+kernel))) (λ_ _ _ _ _=>(Dh (by ac_rfl))) (λ_ _ _ _ _=>(sv 0))) aA))))))))
def vX(F:dZ K "_law_moves" "_law_moves" jv f fd)(B:Bs P w K mg)(b:gg P w K mg base)(a:o6 P w K mg base):aV P w K mg base dD 4 f fd jK (eu K 3 gj):=
 i4 (av F vD λ_ _ _ _ _ _ hr _=>by walk_at "v";with_reducible exact(ab (by ac_rfl)
   (ab (fO Xu rfl (iV (by unfold Gl;ac_nf) B.l4 (by ac_rfl) (hl:=(af aF))) (by ac_rfl) (ab (by ac_rfl)
   (aE (eO (SW.st (sY (by ac_rfl) (nP (pI (OL hr.units) (by ac_rfl) (by ac_rfl) (qk _))))) (by ac_rfl) fu))))
   (by ac_rfl))))
def uo(F:dZ K "_law_inside" "_law_inside" iF f fd)(B:Bs P w K mg)(a:gf P w K mg base):aV P w K mg base dD 2 f fd iK (eu K 4 en):=
 (av F gz λ_ _ _ _ _ _ hr _=>by walk_at "v";with_reducible exact(ab (eO (by ac_rfl) (ab (Kd 4 5 gz.nd (af (af aF)) rfl (by decide) (by with_unfolding_all exact(yj rfl gz.nd rfl rfl (by decide) rfl rfl (aa (sr a hr (aa (sv 0) (aa (sv 1) (aa (six hr (sv 2) bh) aA)))) (aa (sr a hr (aa (sv 0) (aa (sv 1) (aa (six hr (sv 2) bh) aA)))) aA)) rfl)))
   (by ac_rfl)) fu)
   (by ac_rfl)))
def yA(F:dZ K "_law_goes" "_law_goes" kK f fd)(B:Bs P w K mg)(b:gg P w K mg base)(g:gf P w K mg base)(e:lH P w K mg base)(d:lI P w K mg base)(c:mL P w K mg base)(i:iP P w K mg base)(h:gY P w K mg base):aV P w K mg base dD 3 f fd kW (eu K 4 iz):=
 i4 (av F eR λ_ _ _ _ _ _ hr _=>by walk_at "v";with_reducible exact(ab (by ac_rfl)
   (ab (iB (by ac_rfl) (Bt rfl (by ac_rfl)))
   (ab (Kd 8 9 eR.nd (af (af aF)) rfl (by decide) (by with_unfolding_all exact(yj rfl eR.nd rfl rfl (by decide) rfl rfl (aa (sr b hr (aa (sv 1) (aa (sv 6) aA))) (aa Bv aA)) rfl)))
   (ab (by ac_rfl)
   (ab (by ac_rfl)
   (ab (eO (by ac_rfl) (by ac_rfl) (aE (eO (by ac_rfl) (by ac_rfl) (aE (eO (by ac_rfl) (ab (sset 14 eR.nd (G5 eY B.eC c8 (aa (eP (N':=["_law_term","_law_deed","_law_known","_law_program"]) (caps:=[none,some 10,some 11,some 0]) (bR (by ac_nf)) rfl (by ac_rfl) (λ_ _ _ _ _=>(sgn 0 (by show(["_law_term","_law_deed","_law_known","_law_program"]:List Str).Nodup;decide+kernel))) (λ_ _ _ _ _=>eA) (λ_ _ _ _ _=>(by ac_rfl))) aA)))
   (ab (by ac_rfl)
   (aE (iB (dh (aa (zH (oz:=bK) mM Yp Zu AaP (xc hr.units) (eP (N':=["_law_one"]) (caps:=[none]) (bR (by ac_nf)) rfl (by ac_rfl) (λ_ _ _ _ _=>(sgn 0 (by show(["_law_one"]:List Str).Nodup;decide+kernel))) (λ_ _ _ _ _=>eA) (λ_ _ _ _ _=>(by ac_rfl))) (by ac_rfl)) (by ac_rfl)) (af (af (af aF)))) (by ac_rfl))))) (aE (eO (pI (Ia hr.units) (by ac_rfl) (ia 9 (by ac_nf)) (by ac_nf)) (ab (by ac_rfl)
   (ab (sset 13 eR.nd (G5 Jg B.EB zh (aa (ji (by ac_rfl) (jh (by ac_rfl))) aA)))
   (by ac_rfl))) (by ac_rfl))))))))
   (by ac_rfl))))))))
def Ai(F:dZ K "is_whole" "is_whole" mW f fd)(B:Bs P w K mg):aV P w K mg base dD 1 f fd nj (eu K 1 jZ):=
 (av F zM λ_ _ _ _ _ _ hr _=>by walk_at "v";with_reducible exact(aE (bG (ji (Bw jU B.bX bN (aa (sv 0) (aa (Kb B.EB zh) aA))) (jh (GU (Bw jU B.bX bN (aa (sv 0) (aa (Kb B.Jz Eu) aA)))))))))
def uh(F:dZ K "is_tuple_of" "is_tuple_of" iC f fd)(B:Bs P w K mg):aV P w K mg base dD 1 f fd iH (eu K 2 iR):=
 (av F tq λ_ _ _ _ _ _ hr _=>by walk_at "v";with_reducible exact(aE (bG (ji (Bw jU B.bX bN (aa (sv 0) (aa (Kb B.eC c8) aA))) (jh (by ac_rfl))))))
def Af(F:dZ K "row_here" "row_here" mS f fd)(B:Bs P w K mg)(a:va P w K mg base)(b:qJ P w K mg base):aV P w K mg base dD 4 f fd nc (eu K 2 cc):=
 (av F zJ λ_ _ _ _ _ _ hr _=>by walk_at "u")
def rO(F:dZ K "row_stood_at" "row_stood_at" gB f fd)(B:Bs P w K mg)(a:dz P w K mg base):aV P w K mg base dD 5 f fd gH (eu K 3 dB):=
 (av F rB λ_ _ _ _ _ _ hr _=>by walk_at "u")
def Ah(F:dZ K "locks_of" "locks_of" mV f fd)(B:Bs P w K mg):aV P w K mg base dD 1 f fd ni (eu K 1 g7):=
 (av F zL λ_ _ _ _ _ _ hr _=>by walk_at "u")
def vQ(F:dZ K "numbers_in" "numbers_in" jl f fd)(B:Bs P w K mg):aV P w K mg base dD 1 f fd jD (eu K 2 cY):=
 (av F vq λ_ _ _ _ _ _ hr _=>by walk_at "v";with_reducible exact(ab (by ac_rfl)
   (aE (bG (GY rfl (by unfold Gl;ac_nf) B.Qg Mb (by unfold Gl;ac_nf) B.M8 (by ac_rfl) (af (af aF)))))))
def Ae(F:dZ K "value_of" "value_of" mR f fd)(B:Bs P w K mg):aV P w K mg base dD 1 f fd m9 (eu K 2 bI):=
 (av F zI λ_ _ _ _ _ _ hr _=>by walk_at "u")
def vR(F:dZ K "locks_told" "locks_told" jm f fd)(B:Bs P w K mg)(d:vc P w K mg base)(b:dz P w K mg base)(c:gc P w K mg base)(d2:jX P w K mg base):aV P w K mg base dD 5 f fd jE (eu K 2 cZ):=
 (av F vt λ_ _ _ _ _ _ hr _=>by walk_at "v";with_reducible exact(ab (by ac_rfl)
   (ab (by ac_rfl)
   (aE (bG (G5 eY B.eC c8 (aa (E1 (N':=["name","term","numbers"]) (caps:=[none,none,some 3]) (bR (by ac_nf)) rfl (by unfold Gl;ac_nf) B.AZ hr.units (mO (sv 2)) (λ_ _ _ _ _=>(pJ rfl (cH (sgn 0 (by show(["name","term","numbers"]:List Str).Nodup;decide+kernel)) (cH (sgn 1 (by show(["name","term","numbers"]:List Str).Nodup;decide+kernel)) jf)))) (λ_ _ _ _ _=>eA) (λ_ _ _ _ _=>(by ac_rfl))) aA)))))))
def Cc(F:dZ K "held_by" "held_by" pP f fd)(B:Bs P w K mg):aV P w K mg base dD 1 f fd qf (eu K 2 fF):=
 (av F BB λ_ _ _ _ _ _ hr _=>by walk_at "v";with_reducible exact(ab (fO Xu rfl (lN (by unfold Gl;ac_nf) B.eI (by ac_rfl) (af aF)) (by ac_rfl) (aE (eO (pH (Bw (PX rfl) B.SJ Qc (aa (eP (N':=["block","lock"]) (caps:=[none,some 1]) (bR (by ac_nf)) rfl (mO (sv 4)) (λ_ _ _ _ _=>(sgn 0 (by show(["block","lock"]:List Str).Nodup;decide+kernel))) (λ_ _ _ _ _=>eA) (λ_ _ _ _ _=>(by ac_rfl))) aA))) (by ac_rfl) fu)))
   (by ac_rfl)))
def Ie(F:dZ K "waits" "waits" xX f fd)(B:Bs P w K mg)(d:lF P w K mg base)(b:gd P w K mg base)(c:qK P w K mg base):aV P w K mg base dD 6 f fd yl (eu K 3 l6):=
 (av F G6 λ_ _ _ _ _ _ hr _=>by walk_at "v";with_reducible exact(ab (by ac_rfl)
   (ab (by ac_rfl)
   (aE (bG (G5 eY B.eC c8 (aa (eP (N':=["lock","scene"]) (caps:=[none,some 1]) (bR (by ac_nf)) rfl (by ac_rfl) (λ_ _ _ _ _=>(sgn 0 (by show(["lock","scene"]:List Str).Nodup;decide+kernel))) (λ_ _ _ _ _=>(Dh (by ac_rfl))) (λ_ _ _ _ _=>(sv 0))) aA)))))))
def vS(F:dZ K "choices_of" "choices_of" jn f fd)(B:Bs P w K mg)(b:dz P w K mg base)(a:EE P w K mg base):aV P w K mg base dD 7 f fd jF (eu K 3 cv):=
 (av F vw λ_ _ _ _ _ _ hr _=>by walk_at "u")
def Fv(F:dZ K "can_be" "can_be" tE f fd)(B:Bs P w K mg)(b:vd P w K mg base)(d1:mJ P w K mg base)(a:oY P w K mg base):aV P w K mg base dD 8 f fd uf (eu K 3 lK):=
 (av F E5 λ_ _ _ _ _ _ hr _=>by walk_at "v";with_reducible exact(ab (by ac_rfl)
   (ab (by ac_rfl)
   (aE (bG (ji (G1 MR MQ bh (sv 3) (by ac_rfl)) (jh (by ac_rfl))))))))
def Aj(F:dZ K "event_of" "event_of" mX f fd)(B:Bs P w K mg)(a:dz P w K mg base):aV P w K mg base dD 5 f fd nk (eu K 3 g8):=
 (av F zN λ_ _ _ _ _ _ hr _=>by walk_at "u")
def rQ(F:dZ K "frame_called" "frame_called" gD f fd)(B:Bs P w K mg)(b:dz P w K mg base)(c:gc P w K mg base)(d2:jX P w K mg base)(d:gX P w K mg base):aV P w K mg base dD 5 f fd gJ (eu K 2 dC):=
 (av F rC λ_ _ _ _ _ _ hr _=>by walk_at "v";with_reducible exact(ab (by ac_rfl)
   (ab (by ac_rfl)
   (aE (bG (dh (aa (by ac_rfl) (aa (G5 eY B.eC c8 (aa (eP (N':=["term","numbers"]) (caps:=[none,some 5]) (bR (by ac_nf)) rfl (mO (sv 4)) (λ_ _ _ _ _=>(sgn 0 (by show(["term","numbers"]:List Str).Nodup;decide+kernel))) (λ_ _ _ _ _=>eA) (λ_ _ _ _ _=>(by ac_rfl))) aA)) (by ac_rfl))) (af (af (af aF)))))))))
def oo(F:dZ K "lot_by_numbers" "lot_by_numbers" fv f fd)(B:Bs P w K mg)(d2:jX P w K mg base):aV P w K mg base dD 2 f fd fx (eu K 2 cN):=
 (av F eQ λ_ _ _ _ _ _ hr _=>by walk_at "v";with_reducible exact(ab (Kd 2 3 eQ.nd (af (af aF)) rfl (by decide) (by with_unfolding_all exact(yj rfl eQ.nd rfl rfl (by decide) rfl rfl (aa (sr d2 hr (aa (six hr (sv 0) bh) (aa (sv 1) aA))) (aa (sr d2 hr (aa (six hr (sv 0) bh) (aa (sv 1) aA))) aA)) rfl)))
   (by ac_rfl)))
def Ag(F:dZ K "lot_done" "lot_done" mT f fd)(B:Bs P w K mg)(d:dz P w K mg base)(a:i9 P w K mg base)(e:gc P w K mg base)(b:gd P w K mg base)(c:qK P w K mg base):aV P w K mg base dD 6 f fd ng (eu K 4 g0):=
 (av F zK λ_ _ _ _ _ _ hr _=>by walk_at "u")
def Ig(F:dZ K "takes" "takes" xY f fd)(B:Bs P w K mg):aV P w K mg base dD 1 f fd ym (eu K 2 pj):=
 (av F G7 λ_ _ _ _ _ _ hr _=>by walk_at "v";with_reducible exact(aE (bG (ji (G0 (Ia hr.units) (sv 0) (ia 9 (by ac_nf)) (by ac_nf)) (jh (by ac_rfl))))))
def Cd(F:dZ K "gone_on" "gone_on" pQ f fd)(B:Bs P w K mg)(g:dz P w K mg base)(e:oZ P w K mg base)(c:lG P w K mg base)(b:vb P w K mg base)(a:EF P w K mg base)(d:gd P w K mg base):aV P w K mg base dD 7 f fd qg (eu K 4 cn):=
 (av F BC λ_ _ _ _ _ _ hr _=>by walk_at "u")
def rN(F:dZ K "scene_behind" "scene_behind" gA f fd)(B:Bs P w K mg)(a:xG P w K mg base)(b:gW P w K mg base):aV P w K mg base dD 8 f fd gG (eu K 3 dA):=
 (av F rA λ_ _ _ _ _ _ hr _=>by walk_at "u")
def B9(F:dZ K "stepped" "stepped" pM f fd)(B:Bs P w K mg)(c:Bb P w K mg base)(b:ve P w K mg base)(a:lE P w K mg base):aV P w K mg base dD 9 f fd p9 (eu K 3 gw):=
 (av F Bx λ_ _ _ _ _ _ hr _=>by walk_at "v";with_reducible exact(ab (eO (by ac_rfl) (aE GI) fu)
   (by ac_rfl)))
def OX(F:dZ K "law" "law" qQ f fd)(B:Bs P w K mg)(j:pb P w K mg base)(b:rh P w K mg base)(i:mK P w K mg base)(a:qL P w K mg base)(h:pf P w K mg base)(c:q5 P w K mg base)(g:o8 P w K mg base)(l:EG P w K mg base)(e:o9 P w K mg base)(d:rg P w K mg base)(k:xE P w K mg base):aV P w K mg base dD 18 f fd MN (eu K 1 EH):=
 (av F G8 λ_ _ _ _ _ _ hr _=>by walk_at "v";with_reducible exact(ab (by ac_rfl)
   (ab (fO Xu rfl (iV (by unfold Gl;ac_nf) B.l4 (by ac_rfl) (hl:=(af aF))) (by ac_rfl) (ab (by ac_rfl)
   (ab (by ac_rfl)
   (ab (sset 5 G8.nd (dh (aa (by ac_rfl) (aa (dh (aa (sr a hr (aa (sv 1) (aa (ia 9 (by ac_nf)) aA))) (by ac_rfl)) (af (af aF))) aA)) (af (af aF))))
   (ab (by ac_rfl)
   (ab (by ac_rfl)
   (aE (fO Xu rfl (iV (by unfold Gl;ac_nf) B.l4 (by ac_rfl) (hl:=(af aF))) (by ac_rfl) (by ac_rfl)))))))))
   (by ac_rfl))))
end
def fq:Hd.freeOk view (["SHAPES"]:List Str) ["abs","all","any","bool","dict","enumerate","int","isinstance","len","list","max","min","range","set","sorted","str","tuple","zip"]=true:=by decide+kernel
abbrev Rc(x:Str)(s:Stmt):Prop:=(recsOf view).find? (λe=>e.name==x)=some (Hd.wR x s)
def t4:Rc "_law_drawn" jw:=by ac_nf
def vL:Rc "_law_load" kI:=by ac_nf
def vJ:Rc "_law_next" kG:=by ac_nf
def zU:Rc "_law_of" pR:=by ac_nf
def n6:Rc "_law_bare_lot" fR:=by ac_nf
def n5:Rc "_law_bare_row" fQ:=by ac_nf
def vO:Rc "_law_bare" kL:=by ac_nf
def vK:Rc "_law_lots" kH:=by ac_nf
def tW:Rc "_law_table" jr:=by ac_nf
def rG:Rc "_law_tables" iD:=by ac_nf
def rH:Rc "_law_onward" iE:=by ac_nf
def pZ:Rc "_law_settled" gF:=by ac_nf
def t5:Rc "_law_begun" jx:=by ac_nf
def vH:Rc "_law_same" kF:=by ac_nf
def tY:Rc "_law_scene" ju:=by ac_nf
def pY:Rc "deed_numbers" gE:=by ac_nf
def zR:Rc "lots_of" pO:=by ac_nf
def BN:Rc "lot_on" tD:=by ac_nf
def BM:Rc "row_on" tx:=by ac_nf
def nZ:Rc "stands_at_end" fP:=by ac_nf
def BP:Rc "behind" tF:=by ac_nf
def tQ:Rc "path_stood" jk:=by ac_nf
def zQ:Rc "rows_in" pN:=by ac_nf
def pW:Rc "frames_stood" gC:=by ac_nf
def Fd:Rc "begun" xZ:=by ac_nf
def tX:Rc "_law_stood" jt:=by ac_nf
def tV:Rc "_law_value" jq:=by ac_nf
def vG:Rc "_law_told" kE:=by ac_nf
def vM:Rc "_law_held" kJ:=by ac_nf
def tU:Rc "_law_waits" jo:=by ac_nf
def tZ:Rc "_law_moves" jv:=by ac_nf
def rJ:Rc "_law_inside" iF:=by ac_nf
def vN:Rc "_law_goes" kK:=by ac_nf
def ye:Rc "is_whole" mW:=by ac_nf
def rE:Rc "is_tuple_of" iC:=by ac_nf
def x9:Rc "row_here" mS:=by ac_nf
def pV:Rc "row_stood_at" gB:=by ac_nf
def yd:Rc "locks_of" mV:=by ac_nf
def tR:Rc "numbers_in" jl:=by ac_nf
def x8:Rc "value_of" mR:=by ac_nf
def tS:Rc "locks_told" jm:=by ac_nf
def zS:Rc "held_by" pP:=by ac_nf
def Fb:Rc "waits" xX:=by ac_nf
def tT:Rc "choices_of" jn:=by ac_nf
def BO:Rc "can_be" tE:=by ac_nf
def yf:Rc "event_of" mX:=by ac_nf
def pX:Rc "frame_called" gD:=by ac_nf
def m7:Rc "lot_by_numbers" fv:=by ac_nf
def yc:Rc "lot_done" mT:=by ac_nf
def Fc:Rc "takes" xY:=by ac_nf
def zT:Rc "gone_on" pQ:=by ac_nf
def pU:Rc "scene_behind" gA:=by ac_nf
def zP:Rc "stepped" pM:=by ac_nf
def Kq:Rc "law" qQ:=by ac_nf
def all_mk{l:PySem.W.OpenLaw}{w:World}{h:Heap}{mg mb:Str->Option Value}{p:ExcName->Option Value}(T:Top view (PySem.W.looseW view (["SHAPES"]:List Str)) p mg mb h)
  (c:Hd.tabAt h "SHAPES"=some (lM.map λx=>(x.1,hashStr w x.1,x.2)))
  (hF:∀ns:List Int,ns.length<=63->∃h',EH [.ro (ns.map D.int)] []=some (.bl true,h')):
  ∃(fa:Addr)(fd:FuncData),mg "law"=some (.ref fa)/\(∀(s:Shared)(v:Value),BindsTo s fd ⟨[v],[]⟩ [("_law_script",v)])/\∀base:Heap,(Hd.aS h).In base->base.Ns mainGlobals mg->aV l.prog w (Hd.aS h) mg base dD 18 fa fd ["_law_script"] (spT (Hd.aS h)):=by
 have B:Bs l.prog w (Hd.aS h) mg:=⟨Hd.cf T fq (Wk (i:=0) rfl),Hd.cf T fq (Wk (i:=1) rfl),Hd.cf T fq (Wk (i:=2) rfl),Hd.cf T fq (Wk (i:=3) rfl),Hd.cf T fq (Wk (i:=4) rfl),Hd.cf T fq (Wk (i:=5) rfl),Hd.cf T fq (Wk (i:=6) rfl),Hd.cf T fq (Wk (i:=7) rfl),Hd.cf T fq (Wk (i:=8) rfl),Hd.cf T fq (Wk (i:=9) rfl),Hd.cf T fq (Wk (i:=10) rfl),Hd.cf T fq (Wk (i:=11) rfl),Hd.cf T fq (Wk (i:=12) rfl),Hd.cf T fq (Wk (i:=13) rfl),Hd.cf T fq (Wk (i:=14) rfl),Hd.cf T fq (Wk (i:=15) rfl),Hd.cf T fq (Wk (i:=16) rfl),Hd.cf T fq (Wk (i:=17) rfl),Hd.tab_of c T.g (by decide+kernel)⟩;obtain⟨f5,fd5,m5,F5⟩:=Hd.D9 T n6;have k5:=F5.kp;have b5:=F5.binds (ps:=cj) λ_ _ _ _ _ _=>Hd.u4 (λ_ _ _ _=>rfl);obtain⟨f6,fd6,m6,F6⟩:=Hd.D9 T n5;have k6:=F6.kp;have b6:=F6.binds (ps:=cg) λ_ _ _ _ _ _=>Hd.u4 (λ_ _ _ _=>rfl);obtain⟨H,q,G,E⟩:=Hd.D9 T Kq;refine⟨H,q,G,E.one λ_ _ _ _ _ _ _=>rfl,λbase _ _=>?_⟩;have d30:pb l.prog w (Hd.aS h) mg base:=Hd.aR T t4 (λF=>F.binds λ_ _ _ _ _ _=>Hd.u1 (λ_=>rfl)) λF _ _ _=>vY F B;have d31:rf l.prog w (Hd.aS h) mg base:=Hd.aR T vL (λF=>F.binds λ_ _ _ _ _ _=>Hd.u1 (λ_=>rfl)) λF _ _ _=>yx F B;have f:iu l.prog w (Hd.aS h) mg base:=Hd.aR T vJ (λF=>F.binds λ_ _ _ _ _ _=>Hd.u2 (λ_ _=>rfl)) λF _ _ _=>yt F B d31;have z:qL l.prog w (Hd.aS h) mg base:=Hd.aR T zU (λF=>F.binds λ_ _ _ _ _ _=>Hd.u2 (λ_ _=>rfl)) λF _ _ _=>Ce F B f;have o:=DM (P:=l.prog) (w:=w) (base:=base) F5 k5 b5 m5 F6 k6 b6 m6 B f z 12;have L:ke l.prog w (Hd.aS h) mg base:=⟨f5,_,o.1,k5,b5,m5⟩;have d51:sf l.prog w (Hd.aS h) mg base:=⟨f6,_,o.2,k6,b6,m6⟩;have J:rh l.prog w (Hd.aS h) mg base:=Hd.aR T vO (λF=>F.binds λ_ _ _ _ _ _=>Hd.u1 (λ_=>rfl)) λF _ _ _=>yB F B L f;have Z:q9 l.prog w (Hd.aS h) mg base:=Hd.aR T vK (λF=>F.binds λ_ _ _ _ _ _=>Hd.u1 (λ_=>rfl)) λF _ _ _=>yw F B;have Y:o7 l.prog w (Hd.aS h) mg base:=Hd.aR T tW (λF=>F.binds λ_ _ _ _ _ _=>Hd.u3 (λ_ _ _=>rfl)) λF k b m=>mC F B k b m Z 8;have X:mK l.prog w (Hd.aS h) mg base:=Hd.aR T rG (λF=>F.binds λ_ _ _ _ _ _=>Hd.u1 (λ_=>rfl)) λF _ _ _=>uk F B Y;have y:iP l.prog w (Hd.aS h) mg base:=Hd.aR T rH (λF=>F.binds λ_ _ _ _ _ _=>Hd.u1 (λ_=>rfl)) λF _ _ _=>um F B;have u:gY l.prog w (Hd.aS h) mg base:=Hd.aR T pZ (λF=>F.binds λ_ _ _ _ _ _=>Hd.u2 (λ_ _=>rfl)) λF _ _ _=>rT F B y;have U:pf l.prog w (Hd.aS h) mg base:=Hd.aR T t5 (λF=>F.binds λ_ _ _ _ _ _=>Hd.u3 (λ_ _ _=>rfl)) λF _ _ _=>vZ F B u;have M:q5 l.prog w (Hd.aS h) mg base:=Hd.aR T vH (λF=>F.binds λ_ _ _ _ _ _=>Hd.u2 (λ_ _=>rfl)) λF k b m=>oq F B k b m  8;have S:o8 l.prog w (Hd.aS h) mg base:=Hd.aR T tY (λF=>F.binds λ_ _ _ _ _ _=>Hd.u1 (λ_=>rfl)) λF _ _ _=>vW F B;have d5:gX l.prog w (Hd.aS h) mg base:=Hd.aR T pY (λF=>F.binds λ_ _ _ _ _ _=>Hd.u1 (λ_=>rfl)) λF _ _ _=>rR F B;have d3:xF l.prog w (Hd.aS h) mg base:=Hd.aR T zR (λF=>F.binds λ_ _ _ _ _ _=>Hd.u1 (λ_=>rfl)) λF _ _ _=>Cb F B;have d8:Ba l.prog w (Hd.aS h) mg base:=Hd.aR T BN (λF=>F.binds λ_ _ _ _ _ _=>Hd.u2 (λ_ _=>rfl)) λF _ _ _=>Fu F B d3;have d9:va l.prog w (Hd.aS h) mg base:=Hd.aR T BM (λF=>F.binds λ_ _ _ _ _ _=>Hd.u2 (λ_ _=>rfl)) λF _ _ _=>Ft F B d8;have d13:kd l.prog w (Hd.aS h) mg base:=Hd.aR T nZ (λF=>F.binds λ_ _ _ _ _ _=>Hd.u2 (λ_ _=>rfl)) λF _ _ _=>qi F B;have n:oZ l.prog w (Hd.aS h) mg base:=Hd.aR T BP (λF=>F.binds λ_ _ _ _ _ _=>Hd.u1 (λ_=>rfl)) λF _ _ _=>Fw F B;have d14:oX l.prog w (Hd.aS h) mg base:=Hd.aR T tQ (λF=>F.binds λ_ _ _ _ _ _=>Hd.u2 (λ_ _=>rfl)) λF _ _ _=>vP F B d9 d13 n;have d6:qJ l.prog w (Hd.aS h) mg base:=Hd.aR T zQ (λF=>F.binds λ_ _ _ _ _ _=>Hd.u2 (λ_ _=>rfl)) λF _ _ _=>Ca F B;have C:gW l.prog w (Hd.aS h) mg base:=Hd.aR T pW (λF=>F.binds λ_ _ _ _ _ _=>Hd.u2 (λ_ _=>rfl)) λF _ _ _=>rP F B d14 d6 n;have d16:EG l.prog w (Hd.aS h) mg base:=Hd.aR T Fd (λF=>F.binds λ_ _ _ _ _ _=>Hd.u2 (λ_ _=>rfl)) λF _ _ _=>Ih F B d5 C;have e:gg l.prog w (Hd.aS h) mg base:=Hd.aR T tX (λF=>F.binds λ_ _ _ _ _ _=>Hd.u2 (λ_ _=>rfl)) λF _ _ _=>vV F B;have d:gf l.prog w (Hd.aS h) mg base:=Hd.aR T tV (λF=>F.binds λ_ _ _ _ _ _=>Hd.u3 (λ_ _ _=>rfl)) λF _ _ _=>vU F B;have t:lH l.prog w (Hd.aS h) mg base:=Hd.aR T vG (λF=>F.binds λ_ _ _ _ _ _=>Hd.u3 (λ_ _ _=>rfl)) λF _ _ _=>yr F B d;have r:lI l.prog w (Hd.aS h) mg base:=Hd.aR T vM (λF=>F.binds λ_ _ _ _ _ _=>Hd.u2 (λ_ _=>rfl)) λF _ _ _=>yz F B;have R:o6 l.prog w (Hd.aS h) mg base:=Hd.aR T tU (λF=>F.binds λ_ _ _ _ _ _=>Hd.u4 (λ_ _ _ _=>rfl)) λF _ _ _=>vT F B e t r;have Q:o9 l.prog w (Hd.aS h) mg base:=Hd.aR T tZ (λF=>F.binds λ_ _ _ _ _ _=>Hd.u3 (λ_ _ _=>rfl)) λF _ _ _=>vX F B e R;have O:mL l.prog w (Hd.aS h) mg base:=Hd.aR T rJ (λF=>F.binds λ_ _ _ _ _ _=>Hd.u4 (λ_ _ _ _=>rfl)) λF _ _ _=>uo F B d;have N:rg l.prog w (Hd.aS h) mg base:=Hd.aR T vN (λF=>F.binds λ_ _ _ _ _ _=>Hd.u4 (λ_ _ _ _=>rfl)) λF _ _ _=>yA F B e d t r O y u;have d0:vd l.prog w (Hd.aS h) mg base:=Hd.aR T ye (λF=>F.binds λ_ _ _ _ _ _=>Hd.u1 (λ_=>rfl)) λF _ _ _=>Ai F B;have d1:mJ l.prog w (Hd.aS h) mg base:=Hd.aR T rE (λF=>F.binds λ_ _ _ _ _ _=>Hd.u2 (λ_ _=>rfl)) λF _ _ _=>uh F B;have a:dz l.prog w (Hd.aS h) mg base:=Hd.aR T x9 (λF=>F.binds λ_ _ _ _ _ _=>Hd.u2 (λ_ _=>rfl)) λF _ _ _=>Af F B d9 d6;have d11:lF l.prog w (Hd.aS h) mg base:=Hd.aR T pV (λF=>F.binds λ_ _ _ _ _ _=>Hd.u3 (λ_ _ _=>rfl)) λF _ _ _=>rO F B a;have d4:vc l.prog w (Hd.aS h) mg base:=Hd.aR T yd (λF=>F.binds λ_ _ _ _ _ _=>Hd.u1 (λ_=>rfl)) λF _ _ _=>Ah F B;have I:gc l.prog w (Hd.aS h) mg base:=Hd.aR T tR (λF=>F.binds λ_ _ _ _ _ _=>Hd.u2 (λ_ _=>rfl)) λF _ _ _=>vQ F B;have d2:jX l.prog w (Hd.aS h) mg base:=Hd.aR T x8 (λF=>F.binds λ_ _ _ _ _ _=>Hd.u2 (λ_ _=>rfl)) λF _ _ _=>Ae F B;have j:gd l.prog w (Hd.aS h) mg base:=Hd.aR T tS (λF=>F.binds λ_ _ _ _ _ _=>Hd.u2 (λ_ _=>rfl)) λF _ _ _=>vR F B d4 a I d2;have A:qK l.prog w (Hd.aS h) mg base:=Hd.aR T zS (λF=>F.binds λ_ _ _ _ _ _=>Hd.u2 (λ_ _=>rfl)) λF _ _ _=>Cc F B;have d19:EE l.prog w (Hd.aS h) mg base:=Hd.aR T Fb (λF=>F.binds λ_ _ _ _ _ _=>Hd.u3 (λ_ _ _=>rfl)) λF _ _ _=>Ie F B d11 j A;have d20:oY l.prog w (Hd.aS h) mg base:=Hd.aR T tT (λF=>F.binds λ_ _ _ _ _ _=>Hd.u3 (λ_ _ _=>rfl)) λF _ _ _=>vS F B a d19;have d21:Bb l.prog w (Hd.aS h) mg base:=Hd.aR T BO (λF=>F.binds λ_ _ _ _ _ _=>Hd.u3 (λ_ _ _=>rfl)) λF _ _ _=>Fv F B d0 d1 d20;have d27:ve l.prog w (Hd.aS h) mg base:=Hd.aR T yf (λF=>F.binds λ_ _ _ _ _ _=>Hd.u3 (λ_ _ _=>rfl)) λF _ _ _=>Aj F B a;have d22:lG l.prog w (Hd.aS h) mg base:=Hd.aR T pX (λF=>F.binds λ_ _ _ _ _ _=>Hd.u2 (λ_ _=>rfl)) λF _ _ _=>rQ F B a I d2 d5;have d23:i9 l.prog w (Hd.aS h) mg base:=Hd.aR T m7 (λF=>F.binds λ_ _ _ _ _ _=>Hd.u2 (λ_ _=>rfl)) λF _ _ _=>oo F B d2;have d24:vb l.prog w (Hd.aS h) mg base:=Hd.aR T yc (λF=>F.binds λ_ _ _ _ _ _=>Hd.u4 (λ_ _ _ _=>rfl)) λF _ _ _=>Ag F B a d23 I j A;have d25:EF l.prog w (Hd.aS h) mg base:=Hd.aR T Fc (λF=>F.binds λ_ _ _ _ _ _=>Hd.u2 (λ_ _=>rfl)) λF _ _ _=>Ig F B;have d26:xG l.prog w (Hd.aS h) mg base:=Hd.aR T zT (λF=>F.binds λ_ _ _ _ _ _=>Hd.u4 (λ_ _ _ _=>rfl)) λF _ _ _=>Cd F B a n d22 d24 d25 j;have d28:lE l.prog w (Hd.aS h) mg base:=Hd.aR T pU (λF=>F.binds λ_ _ _ _ _ _=>Hd.u3 (λ_ _ _=>rfl)) λF _ _ _=>rN F B d26 C;have d29:xE l.prog w (Hd.aS h) mg base:=Hd.aR T zP (λF=>F.binds λ_ _ _ _ _ _=>Hd.u3 (λ_ _ _=>rfl)) λF _ _ _=>B9 F B d21 d27 d28;exact Lo (OX E B d30 J X z U M S d16 Q N d29) hF
end Mi
local macro_rules | `(tactic| walk_at $s:str) => let k := s.getString.front;let a := "|Sm.Sr|Sm.Sx|Sm.P7|Sm.Su|Sm.Ss|Sm.Ve|Sm.Vd|Sm.Vh|Sm.Vg|Sm.Vf|Sm.V3|Sm.V4|Sm.Sw|Sm.Sv|Sm.P5|Sm.P6|Sm.mx|Sm.xJ|Sm.Du|Sm.ML|Sm.Hw|Sm.Ht|Sm.Dt|Sm.N5|Sm.Rj|Sm.N6|Sm.r_scont|Sm.BR|Sm.UA|Sm.Qv|Sm.Kt|Sm.jB|Sm.Dw|Sm.UG|Sm.UE|Sm.UC|Sm.r_dv|Sm.r_do|Sm.HA|Sm.NZ|Sm.N0|Sm.N4|Sm.Rg|Sm.Rq|Sm.UB|Sm.Rk|Sm.r_sl|Sm.Rh|Sm.Ri|Sm.Fg|Sm.Oa|Sm.iW|Sm.yg|Sm.Ro|Sm.Oc|Sm.US|Sm.UT|Sm.T8|Sm.T9|Sm.t_ct|Sm.UZ|Sm.l_ct|Sm.U0|Sm.UY|Sm.NY|Sm.Rm";if k != 'o' && k != 'g' && k != 'r' then Lean.Macro.throwUnsupported else do {let t <- (((if k == 'r' then a ++ "|Sm.QC|Sm.QD|Sm.w_add|Sm.w_sub|Sm.w_lt|Sm.w_le|Sm.TY|Sm.TZ|Sm.QJ|Sm.QE|Sm.QI|Sm.w_neS|Sm.QH|Sm.QG|Sm.QF|Sm.Nj|Sm.w_lenL|Sm.Ob" else a).splitOn "|").drop 1).toArray.mapM (λn => `(Lean.Parser.Tactic.tacticSeq| refine $(Lean.mkIdent n.toName) ?_));if k == 'o' then `(tactic| with_reducible first $[| $t]*) else `(tactic|((repeat with_reducible first $[| $t]*);(try dsimp only)))}
namespace Mi
open PySem Sm
def pT(c:0 < b)(q:Q (.int (a % b),h)):Rn (wu (.int a) (.int b) h) Q:=⟨_,by unfold wu;dsimp only;rw[Wg c],q⟩
def NR(d:0 < b)(c:b<=10^40)(q:Q (.int (a / b),h)):Rn (IW (.int a) (.int b) h) Q:=⟨_,by unfold IW;dsimp only;rw[Wg ⟨d,c⟩],q⟩
def tO(c:ox a b=true)(q:Q (.int (a*b),h)):Rn (qW (.int a) (.int b) h) Q:=⟨_,by show(if ox a b then _ else _)=_;rw[Wg c],q⟩
def mul_r(d:-(2^64) < b)(c:b < 2^64):ox a b=true:=by unfold ox;simp only[XQ,WC,XD];exact .inr ⟨d,c⟩
def MT(d:-(2^64) < a)(c:a < 2^64):ox a b=true:=by unfold ox;simp only[XQ,WC,XD];exact .inl ⟨d,c⟩
def FD{h:MH}{s c:Nat}{b:List Int}{n t:Int}(f:h[s]?=some (.lst [.int n,.ob c,.int t]))(o:h[c]?=some (.lst (b.map D.int)))(ne:c≠s)(t0:0<=t)(u:t < 2^60):
  Rn (iy [.ob s] h) λp=>∃j,0<=j/\p=(.bb,h.set s (.lst [.int j,.ob c,.int (t+1)])):=by
 have hl:s < h.length:=(V9.mp f).1;generalize g:h.set s (.lst [.int n,.ob c,.int (t+1)])=H;have r:H[s]?=some (.lst [.int n,.ob c,.int (t+1)]):=by rw[<-g];exact WW hl
 have i:H[c]?=some (.lst (b.map D.int)):=by rw[<-g,Wm (Xy ne)];exact o
 have a:∀v:Int,AI (.ob s) (.int 0) (.int v) H=some (h.set s (.lst [.int v,.ob c,.int (t+1)])):=λv=>by
  rw[sO (p:=0) r rfl,<-g,XJ];rfl
 have q:AI (.ob s) (.int 2) (.int (t+1)) h=some H:=by rw[sO (p:=2) f rfl,<-g];rfl
 have l:eN [.ob c] H=some (.int b.length,H):=by rw[LL i,Wc]
 refine aY ?_;walk_at "g";refine rv (lA f rfl) ?_;walk_at "g";refine rv (lA f rfl) ?_;walk_at "g";refine rv rfl ?_;walk_at "g";refine rv q ?_;walk_at "g";refine rv (FX i) ⟨_,rfl,λe=>?pos,λe=>?neg⟩
 case' pos=>
  have k:0 < b.length:=by cases b with | nil=>simp at e | cons _ _=>simp
  walk_at "g";refine rv l (pT (by lia) ?_);obtain⟨z,m⟩:=JB b (t % (b.length:Int)) (Za _ (by lia)) (Zi _ (by lia));refine rv (lA i m) ?_
 all_goals
  walk_at "g";refine rv l (rv rfl ⟨_,rfl,?_⟩);refine(λd=>⟨λx=>?thenA,λ_=>⟨λz=>(nomatch z),λ_=>d⟩⟩) ?thenB
  case thenA=>
   walk_at "g";refine rv rfl ?_;walk_at "g";refine rv rfl (rv rfl ⟨_,rfl,λw=>?_,λ_=>d⟩);walk_at "g";refine rv rfl ?_;walk_at "g";refine rv (a _) ?_;walk_at "g";exact⟨_,by split <;> lia,rfl⟩
  case thenB=>
   walk_at "g";refine pT (by decide) ?_;walk_at "g";refine tO (MT (by decide) (by decide)) ?_;walk_at "g";refine tO (mul_r (by lia) (by lia)) (rv rfl ?_);walk_at "g";refine rv rfl ?_;walk_at "g";refine tO (mul_r (by decide) (by decide)) ?_;walk_at "g";refine pT (by decide) ?_;walk_at "g";refine tO (MT (Int.lt_of_lt_of_le (by decide) (Za _ (by decide))) (Int.lt_trans (Zi _ (by decide)) (by decide))) ?_;walk_at "g";refine pT (by decide) ?_;walk_at "g";refine tO (mul_r (by decide) (by decide)) ?_;walk_at "g";refine rv rfl ?_;walk_at "g";refine rv rfl ?_;walk_at "g";refine pT (by decide) ?_;walk_at "g";refine rv rfl (rv rfl ?_);walk_at "g";refine rv (a _) ?_;walk_at "g";exact⟨_,Int.add_nonneg (Za _ (by decide)) (by decide),rfl⟩
structure St(s c:Nat)(cs:List Int)(R:Nat)(h:MH):Prop where
 st:∃n t:Int,h[s]?=some (.lst [.int n,.ob c,.int t])/\0<=n/\0<=t/\t+R<=2^60
 ce:h[c]?=some (.lst (cs.map D.int))
 ne:c≠s
def wF(s:Nat)(h h':MH):Prop:=h'.length=h.length/\∀k,k≠s->h'[k]?=h[k]?
def wF.refl(s:Nat)(h:MH):wF s h h:=⟨rfl,λ_ _=>rfl⟩
theorem wF.trans(a:wF s h d)(b:wF s d c):wF s h c:=⟨b.1.trans a.1,λk n=>(b.2 k n).trans (a.2 k n)⟩
theorem wF.set:wF s h (h.set s o):=⟨Xl,λk n=>Wm (Xy n)⟩
section
variable {s c R:Nat} {cs:List Int} {h:MH}
def St.le(S:St s c cs R h)(g:f<=R):St s c cs f h:=by
 obtain⟨n,t,e,a,b,d⟩:=S.st;exact⟨⟨n,t,e,a,b,by lia⟩,S.ce,S.ne⟩
def St.dn(k:Nat)(S:St s c cs (R+k) h):St s c cs R h:=S.le (W9 _ _)
theorem St.set{a:Nat}{n t:Int}(S:St s c cs R h)(f:0<=n)(d:0<=t)(b:t+a<=2^60):St s c cs a (h.set s (.lst [.int n,.ob c,.int t])):=by
 obtain⟨g,t0,e,_⟩:=S.st;exact⟨⟨n,t,WW (V9.mp e).1,f,d,b⟩,by rw[Wm (Xy S.ne)];exact S.ce,S.ne⟩
def St.more(S:St s c cs R h)(g:MH):St s c cs R (h++g):=by
 obtain⟨n,t,e,r⟩:=S.st;exact⟨⟨n,t,by rw[Wx (V9.mp e).1];exact e,r⟩,by rw[Wx (V9.mp S.ce).1];exact S.ce,S.ne⟩
def St.off(S:St s c cs R h)(b:k≠s)(a:k≠c):St s c cs R (h.set k o):=by
 obtain⟨n,t,e,r⟩:=S.st;exact⟨⟨n,t,by rw[Wm b];exact e,r⟩,by rw[Wm a];exact S.ce,S.ne⟩
def St.lt(S:St s c cs R h):s < h.length/\c < h.length:=by
 obtain⟨n,t,e,r⟩:=S.st;exact⟨(V9.mp e).1,(V9.mp S.ce).1⟩
structure Sb(s c:Nat)(cs:List Int)(h0:MH)(R:Nat)(h:MH):Prop where
 S:St s c cs R h
 b:wF s h0 h
def St.sb(S:St s c cs R h):Sb s c cs h R h:=⟨S,wF.refl _ _⟩
variable {h0:MH}
def iO{m:Int}{Q:D×MH->Prop}(A:Sb s c cs h0 (R+1) h)(i:0 < m)(v:m<=10^40)(k:∀(r:Int)(j:MH),0<=r->r < m->Sb s c cs h0 R j->Q (.int r,j)):Rn (aU [.ob s,.int m] h) Q:=by
 have S:=A.S;obtain⟨n,t,q,z,t0,x⟩:=S.st;refine aY ?_;walk_at "g";refine rv (lA q rfl) ?_;walk_at "g";refine rv rfl ⟨_,rfl,λ_=>?pos,λ_=>?neg⟩
 case' pos=>
  walk_at "g";obtain⟨p,w,o,g,rfl⟩:=FD q S.ce S.ne t0 (by lia);refine rv w ?_;have l:St s c cs R (h.set s (.lst [.int o,.ob c,.int (t+1)])):=S.set g (by lia) (by lia);have u:wF s h (h.set s (.lst [.int o,.ob c,.int (t+1)])):=wF.set
 case' neg=>
  have l:St s c cs R h:=S.dn 1;have u:wF s h h:=wF.refl s h
 all_goals
  generalize h.set s (MO.lst [D.int _,D.ob c,D.int (t+1)])=j at*;obtain⟨n2,y,a,f,e,d⟩:=l.st;walk_at "g";refine rv (lA a rfl) ?_;walk_at "g";refine pT i ?_;walk_at "g";refine rv (lA a rfl) ?_;walk_at "g";refine NR i v ?_;walk_at "g";refine rv (sO (p:=0) a rfl) ?_;walk_at "g";exact k _ _ (Za _ (by lia)) (Zi _ i) ⟨l.set (Int.ediv_nonneg f (by lia)) e d,A.b.trans (u.trans wF.set)⟩
def L9(A:Sb s c cs h0 (R+1) h)(hd:d=.lv xs\/d=.tup xs)(o:0 < xs.length)(n:xs.length<=1000000)(k:∀(x:D)(b:MH),x∈xs->Sb s c cs h0 R b->Q (x,b)):Rn (dO [.ob s,d] h) Q:=by
 refine aY ?_;walk_at "g";have l:eN [d] h=some (.int xs.length,h):=by rcases hd with rfl | rfl <;> rfl
 refine rv l ?_;walk_at "g";refine iO A (by lia) (by lia) λr a f e m=>?_;obtain⟨v,j,g⟩:=Qh f e;have i:aB d (.int r) a=some (v,a):=by rcases hd with rfl | rfl <;> simp only[aB,dH,df,Wz,j,XO]
 refine rv i ?_;walk_at "g";exact k v a g m
end
def CH(ns:List Int)(hn:ns.length<=63)(R:Nat)(c:R<=2^60):∃a:List Int,fh [.ro (ns.map D.int)] []=some (.ob 1,[.lst (a.map D.int),.lst [.int 0,.ob 0,.int 0]])/\St 1 0 a R [.lst (a.map D.int),.lst [.int 0,.ob 0,.int 0]]:=by
 refine⟨(ns.drop (HT.cG ns.length 0 none)).take (HT.cG ns.length ns.length (some 63)-HT.cG ns.length 0 none),?_,⟨⟨0,0,rfl,by decide,by decide,by lia⟩,rfl,by decide⟩⟩;have e:Rn (fh [.ro (ns.map D.int)] []) λp=>p=(.ob 1,[.lst (((ns.drop (HT.cG ns.length 0 none)).take (HT.cG ns.length ns.length (some 63)-HT.cG ns.length 0 none)).map D.int),.lst [.int 0,.ob 0,.int 0]]):=by
  refine aY ?_;walk_at "g";refine Hu ?_;walk_at "g";refine⟨_,rfl,rv rfl ?_⟩;walk_at "g";refine⟨_,_,_,rfl,rfl,?_⟩;walk_at "g";simp only[cutD,Wc,AaL,AaK,Xm,Aau,Yr,Wq]
 obtain⟨p,b,rfl⟩:=e;exact b
end Mi
namespace Mi
open PySem Sm L2
def low(w:Str):Prop:=∀c∈w.cps,97<=c/\c<=122
def wF.app{s:Nat}{a d:MH}{o:MO}(b:wF s (a++[o]) d)(g:s < a.length):∃c,d=c++[o]/\wF s a c:=by
 have hl:d.length=a.length+1:=by rw[b.1];simp
 refine⟨d.take a.length,?_,by rw[WJ];lia,λk f=>?_⟩
 ·refine Yk λk=>?_
  by_cases z:k < a.length
  ·rw[Wx (by rw[WJ];lia),WX z]
  ·by_cases e:k=a.length
   ·subst e;rw[b.2 _ (by lia),Wy (Wj _),Wy (by rw[WJ];lia),WJ];rw[show min a.length d.length=a.length by lia]
   ·rw[WO (by lia),WO (by rw[Wn,WJ];simp;lia)]
 ·by_cases z:k < a.length
  ·rw[WX z,b.2 k f,Wx z]
  ·rw[WO (by rw[WJ];lia),WO (by lia)]
def St.cut{s c:Nat}{d:List Int}{B:Nat}{a g:MH}(S:Mi.St s c d B (a++g))(h:s < a.length)(f:c < a.length):Mi.St s c d B a:=by
 obtain⟨n,t,e,r⟩:=S.st;have b:=S.ce;rw[Wx h] at e;rw[Wx f] at b;exact⟨⟨n,t,e,r⟩,b,S.ne⟩
def Cl(h:MH):Prop:=∀o∈h,xr h.length o=true
theorem L0(n:Nat):∀a:List Int,dY n (a.map D.int)=true
 | []=>rfl
 | j::r=>by rw[Wo];show(gv n (.int _)&&dY n _)=true;rw[L0 n r];rfl
def Cl.but{s c:Nat}{f:List Int}{B:Nat}{h h':MH}(C:Cl h)(S:Mi.St s c f B h')(b:wF s h h'):Cl h':=by
 intro o d;obtain⟨k,a⟩:=Xg.mp d
 by_cases z:k=s
 ·subst z;obtain⟨n,t,e,_⟩:=S.st;rw[e] at a;cases a;show(true&&(decide (c < h'.length)&&(true&&true)))=true;rw[WI S.lt.2];rfl
 ·rw[b.2 k z] at a;rw[b.1];exact C o (Wk a)
def uC{h a g:MH}{d:D}(hl:a.length=h.length)(C:Cl a)(f:∀n,d≠.ob n)(e:gv h.length d=true):leave h d (a++g)=some (d,a):=by
 have c:zB h.length (a++g) d=d:=by
  cases d with
  | ob n=>exact absurd rfl (f n)
  | _=>rfl
 unfold leave;rw[c,<-hl,Y7 (Wj _),Xf,hl,e];have:(a.all (xr h.length))=true:=by
  rw[XH];intro o b;rw[<-hl];exact C o b
 rw[this,Bool.or_true];rfl
def CL{n:Nat}{o:MO}{h:MH}(e:h[n]?=some o):kc [(n,o)] h=true:=by
 unfold kc;rw[e];dsimp only;rw[xA];rfl
def Cl.add{h:MH}(C:Cl h){o:MO}(b:xr (h.length+1) o=true)(up:∀o∈h,xr h.length o=true->xr (h.length+1) o=true):Cl (h++[o]):=by
 intro x a;rw[Wn,YC];rcases Xa.mp a with z | z
 ·exact up x z (C x z)
 ·rw[Wr.mp z];exact b
mutual
theorem CK{n m:Nat}(hm:n<=m):∀d:D,gv n d=true->gv m d=true
 | .bb,_=>rfl
 | .bl _,_=>rfl
 | .int _,_=>rfl
 | .str _,_=>rfl
 | .ty _,_=>rfl
 | .ob k,h=>by simp only[gv,XD] at h ⊢;lia
 | .tup xs,h=>by simp only[gv] at h ⊢;exact nD hm xs h
 | .lv xs,h=>by simp only[gv] at h ⊢;exact nD hm xs h
 | .ro xs,h=>by simp only[gv] at h ⊢;exact nD hm xs h
 | .dv xs,h=>by simp only[gv] at h ⊢;exact CJ hm xs h
theorem nD{n m:Nat}(hm:n<=m):∀d:List D,dY n d=true->dY m d=true
 | [],_=>rfl
 | x::r,h=>by
  simp only[dY,WC] at h ⊢;exact⟨CK hm x h.1,nD hm r h.2⟩
theorem CJ{n m:Nat}(hm:n<=m):∀d:List (Key×D),L3 n d=true->L3 m d=true
 | [],_=>rfl
 |(_,x)::r,h=>by
  simp only[L3,WC] at h ⊢;exact⟨CK hm x h.1,CJ hm r h.2⟩
end
def Jk{n m:Nat}(hm:n<=m)(o:MO)(h:xr n o=true):xr m o=true:=by
 cases o with
 | lst xs=>exact nD hm xs h
 | dct xs=>exact CJ hm xs h
 | dcH xs=>have h:=WE.mp h;exact WE.mpr ⟨nD hm _ h.1,nD hm _ h.2⟩
def Cl.snoc{h:MH}(C:Cl h){o:MO}(a:xr (h.length+1) o=true):Cl (h++[o]):=C.add a λx _ z=>Jk (YG _) x z
theorem Cl.set{h:MH}(C:Cl h){n:Nat}{o:MO}(b:xr h.length o=true):Cl (h.set n o):=by
 intro x a;rw[Xl];rcases Yh a with z | z
 ·exact C x z
 ·rw[z];exact b
theorem P1{n:Nat}:∀{xs:List D},(∀x∈xs,gv n x=true)->dY n xs=true
 | [],_=>rfl
 | x::r,h=>by
  show(gv n x&&dY n r)=true;rw[h x We,P1 λy a=>h y (Wf _ a)];rfl
end Mi
namespace Sm
open PySem L2
theorem Eh{e:EM}{h:MH}{t:DS}(f:D->D):∀(xs:List D)(o:Option D),(∀x∈xs,e (some x::t) h=some (f x,h))->bO [] (gN 0) cV e xs (o::t) h=some (xs.map f,h)
 | [],o,_=>rfl
 | x::r,o,a=>by
  have d:e (some x::t) h=some (f x,h):=a x We;have c:=Eh f r (some x) λy b=>a y (Wf _ b);show((some ((o::t).set 0 (some x),h)).bind λq=>(cV q.1 q.2).bind λt=>if t.1=true then(e q.1 t.2).bind λy=>(bO [] (gN 0) cV e r q.1 y.2).map λz=>(y.1::z.1,z.2) else bO [] (gN 0) cV e r q.1 t.2)=_;show((e (some x::t) h).bind λy=>(bO [] (gN 0) cV e r (some x::t) y.2).map λz=>(y.1::z.1,z.2))=_;rw[d];show((bO [] (gN 0) cV e r (some x::t) h).map λz=>(f x::z.1,z.2))=_;rw[c];rfl
theorem Ew{a:Type}(f:a->Bool):∀(l:List a),wC (l.map λx=>D.bl (f x))=some (l.map f)
 | []=>rfl
 | x::r=>by show(wC (r.map λx=>D.bl (f x))).map _=_;rw[Ew f r];rfl
def fj{b:Type}{o:Option b}{a:b}(r:Rn o λp=>p=a):o=some a:=let⟨_,e,q⟩:=r;by rw[e,q]
def tt(a:A):(true=true->A)/\(true=false->B):=⟨λ_=>a,λz=>(nomatch z)⟩
def ff(b:B):(false=true->A)/\(false=false->B):=⟨λz=>(nomatch z),λ_=>b⟩
end Sm
namespace Mi
open PySem Sm L2 Pg
structure SU(W:Wd)(fl:List Int)(odd:Int):Prop where
 n1:1<=W.names.length
 n2:W.names.length<=6
 d1:1<=W.ao.length
 d2:W.ao.length<=6
 pl:W.params.length=W.ao.length
 p3:∀ps∈W.params,ps.length<=3
 V0:fl.length=W.ao.length
 f0:∀f∈fl,0<=f/\f < W.names.length
 o0:0<=odd
 o1:odd<=1000
 sn:∀w∈W.names,1<=w.length/\w.length<=7/\low w
 sd:∀w∈W.ao,1<=w.length/\w.length<=7/\low w
 sp:∀ps∈W.params,∀w∈ps,1<=w.length/\w.length<=7/\low w
 nn:W.names.Nodup
 nd:W.ao.Nodup
 np:∀ps∈W.params,ps.Nodup
section
variable {h:MH} {wd:Nat} {W:Wd} {fl:List Int} {left odd:Int}
end
section
variable {h h0:MH} {s c wd R:Nat} {cs:List Int} {W:Wd} {fl:List Int} {left odd:Int} {Q:D×MH->Prop}
end
def Pz{a:Type}{xs:List a}{f:a->D}{h:MH}{j:Nat}{x:a}(e:xs[j]?=some x):aB (.lv (xs.map f)) (.int j) h=some (f x,h):=by
 have b:j < xs.length:=by
  rcases Yv j xs.length with z | z
  ·exact z
  ·rw[WO z] at e;cases e
 show((hW (xs.map f) j).map λz=>(z,h))=_;have:hW (xs.map f) j=some (f x):=by
  unfold hW;rw[show wm (xs.map f).length j=some j by unfold wm;simp;lia];show(xs.map f)[j]?=_;rw[Wt,e];rfl
 rw[this];rfl
def LJ(i j:Int)(h:MH):IT [.int i,.int j] h=some (.int (max i j),h):=by
 show some (D.int (if j > i then j else i),h)=_;rw[show(if j > i then j else i)=max i j by split <;> lia]
def LI(i j:Int)(h:MH):IS [.int i,.int j] h=some (.int (min i j),h):=by
 show some (D.int (if j < i then j else i),h)=_;rw[show(if j < i then j else i)=min i j by split <;> lia]
section
variable {h h0:MH} {s c wd R:Nat} {cs:List Int} {W:Wd} {fl:List Int} {left odd:Int} {Q:D×MH->Prop}
end
section
variable {h h0:MH} {s c wd R:Nat} {cs:List Int} {W:Wd} {fl:List Int} {left odd:Int} {Q:D×MH->Prop}
end
theorem uW(n:Nat):∀a:List Str,dY n (a.map D.str)=true
 | []=>rfl
 | j::r=>by rw[Wo];show(gv n (.str _)&&dY n _)=true;rw[uW n r];rfl
section
variable {E:En} {h0 h h1 h' g:MH} {R R' l l' k:Nat} {Q:D×MH->Prop}
variable {j d f:Nat} {ps:List Str} {top:Int} {held:List Lock}
end
def wU(r:Rn (b (entry len ds) h) (l9 λp=>Rn (leave h p.1 p.2) Q)):Rn (MU len b ds h) Q:=by
 obtain⟨p,e,q⟩:=aY r;obtain⟨z,a,k⟩:=q;refine⟨z,?_,k⟩;have e:((b (entry len ds) h).bind Kp)=some p:=e;show((b (entry len ds) h).bind Kp).bind _=_;rw[e];exact a
def fY{oz:D->MH->Bool}{f:Gp}{o:EM}{m:AM}{δ:DS}{h:MH}{Q:D×MH->Prop}(r:Rn (o δ h) λp=>oz p.1 p.2=true/\Rn (m δ p.2) λq=>Rn (f p.1 q.1 q.2) Q):Rn (eM oz f o m δ h) Q:=
 aN (r.imp λp ⟨e,r⟩=>by rw[Wg e];exact aN r)
def bV(e:h[n]?=some (.lst xs)):bK (.ob n) h=true:=by unfold bK iY;dsimp only;rw[e];rfl
def bH(e:h[n]?=some (.lst xs))(hl:xs.length < sizeLine):bt (.ob n) [y] h=some (.bb,h.set n (.lst (xs++[y]))):=by unfold bt;dsimp only;rw[e];dsimp only;rw[Wg hl]
def y9(n:Nat)(t:Term):gv n (bx t)=true:=rfl
def za(n:Nat)(t:Lock):gv n (dX t)=true:=rfl
theorem qE(n:Nat)(f:α->D)(a:∀x,gv n (f x)=true):∀xs:List α,dY n (xs.map f)=true
 | []=>rfl
 | x::r=>by rw[Wo];show(gv n (f x)&&dY n _)=true;rw[a x,qE n f a r];rfl
mutual
theorem Ji(n:Nat):∀r:Row,gv n (aG r)=true
 | .say w=>by rw[aG];rfl
 | .call d f=>by rw[aG];show(true&&(true&&(dY n _&&true)))=true;rw[qE n _ (y9 n)];rfl
 | .within l b=>by rw[aG];show(true&&(gv n (dX l)&&(dY n _&&true)))=true;rw[za,eZ n b];rfl
 | .all ls b=>by rw[aG];show(true&&(dY n _&&(dY n _&&true)))=true;rw[qE n _ (za n),eZ n b];rfl
 | .ask l b e=>by rw[aG];show(true&&(gv n (dX l)&&(dY n _&&(dY n _&&true))))=true;rw[za,eZ n b,eZ n e];rfl
 | .vi s t a b c=>by rw[aG];show(true&&(gv n (bx s)&&(gv n (bx t)&&(dY n _&&(dY n _&&(dY n _&&true))))))=true;rw[y9,y9,eZ n a,eZ n b,eZ n c];rfl
 | .either a b=>by rw[aG];show(true&&(dY n _&&(dY n _&&true)))=true;rw[eZ n a,eZ n b];rfl
 | .again a=>by rw[aG];show(true&&(dY n _&&true))=true;rw[eZ n a];rfl
theorem eZ(n:Nat):∀r:List Row,dY n (eD r)=true
 | []=>by rw[eD];rfl
 | r::rs=>by rw[eD];show(gv n _&&dY n _)=true;rw[Ji n r,eZ n rs];rfl
end
def qw(e:H.length=n):(H++[a])[n]?=some a:=by rw[<-e];simp
def GQ(e:H.length=n):(H++[a]).set n b=H++[b]:=by rw[<-e];simp
section
variable {E:En} {f:Nat}
end
def Rl(P:Prop)[Decidable P](e:Rn (t δ h) λp=>p=(decide P,h))(b:P->Rn (x δ h) Q)(a:¬P->Rn (y δ h) Q):Rn (eL t x y δ h) Q:=by
 refine Dt (e.imp ?_);rintro _ rfl;exact⟨λz=>b (Xk z),λz=>a (Ze z)⟩
def Ks(P:Prop)[Decidable P](e:Rn (t δ h) λp=>p=(decide P,h))(c:P->Rn (x δ h) (j0 b Q))(a:¬P->Rn (b δ h) Q):Rn (ak (eL t x bU) b δ h) Q:=
 mx (Rl P e c λz=>⟨_,rfl,a z⟩)
section
variable {E:En} {f:Nat}
end
def nr(hl:a.length=h.length)(C:Cl a)(c:∀n,d≠.ob n)(b:gv h.length d=true):leave h d a=some (d,a):=by
 have:=uC (g:=[]) hl C c b
 rwa [Xb] at this
section
variable {E:En} {f:Nat}
end
section
variable {E:En}
end
end Mi
namespace Pg
open PySem Sm L2
abbrev di:=Str×List Str×List Row
structure Prog where
 names:List Str
 ao:List di
def gS(d:di):D:=.tup [.str d.1,.tup (d.2.1.map D.str),.tup (eD d.2.2)]
def ax(P:Prog):D:=.tup [.tup (P.names.map D.str),.tup (P.ao.map gS)]
structure Tt(W:Wd)(most:Nat)(P:Prog):Prop where
 nm:P.names=GK W.names
 dl:P.ao.length=W.ao.length
 dd:∀(j:Nat)(d:di),P.ao[j]?=some d->W.ao[j]?=some d.1/\W.params[j]?=some d.2.1/\bZ W d.2.1 1 d.2.2/\d.2.2.length<=12
 ct:(P.ao.map λd=>aX d.2.2).sum<=most
end Pg
namespace Mi
open PySem Sm L2 Pg
def Er(n:Nat)(d:di):gv n (gS d)=true:=by
 show(true&&(dY n (d.2.1.map D.str)&&(dY n (eD d.2.2)&&true)))=true;rw[uW,eZ];rfl
def LZ(n:Nat)(P:Prog):gv n (ax P)=true:=by
 show(dY n (P.names.map D.str)&&(dY n (P.ao.map gS)&&true))=true;rw[uW,qE n _ (Er n)];rfl
def oG{b:Type}{f:b->D}{xs:List b}{i:Nat}{x:D}(h:(j8 0 (xs.map f))[i]?=some x):∃a,xs[i]?=some a/\x=.tup [.int (i:Int),f a]:=by
 rw[qB,Wt] at h;cases e:xs[i]? with
 | none=>rw[e] at h;cases h
 | some a=>
  rw[e] at h;cases h;exact⟨a,rfl,by rw[X5]⟩
end Mi
namespace Pg
open PySem Sm L2
def fK(l:List Row):D:=.tup (eD l)
noncomputable def aM:Row->List (List Row)
 | .say _=>[]
 | .call _ _=>[]
 | .within _ b=>[b]
 | .all _ b=>[b]
 | .ask _ b e=>[b,e]
 | .vi _ _ a b c=>[a,b,c]
 | .either a b=>[a,b]
 | .again a=>[a]
noncomputable def cz:Row->Str
 | .say _=>"say"
 | .call _ _=>"call"
 | .within _ _=>"within"
 | .all _ _=>"all"
 | .ask _ _ _=>"ask"
 | .vi _ _ _ _ _=>"by"
 | .either _ _=>"either"
 | .again _=>"again"
mutual
noncomputable def iG(p:List Nat):Row->List (List Nat×Row)
 | .say _=>[]
 | .call _ _=>[]
 | .within _ b=>eT (p++[0]) 0 b
 | .all _ b=>eT (p++[0]) 0 b
 | .ask _ b e=>eT (p++[0]) 0 b++eT (p++[1]) 0 e
 | .vi _ _ a b c=>eT (p++[0]) 0 a++(eT (p++[1]) 0 b++eT (p++[2]) 0 c)
 | .either a b=>eT (p++[0]) 0 a++eT (p++[1]) 0 b
 | .again a=>eT (p++[0]) 0 a
noncomputable def eT(a:List Nat)(k:Nat):List Row->List (List Nat×Row)
 | []=>[]
 | r::rs=>(a++[k],r)::(iG (a++[k]) r++eT a (k+1) rs)
end
mutual
noncomputable def fk:Row->Nat
 | .say _=>0
 | .call _ _=>0
 | .within _ b=>dP b
 | .all _ b=>dP b
 | .ask _ b e=>max (dP b) (dP e)
 | .vi _ _ a b c=>max (dP a) (max (dP b) (dP c))
 | .either a b=>max (dP a) (dP b)
 | .again a=>dP a
noncomputable def dP:List Row->Nat
 | []=>1
 | r::rs=>max (1+fk r) (dP rs)
end
def Fz{a:List Row}{r:Row}(h:r∈a):1+fk r<=dP a:=by
 induction a with
 | nil=>cases h
 | cons x xs b=>
  rw[dP];rcases Ws.mp h with rfl | h
  ·lia
  ·have:=b h;lia
def Fy{r:Row}{l:List Row}(h:l∈aM r):dP l<=fk r:=by
 cases r <;> simp[aM] at h
 case within=>subst h;simp[fk]
 case all=>subst h;simp[fk]
 case ask=>rcases h with rfl | rfl <;> rw[fk] <;> lia
 case vi=>rcases h with rfl | rfl | rfl <;> rw[fk] <;> lia
 case either=>rcases h with rfl | rfl <;> rw[fk] <;> lia
 case again=>subst h;simp[fk]
def AR(r:Row):cnt r=1+((aM r).map aX).sum:=by cases r <;> simp[cnt,aM] <;> lia
mutual
theorem BY(p:List Nat):∀r:Row,1+(iG p r).length=cnt r
 | .say _=>by simp[iG,cnt]
 | .call _ _=>by simp[iG,cnt]
 | .within _ b=>by simp[iG,cnt,b7 (p++[0]) 0 b]
 | .all _ b=>by simp[iG,cnt,b7 (p++[0]) 0 b]
 | .ask _ b e=>by simp[iG,cnt,b7 (p++[0]) 0 b,b7 (p++[1]) 0 e];lia
 | .vi _ _ a b c=>by simp[iG,cnt,b7 (p++[0]) 0 a,b7 (p++[1]) 0 b,b7 (p++[2]) 0 c];lia
 | .either a b=>by simp[iG,cnt,b7 (p++[0]) 0 a,b7 (p++[1]) 0 b];lia
 | .again a=>by simp[iG,cnt,b7 (p++[0]) 0 a]
theorem b7(a:List Nat):∀(k:Nat)(l:List Row),(eT a k l).length=aX l
 | k,[]=>by simp[eT,aX]
 | k,r::rs=>by
  have:=BY (a++[k]) r;have:=b7 a (k+1) rs;simp[eT,aX];lia
end
mutual
theorem Cf{W:Wd}{ps:List Str}:∀(n:Nat)(r:Row),bE W ps n r->n<=5->fk r<=5-n
 | n,.say _,_,_=>by simp[fk]
 | n,.call _ _,_,_=>by simp[fk]
 | n,.within _ b,h,hn=>by rw[bE] at h;have:=bT (n+1) b h.2.2.2 h.2.1;rw[fk];lia
 | n,.all _ b,h,hn=>by rw[bE] at h;have:=bT (n+1) b h.2.2.2 h.2.1;rw[fk];lia
 | n,.ask _ b e,h,hn=>by rw[bE] at h;have:=bT (n+1) b h.2.2.2.2.1 h.2.1;have:=bT (n+1) e h.2.2.2.2.2 h.2.1;rw[fk];lia
 | n,.vi _ _ a b c,h,hn=>by
  rw[bE] at h;obtain⟨_,_,d,_,_,_,f,g,i⟩:=h;have:=bT (n+1) a f d;have:=bT (n+1) b g d;have:=bT (n+1) c i d;rw[fk];lia
 | n,.either a b,h,hn=>by
  rw[bE] at h;obtain⟨d,_,_,f,g⟩:=h;have:=bT (n+1) a f d;have:=bT (n+1) b g d;rw[fk];lia
 | n,.again a,h,hn=>by
  rw[bE] at h;obtain⟨d,_,f⟩:=h;have:=bT (n+1) a f d;rw[fk];lia
theorem bT{W:Wd}{ps:List Str}:∀(n:Nat)(l:List Row),bZ W ps n l->n<=5->dP l<=6-n
 | n,[],_,hn=>by simp[dP];lia
 | n,r::rs,h,hn=>by
  rw[bZ] at h;have:=Cf n r h.1 hn;have:=bT n rs h.2 hn;rw[dP];lia
end
noncomputable def aj(n:Nat):D:=.int (n:Int)
def bD(p:List Nat):D:=.tup (p.map aj)
end Pg
namespace Mi
open PySem Sm L2 Pg
def xB(h:MH):zk h h=true:=by
 induction h with
 | nil=>rfl
 | cons o r a=>show(Jv o o&&zk r r)=true;rw[xA,a];rfl
def yJ(r:Row)(h:MH):ja [aG r] h=some (.tup ((aM r).map fK),h):=by
 have e:Rn (ja [aG r] h) λp=>p=(.tup ((aM r).map fK),h):=by
  refine aY ?_;cases r <;> rw[aG] <;> (nofun;refine rv rfl ?_;nofun;refine rv rfl ?_;dsimp only;refine⟨_,rfl,?_⟩;nofun;refine rv rfl ?_;rfl)
 obtain⟨p,a,rfl⟩:=e;exact a
def ck{xs ys:List D}{h:MH}(hl:xs.length+ys.length<=10000):aI (.tup xs) (.tup ys) h=some (.tup (xs++ys),h):=by
 cases xs with
 | nil=>rfl
 | cons x xs=>
  show(if xs.length+1+ys.length<=sizeLine then some (D.tup (x::xs++ys),h) else none)=_;rw[Wg (by rw[show sizeLine=16777216 from rfl];rw[Wq] at hl;lia)]
def kC{H:MH}{o a:MO}:(H++[o]).set H.length a=H++[a]:=by
 rw[Y4 _ _ (Wj _),X6];rfl
def b8{H:MH}{o:MO}:(H++[o])[H.length]?=some o:=by simp
def FZ(a:List Nat)(i:Nat)(hl:a.length<=1000)(h:MH):aI (bD a) (.tup [.int (i:Int)]) h=some (bD (a++[i]),h):=by
 show aI (.tup (a.map aj)) (.tup [aj i]) _=_;rw[ck (by rw[Wc];simp;lia)];simp[bD]
end Mi
namespace Pg
open PySem Sm L2
theorem C4:∀{ds:List di} {d:di},d∈ds->aX d.2.2<=(ds.map λd=>aX d.2.2).sum
 | x::r,d,h=>by
  rw[Wo,List.sum_cons];rcases Ws.mp h with rfl | h
  ·lia
  ·have:=C4 h;lia
structure VI(P:Prog):Prop where
 nd:∀d∈P.ao,dP d.2.2<=6
 ct:(P.ao.map λd=>aX d.2.2).sum<=1000
 dl:P.ao.length<=1000
def Tt.fit{W:Wd}{m:Nat}{P:Prog}(o:Tt W m P)(hm:m<=1000)(hd:W.ao.length<=6):VI P:=by
 refine⟨λd hd=>?_,WQ o.ct hm,by rw[o.dl];lia⟩;obtain⟨j,a⟩:=Xg.mp hd;obtain⟨_,_,ok,_⟩:=o.dd j d a;have:=bT 1 d.2.2 ok (by lia)
 lia
end Pg
namespace Mi
open PySem Sm L2 Pg
def LX{a:Type}{ws:W}{g:GM}{e:EM}{h:MH}(c:kc ws h=true)(f k:a->D)(J:DS->Prop)(xs:List a){δ:DS}(n:J δ)(b:∀x∈xs,∀δ,J δ->Rn (g (f x) δ h) λq=>q.2=h/\J q.1/\Rn (e q.1 h) λp=>p=(k x,h)):
  bO ws g cV e (xs.map f) δ h=some (xs.map k,h):=by
 induction xs generalizing δ with
 | nil=>rw[Zd];unfold bO;rw[Wg c];rfl
 | cons x r j=>
  rw[Wo];unfold bO;rw[Wg c];obtain⟨⟨i,m⟩,o,rfl,s,p,d,rfl⟩:=b x We δ n;rw[o];dsimp only[Option.bind_some] at d ⊢;show((some (true,m)).bind _)=_;dsimp only[Option.bind_some];rw[Wg rfl,d];dsimp only[Option.bind_some];rw[j s λy l=>b y (Wf _ l)];rfl
end Mi
namespace Mi
open PySem Sm L2
def qq{H g:MH}{d:D}(c:∀n,d≠.ob n)(b:gv H.length d=true):leave H d (H++g)=some (d,H):=by
 have a:zB H.length (H++g) d=d:=by
  cases d with
  | ob n=>exact absurd rfl (c n)
  | _=>rfl
 unfold leave;rw[a,Y7 (Wj _),Xf,b,xB];rfl
def lO{h:MH}{n:Nat}{xs:List D}(e:h[n]?=some (.lst xs)):df (.ob n) h=some (xs,[(n,.lst xs)]):=by unfold df;dsimp only;rw[e]
theorem og{c:TM}{b:SM}{Q:SQ}(I:Nat->DS->MH->Prop)(step:∀k δ h,I k δ h->Rn (c δ h) λp=>(p.1=true->Rn (b δ p.2) (Av (λδ h=>∃e,e < k/\I e δ h) Q))/\(p.1=false->Q (.nx,δ,p.2))):
  ∀(n k:Nat)(δ:DS)(h:MH),k < n->I k δ h->Rn (gy c b n δ h) Q
 | 0,k,δ,h,j,_=>absurd j (by lia)
 | n+1,k,δ,h,j,r=>by
  obtain⟨p,t,o,m⟩:=step k δ h r;unfold gy;rw[t];dsimp only[Option.bind_some]
  by_cases z:p.1=true
  ·rw[Wg z];obtain⟨⟨f,g,l⟩,s,q⟩:=o z;rw[s];dsimp only[Option.bind_some];cases f with
   | nx=>obtain⟨e,i,a⟩:=q;exact og I step n e g l (by lia) a
   | ct=>obtain⟨e,i,a⟩:=q;exact og I step n e g l (by lia) a
   | bk=>exact⟨_,rfl,q⟩
   | rt d=>exact⟨_,rfl,q⟩
  ·rw[Wh z];exact⟨_,rfl,m (by simpa using z)⟩
end Mi
namespace Mi
open PySem Sm L2 Pg
noncomputable def flat(st:List (Nat×Nat)):List Nat:=st.flatMap λs=>[s.1,s.2]
def bA(st:List (Nat×Nat))(k:Nat):D:=bD (flat st++[k])
def M0(l:List Row)(s:Nat×Nat):Option (List Row):=(l[s.1]?).bind λr=>(aM r)[s.2]?
def bq(rows:List Row):List (Nat×Nat)->Option (List Row)
 | []=>some rows
 | s::r=>(M0 rows s).bind λl=>bq l r
theorem qo:∀(st:List (Nat×Nat)) (rows:List Row) (a:List (Nat×Nat)),bq rows (st++a)=(bq rows st).bind λl=>bq l a
 | [],_,_=>rfl
 | s::r,rows,a=>by
  show((M0 rows s).bind λl=>bq l (r++a))=((M0 rows s).bind λl=>bq l r).bind _;cases M0 rows s with
  | none=>rfl
  | some l=>exact qo r l a
def i5(st:List (Nat×Nat)):(flat st).length=2*st.length:=by
 induction st with
 | nil=>rfl
 | cons s r a=>show([s.1,s.2]++flat r).length=_;rw[Wn,a];simp;lia
def uM(a b:List (Nat×Nat)):flat (a++b)=flat a++flat b:=by unfold flat;rw[List.flatMap_append]
theorem Ea:∀{st:List (Nat×Nat)} {i:Nat} {s:Nat×Nat} (t:List Nat),st[i]?=some s->(flat st++t)[2*i]?=some s.1/\(flat st++t)[2*i+1]?=some s.2
 | x::r,0,s,t,e=>by cases e;exact⟨rfl,rfl⟩
 | x::r,i+1,s,t,e=>by
  have ⟨b,a⟩:=Ea (st:=r) (i:=i) t e;show(x.1::x.2::(flat r++t))[2*(i+1)]?=_/\(x.1::x.2::(flat r++t))[2*(i+1)+1]?=_;rw[show 2*(i+1)=2*i+1+1 by lia,Xq,Xq,Xq,Xq];exact⟨b,a⟩
def cM{xs:List D}{i:Nat}{d:D}{h:MH}(e:xs[i]?=some d):aB (.tup xs) (.int (i:Int)) h=some (d,h):=by
 have q:hW xs (i:Int)=some d:=oP e;simp only[aB,dH,df,Wz,q,XO]
def uO{xs:List D}{i:Int}{d:D}{h:MH}(q:hW xs i=some d):aB (.tup xs) (.int i) h=some (d,h):=by
 simp only[aB,dH,df,Wz,q,XO]
def IU{p:List Nat}{i x:Nat}{h:MH}(e:p[i]?=some x):aB (bD p) (.int (i:Int)) h=some (aj x,h):=
 cM (by rw[Wt,e];rfl)
def xm{p:List Nat}{i:Int}{j x:Nat}{h:MH}(hi:i=(j:Int))(e:p[j]?=some x):aB (bD p) (.int i) h=some (aj x,h):=by
 subst hi;exact IU e
def Ec{l:List Row}{i:Nat}{r:Row}{h:MH}(e:l[i]?=some r):aB (fK l) (aj i) h=some (aG r,h):=
 cM (by rw[dW,Wt,e];rfl)
def GN(n:Nat):(Builtin.Range.rangeSize 1 ((2*n+1:Nat):Int) 2).toNat=n:=by
 unfold Builtin.Range.rangeSize;rw[Wg (by decide)]
 split
 ·lia
 ·lia
def N8{m:AM}{δ:DS}{h:MH}{Q:List D×W×MH->Prop}(r:Rn (m δ h) λp=>∃i j c,p.1=[.int i,.int j,.int c]/\JP i j c/\Q ((List.range (Builtin.Range.rangeSize i j c).toNat).map λ(k:Nat)=>D.int (i+(k:Int)*c),[],p.2)):Rn (LA m δ h) Q:=by
 obtain⟨⟨b,a⟩,e,i,j,c,rfl,ok,q⟩:=r;refine⟨_,?_,q⟩;unfold LA;rw[e];show(if JP i j c then _ else _)=_;rw[Wg ok]
def Au{rows b:List Row}{st:List (Nat×Nat)}{k:Nat}{h:MH}(e:bq rows st=some b)(hl:st.length<=1000):lJ [fK rows,bA st k] h=some (fK b,h):=by
 have A:Rn (lJ [fK rows,bA st k] h) λp=>p=(fK b,h):=by
  refine aY ?_;nofun;refine N8 ?_;nofun;refine rv (a:=(.int ((2*st.length+1:Nat):Int),h)) ?_ ?_
  ·show some (D.int (((flat st++[k]).map aj).length:Int),h)=_;rw[Wc,Wn,i5];rfl
  nofun;refine⟨_,_,_,rfl,?_,?_⟩
  ·unfold JP;lia
  rw[GN];refine eS (λi g n=>n=h/\∃(l:List Row)(t:Option D),g=[some (fK rows),some (bA st k),some (fK l),t]/\bq l (st.drop i)=some b) ⟨rfl,rows,_,rfl,e⟩ (λ_ _ _ _ _=>rfl) ?_ ?_
  ·rintro i x g n v ⟨rfl,l,t,rfl,c⟩;rw[Wt] at v;obtain⟨j,f,y⟩:=dS v;obtain⟨m,f⟩:=V9.mp f;rw[Aab] at f;subst f;rw[WK] at m;cases y;rw[YN m] at c;have w:st[i]?=some st[i]:=Wl m;obtain⟨g1,g2⟩:=Ea [k] w;obtain⟨u,s,q⟩:=a9 c;obtain⟨r,er,o⟩:=a9 s;nofun;refine rv (xm (j:=2*i) (by lia) g1) ?_;nofun;refine rv (Ec er) ?_;nofun;refine rv (yJ r _) ?_;nofun;refine rv (xm (j:=2*i+1) (by lia) g2) ?_;nofun;refine rv (cM (d:=fK u) (by rw[Wt,o];rfl)) ?_;nofun;exact⟨rfl,u,_,rfl,q⟩
  ·rintro g n ⟨rfl,l,t,rfl,c⟩;rw[Wc,WK,List.drop_length] at c;cases c;nofun
 obtain⟨p,z,rfl⟩:=A;exact z
def nX:Option Row->D
 | none=>.bb
 | some r=>aG r
def iX(st:List (Nat×Nat))(k:Nat)(h:MH):aB (bA st k) (.int (-1)) h=some (aj k,h):=by
 refine uO ?_;rw[Wv];exact u6 _ _
def DT(l:List Row)(h:MH):eN [fK l] h=some (.int (l.length:Int),h):=by
 show some (D.int ((eD l).length:Int),h)=_;rw[dW,Wc]
def kM{rows b:List Row}{st:List (Nat×Nat)}{k:Nat}{h:MH}(e:bq rows st=some b)(hl:st.length<=1000):gZ [fK rows,bA st k] h=some (nX b[k]?,h):=by
 have g:Rn (gZ [fK rows,bA st k] h) λp=>p=(nX b[k]?,h):=by
  refine aY ?_;nofun;refine rv (Au e hl) ?_;nofun;refine rv (iX _ _ _) ?_;nofun;refine rv (DT _ _) ?_;nofun;refine rv (a:=(.bl (decide ((k:Int) < (b.length:Int))),h)) rfl ⟨_,rfl,λc=>?_,λc=>?_⟩
  ·have d:k < b.length:=by have:=Xk c;lia
   have hr:b[k]?=some b[k]:=Wl d;rw[hr];nofun;refine rv (iX _ _ _) ?_;nofun;refine rv (Ec hr) ?_;rfl
  ·have d:b.length<=k:=by have:=Ze c;lia
   have hr:b[k]?=none:=WO d;rw[hr];nofun;rfl
 obtain⟨p,f,rfl⟩:=g;exact f
def Me(xs:List D)(u v:D):hW (xs++[u,v]) (-2)=some u:=by
 have hl:(xs++[u,v]).length=xs.length+2:=by simp
 have e:wm (xs++[u,v]).length (-2)=some xs.length:=by
  unfold wm;rw[hl,Wh (by decide),Wg (by lia)];congr 1
  lia
 unfold hW;rw[e];simp
def sR{xs ys:List D}{h:MH}(a:0 < ys.length):wt (.tup (xs++ys)) none (some (-(ys.length:Int))) h=some (.tup xs,h):=by
 have e:HT.cG (xs++ys).length (xs++ys).length (some (-(ys.length:Int)))=xs.length:=by
  show(if(-(ys.length:Int)) < 0 then _ else _)=_;rw[Wg (by lia),Wn]
  lia
 show(if HT.cG (xs++ys).length 0 none=0/\HT.cG (xs++ys).length (xs++ys).length (some (-(ys.length:Int)))=(xs++ys).length then _ else _)=_;rw[e,Wh (by rw[Wn];lia)];unfold cutD;rw[e,HT.tG,Zh,AaZ,List.take_left'];rfl
def p7(st:List (Nat×Nat))(k:Nat)(h:MH):wt (bA st k) none (some (-1)) h=some (bD (flat st),h):=by
 unfold bA bD;rw[Wv];exact sR (ys:=[aj k]) (ZD _)
def gr(st:List (Nat×Nat))(a b k:Nat)(h:MH):wt (bA (st++[(a,b)]) k) none (some (-2)) h=some (bA st a,h):=by
 unfold bA bD;rw[uM,show flat st++flat [(a,b)]++[k]=(flat st++[a])++[b,k] by simp[flat],Wv];exact sR (ys:=[aj b,aj k]) (ZD _)
def Aa(st:List (Nat×Nat))(a b k:Nat)(h:MH):aB (bA (st++[(a,b)]) k) (.int (-2)) h=some (aj b,h):=by
 refine uO ?_;rw[uM,show flat st++flat [(a,b)]++[k]=(flat st++[a])++[b,k] by simp[flat],Wv];exact Me _ _ _
def ir(st:List (Nat×Nat))(k:Nat)(h:MH)(hl:st.length<=1000):fL [bA st k] h=some (bA st (k+1),h):=by
 have c:Rn (fL [bA st k] h) λp=>p=(bA st (k+1),h):=by
  refine aY ?_;nofun;refine⟨_,rfl,rv (p7 st k _) ?_⟩;nofun;refine rv (iX _ _ _) ?_;nofun;refine rv (a:=(aj (k+1),h)) rfl ?_;nofun;refine rv (ck (ys:=[aj (k+1)]) (by rw[Wc,i5];simp;lia)) ?_;show(D.tup ((flat st).map aj++[aj (k+1)]),h)=(D.tup ((flat st++[k+1]).map aj),h);rw[Wv];rfl
 obtain⟨p,b,rfl⟩:=c;exact b
noncomputable def aL(r:Row)(l:Nat):Bool:=match r with
 | .within _ _=>true
 | .all _ _=>true
 | .ask _ _ _=>l==0
 | _=>false
def lB(l:Nat)(i:Int)(h:MH):bu (aj l) (.int i) h=some (.bl ((l:Int)==i),h):=rfl
def zE(r:Row)(l:Nat)(h:MH):c9 [aG r,aj l] h=some (.bl (aL r l),h):=by
 have c:Rn (c9 [aG r,aj l] h) λp=>p=(.bl (aL r l),h):=by
  refine aY ?_;cases r with
  | within _ _=>rw[aG];nofun;refine rv (a:=(.bl true,h)) (by ac_nf) ⟨true,rfl,tt ?_⟩;rfl
  | all _ _=>rw[aG];nofun;refine rv (a:=(.bl true,h)) (by ac_nf) ⟨true,rfl,tt ?_⟩;rfl
  | ask _ _ _=>
   rw[aG];nofun;refine rv (a:=(.bl false,h)) (by ac_nf) ⟨false,rfl,ff ?_⟩;nofun;refine⟨true,by ac_nf,tt ?_⟩;nofun;refine rv (lB l 0 h) ?_;show(D.bl ((l:Int)==0),h)=(D.bl (l==0),h);have:((l:Int)==0)=(l==0):=by cases l <;> rfl
   rw[this]
  | _=>
   rw[aG];nofun;refine rv (a:=(.bl false,h)) (by ac_nf) ⟨false,rfl,ff ?_⟩;nofun;refine⟨false,by ac_nf,ff ?_⟩;rfl
 obtain⟨p,b,rfl⟩:=c;exact b
noncomputable def lX:Row->Bool
 | .again _=>true
 | _=>false
def mh(rows:List Row):List (Nat×Nat)->Nat->Option (List (Nat×Nat)×Nat)
 | rs,k=>match (bq rows rs.reverse).bind λl=>l[k]? with
  | some _=>some (rs,k)
  | none=>match rs with
   | []=>none
   | s::a=>match (bq rows a.reverse).bind λl=>l[s.1]? with
    | some r=>if aL r s.2 then some (s::a,k) else mh rows a (if lX r then s.1 else s.1+1)
    | none=>none
def Kz:Option (List (Nat×Nat)×Nat)->D
 | none=>.bb
 | some p=>bA p.1.reverse p.2
def oU(r:Row):∃x,aG r=.tup (.str (cz r)::x)/\(cz r=="again")=lX r:=by
 cases r <;> (rw[aG];exact⟨_,rfl,by ac_nf⟩)
def k8{rows a:List Row}{s:Nat×Nat}{rs:List (Nat×Nat)}(e:bq rows (s::rs).reverse=some a):∃l r,bq rows rs.reverse=some l/\l[s.1]?=some r/\(aM r)[s.2]?=some a:=by
 rw[WH,qo] at e;obtain⟨l,h,g⟩:=a9 e;obtain⟨i,f,d⟩:=a9 g;cases d;obtain⟨r,c,b⟩:=a9 f;exact⟨l,r,h,c,b⟩
def uB(st:List (Nat×Nat))(k:Nat)(h:MH):eN [bA st k] h=some (.int ((2*st.length+1:Nat):Int),h):=by
 show some (D.int (((flat st++[k]).map aj).length:Int),h)=_;rw[Wc,Wn,i5];rfl
def jO(o:Option Row)(h:MH):oF (nX o) .bb h=some (.bl o.isNone,h):=by
 cases o with
 | none=>rfl
 | some r=>obtain⟨x,e,_⟩:=oU r;show oF (aG r) .bb h=_;rw[e];rfl
def fI{rows l:List Row}{rs:List (Nat×Nat)}{k:Nat}{r:Row}(e:bq rows rs.reverse=some l)(hr:l[k]?=some r):mh rows rs k=some (rs,k):=by
 unfold mh;rw[e];simp only[Wz,hr]
def oh{rows l:List Row}{k:Nat}(e:bq rows []=some l)(hr:l[k]?=none):mh rows [] k=none:=by
 unfold mh;rw[show([]:List (Nat×Nat)).reverse=[] from rfl,e];simp only[Wz,hr]
def t9{rows a l:List Row}{s:Nat×Nat}{rs:List (Nat×Nat)}{k:Nat}{r:Row}(e:bq rows (s::rs).reverse=some a)(hn:a[k]?=none)(b:bq rows rs.reverse=some l)(hr:l[s.1]?=some r):mh rows (s::rs) k=if aL r s.2 then some (s::rs,k) else mh rows rs (if lX r then s.1 else s.1+1):=by
 rw[mh,e];simp only[Wz,hn,b,hr]
def rK{rows n:List Row}{rs:List (Nat×Nat)}{k:Nat}{h:MH}(e:bq rows rs.reverse=some n)(hl:rs.length<=1000):fg [fK rows,bA rs.reverse k] h=some (Kz (mh rows rs k),h):=by
 have E:Rn (fg [fK rows,bA rs.reverse k] h) λp=>p=(Kz (mh rows rs k),h):=by
  refine aY ?_;refine mx ?_;refine og (λm y o=>o=h/\∃(b:List (Nat×Nat)) (g:Nat) (d2 A:Option D) (d:List Row),m=b.length/\b.length<=1000/\y=[some (fK rows),some (bA b.reverse g),d2,A]/\bq rows b.reverse=some d/\mh rows b g=mh rows rs k) ?_ _ rs.length _ _ (by lia) ⟨rfl,rs,k,_,_,n,rfl,hl,rfl,e,rfl⟩;rintro m y o ⟨rfl,b,g,d2,A,d,rfl,f,rfl,u,t⟩;nofun;refine rv (kM u (by rw[WM];exact f)) ?_;nofun;refine rv (jO _ _) ⟨_,rfl,λc=>?_,λc=>?_⟩
  ·have hn:d[g]?=none:=by cases q:d[g]? with
    | none=>rfl
    | some r=>rw[q] at c;cases c
   cases b with
   | nil=>
    cases u;nofun;refine rv (uB _ _ _) ?_;nofun;refine⟨true,rfl,tt ?_⟩;rw[<-t,oh rfl hn];nofun;rfl
   | cons s b=>
    obtain⟨l,r,g1,g2,g3⟩:=k8 u;have j:=t9 u hn g1 g2;nofun;refine rv (uB _ _ _) ?_;nofun;refine⟨false,by rw[WM,Wq];congr 1,ff ?_⟩;nofun;refine⟨_,rfl,?_⟩;rw[WH];refine rv (gr b.reverse s.1 s.2 g _) ?_;nofun;refine rv (kM g1 (by rw[WM];rw[Wq] at f;lia)) ?_;rw[g2];nofun;refine rv (Aa b.reverse s.1 s.2 g _) ?_;nofun;refine rv (zE r s.2 _) ?_;nofun;refine⟨_,rfl,λw=>?_,λw=>?_⟩
    ·rw[w,Wg rfl] at j;rw[<-t,j];nofun;show(bA (b.reverse++[s]) g,o)=(bA (s::b).reverse g,o);rw[WH]
    ·rw[w,Wh WR] at j;obtain⟨x,ex,z⟩:=oU r;nofun;refine rv (a:=(.str (cz r),o)) (by show aB (aG r) _ _=_;rw[ex];exact cM (i:=0) rfl) ?_;nofun;refine⟨_,rfl,λv=>?_,λv=>?_⟩
     ·rw[<-z,v,Wg rfl] at j;nofun;exact⟨b.length,Yb _,rfl,b,s.1,_,_,l,rfl,Yi f,rfl,g1,j.symm.trans t⟩
     ·rw[<-z,v,Wh WR] at j;nofun;refine rv (ir b.reverse s.1 _ (by rw[WM];exact Yi f)) ?_;exact⟨b.length,Yb _,rfl,b,s.1+1,_,_,l,rfl,Yi f,rfl,g1,j.symm.trans t⟩
  ·cases q:d[g]? with
   | none=>rw[q] at c;cases c
   | some r=>
    rw[<-t,fI u q];nofun;rfl
 obtain⟨p,C,rfl⟩:=E;exact C
structure aT where
 aO:Nat
 nums:List Int
 rs:List (Nat×Nat)
 k:Nat
def cQ(f:aT):D:=.tup [aj f.aO,.tup (f.nums.map D.int),bA f.rs.reverse f.k]
def cF(P:Prog)(f:aT):Prop:=∃d a,P.ao[f.aO]?=some d/\bq d.2.2 f.rs.reverse=some a/\f.rs.length<=1000
noncomputable def bJ(P:Prog)(i:Nat):List Row:=((P.ao[i]?).map λd=>d.2.2).getD []
def nW{P:Prog}{i:Nat}{d:di}{h:MH}(e:P.ao[i]?=some d):gx [ax P,aj i] h=some (fK (bJ P i),h):=by
 have b:Rn (gx [ax P,aj i] h) λp=>p=(fK d.2.2,h):=by
  refine aY ?_;unfold ax;nofun;refine rv (cM (by rw[Wt,e];rfl)) ?_;unfold gS;nofun;rfl
 obtain⟨p,a,rfl⟩:=b;rw[a];unfold bJ;rw[e];rfl
def fA(P:Prog):List aT->aT->List aT
 | [],f=>match mh (bJ P f.aO) f.rs f.k with
  | some p=>[{f with rs:=p.1,k:=p.2}]
  | none=>[]
 | g::a,f=>match mh (bJ P f.aO) f.rs f.k with
  | some p=>{f with rs:=p.1,k:=p.2}::g::a
  | none=>fA P a {g with k:=g.k+1}
def dw(P:Prog):List aT->List aT
 | []=>[]
 | f::fs=>fA P fs f
def kh(fs:List aT):D:=.tup (fs.reverse.map cQ)
theorem eG{P:Prog}{f:aT}{p:List (Nat×Nat)×Nat}:∀{fs:List aT},mh (bJ P f.aO) f.rs f.k=some p->fA P fs f={f with rs:=p.1,k:=p.2}::fs
 | [],e=>by unfold fA;rw[e]
 | _::_,e=>by unfold fA;rw[e]
def gQ{P:Prog}{f:aT}(e:mh (bJ P f.aO) f.rs f.k=none):fA P [] f=[]:=by unfold fA;rw[e]
def jR{P:Prog}{f g:aT}{gs:List aT}(e:mh (bJ P f.aO) f.rs f.k=none):fA P (g::gs) f=fA P gs {g with k:=g.k+1}:=by rw[fA,e]
def gu{h:MH}{n:Nat}{xs:List D}{y:D}(e:h[n]?=some (.lst (xs++[y]))):wb (.ob n) [] h=some (y,h.set n (.lst xs)):=by
 unfold wb;dsimp only;rw[e];dsimp only;rw[Wn,YC,Z9,Wy (Wj _),X6,Abe];rfl
theorem Eo(n:Nat):∀a:List Int,dY n (a.map D.int)=true
 | []=>rfl
 | j::r=>Eo n r
theorem El(n:Nat):∀a:List Nat,dY n (a.map aj)=true
 | []=>rfl
 | j::r=>El n r
def So(n:Nat)(f:aT):gv n (cQ f)=true:=by
 show(true&&(dY n (f.nums.map D.int)&&(dY n ((flat f.rs.reverse++[f.k]).map aj)&&true)))=true;rw[Eo,El];rfl
theorem qF(n:Nat):∀fs:List aT,dY n (fs.map cQ)=true
 | []=>rfl
 | f::r=>by show(gv n (cQ f)&&dY n (r.map cQ))=true;rw[So,qF n r];rfl
def Lu(o:Option (List (Nat×Nat)×Nat))(h:MH):gR (Kz o) .bb h=some (.bl o.isSome,h):=by
 cases o with
 | none=>rfl
 | some r=>rfl
def fB{h:MH}{n:Nat}{xs:List D}(e:h[n]?=some (.lst xs)):cA [.ob n] h=some (.tup xs,h):=by
 unfold cA df;dsimp only;rw[e];rfl
def C0{h:MH}{n:Nat}{xs:List D}(e:h[n]?=some (.lst xs)):zA (.ob n) h=some (!xs.isEmpty):=by
 unfold zA;dsimp only;rw[e]
def eX(f:aT):cQ f=.tup [aj f.aO,.tup (f.nums.map D.int),bA f.rs.reverse f.k]:=rfl
def lj{P:Prog}{fs:List aT}{h:MH}(ok:∀f∈fs,cF P f)(hl:fs.length<=1000):cO [ax P,kh fs] h=some (kh (dw P fs),h):=by
 have L:Rn (cO [ax P,kh fs] h) λp=>p=(kh (dw P fs),h):=by
  refine wU ?_;nofun;refine Hu ?_;nofun;refine⟨_,fs.reverse.map cQ,_,rfl,rfl,?_⟩;nofun;have v:∀(j:DS)(a:List aT)(r o l:Option D),j=[some (ax P),some (kh fs),some (.ob h.length),r,o,l]->a=dw P fs->j0 (aC (ai cA (aD (bF 2) a8))) (l9 λp=>Rn (leave h p.fst p.snd) λp=>p=(kh (dw P fs),h)) (Fl.nx,j,h++[.lst (a.reverse.map cQ)]):=by
   rintro j a r o l rfl rfl;nofun;refine rv (fB b8) ?_;exact rv (qq (λn z=>(nomatch z)) (qF _ _)) rfl
  refine og (λm j y=>∃(a:List aT)(r o l:Option D),m=a.length/\a.length<=1000/\(∀f∈a,cF P f)/\j=[some (ax P),some (kh fs),some (.ob h.length),r,o,l]/\y=h++[.lst (a.reverse.map cQ)]/\dw P a=dw P fs) ?_ _ fs.length _ _ (by lia) ⟨fs,_,_,_,rfl,hl,ok,rfl,rfl,rfl⟩;rintro m j y ⟨a,r,o,l,rfl,i,b,rfl,rfl,t⟩;nofun;refine⟨_,C0 b8,λc=>?_,λc=>?_⟩
  ·cases a with
   | nil=>cases c
   | cons f a=>
    obtain⟨d,C,A,I,H⟩:=b f We;have er:bJ P f.aO=d.2.2:=by unfold bJ;rw[A];rfl
    rw[WH,Wv];nofun;refine fY ?_;nofun;refine⟨bV b8,?_⟩;nofun;refine rv (gu b8) ?_;rw[kC,eX f];nofun;refine rv (nW A) ?_;nofun;refine rv (rK (er ▸ I) H) ?_;nofun;refine rv (Lu _ _) ?_;refine⟨_,rfl,λs=>?_,λs=>?_⟩
    ·cases q:mh (bJ P f.aO) f.rs f.k with
     | none=>rw[q] at s;cases s
     | some p=>
      nofun;refine fY ?_;nofun;refine⟨bV b8,?_⟩;nofun;refine rv (bH b8 (by rw[Wc,WM,show sizeLine=16777216 from rfl];rw[Wq] at i;lia)) ?_;rw[kC];nofun;have e:List.map cQ a.reverse++[D.tup [aj f.aO,D.tup (List.map D.int f.nums),Kz (some p)]]=(dw P fs).reverse.map cQ:=by
       rw[<-t];show _=(fA P a f).reverse.map cQ;rw[eG q,WH,Wv];rfl
      rw[e];refine rv (fB b8) ?_;exact rv (qq (λn z=>(nomatch z)) (qF _ _)) rfl
    ·cases q:mh (bJ P f.aO) f.rs f.k with
     | some p=>rw[q] at s;cases s
     | none=>
      nofun;refine⟨_,C0 b8,λu=>?_,λu=>?_⟩
      ·cases a with
       | nil=>cases u
       | cons g a=>
        obtain⟨M,E,G,F,w⟩:=b g (Wf _ We);rw[WH,Wv];nofun;refine fY ?_;nofun;refine⟨bV b8,?_⟩;nofun;refine rv (gu b8) ?_;rw[kC,eX g];nofun;refine fY ?_;nofun;refine⟨bV b8,?_⟩;nofun;refine rv (ir g.rs.reverse g.k _ (by rw[WM];exact w)) ?_;nofun;refine rv (bH b8 (by rw[Wc,WM,show sizeLine=16777216 from rfl];rw[Wq,Wq] at i;lia)) ?_;rw[kC];refine⟨(g::a).length,Yb _,{g with k:=g.k+1}::a,_,_,_,rfl,Yi i,λx e=>?_,rfl,?_,?_⟩
        ·rcases Ws.mp e with rfl | e
         ·exact⟨M,E,G,F,w⟩
         ·exact b x (Wf _ (Wf _ e))
        ·rw[WH,Wv];rfl
        ·rw[<-t];show fA P a {g with k:=g.k+1}=fA P (g::a) f;rw[jR q]
      ·cases a with
       | cons g a=>rw[WH,Wv] at u;simp at u
       | nil=>
        nofun;exact⟨0,ZJ,[],_,_,_,rfl,WL _,λx e=>(nomatch e),rfl,rfl,by rw[<-t];exact(gQ q).symm⟩
  ·cases a with
   | nil=>exact v _ [] _ _ _ rfl (by rw[<-t];rfl)
   | cons f a=>rw[WH,Wv] at c;simp at c
 obtain⟨p,J,rfl⟩:=L;exact J
def JI(rows:List Row)(rs:List (Nat×Nat))(k:Nat):Prop:=∃a,bq rows rs.reverse=some a/\((∃r,a[k]?=some r)\/(a[k]?=none/\∃s b l r,rs=s::b/\bq rows b.reverse=some l/\l[s.1]?=some r/\aL r s.2=true))
theorem BS{rows:List Row}:∀{rs:List (Nat×Nat)} {k:Nat} {a:List Row} {p:List (Nat×Nat)×Nat},bq rows rs.reverse=some a->mh rows rs k=some p->JI rows p.1 p.2/\p.1.length<=rs.length
 | [],k,a,p,e,b=>by
  cases q:a[k]? with
  | none=>rw[oh e q] at b;cases b
  | some r=>rw[fI e q] at b;cases b;exact⟨⟨a,e,.inl ⟨r,q⟩⟩,Wj _⟩
 | s::rs,k,a,p,e,b=>by
  cases q:a[k]? with
  | some r=>rw[fI e q] at b;cases b;exact⟨⟨a,e,.inl ⟨r,q⟩⟩,Wj _⟩
  | none=>
   obtain⟨l,r,g1,g2,g3⟩:=k8 e;rw[t9 e q g1 g2] at b
   by_cases c:aL r s.2=true
   ·rw[Wg c] at b;cases b;exact⟨⟨a,e,.inr ⟨q,s,rs,l,r,rfl,g1,g2,c⟩⟩,Wj _⟩
   ·rw[Wh c] at b;obtain⟨f,d⟩:=BS g1 b;exact⟨f,Xr d⟩
def iQ(P:Prog)(f:aT):Prop:=∃d,P.ao[f.aO]?=some d/\JI d.2.2 f.rs f.k/\f.rs.length<=1000
def iQ.ok{P:Prog}{f:aT}(h:iQ P f):cF P f:=let⟨d,e,⟨a,c,_⟩,b⟩:=h;⟨d,a,e,c,b⟩
def cq{P:Prog}{i:Nat}{d:di}(h:P.ao[i]?=some d):bJ P i=d.2.2:=by unfold bJ;rw[h];rfl
def rm(P:Prog):List aT->Prop
 | []=>True
 | f::fs=>iQ P f/\∀g∈fs,cF P g
theorem D5{P:Prog}:∀{fs:List aT} {f:aT},cF P f->(∀g∈fs,cF P g)->rm P (fA P fs f)/\(fA P fs f).length<=fs.length+1
 | fs,f,⟨d,e,f1,f2,o⟩,a=>by
  have er:=cq f1;cases q:mh (bJ P f.aO) f.rs f.k with
  | some p=>
   rw[eG q];obtain⟨c,b⟩:=BS (er ▸ f2) q;exact⟨⟨⟨d,f1,er ▸ c,WQ b o⟩,a⟩,Wj _⟩
  | none=>
   cases fs with
   | nil=>rw[gQ q];exact⟨True.intro,WL _⟩
   | cons g n=>
    rw[jR q];obtain⟨r,h,l,j,i⟩:=a g We;obtain⟨c,b⟩:=D5 (fs:=n) (f:={g with k:=g.k+1}) ⟨r,h,l,j,i⟩ λx m=>a x (Wf _ m);exact⟨c,Xr b⟩
theorem yP{P:Prog}:∀{fs:List aT},(∀g∈fs,cF P g)->rm P (dw P fs)/\(dw P fs).length<=fs.length
 | [],_=>⟨True.intro,Wj _⟩
 | f::fs,h=>D5 (h f We) λg a=>h g (Wf _ a)
def aQ(P:Prog)(f:aT):Option Row:=(bq (bJ P f.aO) f.rs.reverse).bind λl=>l[f.k]?
def bM{P:Prog}{f:aT}{h:MH}(ok:cF P f):cc [ax P,cQ f] h=some (nX (aQ P f),h):=by
 obtain⟨d,c,b,a,e⟩:=ok;have er:=cq b;have i:Rn (cc [ax P,cQ f] h) λp=>p=(nX (aQ P f),h):=by
  refine aY ?_;rw[eX f];nofun;refine rv (nW b) ?_;nofun;refine rv (kM (er ▸ a) (by rw[WM];exact e)) ?_;nofun;unfold aQ;rw[er,a];rfl
 obtain⟨p,g,rfl⟩:=i;exact g
abbrev Hand:=List aT×List (List aq)
def bW(b:List aq):D:=.tup (b.map dU)
def cK(x:Hand):D:=.tup [kh x.1,.tup (x.2.map bW)]
def bS(S:List Hand):D:=.tup (S.map cK)
def cL(f:aT)(fs:List aT)(h:MH):aB (kh (f::fs)) (.int (-1)) h=some (cQ f,h):=by
 refine uO ?_;rw[WH,Wv];exact u6 _ _
def mQ{S:List Hand}{i:Nat}{x:Hand}{h:MH}(e:S[i]?=some x):aB (bS S) (aj i) h=some (cK x,h):=cM (by rw[Wt,e];rfl)
def CZ(fs:List aT)(h:MH):zA (kh fs) h=some (!fs.isEmpty):=by
 cases fs with
 | nil=>rfl
 | cons f fs=>
  show some (!((f::fs).reverse.map cQ).isEmpty)=_;rw[WH,Wv];simp
def mZ(P:Prog)(x:Hand):Option Row:=x.1.head?.bind λf=>aQ P f
def tJ{P:Prog}{S:List Hand}{i:Nat}{x:Hand}{h:MH}(e:S[i]?=some x)(ok:rm P x.1):dB [ax P,bS S,aj i] h=some (nX (mZ P x),h):=by
 have d:Rn (dB [ax P,bS S,aj i] h) λp=>p=(nX (mZ P x),h):=by
  refine aY ?_;nofun;refine rv (mQ e) ?_;unfold cK;nofun;refine⟨_,CZ _ _,λc=>?_,λc=>?_⟩
  ·obtain⟨fs,a⟩:=x;cases fs with
   | nil=>cases c
   | cons f fs=>
    nofun;refine rv (cL f fs _) ?_;nofun;refine rv (bM ok.1.ok) ?_;rfl
  ·obtain⟨fs,a⟩:=x;cases fs with
   | nil=>nofun;rfl
   | cons f fs=>cases c
 obtain⟨p,b,rfl⟩:=d;exact b
noncomputable def cC:Row->List Lock
 | .within l _=>[l]
 | .all ls _=>ls
 | .ask l _ _=>[l]
 | _=>[]
def wg(r:Row)(h:MH):g7 [aG r] h=some (.tup ((cC r).map dX),h):=by
 have c:Rn (g7 [aG r] h) λp=>p=(.tup ((cC r).map dX),h):=by
  refine aY ?_;cases r with
  | all _ _=>rw[aG];nofun;refine⟨true,by ac_nf,tt ?_⟩;nofun;rfl
  | within _ _=>rw[aG];nofun;refine⟨false,by ac_nf,ff ?_⟩;nofun;refine rv (a:=(.bl true,h)) (by ac_nf) ⟨true,rfl,tt ?_⟩;nofun;rfl
  | ask _ _ _=>rw[aG];nofun;refine⟨false,by ac_nf,ff ?_⟩;nofun;refine rv (a:=(.bl true,h)) (by ac_nf) ⟨true,rfl,tt ?_⟩;nofun;rfl
  | _=>rw[aG];nofun;refine⟨false,by ac_nf,ff ?_⟩;nofun;refine rv (a:=(.bl false,h)) (by ac_nf) ⟨false,rfl,ff ?_⟩;nofun;rfl
 obtain⟨p,b,rfl⟩:=c;exact b
def HB{kvs:List (Key×D)}{k:Key}{v:D}(h:k∈kvs.map (·.1)):putD kvs k v=kvs.map (λa=>if a.1=k then(a.1,v) else a):=by
 unfold putD;rw[Wg];obtain⟨p,hp,e⟩:=WY.mp h;exact Ys.mpr ⟨p,hp,WI e⟩
def gn{a j:Key}{b:D}{r:List (Key×D)}:dk ((a,b)::r) j=if a=j then some b else dk r j:=by
 by_cases h:a=j
 ·rw[Wg h];simp[dk,h]
 ·rw[Wh h];simp only[dk,Xp,h,decide_false]
theorem sV{k j:Key}{v:D}(c:j≠k):∀l:List (Key×D),dk (l.map (λe=>if e.1=k then(e.1,v) else e)) j=dk l j
 | []=>rfl
 |(a,b)::r=>by
  rw[Wo]
  by_cases d:a=k
  ·rw[Wg d,gn,gn,Wh (λz=>c (z.symm.trans d)),Wh (λz=>c (z.symm.trans d))];exact sV c r
  ·rw[Wh d,gn,gn,sV c r]
theorem valD_map'{k:Key}{v:D}:∀l:List (Key×D),k∈l.map (·.1)->dk (l.map (λd=>if d.1=k then(d.1,v) else d)) k=some v
 | [],h=>(nomatch h)
 |(a,b)::r,h=>by
  rw[Wo]
  by_cases c:a=k
  ·rw[Wg c,gn,Wg c]
  ·rw[Wh c,gn,Wh c];exact valD_map' r ((Ws.mp h).resolve_left λe=>c e.symm)
def nM{kvs:List (Key×D)}{k j:Key}{v:D}:dk (putD kvs k v) j=if j=k then some v else dk kvs j:=by
 by_cases h:k∈kvs.map (·.1)
 ·rw[HB h]
  by_cases a:j=k
  ·subst a;rw[Wg rfl];exact valD_map' kvs h
  ·rw[Wh a];exact sV a kvs
 ·rw[z6 h]
  by_cases a:j=k
  ·subst a;rw[Wg rfl];unfold dk;rw[List.find?_append];have:kvs.find? (λb=>decide (b.1=j))=none:=by
    rw[List.find?_eq_none];intro p hp e;exact h (WY.mpr ⟨p,hp,Xk e⟩)
   rw[this];simp
  ·rw[Wh a];unfold dk;rw[List.find?_append];cases kvs.find? (λb=>decide (b.1=j)) with
   | some p=>rfl
   | none=>
    simp[Xy a]
noncomputable def qP(ps:List Str)(ns:List Int):List (Key×D):=(ps.zip ns).map λp=>((.inr p.1:Key),D.int p.2)
theorem Dj:∀(ps:List Str)(ns:List Int),wO (ps.map D.str) (ns.map D.int)=some (qP ps ns)
 | [],_=>rfl
 | _::_,[]=>rfl
 | n::ns,r::rs=>by
  rw[Wo,Wo];show(oy (.str n)).bind (λk=>(wO (ns.map D.str) (rs.map D.int)).map λps=>(k,D.int r)::ps)=_;rw[Dj ns rs];rfl
theorem xb{w:Str}:∀(z:List (Str×Int)) (acc:List (Key×D)),(w∈z.map (·.1)\/∃v,dk acc (.inr w)=some (.int v))->∃v,dk (fy acc (z.map λp=>((.inr p.1:Key),D.int p.2))) (.inr w)=some (.int v)
 | [],acc,h=>h.resolve_left λz=>(nomatch z)
 | p::z,acc,h=>by
  show ∃v,dk (fy (putD acc (.inr p.1) (.int p.2)) (z.map λp=>((.inr p.1:Key),D.int p.2))) (.inr w)=some (.int v);refine xb z _ ?_
  by_cases e:w=p.1
  ·exact .inr ⟨p.2,by rw[nM,Wg (by rw[e])]⟩
  ·rcases h with h |⟨v,h⟩
   ·exact .inl ((Ws.mp h).resolve_left e)
   ·exact .inr ⟨v,by rw[nM,Wh (λz=>e (Sum.inr.inj z)),h]⟩
noncomputable def p8(P:Prog)(i:Nat):List Str:=((P.ao[i]?).map λd=>d.2.1).getD []
def bB(P:Prog)(f:aT):List (Key×D):=fy [] (qP (p8 P f.aO) f.nums)
def Ij{P:Prog}{f:aT}{w:Str}(a:w∈p8 P f.aO)(hl:(p8 P f.aO).length<=f.nums.length):∃v,dk (bB P f) (.inr w)=some (.int v):=
 xb _ [] (.inl (by rw[List.map_fst_zip hl];exact a))
def Ku{m:AM}{δ:DS}{h:MH}{Q:D×MH->Prop}(r:Rn (m δ h) λp=>∃d e xs ys ws a ps,p.1=[d,e]/\df d p.2=some (xs,ws)/\df e p.2=some (ys,a)/\wO xs ys=some ps/\ps.length<=1000000/\Q (.dv (fy [] ps),p.2)):Rn (CG m δ h) Q:=
 aN (r.imp λp ⟨d,e,xs,ys,ws,a,ps,i,g,f,c,b,q⟩=>⟨_,by rw[i];dsimp only;rw[g];dsimp only[Option.bind_some];rw[f];dsimp only[Option.bind_some];rw[c];dsimp only[Option.bind_some];rw[Wg b],q⟩)
def fT{P:Prog}{f:aT}{d:di}{h:MH}(e:P.ao[f.aO]?=some d)(hl:d.2.1.length<=1000):cY [ax P,cQ f] h=some (.dv (bB P f),h):=by
 have a:p8 P f.aO=d.2.1:=by unfold p8;rw[e];rfl
 have c:Rn (cY [ax P,cQ f] h) λp=>p=(.dv (bB P f),h):=by
  refine aY ?_;rw[eX f];unfold ax;nofun;refine Ku ?_;nofun;refine rv (cM (by rw[Wt,e];rfl)) ?_;unfold gS;nofun;refine⟨_,_,_,_,_,_,qP d.2.1 f.nums,rfl,rfl,rfl,Dj _ _,?_,?_⟩
  ·unfold qP;rw[Wc,List.length_zip]
   lia
  ·unfold bB;rw[a];rfl
 obtain⟨p,b,rfl⟩:=c;exact b
noncomputable def vI:Option D->Int
 | some (.int z)=>z
 | _=>0
def cy(kvs:List (Key×D))(t:Term):Int:=if t.1="" then t.2 else vI (dk kvs (.inr t.1))+t.2
def cb(kvs:List (Key×D))(t:Term):Prop:=t.1=""\/∃z,dk kvs (.inr t.1)=some (.int z)
def fG{kvs:List (Key×D)}{t:Term}{h:MH}(d:cb kvs t):bI [bx t,.dv kvs] h=some (.int (cy kvs t),h):=by
 have e:Rn (bI [bx t,.dv kvs] h) λp=>p=(.int (cy kvs t),h):=by
  refine aY ?_;unfold bx;nofun;refine⟨_,rfl,λc=>?_,λc=>?_⟩
  ·have a:t.1="":=by simpa using c
   nofun;unfold cy;rw[Wg a]
  ·have a:¬t.1="":=by simpa using c
   obtain⟨z,b⟩:=d.resolve_left a;nofun;refine rv (yT rfl b) ?_;nofun;unfold cy;rw[Wh a,b];rfl
 obtain⟨p,f,rfl⟩:=e;exact f
def uA:EM:=ai aw (aD (bF 0) (aD (ai bI (aD (bF 1) (aD (bF 2) a8))) a8))
def Lj:GM:=gT 2 (ag (gN 0) (ag (gN 1) bo))
def mE(kvs:List (Key×D))(a:List aq)(l:Lock):List aq:=zl a (l.1,cy kvs l.2)
def Iu{kvs:List (Key×D)}{l:Lock}{h:MH}(a:cb kvs l.2):uA [some (.str l.1),some (bx l.2),some (.dv kvs)] h=some (dU (l.1,cy kvs l.2),h):=by
 have e:Rn (uA [some (.str l.1),some (bx l.2),some (.dv kvs)] h) λp=>p=(dU (l.1,cy kvs l.2),h):=by
  unfold uA;nofun;refine rv (fG a) ?_;nofun;rfl
 obtain⟨p,b,rfl⟩:=e;exact b
def A9(a:List aq)(k:aq):(zl a k).length<=a.length+1:=by unfold zl;split <;> simp
theorem DR{kvs:List (Key×D)}{h:MH}:∀(ls:List Lock)(c d1:Option D)(acc:List aq),(∀l∈ls,cb kvs l.2)->acc.length+ls.length<=4->
  ∃b a,fV [] Lj cV (mP uA) (ls.map dX) [c,d1,some (.dv kvs)] h acc=some ([b,a,some (.dv kvs)],h,ls.foldl (mE kvs) acc)
 | [],c,d1,acc,_,_=>⟨c,d1,rfl⟩
 | l::ls,c,d1,acc,hw,hl=>by
  have g:=A9 acc (l.1,cy kvs l.2);rw[Wq] at hl;obtain⟨b,a,e⟩:=DR (h:=h) ls (some (.str l.1)) (some (bx l.2)) (mE kvs acc l) (λx d=>hw x (Wf _ d)) (by unfold mE;lia);refine⟨b,a,?_⟩;have f:mP uA [some (.str l.1),some (bx l.2),some (.dv kvs)] h acc=some ([some (.str l.1),some (bx l.2),some (.dv kvs)],h,mE kvs acc l):=by
   unfold mP;rw[Iu (hw l We)];show(if acc.length<=3 then _ else _)=_;rw[Wg (by lia)];rfl
  rw[Wo,Yz];show(if kc [] h then(Lj (dX l) [c,d1,some (.dv kvs)] h).bind _ else none)=_;rw[Wg (show kc [] h=true from rfl),show Lj (dX l) [c,d1,some (.dv kvs)] h=some ([some (.str l.1),some (bx l.2),some (.dv kvs)],h) from rfl];show(mP uA [some (.str l.1),some (bx l.2),some (.dv kvs)] h acc).bind _=_;rw[f];exact e
def k9(P:Prog)(f:aT):List aq:=kz (((aQ P f).map cC).getD [] |>.foldl (mE (bB P f)) [])
theorem i3(kvs:List (Key×D)):∀(ls:List Lock)(acc:List aq),(ls.foldl (mE kvs) acc).length<=acc.length+ls.length
 | [],_=>Wj _
 | l::ls,acc=>by
  have b:=A9 acc (l.1,cy kvs l.2);have a:=i3 kvs ls (mE kvs acc l);rw[Yz,Wq];unfold mE at a ⊢
  lia
def fU{P:Prog}{f:aT}{d:di}{r:Row}{h:MH}(ok:cF P f)(e:P.ao[f.aO]?=some d)(hl:d.2.1.length<=1000)(er:aQ P f=some r)(b:∀l∈cC r,cb (bB P f) l.2)(c:(cC r).length<=4):cZ [ax P,cQ f] h=some (bW (k9 P f),h):=by
 have j:Rn (cZ [ax P,cQ f] h) λp=>p=(bW (k9 P f),h):=by
  refine aY ?_;nofun;refine rv (bM ok) ?_;rw[er];nofun;refine rv (wg r _) ?_;nofun;refine rv (fT e hl) ?_;nofun;obtain⟨k,d1,g⟩:=DR (h:=h) (cC r) none none [] b (by simpa using c);refine rv (a:=(.lv ((k9 P f).map dU),h)) ?_ ?_
  ·show((fV [] Lj cV (mP uA) ((cC r).map dX) [none,none,some (.dv (bB P f))] h []).bind _)=_;rw[g];show(if((cC r).foldl (mE (bB P f)) []).length<=4 then _ else _)=_;rw[Wg (by have:=i3 (bB P f) (cC r) [];simp at this;lia)];unfold k9;rw[er];rfl
  ·nofun;refine rv rfl ?_;rfl
 obtain⟨p,i,rfl⟩:=j;exact i
theorem Dy:∀b:List aq,md (b.map dU)=some (b.map hV)
 | []=>rfl
 | k::r=>by
  show(qS (dU k)).bind (λa=>(md (r.map dU)).map λbs=>a::bs)=_;rw[Dy r];rfl
theorem xq:∀b:List aq,PyData.depthAll (b.map hV)<=2
 | []=>by simp[PyData.depthAll]
 | k::r=>by
  have:=xq r;simp only[Wo,PyData.depthAll,hV,PyData.depth];simp
  lia
def I0(k l:aq):PyData.eqv (hV k) (hV l)=decide (k=l):=by
 show((k.1==l.1)&&((k.2==l.2)&&true))=_;rw[Bool.and_true,ZK,WC,Zf,Zf,Yt];constructor
 ·rintro⟨b,a⟩;exact Prod.ext b a
 ·rintro rfl;exact⟨rfl,rfl⟩
def yU(l:aq)(b:List aq)(h:MH):r8 (dU l) (bW b) h=some (.bl (decide (l∈b)),h):=by
 have c:inD (dU l) (bW b) h=some (decide (l∈b)):=by
  show((md (b.map dU)).bind λbs=>if(hV l).depth<=60/\PyData.depthAll bs<=60 then some (bs.any λx=>PyData.eqv x (hV l)) else none)=_;rw[Dy];show(if(hV l).depth<=60/\PyData.depthAll (b.map hV)<=60 then some ((b.map hV).any λx=>PyData.eqv x (hV l)) else none)=_;rw[Wg ⟨by simp[hV,PyData.depth,PyData.depthAll],WQ (xq b) (by decide)⟩,Aaj];congr 1;rw[ZK,Ys,Yt];constructor
  ·rintro⟨x,a,e⟩;have e:PyData.eqv (hV x) (hV l)=true:=e;rw[I0] at e;exact Xk e ▸ a
  ·intro a;exact⟨l,a,by show PyData.eqv (hV l) (hV l)=true;rw[I0];simp⟩
 unfold r8;rw[c];rfl
noncomputable def ny(l:aq)(x:Hand):Bool:=x.2.any λb=>decide (l∈b)
def Ct:Option Nat->D
 | none=>.bb
 | some i=>aj i
def Qi{a:Type}(p:a->Bool)(l:List a)(h:MH):PB [.lv (l.map λw=>D.bl (p w))] h=some (.bl (l.any p),h):=by
 show(wC (l.map λx=>D.bl (p x))).map (λbs=>(D.bl (bs.any id),h))=_;rw[Ew];show some (D.bl ((l.map p).any id),h)=_;rw[Aaj];rfl
def FP{l:aq}{bs:List (List aq)}{h:MH}:bO [] (gN 0) cV (ah r8 (bF 1) (bF 0)) (bs.map bW) [none,some (dU l)] h=some (bs.map (λb=>D.bl (decide (l∈b))),h):=by
 have:=Eh (e:=ah r8 (bF 1) (bF 0)) (t:=[some (dU l)]) (h:=h) (λd=>match r8 (dU l) d h with | some (z,_)=>z | none=>.bb) (bs.map bW) none (λy a=>by
  obtain⟨b,c,rfl⟩:=WY.mp a;show r8 (dU l) (bW b) h=_;rw[yU])
 rw[this,Y0];congr 2;refine List.map_congr_left λb c=>?_;show(match r8 (dU l) (bW b) h with | some (z,_)=>z | none=>.bb)=_;rw[yU]
def f7(x:Hand):cK x=.tup [kh x.1,.tup (x.2.map bW)]:=rfl
def oA{S:List Hand}{l:aq}{h:MH}(s:∀x∈S,x.2.length<=1000):fF [bS S,dU l] h=some (Ct (S.findIdx? (ny l)),h):=by
 have w:Rn (fF [bS S,dU l] h) λp=>p=(Ct (S.findIdx? (ny l)),h):=by
  refine aY ?_;unfold bS;nofun;refine lR ?_;nofun;refine⟨_,_,_,rfl,rfl,?_⟩;refine eS (λi g f=>f=h/\(∃(d2 r q:Option D),g=[some (.tup (S.map cK)),some (dU l),d2,r,q])/\∀(j:Nat)(x:Hand),j < i->S[j]?=some x->ny l x=false) ⟨rfl,⟨_,_,_,rfl⟩,λj x d=>absurd d (Xh _)⟩ (λ_ _ _ _ _=>rfl) ?_ ?_
  ·rintro i x g f o ⟨rfl,⟨d2,r,q,rfl⟩,b⟩;obtain⟨y,n,rfl⟩:=oG o;have k:=Wk n;rw[f7 y];nofun;refine rv (a:=(y.2.map bW,[],f)) rfl ?_;refine rv FP ⟨by rw[Wc,show sizeLine=16777216 from rfl];have:=s y k;lia,?_⟩;nofun;refine rv (Qi _ _ _) ⟨_,rfl,λc=>?_,λc=>?_⟩
   ·have u:S.findIdx? (ny l)=some i:=by
     rw[Ye];obtain⟨t,m⟩:=V9.mp n;refine⟨t,by rw[m];exact c,λj d=>?_⟩;have:=b j (S[j]'(by lia)) d (Wl _);rw[this];exact WR
    rw[u];nofun;rfl
   ·nofun;refine⟨rfl,⟨_,_,_,rfl⟩,λj x d e=>?_⟩;rcases Zq.mp d with z | z
    ·exact b j x z e
    ·subst z;rw[n] at e;cases e;exact c
  ·rintro g f ⟨rfl,⟨d2,r,q,rfl⟩,b⟩;rw[dG,Wc] at b;have:S.findIdx? (ny l)=none:=by
    rw[AaF];intro x o;obtain⟨j,d⟩:=Xg.mp o;exact b j x (V9.mp d).1 d
   rw[this];nofun;rfl
 obtain⟨p,v,rfl⟩:=w;exact v
def cR(S:List Hand)(l:aq):Bool:=(S.findIdx? (ny l)).isSome
def Mx:TM:=au (ah gR (ai fF (aD (bF 1) (aD (bF 0) a8))) (eK .bb))
def Ni{S:List Hand}{l:aq}{h:MH}(a:∀x∈S,x.2.length<=1000):Mx [some (dU l),some (bS S)] h=some (cR S l,h):=by
 have e:Rn (Mx [some (dU l),some (bS S)] h) λp=>p=(cR S l,h):=by
  unfold Mx;nofun;refine rv (oA a) ?_;nofun;unfold cR;cases S.findIdx? (ny l) with
  | none=>exact rv rfl ⟨_,rfl,rfl⟩
  | some i=>exact rv rfl ⟨_,rfl,rfl⟩
 obtain⟨p,b,rfl⟩:=e;exact b
theorem CV{S:List Hand}{h:MH}(b:∀x∈S,x.2.length<=1000):∀(ls:List aq)(o:Option D),bO [] (gN 0) Mx (bF 0) (ls.map dU) [o,some (bS S)] h=some ((ls.filter (cR S)).map dU,h)
 | [],o=>rfl
 | l::ls,o=>by
  have a:=CV b ls (some (dU l)) (h:=h);rw[Wo];show(if kc [] h then(Mx [some (dU l),some (bS S)] h).bind (λt=>if t.1 then(some (dU l,t.2)).bind λy=>(bO [] (gN 0) Mx (bF 0) (ls.map dU) [some (dU l),some (bS S)] y.2).map λz=>(y.1::z.1,z.2) else bO [] (gN 0) Mx (bF 0) (ls.map dU) [some (dU l),some (bS S)] t.2) else none)=_;rw[Wg (show kc [] h=true from rfl),Ni b];cases c:cR S l with
  | true=>
   rw[List.filter_cons_of_pos c];show(bO [] (gN 0) Mx (bF 0) (ls.map dU) [some (dU l),some (bS S)] h).map _=_;rw[a];rfl
  | false=>
   rw[List.filter_cons_of_neg (by rw[c];exact WR)];exact a
noncomputable def i0:Row->Bool
 | .within _ _=>true
 | .all _ _=>true
 | _=>false
structure Gn(P:Prog)(f:aT)(r:Row):Prop where
 U9:∃d,P.ao[f.aO]?=some d/\d.2.1.length<=1000
 lk:∀l∈cC r,cb (bB P f) l.2
 four:(cC r).length<=4
def vj(P:Prog)(S:List Hand)(x:Hand):List aq:=match x.1 with
 | []=>[]
 | f::_=>match aQ P f with
  | none=>[]
  | some r=>if i0 r then(k9 P f).filter (cR S) else[]
def He(r:Row)(h:MH):yS (.str (cz r)) (.tup [.str "within",.str "all"]) h=some (.bl (!i0 r),h):=by
 cases r <;> ac_nf
def uu(o:Option Row)(h:MH):gR (nX o) .bb h=some (.bl o.isSome,h):=by
 cases o with
 | none=>rfl
 | some r=>obtain⟨x,e,_⟩:=oU r;show gR (aG r) .bb h=_;rw[e];rfl
def aZ(r:Row)(h:MH):aB (aG r) (.int 0) h=some (.str (cz r),h):=by
 obtain⟨x,e,_⟩:=oU r;rw[e];exact cM (i:=0) rfl
def Bi{P:Prog}{S:List Hand}{i:Nat}{x:Hand}{h:MH}(e:S[i]?=some x)(ok:rm P x.1)(g:∀x∈S,x.2.length<=1000)(j:∀f fs r,x.1=f::fs->aQ P f=some r->Gn P f r):l6 [ax P,bS S,aj i] h=some (bW (vj P S x),h):=by
 have l:Rn (l6 [ax P,bS S,aj i] h) λp=>p=(bW (vj P S x),h):=by
  refine aY ?_;nofun;refine rv (tJ e ok) ?_;nofun;refine rv (jO _ _) ?_;cases er:mZ P x with
  | none=>
   refine⟨true,rfl,tt (tt ?_)⟩;nofun;obtain⟨fs,hd⟩:=x;cases fs with
   | nil=>rfl
   | cons f fs=>
    have er:aQ P f=none:=er;show(bW [],h)=(bW (vj P S (f::fs,hd)),h);unfold vj;dsimp only;rw[er]
  | some r=>
   obtain⟨fs,hd⟩:=x;cases fs with
   | nil=>cases er
   | cons f fs=>
    have er:aQ P f=some r:=er;obtain⟨⟨d,d1,d2⟩,b,a⟩:=j f fs r rfl er;refine⟨false,rfl,ff ?_⟩;nofun;refine rv (aZ r _) ?_;nofun;refine rv (He r _) ?_;cases c:i0 r with
    | false=>
     refine⟨true,rfl,tt ?_⟩;nofun;show(bW [],h)=(bW (vj P S (f::fs,hd)),h);unfold vj;dsimp only;rw[er];dsimp only;rw[c];rfl
    | true=>
     refine⟨false,rfl,ff ?_⟩;nofun;refine kO ?_;nofun;refine rv (mQ e) ?_;rw[f7];nofun;refine rv (cL f fs _) ?_;nofun;refine rv (fU ok.1.ok d1 d2 er b a) ?_;refine⟨(k9 P f).map dU,[],rfl,?_⟩;refine rv (CV g (k9 P f) none) ⟨?_,?_⟩
     ·have n:=Aa6 (cR S) (k9 P f);have m:(k9 P f).length<=4:=by
       unfold k9;rw[er,(eF _).length_eq];have:=i3 (bB P f) (cC r) [];simp at this ⊢
       lia
      rw[Wc,show sizeLine=16777216 from rfl]
      lia
     nofun;refine rv rfl ?_;show(bW ((k9 P f).filter (cR S)),h)=(bW (vj P S (f::fs,hd)),h);unfold vj;dsimp only;rw[er];dsimp only;rw[c];rfl
 obtain⟨p,k,rfl⟩:=l;exact k
noncomputable def rW:Row->Bool
 | .either _ _=>true
 | .again _=>true
 | _=>false
def oO(P:Prog)(S:List Hand)(x:Hand):List Nat:=match x.1 with
 | []=>[]
 | f::_=>if((aQ P f).map rW).getD false then[0,1] else if(vj P S x).isEmpty then[0] else[]
def Hg(r:Row)(h:MH):r8 (.str (cz r)) (.tup [.str "either",.str "again"]) h=some (.bl (rW r),h):=by
 cases r <;> ac_nf
def zd{P:Prog}{S:List Hand}{i:Nat}{x:Hand}{h:MH}(e:S[i]?=some x)(ok:rm P x.1)(l:∀x∈S,x.2.length<=1000)(m:∀f fs r,x.1=f::fs->aQ P f=some r->Gn P f r):cv [ax P,bS S,aj i] h=some (.tup ((oO P S x).map aj),h):=by
 have k:=λh=>Bi (h:=h) e ok l m;have o:Rn (cv [ax P,bS S,aj i] h) λp=>p=(.tup ((oO P S x).map aj),h):=by
  refine aY ?_;nofun;refine rv (mQ e) ?_;rw[f7];nofun;obtain⟨fs,hd⟩:=x;cases fs with
  | nil=>
   refine⟨false,rfl,tt ?_⟩;nofun;rfl
  | cons f fs=>
   refine⟨true,CZ _ _,ff ?_⟩;nofun;refine rv (cL f fs _) ?_;nofun;refine rv (bM ok.1.ok) ?_;nofun;refine rv (uu _ _) ?_;have d:∀(g:DS),g=[some (ax P),some (bS S),some (aj i),some (kh (f::fs)),some (nX (aQ P f))]->((aQ P f).map rW).getD false=false->Rn (aC (xn (iT (ai l6 (aD (bF 0) (aD (bF 1) (aD (bF 2) a8))))) (ai aw a8) (ai aw (aD (eK (.int 0)) a8))) g h) (l9 λp=>p=(.tup ((oO P S (f::fs,hd)).map aj),h)):=by
    rintro g rfl ce;nofun;refine rv (k _) ?_;have j:oO P S (f::fs,hd)=if(vj P S (f::fs,hd)).isEmpty then[0] else[]:=by
     unfold oO;dsimp only;rw[ce,Wh WR]
    rw[j];cases vj P S (f::fs,hd) with
    | nil=>refine⟨false,rfl,ff ?_⟩;nofun;rfl
    | cons a b=>refine⟨true,rfl,tt ?_⟩;nofun;rfl
   cases er:aQ P f with
   | none=>
    rw[er] at d;refine⟨false,rfl,ff (ff (rv rfl (d _ rfl rfl)))⟩
   | some r=>
    rw[er] at d;refine⟨true,rfl,tt ?_⟩;nofun;refine rv (aZ r _) ?_;nofun;refine rv (Hg r _) ?_;cases c:rW r with
    | false=>
     exact⟨false,rfl,ff (rv rfl (d _ rfl c))⟩
    | true=>
     refine⟨true,rfl,tt ?_⟩;nofun;have j:oO P S (f::fs,hd)=[0,1]:=by
      unfold oO;dsimp only;rw[er];show(if rW r=true then _ else _)=_;rw[Wg c]
     rw[j];rfl
 obtain⟨p,n,rfl⟩:=o;exact n
def wa(m:Nat×Nat):D:=.tup [aj m.1,aj m.2]
def DO(P:Prog)(S:List Hand)(i:Nat):List (Nat×Nat):=(((S[i]?).map (oO P S)).getD []).map λc=>(i,c)
def OZ(P:Prog)(S:List Hand):List (Nat×Nat):=(List.range S.length).flatMap (DO P S)
def L4(P:Prog)(S:List Hand)(x:Hand):(oO P S x).length<=2:=by
 unfold oO
 split
 ·exact WL _
 ·split
  ·exact Wj _
  ·split <;> simp
def Ee(i:Nat):Option Row->D
 | some (.say w)=>.tup [aj i,.str w]
 | _=>.bb
def CA{P:Prog}{S:List Hand}{i:Nat}{f:aT}{fs:List aT}{hd:List (List aq)}{h:MH}(e:S[i]?=some (f::fs,hd))(ok:cF P f):g8 [ax P,bS S,aj i] h=some (Ee i (aQ P f),h):=by
 have c:Rn (g8 [ax P,bS S,aj i] h) λp=>p=(Ee i (aQ P f),h):=by
  refine aY ?_;nofun;refine rv (mQ e) ?_;rw[f7];nofun;refine rv (cL f fs _) ?_;nofun;refine rv (bM ok) ?_;nofun;refine rv (uu _ _) ?_;cases er:aQ P f with
  | none=>refine⟨false,rfl,ff ?_⟩;exact ff (rv rfl rfl)
  | some r=>
   refine⟨true,rfl,tt ?_⟩;nofun;refine rv (aZ r _) ?_;nofun;cases r with
   | say w=>
    refine⟨true,by ac_nf,tt ?_⟩;nofun;refine rv (a:=(.str w,h)) (by show aB (aG (.say w)) _ _=_;rw[aG];exact cM (i:=1) rfl) ?_;nofun;rfl
   | _=>
    refine⟨false,by ac_nf,ff ?_⟩;nofun;rfl
 obtain⟨p,b,rfl⟩:=c;exact b
def M6(kvs:List (Key×D))(s t:Term):Nat:=if cy kvs s < cy kvs t then 0 else if cy kvs s=cy kvs t then 1 else 2
def Ma{kvs:List (Key×D)}{s t:Term}{a b c:List Row}{h:MH}(e:cb kvs s)(d:cb kvs t):cN [aG (.vi s t a b c),.dv kvs] h=some (aj (M6 kvs s t),h):=by
 have g:Rn (cN [aG (.vi s t a b c),.dv kvs] h) λp=>p=(aj (M6 kvs s t),h):=by
  refine aY ?_;rw[aG];nofun;refine rv (fG e) ?_;nofun;refine rv (fG d) ?_;nofun;refine⟨_,_,rfl,?_⟩;nofun;unfold M6
  by_cases z:cy kvs s < cy kvs t
  ·rw[Wg z];refine⟨true,by rw[WI z],tt ?_⟩;nofun;rfl
  ·rw[Wh z];refine⟨false,by rw[WD z],ff ?_⟩;nofun
   by_cases y:cy kvs s=cy kvs t
   ·rw[Wg y];refine⟨true,by rw[Zf.mpr y],tt ?_⟩;nofun;rfl
   ·rw[Wh y];refine⟨false,by rw[Yl.mpr y],ff ?_⟩;nofun;rfl
 obtain⟨p,f,rfl⟩:=g;exact f
def sW(r:Row)(o:Option Nat)(h:MH):pj [.str (cz r),Ct o] h=some (.bl ((i0 r||aL r 0)&&decide (o=some 0)),h):=by
 have d:Rn (pj [.str (cz r),Ct o] h) λp=>p=(.bl ((i0 r||aL r 0)&&decide (o=some 0)),h):=by
  refine aY ?_;nofun;refine rv (a:=(.bl (i0 r||aL r 0),h)) (by cases r <;> ac_nf) ?_;cases c:(i0 r||aL r 0) with
  | false=>exact⟨false,rfl,ff rfl⟩
  | true=>
   refine⟨true,rfl,tt ?_⟩;nofun;cases o with
   | none=>exact rv rfl rfl
   | some j=>
    refine rv (lB j 0 _) ?_;show(D.bl ((j:Int)==0),h)=(D.bl (true&&decide (some j=some 0)),h);cases j with
    | zero=>rfl
    | succ j=>
     rw[Zr,WD (λz=>by cases z)];congr 2
 obtain⟨p,b,rfl⟩:=d;exact b
def du(P:Prog)(S:List Hand)(f:aT)(c:Nat):Row->Option Nat
 | .vi s t _ _ _=>some (M6 (bB P f) s t)
 | .either _ _=>some c
 | .again _=>if c=1 then some 0 else none
 | .ask _ _ _=>some (if(k9 P f).any (cR S) then 1 else 0)
 | .within _ _=>some 0
 | .all _ _=>some 0
 | _=>none
def Sy(kvs:List (Key×D)):Row->Prop
 | .vi s t _ _ _=>cb kvs s/\cb kvs t
 | _=>True
def yK{P:Prog}{f:aT}{l:Lock}{a b:List Row}(er:aQ P f=some (.ask l a b)):k9 P f=[(l.1,cy (bB P f) l.2)]:=by
 unfold k9;rw[er];rfl
def we{P:Prog}{S:List Hand}{f:aT}{r:Row}{c:Nat}{h:MH}(ok:cF P f)(er:aQ P f=some r)(T:Gn P f r)(B:Sy (bB P f) r)(k:∀x∈S,x.2.length<=1000):g0 [ax P,bS S,cQ f,aj c] h=some (Ct (du P S f c r),h):=by
 obtain⟨⟨d,d1,d2⟩,g,e⟩:=T;have n:Rn (g0 [ax P,bS S,cQ f,aj c] h) λp=>p=(Ct (du P S f c r),h):=by
  refine aY ?_;nofun;refine rv (bM ok) ?_;rw[er];nofun;refine rv (aZ r _) ?_;nofun;cases r with
  | vi s t a b z=>
   refine⟨true,by ac_nf,tt ?_⟩;nofun;refine rv (fT d1 d2) ?_;nofun;refine rv (Ma B.1 B.2) ?_;rfl
  | either a b=>
   refine⟨false,by ac_nf,ff ?_⟩;nofun;refine⟨true,by ac_nf,tt ?_⟩;nofun;rfl
  | again a=>
   refine⟨false,by ac_nf,ff ?_⟩;nofun;refine⟨false,by ac_nf,ff ?_⟩;nofun;refine⟨true,by ac_nf,tt ?_⟩;nofun;refine rv (lB c 1 _) ?_;show ∃x,D.bl ((c:Int)==1)=D.bl x/\_
   by_cases z:c=1
   ·subst z;refine⟨true,rfl,tt ?_⟩;nofun;rfl
   ·refine⟨false,by rw[Yl.mpr (λy=>z (by lia))],ff ?_⟩;nofun;show(D.bb,h)=(Ct (if c=1 then some 0 else none),h);rw[Wh z];rfl
  | ask l a b=>
   refine⟨false,by ac_nf,ff ?_⟩;nofun;refine⟨false,by ac_nf,ff ?_⟩;nofun;refine⟨false,by ac_nf,ff ?_⟩;nofun;refine⟨true,by ac_nf,tt ?_⟩;nofun;refine rv (fU ok d1 d2 er g e) ?_;rw[yK er];nofun;refine rv (cM (i:=0) (d:=dU (l.1,cy (bB P f) l.2)) rfl) ?_;nofun;refine rv (oA k) ?_;nofun;show Rn _ _;have hl:du P S f c (.ask l a b)=some (if cR S (l.1,cy (bB P f) l.2) then 1 else 0):=by
    unfold du;rw[yK er];simp
   rw[hl];unfold cR;cases S.findIdx? (ny (l.1,cy (bB P f) l.2)) with
   | none=>refine rv rfl ⟨true,rfl,tt ?_⟩;nofun;rfl
   | some j=>refine rv rfl ⟨false,rfl,ff ?_⟩;nofun;rfl
  | within l a=>
   refine⟨false,by ac_nf,ff ?_⟩;nofun;refine⟨false,by ac_nf,ff ?_⟩;nofun;refine⟨false,by ac_nf,ff ?_⟩;nofun;refine⟨false,by ac_nf,ff ?_⟩;nofun;refine rv (a:=(.bl true,h)) (by ac_nf) ⟨true,rfl,tt ?_⟩;nofun;rfl
  | all l a=>
   refine⟨false,by ac_nf,ff ?_⟩;nofun;refine⟨false,by ac_nf,ff ?_⟩;nofun;refine⟨false,by ac_nf,ff ?_⟩;nofun;refine⟨false,by ac_nf,ff ?_⟩;nofun;refine rv (a:=(.bl true,h)) (by ac_nf) ⟨true,rfl,tt ?_⟩;nofun;rfl
  | _=>
   refine⟨false,by ac_nf,ff ?_⟩;nofun;refine⟨false,by ac_nf,ff ?_⟩;nofun;refine⟨false,by ac_nf,ff ?_⟩;nofun;refine⟨false,by ac_nf,ff ?_⟩;nofun;refine rv (a:=(.bl false,h)) (by ac_nf) ⟨false,rfl,ff ?_⟩;nofun;rfl
 obtain⟨p,m,rfl⟩:=n;exact m
def nums:Nat->List Str->List (Key×D)
 | _,[]=>[]
 | k,w::r=>(.inr w,aj k)::nums (k+1) r
theorem Am:∀(k:Nat)(x y:List Str),nums k (x++y)=nums k x++nums (k+x.length) y
 | k,[],y=>by simp[nums]
 | k,w::x,y=>by simp only[Yr,nums,Am (k+1) x y,Wq];congr 3;lia
theorem wZ:∀(k:Nat)(x:List Str),(nums k x).map (·.1)=x.map Sum.inr
 | _,[]=>rfl
 | k,w::r=>by rw[nums,Wo,Wo,wZ (k+1) r]
theorem Al:∀(k:Nat)(x:List Str),(nums k x).length=x.length
 | _,[]=>rfl
 | k,w::r=>by rw[nums,Wq,Wq,Al (k+1) r]
theorem yC:∀(k i:Nat)(x:List Str)(w:Str),x.Nodup->x[i]?=some w->dk (nums k x) (.inr w)=some (aj (k+i))
 | k,0,v::r,w,_,e=>by
  cases e;unfold dk nums;rw[List.find?_cons_of_pos (by simp)];rfl
 | k,i+1,v::r,w,hn,e=>by
  have a:v≠w:=λz=>(X3.mp hn).1 (z ▸ Wk (by simpa using e));have:=yC (k+1) i r w (X3.mp hn).2 (by simpa using e);unfold dk at this ⊢;rw[nums,Aa0 (by simpa using a),this];congr 2
  lia
def oK{h:MH}{a:D}{ds:List D}{ws:List Str}(hd:ds.length=ws.length)(t:∀(i:Nat)(d:D),ds[i]?=some d->∃(w:Str)(b:List D),ws[i]?=some w/\d=D.tup (.str w::b))(hn:ws.Nodup)(hl:ws.length<=1000):
  cP [.tup [a,.tup ds]] h=some (.dv (nums 0 ws),h):=by
 refine fj (aY ?_);nofun;refine Rp (lR ?_);nofun;refine⟨_,_,_,rfl,rfl,?_⟩;refine yh (j8 0 ds) (λr k o f=>∃i v0 v1,i<=ds.length/\r=j8 i (ds.drop i)/\o=h/\k=[v0,v1]/\f=nums 0 (ws.take i)) _ _ _ ⟨0,_,_,WL _,by rw[Zh],rfl,rfl,by rw[AaC];rfl⟩ ?_ ?_
 ·rintro x r k o f ⟨i,v0,v1,u,hr,rfl,rfl,rfl⟩;have c:i < ds.length:=by
   rcases Yv i ds.length with z | z
   ·exact z
   ·rw[Aa1 z] at hr;cases hr
  rw[YN c] at hr;obtain⟨w,b,p,E⟩:=t i ds[i] (Wl c);rw[E] at hr;injection hr with s hr
  subst s;refine⟨rfl,?_⟩;nofun;refine⟨_,rfl,?_⟩;dsimp only;rw[Wg rfl];refine UD ?_;nofun;have l:w∉ws.take i:=λm=>by
   obtain⟨j,g⟩:=Xg.mp m;rw[List.getElem?_take] at g
   by_cases z:j < i
   ·rw[Wg z] at g;have C:=(V9.mp g);have A:=(V9.mp p);obtain⟨a1,G⟩:=C;obtain⟨a2,F⟩:=A;have:=(List.pairwise_iff_getElem.mp hn) j i a1 a2 z;exact this (G.trans F.symm)
   ·rw[Wh z] at g;cases g
  refine⟨.inr w,rfl,by rw[Al,WJ,XX];lia,i+1,_,_,c,hr,rfl,rfl,?_⟩;show putD (nums 0 (ws.take i)) (.inr w) (aj i)=_;have n:(ws.take i).length=i:=by rw[WJ];lia
  rw[z6 (by rw[wZ];intro m;obtain⟨y,q,e⟩:=WY.mp m;cases e;exact l q),take_snoc p,Am,n,X5];rfl
 ·rintro k o f ⟨i,v0,v1,u,hr,rfl,rfl,rfl⟩;have v:i=ds.length:=by
   rcases Yv i ds.length with z | z
   ·rw[YN z] at hr;cases hr
   ·lia
  refine⟨rfl,?_⟩;show _=_;dsimp only;rw[v,hd,Xf]
theorem zw{kvs:List (Key×D)}{h:MH}:∀(ts:List Term)(o:Option D),(∀t∈ts,cb kvs t)->bO [] (gN 0) cV (ai bI (aD (bF 0) (aD (bF 1) a8))) (ts.map bx) [o,some (.dv kvs)] h=some ((ts.map (cy kvs)).map D.int,h)
 | [],o,_=>rfl
 | t::ts,o,hw=>by
  have a:=zw ts (some (bx t)) (λx b=>hw x (Wf _ b)) (kvs:=kvs) (h:=h);rw[Wo];show(bI [bx t,.dv kvs] h).bind (λy=>(bO [] (gN 0) cV (ai bI (aD (bF 0) (aD (bF 1) a8))) (ts.map bx) [some (bx t),some (.dv kvs)] y.2).map λz=>(y.1::z.1,z.2))=_;rw[fG (hw t We)];show(bO [] (gN 0) cV (ai bI (aD (bF 0) (aD (bF 1) a8))) (ts.map bx) [some (bx t),some (.dv kvs)] h).map _=_;rw[a];rfl
def nE(P:Prog)(f:aT)(j:Nat)(ts:List Term):aT:={aO:=j,nums:=ts.map (cy (bB P f)),rs:=[],k:=0}
def ou{P:Prog}{h:MH}(nd:(P.ao.map (·.1)).Nodup)(hl:P.ao.length<=1000):cP [ax P] h=some (.dv (nums 0 (P.ao.map (·.1))),h):=
 oK (by rw[Wc,Wc]) (λi d e=>by
  rw[Wt] at e;obtain⟨x,a,rfl⟩:=dS e;exact⟨x.1,_,by rw[Wt,a];rfl,rfl⟩) nd (by rw[Wc];exact hl)
def oD{P:Prog}{f:aT}{w:Str}{ts:List Term}{j:Nat}{d:di}{h:MH}(ok:cF P f)(er:aQ P f=some (.call w ts))(nd:(P.ao.map (·.1)).Nodup)(hl:P.ao.length<=1000)(c:(P.ao.map (·.1))[j]?=some w)(d1:P.ao[f.aO]?=some d)(d2:d.2.1.length<=1000)(b:∀t∈ts,cb (bB P f) t)(i:ts.length<=1000):dC [ax P,cQ f] h=some (cQ (nE P f j ts),h):=by
 have g:Rn (dC [ax P,cQ f] h) λp=>p=(cQ (nE P f j ts),h):=by
  refine aY ?_;nofun;refine rv (bM ok) ?_;rw[er];show Rn _ _;unfold nX;dsimp only;rw[aG];nofun;refine rv (fT d1 d2) ?_;nofun;refine rv (ou nd hl) ?_;nofun;refine rv (yT rfl (yC 0 j _ w nd c)) ?_;rw[X5];nofun;refine rv (a:=(ts.map bx,[],h)) rfl ?_;refine rv (zw ts none b) ⟨by rw[Wc,Wc,show sizeLine=16777216 from rfl];lia,?_⟩;nofun;refine rv rfl ?_;nofun;rfl
 obtain⟨p,e,rfl⟩:=g;exact e
def sN(f:aT)(fs:List aT)(h:MH):wt (kh (f::fs)) none (some (-1)) h=some (kh fs,h):=by
 unfold kh;rw[WH,Wv];exact sR (ys:=[cQ f]) (ZD _)
def oC(f:aT)(fs:List aT)(h:MH)(hl:fs.length<=1000):aI (kh fs) (.tup [cQ f]) h=some (kh (f::fs),h):=by
 unfold kh;rw[ck (by rw[Wc,WM];simp;lia),WH,Wv];rfl
noncomputable def sg(f:aT):aT:=match f.rs with
 | []=>f
 | s::rs=>{f with rs:=rs,k:=s.1+1}
def gone(P:Prog)(S:List Hand)(x:Hand)(c j:Nat):Hand:=match x.1 with
 | []=>x
 | f::fs=>match aQ P f with
  | none=>(sg f::fs,x.2.dropLast)
  | some r=>match r with
   | .call _ a=>(nE P f j a::f::fs,x.2)
   | r=>match du P S f c r with
    | none=>({f with k:=f.k+1}::fs,x.2)
    | some l=>({f with rs:=(f.k,l)::f.rs,k:=0}::fs,if(i0 r||aL r 0)&&decide (l=0) then x.2++[k9 P f] else x.2)
def gone_none{P:Prog}{S:List Hand}{i c j:Nat}{f:aT}{fs:List aT}{hd:List (List aq)}{h:MH}(e:S[i]?=some (f::fs,hd))(st:iQ P f)(er:aQ P f=none)(hl:fs.length<=1000)(b:List aq)(q:List (List aq))(w:hd=q++[b]):cn [ax P,bS S,aj i,aj c] h=some (cK (gone P S (f::fs,hd) c j),h):=by
 have ok:=st.ok;obtain⟨d,d1,⟨m,u,t⟩,A⟩:=st;have y:Rn (cn [ax P,bS S,aj i,aj c] h) λp=>p=(cK (gone P S (f::fs,hd) c j),h):=by
  refine aY ?_;nofun;refine rv (mQ e) ?_;rw[f7];nofun;refine rv (cL f fs _) ?_;rw[eX f];nofun;refine rv (cL f fs _) ?_;nofun;refine rv (bM ok) ?_;nofun;refine rv (jO _ _) ?_;rw[er];refine⟨true,rfl,tt ?_⟩;nofun;refine⟨_,rfl,rv (sN f fs _) ?_⟩;nofun;have o:m[f.k]?=none:=by
   unfold aQ at er;rw[cq d1,u] at er;exact er
  obtain⟨s,rs,l,r,g,G,F,E⟩:∃s a l r,f.rs=s::a/\bq d.2.2 a.reverse=some l/\l[s.1]?=some r/\aL r s.2=true:=by
   rcases t with⟨r,z⟩ |⟨_,z⟩
   ·rw[o] at z;cases z
   ·exact z
  have n:sg f={f with rs:=rs,k:=s.1+1}:=by unfold sg;rw[g]
  refine⟨_,rfl,?_⟩;rw[g,WH];refine rv (gr rs.reverse s.1 s.2 f.k _) ?_;nofun;refine rv (ir rs.reverse s.1 _ (by rw[WM];rw[g,Wq] at A;lia)) ?_;nofun;have v:=oC {f with rs:=rs,k:=s.1+1} fs h hl;refine rv v ?_;nofun;refine⟨_,rfl,?_⟩;rw[w,Wv];refine rv (sR (ys:=[bW b]) (ZD _)) ?_;nofun;show(cK ({f with rs:=rs,k:=s.1+1}::fs,q),h)=_;unfold gone;dsimp only;rw[er];dsimp only;rw[n,Abe]
 obtain⟨p,x,rfl⟩:=y;exact x
def FT{P:Prog}{S:List Hand}{i c j:Nat}{f:aT}{fs:List aT}{hd:List (List aq)}{w:Str}{ts:List Term}{d:di}{h:MH}(e:S[i]?=some (f::fs,hd))(ok:cF P f)(er:aQ P f=some (.call w ts))(hl:fs.length < 1000)(nd:(P.ao.map (·.1)).Nodup)(hp:P.ao.length<=1000)(g:(P.ao.map (·.1))[j]?=some w)(d1:P.ao[f.aO]?=some d)(d2:d.2.1.length<=1000)(a:∀t∈ts,cb (bB P f) t)(b:ts.length<=1000):cn [ax P,bS S,aj i,aj c] h=some (cK (gone P S (f::fs,hd) c j),h):=by
 have l:Rn (cn [ax P,bS S,aj i,aj c] h) λp=>p=(cK (gone P S (f::fs,hd) c j),h):=by
  refine aY ?_;nofun;refine rv (mQ e) ?_;rw[f7];nofun;refine rv (cL f fs _) ?_;rw[eX f];nofun;refine rv (cL f fs _) ?_;nofun;refine rv (bM ok) ?_;nofun;refine rv (jO _ _) ?_;rw[er];refine⟨false,rfl,ff ?_⟩;nofun;refine rv (aZ _ _) ?_;nofun;refine⟨true,by ac_nf,tt ?_⟩;nofun;refine rv (cL f fs _) ?_;nofun;refine rv (oD ok er nd hp g d1 d2 a b) ?_;nofun;refine rv (oC (nE P f j ts) (f::fs) _ hl) ?_;nofun;show(cK (nE P f j ts::f::fs,hd),h)=_;unfold gone;dsimp only;rw[er]
 obtain⟨p,k,rfl⟩:=l;exact k
def DK(rs:List (Nat×Nat))(k l:Nat)(h:MH)(hl:rs.length<=1000):aI (bA rs.reverse k) (.tup [aj l,.int 0]) h=some (bA ((k,l)::rs).reverse 0,h):=by
 have:bA ((k,l)::rs).reverse 0=.tup ((flat rs.reverse++[k]).map aj++[aj l,.int 0]):=by
  unfold bA bD;rw[WH,uM];simp[flat,aj]
 rw[this];exact ck (by rw[Wc,Wn,i5,WM];simp;lia)
noncomputable def nv:Row->Bool
 | .call _ _=>true
 | _=>false
def L8(r:Row):(cz r=="call")=nv r:=by cases r <;> ac_nf
def ip{P:Prog}{S:List Hand}{c j:Nat}{f:aT}{fs:List aT}{hd:List (List aq)}{r:Row}(er:aQ P f=some r)(a:nv r=false):gone P S (f::fs,hd) c j=match du P S f c r with
    | none=>({f with k:=f.k+1}::fs,hd)
    | some l=>({f with rs:=(f.k,l)::f.rs,k:=0}::fs,if(i0 r||aL r 0)&&decide (l=0) then hd++[k9 P f] else hd):=by
 unfold gone;dsimp only;rw[er];cases r with
 | call _ _=>cases a
 | _=>rfl
def IF{P:Prog}{S:List Hand}{i c j:Nat}{f:aT}{fs:List aT}{hd:List (List aq)}{r:Row}{h:MH}(e:S[i]?=some (f::fs,hd))(ok:cF P f)(er:aQ P f=some r)(a:nv r=false)(hl:fs.length<=1000)(hh:hd.length<=1000)(T:Gn P f r)(B:Sy (bB P f) r)(o:∀x∈S,x.2.length<=1000):cn [ax P,bS S,aj i,aj c] h=some (cK (gone P S (f::fs,hd) c j),h):=by
 have q:=T;obtain⟨⟨d,d1,d2⟩,m,g⟩:=T;have b:f.rs.length<=1000:=let⟨_,_,_,_,z⟩:=ok;z;rw[ip er a];have t:Rn (cn [ax P,bS S,aj i,aj c] h) λp=>p=(cK (match du P S f c r with
    | none=>({f with k:=f.k+1}::fs,hd)
    | some l=>({f with rs:=(f.k,l)::f.rs,k:=0}::fs,if(i0 r||aL r 0)&&decide (l=0) then hd++[k9 P f] else hd)),h):=by
  refine aY ?_;nofun;refine rv (mQ e) ?_;rw[f7];nofun;refine rv (cL f fs _) ?_;rw[eX f];nofun;refine rv (cL f fs _) ?_;nofun;refine rv (bM ok) ?_;nofun;refine rv (jO _ _) ?_;rw[er];refine⟨false,rfl,ff ?_⟩;nofun;refine rv (aZ _ _) ?_;nofun;refine⟨false,by rw[L8,a],ff ?_⟩;nofun;refine rv (cL f fs _) ?_;nofun;refine rv (we ok er q B o) ?_;nofun;cases du P S f c r with
  | none=>
   refine rv rfl ⟨true,rfl,tt ?_⟩;nofun;refine rv (ir f.rs.reverse f.k _ (by rw[WM];exact b)) ?_;nofun;refine rv (aZ _ _) ?_;nofun;refine rv (sW r none _) ?_;rw[WD (λz=>by cases z),ZU];refine⟨false,rfl,ff ?_⟩;nofun;refine⟨_,rfl,rv (sN f fs _) ?_⟩;nofun;refine rv (oC {f with k:=f.k+1} fs _ hl) ?_;nofun;rfl
  | some l=>
   refine rv rfl ⟨false,rfl,ff ?_⟩;nofun;refine rv (DK f.rs f.k l _ b) ?_;nofun;refine rv (aZ _ _) ?_;nofun;refine rv (sW r (some l) _) ?_;have n:decide (some l=some 0)=decide (l=0):=by simp
   rw[n];cases ct:((i0 r||aL r 0)&&decide (l=0)) with
   | false=>
    refine⟨false,rfl,ff ?_⟩;nofun;refine⟨_,rfl,rv (sN f fs _) ?_⟩;nofun;refine rv (oC {f with rs:=(f.k,l)::f.rs,k:=0} fs _ hl) ?_;nofun;rfl
   | true=>
    refine⟨true,rfl,tt ?_⟩;nofun;refine rv (cL f fs _) ?_;nofun;refine rv (fU ok d1 d2 er m g) ?_;nofun;refine rv (ck (ys:=[bW (k9 P f)]) (by rw[Wc];simp;lia)) ?_;nofun;refine⟨_,rfl,rv (sN f fs _) ?_⟩;nofun;refine rv (oC {f with rs:=(f.k,l)::f.rs,k:=0} fs _ hl) ?_;nofun;rw[Wg rfl,f7,Wv];rfl
 obtain⟨p,s,rfl⟩:=t;exact s
def PN(xs:List D)(k:Nat)(h:MH):wt (.tup xs) none (some (k:Int)) h=some (.tup (xs.take k),h):=by
 show(if HT.cG xs.length 0 none=0/\HT.cG xs.length xs.length (some (k:Int))=xs.length then some (D.tup xs,h) else some (D.tup (cutD xs none (some (k:Int))),h))=_;unfold cutD;rw[HT.tG,HT.Dm]
 by_cases z:k < xs.length
 ·rw[Wh (by lia),Nat.min_eq_left (by lia),Zh,AaZ]
 ·rw[Wg (by lia),Yx (by lia)]
def Je(xs:List D)(k:Nat)(h:MH):wt (.tup xs) (some (k:Int)) none h=some (.tup (xs.drop k),h):=by
 show(if HT.cG xs.length 0 (some (k:Int))=0/\HT.cG xs.length xs.length none=xs.length then some (D.tup xs,h) else some (D.tup (cutD xs (some (k:Int)) none),h))=_;unfold cutD;rw[HT.tG,HT.Dm]
 by_cases z:min k xs.length=0
 ·rw[Wg ⟨z,rfl⟩];have:xs.drop k=xs:=by
   rcases Nat.eq_zero_or_pos k with y | y
   ·rw[y,Zh]
   ·have:xs=[]:=Zz.mp (by lia);rw[this,List.drop_nil]
  rw[this]
 ·rw[Wh (λq=>z q.1)]
  by_cases y:k<=xs.length
  ·rw[Nat.min_eq_left y,Yx (by rw[Yq];exact Wj _)]
  ·rw[Nat.min_eq_right (by lia),X6,AaC,Aa1 (by lia)]
def nV{P:Prog}{S:List Hand}{i c:Nat}{g:Hand}{h:MH}(hi:i < S.length)(hl:S.length<=1000)(b:∀h,cn [ax P,bS S,aj i,aj c] h=some (cK g,h))(ok:∀f∈g.1,cF P f)(d:g.1.length<=1000):dA [ax P,bS S,wa (i,c)] h=some (bS (S.set i (dw P g.1,g.2)),h):=by
 have j:Rn (dA [ax P,bS S,wa (i,c)] h) λp=>p=(bS (S.set i (dw P g.1,g.2)),h):=by
  refine aY ?_;unfold wa;nofun;refine rv (b _) ?_;rw[f7];nofun;refine⟨_,rfl,rv (PN (S.map cK) i _) ?_⟩;nofun;refine rv (lj ok d) ?_;nofun;refine rv (ck (ys:=[cK (dw P g.1,g.2)]) (by rw[WJ,Wc];simp;lia)) ?_;nofun;refine rv (a:=(aj (i+1),h)) rfl ?_;refine⟨_,rfl,rv rfl (rv (Je (S.map cK) (i+1) _) ?_)⟩;nofun;refine rv (ck (by rw[Wn,WJ,Yq,Wc];simp;lia)) ?_;show(D.tup _,h)=(D.tup ((S.set i (dw P g.1,g.2)).map cK),h);rw[List.set_eq_take_append_cons_drop,Wg hi,Wv,Wo,AaK,AaL,W8];rfl
 obtain⟨p,e,rfl⟩:=j;exact e
theorem t8:∀b:List Nat,md (b.map aj)=some (b.map λ(n:Nat)=>PyData.int (n:Int))
 | []=>rfl
 | k::r=>by
  show(qS (aj k)).bind (λa=>(md (r.map aj)).map λbs=>a::bs)=_;rw[t8 r];rfl
theorem uQ:∀b:List Nat,PyData.depthAll (b.map λ(n:Nat)=>PyData.int (n:Int))<=2
 | []=>by simp[PyData.depthAll]
 | k::r=>by
  have:=uQ r;simp only[Wo,PyData.depthAll,PyData.depth]
  lia
def IV(l:Nat)(b:List Nat)(h:MH):r8 (aj l) (.tup (b.map aj)) h=some (.bl (decide (l∈b)),h):=by
 have c:inD (aj l) (.tup (b.map aj)) h=some (decide (l∈b)):=by
  show((md (b.map aj)).bind λbs=>if(PyData.int (l:Int)).depth<=60/\PyData.depthAll bs<=60 then some (bs.any λx=>PyData.eqv x (.int (l:Int))) else none)=_;rw[t8];show(if(PyData.int (l:Int)).depth<=60/\PyData.depthAll (b.map λ(n:Nat)=>PyData.int (n:Int))<=60 then some ((b.map λ(n:Nat)=>PyData.int (n:Int)).any λx=>PyData.eqv x (.int (l:Int))) else none)=_;rw[Wg ⟨by simp[PyData.depth],WQ (uQ b) (by decide)⟩,Aaj];congr 1;rw[ZK,Ys,Yt];constructor
  ·rintro⟨x,a,e⟩;have e:((x:Int)==(l:Int))=true:=e;have:x=l:=by have:=eq_of_beq e;lia
   exact this ▸ a
  ·intro a;exact⟨l,a,by show((l:Int)==(l:Int))=true;simp⟩
 unfold r8;rw[c];rfl
def AX{P:Prog}{S:List Hand}{i c:Nat}{x:Hand}{h:MH}(e:S[i]?=some x)(hl:S.length<=1000)(b:∀h,cv [ax P,bS S,aj i] h=some (.tup ((oO P S x).map aj),h)):lK [ax P,bS S,wa (i,c)] h=some (.bl (decide (c∈oO P S x)),h):=by
 have g:i < S.length:=(V9.mp e).1;have f:Rn (lK [ax P,bS S,wa (i,c)] h) λp=>p=(.bl (decide (c∈oO P S x)),h):=by
  refine aY ?_;unfold wa;nofun;refine rv (a:=(.bl true,h)) rfl ⟨true,rfl,ff ?_⟩;nofun;refine rv (a:=(.bl true,h)) rfl ⟨true,rfl,ff ?_⟩;nofun;refine rv (a:=(.bl true,h)) rfl ⟨true,rfl,ff ?_⟩;nofun;refine rv (a:=(.bl true,h)) ?_ ⟨true,rfl,tt ?_⟩
  ·refine fj (Hz (rv rfl (rv rfl (rv (a:=(.bl true,h)) ?_ ⟨true,rfl,?_⟩))))
   ·show some (D.bl (decide ((0:Int)<=(i:Int))),h)=_;rw[WI (by lia)]
   ·rw[Wg rfl];refine rv (a:=(.int (S.length:Int),h)) (by show some (D.int ((S.map cK).length:Int),h)=_;rw[Wc]) ?_;refine rv (a:=(.bl true,h)) ?_ rfl;show some (D.bl (decide ((i:Int) < (S.length:Int))),h)=_;rw[WI (by lia)]
  nofun;refine rv (b _) ?_;nofun;refine rv (IV _ _ _) ?_;rfl
 obtain⟨p,d,rfl⟩:=f;exact d
def xN{P:Prog}{S:List Hand}{i c j:Nat}{f:aT}{fs:List aT}{hd:List (List aq)}{h:MH}(e:S[i]?=some (f::fs,hd))(hl:S.length<=1000)(m:cF P f)(l:∀h,cv [ax P,bS S,aj i] h=some (.tup ((oO P S (f::fs,hd)).map aj),h))(q:c∈oO P S (f::fs,hd)){g:Hand}(d:∀h,cn [ax P,bS S,aj i,aj c] h=some (cK g,h))(ok:∀f∈g.1,cF P f)(k:g.1.length<=1000):
  gw [ax P,bS S,wa (i,c)] h=some (.tup [bS (S.set i (dw P g.1,g.2)),Ee i (aQ P f)],h):=by
 have b:i < S.length:=(V9.mp e).1;have o:Rn (gw [ax P,bS S,wa (i,c)] h) λp=>p=(.tup [bS (S.set i (dw P g.1,g.2)),Ee i (aQ P f)],h):=by
  refine aY ?_;nofun;refine rv (AX e hl l) ?_;rw[WI q];refine⟨true,rfl,ff ?_⟩;nofun;refine rv (nV b hl d ok k) ?_;nofun;refine rv (a:=(aj i,h)) (cM (i:=0) rfl) ?_;nofun;refine rv (CA e m) ?_;nofun
 obtain⟨p,n,rfl⟩:=o;exact n
noncomputable def heldOf(S:List Hand):List (List (List aq)):=S.map (·.2)
def IE{S a:List Hand}(e:heldOf S=heldOf a)(l:aq):cR S l=cR a l:=by
 have h:∀S:List Hand,cR S l=(heldOf S).any λbs=>bs.any λb=>decide (l∈b):=λS=>by
  unfold cR heldOf;rw[List.findIdx?_isSome,Aaj];rfl
 rw[h,h,e]
def ID{S:List Hand}{i:Nat}{x y:Hand}(e:S[i]?=some x)(h:y.2=x.2):heldOf (S.set i y)=heldOf S:=by
 unfold heldOf;rw[List.map_set,h];obtain⟨a,ex⟩:=V9.mp e;have:x.2=(S.map (·.2))[i]'(by rw[Wc];exact a):=by rw[List.getElem_map,ex]
 rw[this,List.set_getElem_self]
def O7{P:Prog}{S:List Hand}{f:aT}{c l:Nat}{r:Row}(d:rW r=true->c<=1)(e:du P S f c r=some l):l < (aM r).length:=by
 cases r with
 | vi s t a b z=>
  cases e;show M6 _ _ _ < 3;unfold M6
  split
  ·decide
  ·split <;> decide
 | either a b=>cases e;exact Nat.lt_succ_of_le (d rfl)
 | again a=>
  have e:(if c=1 then some 0 else none)=some l:=e
  split at e
  ·cases e;exact ZJ
  ·cases e
 | ask k a b=>
  cases e;show(if _ then 1 else 0) < 2
  split <;> decide
 | within _ _=>cases e;exact ZJ
 | all _ _=>cases e;exact ZJ
 | _=>cases e
def LF{P:Prog}{S:List Hand}{c j:Nat}{f:aT}{fs:List aT}{hd:List (List aq)}{q:di}(st:iQ P f)(os:∀g∈fs,cF P g)(A:P.ao[j]?=some q)(hr:f.rs.length < 1000)(C:∀r,aQ P f=some r->rW r=true->c<=1):∀g∈(gone P S (f::fs,hd) c j).1,cF P g:=by
 have ok:=st.ok;obtain⟨d,d1,⟨b,m,y⟩,u⟩:=st;have a:aQ P f=b[f.k]?:=by unfold aQ;rw[cq d1,m];rfl
 have two:∀{p:aT},cF P p->∀g∈p::fs,cF P g:=λ{p} h g e=>by
  rcases Ws.mp e with rfl | e
  ·exact h
  ·exact os g e
 cases er:aQ P f with
 | none=>
  have:gone P S (f::fs,hd) c j=(sg f::fs,hd.dropLast):=by unfold gone;dsimp only;rw[er]
  rw[this];rw[a] at er;rcases y with⟨r,z⟩ |⟨_,s,rs,l,r,t,x,G,F⟩
  ·rw[er] at z;cases z
  ·have n:sg f={f with rs:=rs,k:=s.1+1}:=by unfold sg;rw[t]
   rw[n];exact two ⟨d,l,d1,x,by rw[t,Wq] at u;show rs.length<=1000;lia⟩
 | some r=>
  by_cases i:nv r=true
  ·cases r with
   | call w v=>
    have:gone P S (f::fs,hd) c j=(nE P f j v::f::fs,hd):=by unfold gone;dsimp only;rw[er]
    rw[this];intro g e;rcases Ws.mp e with rfl | e
    ·exact⟨q,q.2.2,A,rfl,WL _⟩
    ·exact two ok g e
   | _=>cases i
  ·rw[ip er (by simpa using i)];cases E:du P S f c r with
   | none=>exact two ⟨d,b,d1,m,u⟩
   | some l=>
    have o:=O7 (C r er) E;refine two ⟨d,(aM r)[l],d1,?_,hr⟩;show bq d.2.2 ((f.k,l)::f.rs).reverse=_;rw[WH,qo,m];show(M0 b (f.k,l)).bind _=_;unfold M0;rw[<-a,er];show((aM r)[l]?).bind _=_;rw[Wl o];rfl
abbrev Gm:=List (Str×List Int)
noncomputable def Mz(t:Gm):D:=.tup (t.map λp=>.tup [.str p.1,.tup (p.2.map D.int)])
def lD(P:Prog)(num:Str->Nat)(p:Str×List Int):Hand:=(dw P [{aO:=num p.1,nums:=p.2,rs:=[],k:=0}],[])
def Ep(n:Nat)(x:Hand):gv n (cK x)=true:=by
 have c:∀bs:List (List aq),dY n (bs.map bW)=true:=λbs=>by
  induction bs with
  | nil=>rfl
  | cons b r a=>
   have hp:∀b:List aq,dY n (b.map dU)=true:=λb=>by
    induction b with
    | nil=>rfl
    | cons k r a=>exact a
   show(dY n (b.map dU)&&dY n (r.map bW))=true;rw[hp,a];rfl
 show(dY n (x.1.reverse.map cQ)&&(dY n (x.2.map bW)&&true))=true;rw[qF,c];rfl
theorem AV(n:Nat):∀S:List Hand,dY n (S.map cK)=true
 | []=>rfl
 | x::r=>by show(gv n (cK x)&&dY n (r.map cK))=true;rw[Ep,AV n r];rfl
def CO{P:Prog}{t:Gm}{num:Str->Nat}{h:MH}(nd:(P.ao.map (·.1)).Nodup)(hp:P.ao.length<=1000)(u:t.length<=1000)(hn:∀p∈t,(P.ao.map (·.1))[num p.1]?=some p.1):l7 [ax P,Mz t] h=some (bS (t.map (lD P num)),h):=by
 have s:Rn (l7 [ax P,Mz t] h) λp=>p=(bS (t.map (lD P num)),h):=by
  refine wU ?_;nofun;refine rv (ou nd hp) ?_;nofun;refine kO ?_;nofun;refine⟨_,_,rfl,?_⟩;refine eS (λi c g=>∃(m l j:Option D),c=[some (ax P),some (Mz t),some (.dv (nums 0 (P.ao.map (·.1)))),some (.ob h.length),m,l,j]/\g=h++[.lst (((t.take i).map (lD P num)).map cK)]) ⟨_,_,_,rfl,rfl⟩ (λ_ _ _ _ _=>rfl) ?_ ?_
  ·rintro i x c g o ⟨m,l,j,rfl,rfl⟩;rw[Wt] at o;obtain⟨p,a,rfl⟩:=dS o;have b:=Wk a;obtain⟨d,hd⟩:∃d,P.ao[num p.1]?=some d:=by
    have:=hn p b;rw[Wt] at this;obtain⟨d,hd,_⟩:=dS this;exact⟨d,hd⟩
   have v:i < t.length:=(V9.mp a).1;have e:t.take (i+1)=t.take i++[p]:=by rw[YH,a];rfl
   nofun;refine rv (yT rfl (yC 0 _ _ p.1 nd (hn p b))) ?_;rw[X5];nofun;refine fY ?_;nofun;refine⟨bV b8,?_⟩;nofun;refine rv (lj (P:=P) (fs:=[{aO:=num p.1,nums:=p.2,rs:=[],k:=0}]) (λf q=>by
    rw[Wr] at q;subst q;exact⟨d,d.2.2,hd,rfl,WL _⟩) (by simp)) ?_
   nofun;refine rv (bH b8 (by rw[Wc,Wc,WJ,show sizeLine=16777216 from rfl];lia)) ?_;rw[kC];nofun;refine⟨_,_,_,rfl,?_⟩;rw[e,Wv,Wv];rfl
  ·rintro c g ⟨m,l,j,rfl,rfl⟩;rw[Wc,Xf];nofun;refine rv (fB b8) ?_;exact rv (qq (λn z=>(nomatch z)) (AV _ _)) rfl
 obtain⟨p,r,rfl⟩:=s;exact r
def MD(rows:List Row)(rs:List (Nat×Nat))(s:Nat×Nat):Bool:=(((bq rows rs.reverse).bind λl=>l[s.1]?).map λr=>aL r s.2).getD false
def y8(rows:List Row):List (Nat×Nat)->Nat
 | []=>0
 | s::rs=>(MD rows rs s).toNat+y8 rows rs
theorem DC{rows:List Row}:∀{rs:List (Nat×Nat)} {k:Nat} {a:List Row},bq rows rs.reverse=some a->y8 rows rs=((mh rows rs k).map λp=>y8 rows p.1).getD 0
 | [],k,a,e=>by
  cases q:a[k]? with
  | none=>rw[oh e q];rfl
  | some r=>rw[fI e q];rfl
 | s::rs,k,a,e=>by
  cases q:a[k]? with
  | some r=>rw[fI e q];rfl
  | none=>
   obtain⟨l,r,g1,g2,g3⟩:=k8 e;rw[t9 e q g1 g2]
   by_cases c:aL r s.2=true
   ·rw[Wg c];rfl
   ·have b:MD rows rs s=false:=by
     unfold MD;rw[g1,Wz,g2]
     simpa using c
    rw[Wh c,<-DC g1];show(MD rows rs s).toNat+y8 rows rs=_;rw[b];exact X5 _
def AS(P:Prog)(f:aT):Nat:=y8 (bJ P f.aO) f.rs
def y7(P:Prog)(fs:List aT):Nat:=(fs.map (AS P)).sum
def dI(P:Prog)(f:aT)(fs:List aT):y7 P (f::fs)=AS P f+y7 P fs:=rfl
theorem AG{P:Prog}:∀{fs:List aT} {f:aT},cF P f->(∀g∈fs,cF P g)->y7 P (fA P fs f)=AS P f+y7 P fs
 | fs,f,⟨d,c,f1,f2,o⟩,b=>by
  have er:=cq f1;have a:=DC (rows:=bJ P f.aO) (k:=f.k) (er ▸ f2);cases q:mh (bJ P f.aO) f.rs f.k with
  | some p=>
   rw[q] at a;rw[eG q,dI];show y8 (bJ P f.aO) p.1+_=y8 (bJ P f.aO) f.rs+_;rw[a];rfl
  | none=>
   rw[q] at a;have a:AS P f=0:=a;rw[a,X5];cases fs with
   | nil=>rw[gQ q]
   | cons g m=>
    obtain⟨n,e,j,i,h⟩:=b g We;rw[jR q,AG (fs:=m) (f:={g with k:=g.k+1}) ⟨n,e,j,i,h⟩ λx l=>b x (Wf _ l)];rfl
theorem uL{P:Prog}:∀{fs:List aT},(∀g∈fs,cF P g)->y7 P (dw P fs)=y7 P fs
 | [],_=>rfl
 | f::fs,h=>AG (h f We) λg a=>h g (Wf _ a)
structure EI(P:Prog)(n:Nat)(f:aT):Prop where
 nm:(p8 P f.aO).length<=f.nums.length
 rs:f.rs.length<=n
theorem D6{P:Prog}{n:Nat}:∀{fs:List aT} {f:aT},cF P f->(∀g∈fs,cF P g)->EI P n f->(∀g∈fs,EI P n g)->∀g∈fA P fs f,EI P n g
 | fs,f,⟨d,e,f1,f2,t⟩,b,hf,hn,x,a=>by
  have er:=cq f1;cases q:mh (bJ P f.aO) f.rs f.k with
  | some p=>
   rw[eG q] at a;obtain⟨s,m⟩:=BS (er ▸ f2) q;rcases Ws.mp a with rfl | a
   ·exact⟨hf.nm,WQ m hf.rs⟩
   ·exact hn x a
  | none=>
   cases fs with
   | nil=>rw[gQ q] at a;cases a
   | cons g o=>
    rw[jR q] at a;obtain⟨r,h,l,j,i⟩:=b g We;have c:=hn g We;exact D6 (fs:=o) (f:={g with k:=g.k+1}) ⟨r,h,l,j,i⟩ (λx a=>b x (Wf _ a)) ⟨c.nm,c.rs⟩ (λx a=>hn x (Wf _ a)) x a
theorem yQ{P:Prog}{n:Nat}:∀{fs:List aT},(∀g∈fs,cF P g)->(∀g∈fs,EI P n g)->∀g∈dw P fs,EI P n g
 | [],_,_=>λ_ z=>(nomatch z)
 | f::fs,h,hn=>D6 (h f We) (λg a=>h g (Wf _ a)) (hn f We) λg a=>hn g (Wf _ a)
def Gz{P:Prog}{S:List Hand}{f:aT}{c l:Nat}{r:Row}(e:du P S f c r=some l):aL r l=((i0 r||aL r 0)&&decide (l=0)):=by
 cases r with
 | within _ _=>cases e;rfl
 | all _ _=>cases e;rfl
 | ask _ _ _=>show(l==0)=(true&&decide (l=0));rw[Zr];rfl
 | _=>rfl
def yZ{P:Prog}{f:aT}(st:iQ P f)(er:aQ P f=none):AS P f=1+AS P (sg f)/\(sg f).rs.length<=f.rs.length:=by
 obtain⟨d,d1,⟨c,m,j⟩,n⟩:=st;have hr:=cq d1;have a:aQ P f=c[f.k]?:=by unfold aQ;rw[hr,m];rfl
 rw[a] at er;rcases j with⟨r,z⟩ |⟨_,s,rs,l,r,b,i,h,g⟩
 ·rw[er] at z;cases z
 ·have e:sg f={f with rs:=rs,k:=s.1+1}:=by unfold sg;rw[b]
  rw[e];refine⟨?_,by rw[b,Wq];exact YG _⟩;show y8 (bJ P f.aO) f.rs=1+y8 (bJ P f.aO) rs;rw[b];show(MD (bJ P f.aO) rs s).toNat+_=_;have:MD (bJ P f.aO) rs s=true:=by
   unfold MD;rw[hr,i,Wz,h];exact g
  rw[this];rfl
def nz{P:Prog}{S:List Hand}{n c j:Nat}{f:aT}{fs:List aT}{hd:List (List aq)}(st:iQ P f)(hn:∀g∈f::fs,EI P n g)(i:y7 P (f::fs)=hd.length)(t:∀w ts,aQ P f=some (.call w ts)->(p8 P j).length<=ts.length):
  (∀g∈(gone P S (f::fs,hd) c j).1,EI P (n+1) g)/\(gone P S (f::fs,hd) c j).1.length<=fs.length+2/\(gone P S (f::fs,hd) c j).2.length<=hd.length+1/\y7 P (gone P S (f::fs,hd) c j).1=(gone P S (f::fs,hd) c j).2.length:=by
 have b:=hn f We;have s:∀g∈fs,EI P (n+1) g:=λg a=>let z:=hn g (Wf _ a);⟨z.nm,Xr z.rs⟩;have two:∀{m:aT},EI P (n+1) m->∀g∈m::fs,EI P (n+1) g:=λ{m} h g a=>by
  rcases Ws.mp a with rfl | a
  ·exact h
  ·exact s g a
 rw[dI] at i;cases er:aQ P f with
 | none=>
  have:gone P S (f::fs,hd) c j=(sg f::fs,hd.dropLast):=by unfold gone;dsimp only;rw[er]
  rw[this];obtain⟨p,x⟩:=yZ st er;have v:=b.rs;have o:(sg f).aO=f.aO/\(sg f).nums=f.nums:=by unfold sg;split <;> exact⟨rfl,rfl⟩
  refine⟨two ⟨by rw[o.1,o.2];exact b.nm,by lia⟩,by simp,by rw[ZS];lia,?_⟩;rw[dI,ZS]
  lia
 | some r=>
  by_cases d:nv r=true
  ·cases r with
   | call w ts=>
    have:gone P S (f::fs,hd) c j=(nE P f j ts::f::fs,hd):=by unfold gone;dsimp only;rw[er]
    rw[this];refine⟨λg a=>?_,by simp,YG _,?_⟩
    ·rcases Ws.mp a with rfl | a
     ·refine⟨?_,WL _⟩;show(p8 P j).length<=(ts.map _).length;rw[Wc];exact t w ts er
     ·exact two ⟨b.nm,Xr b.rs⟩ g a
    ·rw[dI,dI,i];exact X5 _
   | _=>cases d
  ·rw[ip er (by simpa using d)];cases u:du P S f c r with
   | none=>exact⟨two ⟨b.nm,Xr b.rs⟩,by simp,YG _,by rw[dI];exact i⟩
   | some l=>
    have q:=Gz u;have e:MD (bJ P f.aO) f.rs (f.k,l)=aL r l:=by
     show((aQ P f).map λr=>aL r l).getD false=_;rw[er];rfl
    have p:AS P {f with rs:=(f.k,l)::f.rs,k:=0}=(aL r l).toNat+AS P f:=by rw[<-e];rfl
    refine⟨two ⟨b.nm,Aan b.rs⟩,by simp,?_,?_⟩
    ·dsimp only
     split
     ·rw[Wn];exact Wj _
     ·exact YG _
    ·dsimp only;rw[dI,p,<-q];cases aL r l with
     | true=>
      rw[Wg rfl,Wn];show 1+_+_=hd.length+1
      lia
     | false=>
      rw[Wh WR];show 0+_+_=_
      lia
structure iw(P:Prog)(n:Nat)(x:Hand):Prop where
 fr:rm P x.1
 nm:∀f∈x.1,EI P n f
 fl:x.1.length<=n+1
 hl:x.2.length<=n
 ct:y7 P x.1=x.2.length
def iw.up{P:Prog}{n:Nat}{x:Hand}(h:iw P n x):iw P (n+1) x:=⟨h.fr,λf a=>⟨(h.nm f a).nm,Xr (h.nm f a).rs⟩,Xr h.fl,Xr h.hl,h.ct⟩
def iw.next{P:Prog}{S:List Hand}{n c j:Nat}{f:aT}{fs:List aT}{hd:List (List aq)}{a:di}(h:iw P n (f::fs,hd))(hn:n<=900)(l:∀w ts,aQ P f=some (.call w ts)->(p8 P j).length<=ts.length)(a:P.ao[j]?=some a)(m:∀r,aQ P f=some r->rW r=true->c<=1):
  iw P (n+1) (dw P (gone P S (f::fs,hd) c j).1,(gone P S (f::fs,hd) c j).2)/\(∀g∈(gone P S (f::fs,hd) c j).1,cF P g)/\(gone P S (f::fs,hd) c j).1.length<=1000:=by
 have hl:=h.fl;have hh:=h.hl;dsimp only at hl hh;rw[Wq] at hl;have ok:=LF (S:=S) (hd:=hd) h.fr.1 h.fr.2 a (by have:=(h.nm f We).rs;lia) m;obtain⟨d,k,i,b⟩:=nz (S:=S) (c:=c) h.fr.1 h.nm h.ct l;generalize gone P S (f::fs,hd) c j=g at ok d k i b ⊢;obtain⟨e,o⟩:=yP ok;exact⟨⟨e,yQ ok d,by dsimp only;lia,by dsimp only;lia,by dsimp only;rw[uL ok];exact b⟩,ok,by lia⟩
def Cg{W:Wd}{ps:List Str}{n:Nat}{r:Row}{l:List Row}(h:bE W ps n r)(hl:l∈aM r):bZ W ps (n+1) l:=by
 cases r with
 | say _=>cases hl
 | call _ _=>cases hl
 | within _ b=>rw[bE] at h;rw[Wr.mp hl];exact h.2.2.2
 | all _ b=>rw[bE] at h;rw[Wr.mp hl];exact h.2.2.2
 | ask _ a b=>
  rw[bE] at h;obtain⟨_,_,_,_,e,d⟩:=h;rcases Ws.mp hl with rfl | hl
  ·exact e
  ·rw[Wr.mp hl];exact d
 | vi _ _ a b c=>
  rw[bE] at h;obtain⟨_,_,_,_,_,_,e,d,f⟩:=h;rcases Ws.mp hl with rfl | hl
  ·exact e
  ·rcases Ws.mp hl with rfl | hl
   ·exact d
   ·rw[Wr.mp hl];exact f
 | either a b=>
  rw[bE] at h;obtain⟨_,_,_,e,d⟩:=h;rcases Ws.mp hl with rfl | hl
  ·exact e
  ·rw[Wr.mp hl];exact d
 | again a=>rw[bE] at h;rw[Wr.mp hl];exact h.2.2
theorem xf{W:Wd}{ps:List Str}:∀(st:List (Nat×Nat)) (n:Nat) (rows a:List Row),bZ W ps n rows->bq rows st=some a->∃m,bZ W ps m a
 | [],n,rows,a,h,e=>by cases e;exact⟨n,h⟩
 | s::st,n,rows,a,h,e=>by
  obtain⟨b,f,d⟩:=a9 e;obtain⟨r,er,c⟩:=a9 f;exact xf st (n+1) b a (Cg (qj h r (Wk er)) (Wk c)) d
def F7{W:Wd}{m:Nat}{P:Prog}(o:Tt W m P):P.ao.map (·.1)=W.ao:=by
 refine Yk λj=>?_;rw[Wt];cases e:P.ao[j]? with
 | some d=>rw[(o.dd j d e).1];rfl
 | none=>
  have:=Xw.mp e;rw[WO (by rw[<-o.dl];exact this)];rfl
def ic{P:Prog}{i:Nat}{d:di}(h:P.ao[i]?=some d):p8 P i=d.2.1:=by unfold p8;rw[h];rfl
noncomputable def c7(P:Prog)(w:Str):Nat:=(P.ao.map (·.1)).idxOf w
structure Dr(P:Prog):Prop where
 ex:∃W fl odd,SU W fl odd/\Tt W 60 P
section
variable {P:Prog} (D:Dr P)
include D
theorem Dr.fit:VI P:=let⟨_,_,_,ok,o⟩:=D.ex;o.fit (by decide) ok.d2
theorem Dr.nd:(P.ao.map (·.1)).Nodup:=let⟨_,_,_,ok,o⟩:=D.ex;by rw[F7 o];exact ok.nd
theorem Dr.six:P.ao.length<=6:=let⟨_,_,_,ok,o⟩:=D.ex;by rw[o.dl];exact ok.d2
theorem Dr.pos:0 < P.ao.length:=let⟨_,_,_,ok,o⟩:=D.ex;by rw[o.dl];exact ok.d1
theorem Dr.par{i:Nat}{d:di}(e:P.ao[i]?=some d):d.2.1.length<=3:=let⟨_,_,_,ok,o⟩:=D.ex;ok.p3 _ (Wk (o.dd i d e).2.1)
theorem Dr.num{i:Nat}{d:di}(e:P.ao[i]?=some d):c7 P d.1=i:=by
 have c:(P.ao.map (·.1))[i]?=some d.1:=by rw[Wt,e];rfl
 obtain⟨b,a⟩:=V9.mp c;unfold c7;rw[<-a];exact D.nd.idxOf_getElem i b
theorem Dr.row{n:Nat}{f:aT}{d:di}{r:Row}(e:P.ao[f.aO]?=some d)(J:EI P n f)(er:aQ P f=some r):Gn P f r/\Sy (bB P f) r/\∀w ts,r=.call w ts->(∃u,P.ao[c7 P w]?=some u/\u.1=w/\u.2.1.length=ts.length)/\ts.length<=3/\∀t∈ts,cb (bB P f) t:=by
 have O:=D.par e;have m:=@Dr.num P D;obtain⟨W,fl,A,ok,o⟩:=D.ex;have hp:=ic e;obtain⟨k,g⟩:∃k,bE W d.2.1 k r:=by
  unfold aQ at er;rw[cq e] at er;obtain⟨C,M,L⟩:=a9 er;obtain⟨k,H⟩:=xf _ 1 _ _ (o.dd _ d e).2.2.1 M;exact⟨k,qj H r (Wk L)⟩
 have h:∀t:Term,uq d.2.1 t->cb (bB P f) t:=λt p=>by
  rcases p.1 with z | z
  ·exact .inl z
  ·exact .inr (Ij (by rw[hp];exact z) J.nm)
 have i:∀l:Lock,ur W d.2.1 l->cb (bB P f) l.2:=λl hl=>h _ hl.2;refine⟨⟨⟨d,e,by lia⟩,?_,?_⟩,?_,?_⟩
 ·intro l hl;cases r with
  | within E b=>rw[bE] at g;rw[Wr.mp hl];exact i _ g.1
  | all ls b=>rw[bE] at g;exact i l (g.1.2.2.2 l hl)
  | ask E a b=>rw[bE] at g;rw[Wr.mp hl];exact i _ g.1
  | _=>cases hl
 ·cases r with
  | all ls b=>rw[bE] at g;exact g.1.2.1
  | _=>simp[cC]
 ·cases r with
  | vi s t a b c=>rw[bE] at g;exact⟨h _ g.1,h _ g.2.1⟩
  | _=>trivial
 ·rintro w ts rfl;rw[bE] at g;obtain⟨⟨j,v,y,x,G⟩,F⟩:=g;have I:j < P.ao.length:=by rw[o.dl];exact(V9.mp y).1
  have q:P.ao[j]?=some P.ao[j]:=Wl I;obtain⟨g1,g2,_⟩:=o.dd j _ q;rw[y] at g1;rw[x] at g2;have g1:w=P.ao[j].1:=Option.some.inj g1;have g2:v=P.ao[j].2.1:=Option.some.inj g2;have N:v.length<=3:=ok.p3 _ (Wk x);refine⟨⟨P.ao[j],by rw[g1,m q];exact q,g1.symm,by rw[<-g2,G]⟩,by lia,λt p=>h t (F t p)⟩
end
def gP(P:Prog)(x:Hand):Nat:=match mZ P x with
 | some (.call w _)=>c7 P w
 | _=>0
def vh(P:Prog)(S:List Hand)(x:Hand)(c:Nat):Hand:=(dw P (gone P S x c (gP P x)).1,(gone P S x c (gP P x)).2)
structure Mk(P:Prog)(n:Nat)(S:List Hand):Prop where
 h:∀x∈S,iw P n x
 l:S.length<=10
def Jl{P:Prog}{S:List Hand}{x:Hand}{c:Nat}(h:c∈oO P S x):c<=1:=by
 unfold oO at h
 split at h
 ·cases h
 ·split at h
  ·rcases Ws.mp h with rfl | h
   ·exact WL _
   ·rw[Wr.mp h];exact Wj _
  ·split at h
   ·rw[Wr.mp h];exact WL _
   ·cases h
section
variable {P:Prog} (D:Dr P) {n:Nat} {S:List Hand} (s:Mk P n S) (hn:n<=900)
include D s hn
theorem Mk.L5{i:Nat}{x:Hand}(e:S[i]?=some x)(h:MH):cv [ax P,bS S,aj i] h=some (.tup ((oO P S x).map aj),h):=by
 have a:=s.h x (Wk e);refine zd e a.fr (λy g=>by have:=(s.h y g).hl;lia) λf fs r ex er=>?_;have c:=a.fr;have b:=a.nm;rw[ex] at c b;obtain⟨d,hd,_⟩:=c.1;exact(D.row hd (b f We) er).1
theorem Mk.gone{i c:Nat}{f:aT}{fs:List aT}{hd:List (List aq)}(e:S[i]?=some (f::fs,hd))(h:MH):cn [ax P,bS S,aj i,aj c] h=some (cK (Mi.gone P S (f::fs,hd) c (gP P (f::fs,hd))),h):=by
 have g:=s.h _ (Wk e);have hl:=g.fl;have hh:=g.hl;have l:=g.ct;dsimp only at hl hh l;rw[Wq] at hl;rw[dI] at l;have a:=g.fr.1;obtain⟨d,b,_⟩:=g.fr.1;have A:=D.par b;cases er:aQ P f with
 | none=>
  have j:hd≠[]:=by
   rintro rfl;have:=(yZ a er).1;rw[Xm] at l
   lia
  exact gone_none e a er (by lia) (hd.getLast j) hd.dropLast (Aaw j).symm
 | some r=>
  obtain⟨T,B,C⟩:=D.row b (g.nm f We) er
  by_cases k:nv r=true
  ·cases r with
   | call w m=>
    obtain⟨⟨z,q,p,x⟩,v,o⟩:=C w m rfl;have u:gP P (f::fs,hd)=c7 P w:=by
     unfold gP;rw[show mZ P (f::fs,hd)=aQ P f from rfl,er]
    rw[u];exact FT e a.ok er (by lia) D.nd (by have:=D.six;lia) (by rw[Wt,q,<-p];rfl) b (by lia) o (by lia)
   | _=>cases k
  ·exact IF e a.ok er (by simpa using k) (by lia) (by lia) T B λy t=>by have:=(s.h y t).hl;lia
theorem Mk.step{i c:Nat}{x:Hand}(e:S[i]?=some x)(p:c∈oO P S x):(∀h,gw [ax P,bS S,wa (i,c)] h=some (.tup [bS (S.set i (vh P S x c)),Ee i (mZ P x)],h))/\Mk P (n+1) (S.set i (vh P S x c)):=by
 have b:=s.h _ (Wk e);obtain⟨fs,hd⟩:=x;cases fs with
 | nil=>cases p
 | cons f fs=>
  obtain⟨d,o,_⟩:=b.fr.1;have hp:=D.pos;obtain⟨g,m,k⟩:∃g,P.ao[gP P (f::fs,hd)]?=some g/\∀w a,aQ P f=some (.call w a)->(p8 P (gP P (f::fs,hd))).length<=a.length:=by
   have hr:mZ P (f::fs,hd)=aQ P f:=rfl;cases er:aQ P f with
   | none=>exact⟨P.ao[0],by unfold gP;rw[hr,er];exact Wl hp,λ_ _ z=>(nomatch z)⟩
   | some r=>
    obtain⟨T,B,C⟩:=D.row o (b.nm f We) er;cases r with
    | call w a=>
     obtain⟨⟨g,q,L,E⟩,J,I⟩:=C w a rfl;have G:gP P (f::fs,hd)=c7 P w:=by unfold gP;rw[hr,er]
     rw[G];exact⟨g,q,λH t z=>by cases z;rw[ic q,E];exact Wj _⟩
    | _=>exact⟨P.ao[0],by unfold gP;rw[hr,er];exact Wl hp,λ_ _ z=>(nomatch z)⟩
  obtain⟨A,v,u⟩:=b.next (S:=S) (c:=c) hn k m λ_ _ _=>Jl p;refine⟨λh=>xN (j:=0) e (by have:=s.l;lia) b.fr.1.ok (s.L5 D hn e) p (s.gone D hn e) v u,λy F=>?_,by rw[Xl];exact s.l⟩;rcases Yh F with z | z
  ·exact(s.h y z).up
  ·rw[z];exact A
end
def Lc{P:Prog}{S:List Hand}{m:Nat×Nat}:m∈OZ P S↔∃x,S[m.1]?=some x/\m.2∈oO P S x:=by
 unfold OZ;rw[List.mem_flatMap];constructor
 ·rintro⟨i,b,hm⟩;have hl:=XE.mp b;unfold DO at hm;rw[Wl hl] at hm;obtain⟨c,d,rfl⟩:=WY.mp hm;exact⟨S[i],Wl hl,d⟩
 ·rintro⟨x,a,hm⟩;refine⟨m.1,XE.mpr (V9.mp a).1,?_⟩;unfold DO;rw[a];exact WY.mpr ⟨m.2,hm,rfl⟩
def Dp(n:Nat)(d:D):Prop:=∃p,qS d=some p/\p.depth<=n/\PyData.eqv p p=true
def rn(n:Nat)(xs:List D):Prop:=∃a,md xs=some a/\PyData.depthAll a<=n/\PyData.eqvAll a a=true
def rn.nil{n:Nat}:rn n []:=⟨[],rfl,by simp[PyData.depthAll],rfl⟩
def rn.cons{n:Nat}{x:D}{xs:List D}(a:Dp n x)(b:rn n xs):rn n (x::xs):=by
 obtain⟨p,i,h,g⟩:=a;obtain⟨c,f,e,d⟩:=b;refine⟨p::c,?_,?_,?_⟩
 ·show(qS x).bind (λa=>(md xs).map λb=>a::b)=_;rw[i,f];rfl
 ·rw[PyData.depthAll];exact Nat.max_le.mpr ⟨h,e⟩
 ·rw[PyData.eqvAll,g,d];rfl
theorem rn.map{a:Type}{n:Nat}{f:a->D}:∀{xs:List a},(∀x∈xs,Dp n (f x))->rn n (xs.map f)
 | [],_=>rn.nil
 | x::xs,h=>rn.cons (h x We) (rn.map λy b=>h y (Wf _ b))
theorem Dp.tup{n:Nat}{xs:List D}(a:rn n xs):Dp (n+1) (.tup xs):=by
 obtain⟨b,e,d,c⟩:=a;refine⟨.tuple b,?_,?_,?_⟩
 ·show(md xs).map _=_;rw[e];rfl
 ·rw[PyData.depth];exact Aan d
 ·rw[PyData.eqv];exact c
theorem Dp.int{n:Nat}(i:Int):Dp n (.int i):=⟨.int i,rfl,by simp[PyData.depth],by simp[PyData.eqv]⟩
noncomputable def pk(p:List Nat):PyData:=.tuple (p.map λ(n:Nat)=>PyData.int (n:Int))
def zY(p:List Nat):qS (bD p)=some (pk p):=by unfold bD;rw[qS,t8];rfl
def DG(p:List Nat):b4 8 (pk p)=true:=by
 show(p.map λ(n:Nat)=>PyData.int (n:Int)).all (b4 7)=true;rw[XH];intro x a;obtain⟨n,_,rfl⟩:=WY.mp a;rfl
def qr(p:List Nat):Co (bD p)=some (pk p):=by
 show(qS (bD p)).bind _=_;rw[zY];show(if b4 8 (pk p)=true then some (pk p) else none)=_;rw[Wg (DG p)]
def Om{p q:List Nat}(h:pk p=pk q):p=q:=by
 have h:p.map (λ(n:Nat)=>PyData.int (n:Int))=q.map (λ(n:Nat)=>PyData.int (n:Int)):=by unfold pk at h;injection h
 exact List.map_inj_right (f:=λn:Nat=>PyData.int (n:Int)) (λx y z=>by injection z with z;exact Int.ofNat.inj z) |>.mp h
def lC(p q:List Nat):zp (pk p) (bD q)=decide (q=p):=by
 unfold zp;rw[zY];show PyData.eqv (pk q) (pk p)=_
 by_cases z:q=p
 ·subst z;rw[eqv_refl 8 (DG q),WI rfl]
 ·rw[WD z];cases e:PyData.eqv (pk q) (pk p) with
  | false=>rfl
  | true=>exact absurd (Om (sD 8 (DG q) (DG p) e)) z
def KP(kvs:List (D×D)):Prop:=∀x∈kvs,(∃q,x.1=bD q)/\gv 0 x.2=true
def dc{kvs:List (D×D)}{q p:List Nat}{v:D}:iS ((bD q,v)::kvs) (pk p)=if q=p then some v else iS kvs (pk p):=by
 unfold iS;rw[Xp,lC]
 by_cases z:q=p
 ·rw[WI z,Wg z];rfl
 ·rw[WD z,Wh z]
def Dz{p:List Nat}{v:D}:∀{kvs:List (D×D)},KP kvs->∀b,iS (m8 kvs (pk p) (bD p) v) (pk b)=if p=b then some v else iS kvs (pk b):=by
 intro kvs o b;unfold m8
 by_cases z:(kvs.any λd=>zp (pk p) d.1)=true
 ·rw[Wg z];have h:∀l:List (D×D),KP l->(l.any λd=>zp (pk p) d.1)=true->iS (l.map λd=>if zp (pk p) d.1=true then(d.1,v) else d) (pk b)=if p=b then some v else iS l (pk b):=by
   intro l
   induction l with
   | nil=>intro _ z;cases z
   | cons x l m=>
    intro hl z;obtain⟨⟨q,j⟩,_⟩:=hl x We;obtain⟨s,r⟩:=x;dsimp only at j;subst j;rw[XY,lC] at z;rw[Wo,lC]
    by_cases c:q=p
    ·subst c;rw[WI rfl,Wg rfl,dc,dc]
     by_cases a:q=b
     ·rw[Wg a,Wg a]
     ·rw[Wh a,Wh a,Wh a];have g:∀l:List (D×D),KP l->iS (l.map λd=>if zp (pk q) d.1=true then(d.1,v) else d) (pk b)=iS l (pk b):=by
       intro l
       induction l with
       | nil=>intro _;rfl
       | cons y l f=>
        intro n;obtain⟨⟨t,i⟩,_⟩:=n y We;obtain⟨A,u⟩:=y;dsimp only at i;subst i;rw[Wo,lC,dc]
        by_cases k:t=q
        ·rw[WI k,Wg rfl,dc,Wh (by rw[k];exact a),Wh (by rw[k];exact a),f λx e=>n x (Wf _ e)]
        ·rw[WD k,Wh WR,dc,f λx e=>n x (Wf _ e)]
      exact g l λx e=>hl x (Wf _ e)
    ·rw[WD c,Wh WR,dc,dc];rw[WD c,AaN] at z;rw[m (λx e=>hl x (Wf _ e)) z]
     by_cases a:q=b
     ·rw[Wg a,Wg a,Wh (λw=>c (a.trans w.symm))]
     ·rw[Wh a,Wh a]
  exact h kvs o z
 ·rw[Wh z];have h:∀l:List (D×D),KP l->¬(l.any λd=>zp (pk p) d.1)=true->iS (l++[(bD p,v)]) (pk b)=if p=b then some v else iS l (pk b):=by
   intro l
   induction l with
   | nil=>intro _ _;rw[Aau,dc]
   | cons x l m=>
    intro hl z;obtain⟨⟨q,j⟩,_⟩:=hl x We;obtain⟨s,r⟩:=x;dsimp only at j;subst j;rw[XY,lC,XQ,not_or] at z;have c:¬q=p:=λw=>z.1 (WI w);rw[Yr,dc,dc,m (λx e=>hl x (Wf _ e)) z.2]
    by_cases a:q=b
    ·rw[Wg a,Wg a,Wh (λw=>c (a.trans w.symm))]
    ·rw[Wh a,Wh a]
  exact h kvs o z
def DA{kvs:List (D×D)}{p:List Nat}{v:D}(d:KP kvs)(b:gv 0 v=true):KP (m8 kvs (pk p) (bD p) v):=by
 unfold m8;intro x a
 split at a
 ·obtain⟨y,e,rfl⟩:=WY.mp a;obtain⟨⟨q,c⟩,f⟩:=d y e
  split
  ·exact⟨⟨q,c⟩,b⟩
  ·exact⟨⟨q,c⟩,f⟩
 ·rcases Xa.mp a with a | a
  ·exact d x a
  ·rw[Wr] at a;subst a;exact⟨⟨p,rfl⟩,b⟩
theorem Em(n:Nat):∀a:List Nat,dY n (a.map aj)=true
 | []=>rfl
 | _::a=>Em n a
theorem KP.cl{n:Nat}:∀{kvs:List (D×D)},KP kvs->xr n (.dcH kvs)=true
 | [],_=>rfl
 | x::kvs,h=>by
  obtain⟨⟨q,c⟩,d⟩:=h x We;have a:=WE.mp (KP.cl (n:=n) (kvs:=kvs) λy b=>h y (Wf _ b));show(dY n ((x::kvs).map (·.1))&&dY n ((x::kvs).map (·.2)))=true;rw[Wo,Wo];refine WE.mpr ⟨WE.mpr ⟨by rw[c];exact Em n q,a.1⟩,WE.mpr ⟨CK (WL _) _ d,a.2⟩⟩
def zZ{kvs:List (D×D)}{k:PyData}{e v:D}:(m8 kvs k e v).length<=kvs.length+1:=by
 unfold m8
 split
 ·rw[Wc];exact YG _
 ·rw[Wn];exact Wj _
noncomputable def strip:List Nat->List Nat->Option (List Nat)
 | [],p=>some p
 | _::_,[]=>none
 | x::a,y::p=>if x=y then strip a p else none
theorem wK:∀(a b p:List Nat),strip (a++b) p=(strip a p).bind (strip b)
 | [],b,p=>by rfl
 | x::a,b,[]=>by rfl
 | x::a,b,y::p=>by
  show(if x=y then strip (a++b) p else none)=(if x=y then strip a p else none).bind _
  by_cases z:x=y
  ·rw[Wg z,Wg z];exact wK a b p
  ·rw[Wh z,Wh z];rfl
theorem mN:∀{a p q:List Nat},strip a p=some q->p=a++q
 | [],p,q,h=>by cases h;rfl
 | x::a,[],q,h=>by cases h
 | x::a,y::p,q,h=>by
  unfold strip at h
  by_cases z:x=y
  ·rw[Wg z] at h;rw[mN h,z];rfl
  ·rw[Wh z] at h;cases h
theorem je:∀(a q:List Nat),strip a (a++q)=some q
 | [],q=>rfl
 | x::a,q=>by show(if x=x then strip a (a++q) else none)=_;rw[Wg rfl];exact je a q
def ov(a:List Nat)(g:List Nat->Option D)(f:List Nat->Option D)(p:List Nat):Option D:=match (strip a p).bind g with
 | some d=>some d
 | none=>f p
def DL(a:List Nat)(f:List Nat->Option D):ov a (λ_=>none) f=f:=by
 funext p
 unfold ov;cases strip a p <;> rfl
def HW{a b:List Nat}{g g' f c:List Nat->Option D}{v:D}(h:∀p,c p=if a++b=p then some v else ov a g f p)(i:g' b=some v)(d:∀q,q≠b->g' q=g q):c=ov a g' f:=by
 funext p
 rw[h p]
 by_cases z:a++b=p
 ·rw[Wg z,<-z];unfold ov;rw[je,Wz,i]
 ·rw[Wh z];unfold ov;cases e:strip a p with
  | none=>rfl
  | some q=>
   rw[Wz,Wz,d q];rintro rfl;exact z (mN e).symm
def MP{a b:List Nat}{g g' c f:List Nat->Option D}(j:∀q,g (b++q)=none)(i:∀q,g' (b++q)=c q)(h:∀q,strip b q=none->g' q=g q):ov (a++b) c (ov a g f)=ov a g' f:=by
 funext p
 unfold ov;rw[wK];cases e:strip a p with
 | none=>rfl
 | some q=>
  rw[Wz,Wz,Wz];cases d:strip b q with
  | none=>rw[h q d];rfl
  | some k=>
   have:=mN d;subst this;rw[Wz,j,i]
def jy:List Row->List Nat->Option Row
 | _,[]=>none
 | lot,[k]=>lot[k]?
 | lot,k::l::q=>(lot[k]?).bind λr=>((aM r)[l]?).bind λa=>jy a q
def kA:List Row->List Nat->Option Nat
 | lot,[]=>some lot.length
 | _,[_]=>none
 | lot,k::l::q=>(lot[k]?).bind λr=>((aM r)[l]?).bind λa=>kA a q
theorem pS:∀(st:List (Nat×Nat)) (rows:List Row) (k:Nat),jy rows (flat st++[k])=(bq rows st).bind λl=>l[k]?
 | [],rows,k=>rfl
 | s::st,rows,k=>by
  show jy rows (s.1::s.2::(flat st++[k]))=_;rw[jy,bq];unfold M0;cases rows[s.1]? with
  | none=>rfl
  | some r=>
   rw[Wz,Wz];cases(aM r)[s.2]? with
   | none=>rfl
   | some l=>exact pS st l k
theorem wN:∀(st:List (Nat×Nat)) (rows:List Row),kA rows (flat st)=(bq rows st).map List.length
 | [],rows=>rfl
 | s::st,rows=>by
  show kA rows (s.1::s.2::flat st)=_;rw[kA,bq];unfold M0;cases rows[s.1]? with
  | none=>rfl
  | some r=>
   rw[Wz,Wz];cases(aM r)[s.2]? with
   | none=>rfl
   | some l=>exact wN st l
def Dx{o i:EM}{v:D}{δ:DS}{h:MH}{Q:DS×MH->Prop}(r:Rn (o δ h) λp=>Rn (i δ p.2) λq=>Rn (xl p.1 q.1 v q.2) λh'=>Q (δ,h')):Rn (D3 o i v δ h) Q:=aN (r.imp λ_ r=>aN (r.imp λ_ r=>BJ r))
def AH{h:MH}{n:Nat}{kvs:List (D×D)}{p:List Nat}{v:D}(e:h[n]?=some (.dcH kvs))(hl:kvs.length<=1000000):xl (.ob n) (bD p) v h=some (h.set n (.dcH (m8 kvs (pk p) (bD p) v))):=by
 unfold xl;dsimp only;rw[e];dsimp only;rw[qr];show(if kvs.length < sizeLine then _ else _)=_;rw[Wg (by rw[show sizeLine=16777216 from rfl];lia)]
def nU{h:MH}{n:Nat}{o:MO}(e:h[n]?=some o):h.set n o=h:=by
 apply Yk;intro i
 by_cases z:n=i
 ·subst z;rw[WW (V9.mp e).1,e]
 ·rw[Wm z]
noncomputable def hh(h:MH)(b c:Nat)(sz a:List (D×D)):MH:=(h.set b (.dcH sz)).set c (.dcH a)
section
variable {h:MH} {si ri:Nat} {sz sz' rw1 rw2:List (D×D)}
def LC(b:h[si]?=some (.dcH sz))(a:h[ri]?=some (.dcH rw1)):hh h si ri sz rw1=h:=by unfold hh;rw[nU b,nU a]
def U3(hn:si≠ri)(hl:si < h.length):(hh h si ri sz rw1)[si]?=some (.dcH sz):=by unfold hh;rw[Wm (Xy hn),WW hl]
def R0(hl:ri < h.length):(hh h si ri sz rw1)[ri]?=some (.dcH rw1):=by unfold hh;rw[WW (by rw[Xl];exact hl)]
def U4{n:Nat}(b:n≠si)(a:n≠ri):(hh h si ri sz rw1)[n]?=h[n]?:=by unfold hh;rw[Wm (Xy a),Wm (Xy b)]
def MW(hn:si≠ri):(hh h si ri sz rw1).set si (.dcH sz')=hh h si ri sz' rw1:=by unfold hh;rw[Z4 _ _ (Xy hn),XJ]
def MX:(hh h si ri sz rw1).set ri (.dcH rw2)=hh h si ri sz rw2:=by unfold hh;rw[XJ]
def R6(hn:si≠ri):hh (hh h si ri sz rw1) si ri sz' rw2=hh h si ri sz' rw2:=by
 show((hh h si ri sz rw1).set si _).set ri _=_;rw[MW hn,MX]
end
def wj(r:Row)(h:MH):ix [aG r] h=some (.tup ((aM r).map fK),h):=by
 cases r <;> rfl
def sP{h:MH}{a b c:Nat}(e:h[a]?=some (.dct [(.inr "size",.ob b),(.inr "row",.ob c)])):aB (.ob a) (.str "size") h=some (.ob b,h)/\aB (.ob a) (.str "row") h=some (.ob c,h):=by
 have hd:dH (.ob a) h=some [(.inr "size",.ob b),(.inr "row",.ob c)]:=by unfold dH;dsimp only;rw[e]
 unfold aB;rw[hd];exact⟨rfl,rfl⟩
def Cz(a:List Nat)(i j:Nat)(hl:a.length<=1000)(h:MH):aI (bD a) (.tup [.int (i:Int),.int (j:Int)]) h=some (bD (a++[i,j]),h):=by
 show aI (.tup (a.map aj)) (.tup [aj i,aj j]) _=_;rw[ck (by rw[Wc];simp;lia)];simp[bD]
def MV(kvs:List (D×D))(p:List Nat):Option D:=iS kvs (pk p)
def BF(rows:List Row)(j m:Nat)(b:Bool):List Nat->Option D
 | []=>none
 | k::q=>if k < j then(jy rows (k::q)).map aG else if k=j/\b=true then(match q with
   | []=>(jy rows [k]).map aG
   | l::a=>if l < m then(jy rows (k::l::a)).map aG else none) else none
def GF(rows:List Row)(j m:Nat):List Nat->Option D
 | []=>some (aj rows.length)
 | k::q=>if k < j then(kA rows (k::q)).map aj else if k=j then(match q with
   | []=>none
   | l::a=>if l < m then(kA rows (k::l::a)).map aj else none) else none
def Hh{rows:List Row}{k:Nat}{q:List Nat}(h:rows.length<=k):jy rows (k::q)=none:=by
 have e:rows[k]?=none:=Xw.mpr h;cases q with
 | nil=>exact e
 | cons l q=>rw[jy,e];rfl
def GO{rows:List Row}{k:Nat}{q:List Nat}(h:rows.length<=k):kA rows (k::q)=none:=by
 have e:rows[k]?=none:=Xw.mpr h;cases q with
 | nil=>rfl
 | cons l q=>rw[kA,e];rfl
def Hi{rows:List Row}{k l:Nat}{q:List Nat}{r:Row}(e:rows[k]?=some r)(h:(aM r).length<=l):jy rows (k::l::q)=none:=by
 rw[jy,e,Wz,Xw.mpr h];rfl
def GP{rows:List Row}{k l:Nat}{q:List Nat}{r:Row}(e:rows[k]?=some r)(h:(aM r).length<=l):kA rows (k::l::q)=none:=by
 rw[kA,e,Wz,Xw.mpr h];rfl
def NP{rows:List Row}{j:Nat}{r:Row}(e:rows[j]?=some r):BF rows j (aM r).length true=BF rows (j+1) 0 false:=by
 funext q
 cases q with
 | nil=>rfl
 | cons k q=>
  show(if k < j then _ else if k=j/\true=true then _ else none)=(if k < j+1 then _ else if k=j+1/\false=true then _ else none)
  by_cases c:k < j
  ·rw[Wg c,Wg (by lia)]
  ·rw[Wh c]
   by_cases b:k=j
   ·subst b;rw[Wg ⟨rfl,rfl⟩,Wg (by lia)];cases q with
    | nil=>rfl
    | cons l q=>
     dsimp only
     by_cases a:l < (aM r).length
     ·rw[Wg a]
     ·rw[Wh a,Hi e (by lia)];rfl
   ·rw[Wh (λz=>b z.1),Wh (by lia),Wh (λz=>by cases z.2)]
def Nz{rows:List Row}{j:Nat}{r:Row}(e:rows[j]?=some r):GF rows j (aM r).length=GF rows (j+1) 0:=by
 funext q
 cases q with
 | nil=>rfl
 | cons k q=>
  show(if k < j then _ else if k=j then _ else none)=(if k < j+1 then _ else if k=j+1 then _ else none)
  by_cases c:k < j
  ·rw[Wg c,Wg (by lia)]
  ·rw[Wh c]
   by_cases d:k=j
   ·subst d;rw[Wg rfl,Wg (by lia)];cases q with
    | nil=>rfl
    | cons l q=>
     dsimp only
     by_cases b:l < (aM r).length
     ·rw[Wg b]
     ·rw[Wh b,GP e (by lia)];rfl
   ·rw[Wh d,Wh (by lia)]
    by_cases a:k=j+1
    ·rw[Wg a];cases q with
     | nil=>rfl
     | cons l q=>dsimp only;rw[Wh (Xh _)]
    ·rw[Wh a]
def Kl(rows:List Row):BF rows rows.length 0 false=λq=>(jy rows q).map aG:=by
 funext q
 cases q with
 | nil=>rfl
 | cons k q=>
  show(if k < rows.length then _ else if k=rows.length/\false=true then _ else none)=_
  by_cases c:k < rows.length
  ·rw[Wg c]
  ·rw[Wh c,Wh (λz=>by cases z.2),Hh (by lia)];rfl
def J3(rows:List Row):GF rows rows.length 0=λq=>(kA rows q).map aj:=by
 funext q
 cases q with
 | nil=>rfl
 | cons k q=>
  show(if k < rows.length then _ else if k=rows.length then _ else none)=_
  by_cases c:k < rows.length
  ·rw[Wg c]
  ·rw[Wh c,GO (by lia)]
   by_cases a:k=rows.length
   ·rw[Wg a];cases q with
    | nil=>rfl
    | cons l q=>dsimp only;rw[Wh (Xh _)];rfl
   ·rw[Wh a];rfl
def Gd(rows:List Row)(i:Nat){r:Row}(e:rows[i]?=some r):aX (rows.take i)+cnt r<=aX rows:=by
 have g:rows=rows.take i++r::rows.drop (i+1):=by
  have b:=(V9.mp e);obtain⟨b,rfl⟩:=b;rw[List.getElem_cons_drop,ZM]
 have f:∀x y:List Row,aX (x++y)=aX x+aX y:=by
  intro x
  induction x with
  | nil=>intro y;simp[aX]
  | cons a x c=>intro y;rw[Yr,aX,c,aX];lia
 have d:=f (rows.take i) (r::rows.drop (i+1));rw[<-g,aX] at d
 lia
def uz(r:Row):(aM r).length<=3:=by cases r <;> simp[aM]
def Ra(rows:List Row):BF rows 0 0 false=λ_=>none:=by
 funext q
 cases q with
 | nil=>rfl
 | cons k q=>unfold BF;dsimp only;rw[Wh (Xh _),Wh (λz=>by cases z.2)]
def QY{rows:List Row}{q:List Nat}(h:q≠[]):GF rows 0 0 q=none:=by
 cases q with
 | nil=>exact absurd rfl h
 | cons k q=>
  unfold GF;dsimp only;rw[Wh (Xh _)]
  by_cases c:k=0
  ·rw[Wg c];cases q with
   | nil=>rfl
   | cons l q=>dsimp only;rw[Wh (Xh _)]
  ·rw[Wh c]
def Dn{rows:List Row}{j:Nat}{r:Row}(e:rows[j]?=some r):BF rows j 0 true [j]=some (aG r)/\∀q,q≠[j]->BF rows j 0 true q=BF rows j 0 false q:=by
 constructor
 ·show(if j < j then _ else if j=j/\true=true then(jy rows [j]).map aG else none)=_;rw[Wh (Xz _),Wg ⟨rfl,rfl⟩];show(rows[j]?).map aG=_;rw[e];rfl
 ·intro q b;cases q with
  | nil=>rfl
  | cons k q=>
   show(if k < j then _ else if k=j/\true=true then _ else none)=(if k < j then _ else if k=j/\false=true then _ else none)
   by_cases c:k < j
   ·rw[Wg c,Wg c]
   ·rw[Wh c,Wh c,Wh (c:=k=j/\false=true) (λz=>by cases z.2)]
    by_cases a:k=j
    ·rw[Wg ⟨a,rfl⟩];cases q with
     | nil=>exact absurd (by rw[a]) b
     | cons l q=>dsimp only;rw[Wh (Xh _)]
    ·rw[Wh (λz=>a z.1)]
def Vj{rows a:List Row}{j m:Nat}{r:Row}(e:rows[j]?=some r)(h:(aM r)[m]?=some a):
  ((∀q,BF rows j m true ([j,m]++q)=none)/\(∀q,BF rows j (m+1) true ([j,m]++q)=(jy a q).map aG)/\∀q,strip [j,m] q=none->BF rows j (m+1) true q=BF rows j m true q)/\
  (∀q,GF rows j m ([j,m]++q)=none)/\(∀q,GF rows j (m+1) ([j,m]++q)=(kA a q).map aj)/\∀q,strip [j,m] q=none->GF rows j (m+1) q=GF rows j m q:=by
 refine⟨⟨λq=>?_,λq=>?_,λq g=>?_⟩,λq=>?_,λq=>?_,λq g=>?_⟩
 ·show(if j < j then _ else if j=j/\true=true then(if m < m then _ else none) else none)=none;rw[Wh (Xz _),Wg ⟨rfl,rfl⟩,Wh (Xz _)]
 ·show(if j < j then _ else if j=j/\true=true then(if m < m+1 then(jy rows (j::m::q)).map aG else none) else none)=_;rw[Wh (Xz _),Wg ⟨rfl,rfl⟩,Wg (Yb _),jy,e,Wz,h,Wz]
 ·cases q with
  | nil=>rfl
  | cons k q=>
   show(if k < j then _ else if k=j/\true=true then _ else none)=(if k < j then _ else if k=j/\true=true then _ else none)
   by_cases c:k < j
   ·rw[Wg c,Wg c]
   ·rw[Wh c,Wh c]
    by_cases b:k=j
    ·subst b;rw[Wg ⟨rfl,rfl⟩,Wg ⟨rfl,rfl⟩];cases q with
     | nil=>rfl
     | cons l q=>
      dsimp only;have hl:l≠m:=λz=>by
       subst z;have d:=je [k,l] q;rw[show[k,l]++q=k::l::q from rfl,g] at d;cases d
      by_cases f:l < m
      ·rw[Wg f,Wg (by lia)]
      ·rw[Wh f,Wh (by lia)]
    ·rw[Wh (λz=>b z.1),Wh (λz=>b z.1)]
 ·show(if j < j then _ else if j=j then(if m < m then _ else none) else none)=none;rw[Wh (Xz _),Wg rfl,Wh (Xz _)]
 ·show(if j < j then _ else if j=j then(if m < m+1 then(kA rows (j::m::q)).map aj else none) else none)=_;rw[Wh (Xz _),Wg rfl,Wg (Yb _),kA,e,Wz,h,Wz]
 ·cases q with
  | nil=>rfl
  | cons k q=>
   show(if k < j then _ else if k=j then _ else none)=(if k < j then _ else if k=j then _ else none)
   by_cases c:k < j
   ·rw[Wg c,Wg c]
   ·rw[Wh c,Wh c]
    by_cases b:k=j
    ·subst b;rw[Wg rfl,Wg rfl];cases q with
     | nil=>rfl
     | cons l q=>
      dsimp only;have hl:l≠m:=λz=>by
       subst z;have d:=je [k,l] q;rw[show[k,l]++q=k::l::q from rfl,g] at d;cases d
      by_cases f:l < m
      ·rw[Wg f,Wg (by lia)]
      ·rw[Wh f,Wh (by lia)]
    ·rw[Wh b,Wh b]
def wz(r:Row)(m:Nat):Nat:=(((aM r).take m).map aX).sum
def Ga{r:Row}{m:Nat}{l:List Row}(e:(aM r)[m]?=some l):wz r (m+1)=wz r m+aX l:=by
 unfold wz;rw[YH,e];simp
def LW(r:Row)(m:Nat):wz r m+1<=cnt r:=by
 have a:((aM r).map aX).sum=wz r m+(((aM r).drop m).map aX).sum:=by
  unfold wz;rw[<-Aas,<-Wv,ZM]
 have:=AR r
 lia
def Jf(r:Row):wz r (aM r).length+1=cnt r:=by
 have:=AR r;unfold wz;rw[Xf]
 lia
structure TR(sz0 rw0:List (D×D))(a:List Nat)(g1 g2:List Nat->Option D)(n1 n2:Nat)(sz rw1:List (D×D)):Prop where
 ks:KP sz
 kr:KP rw1
 ls:sz.length<=sz0.length+n1
 lr:rw1.length<=rw0.length+n2
 es:MV sz=ov a g1 (MV sz0)
 er:MV rw1=ov a g2 (MV rw0)
theorem sX:∀(n:Nat)(rows:List Row)(a:List Nat)(h:MH)(i e f:Nat)(sz rw1:List (D×D)),dP rows<=n->a.length+2*n<=100->h[i]?=some (.dct [(.inr "size",.ob e),(.inr "row",.ob f)])->h[e]?=some (.dcH sz)->h[f]?=some (.dcH rw1)->e≠f->KP sz->KP rw1->sz.length+1+3*aX rows<=10000->rw1.length+aX rows<=10000->
  ∃c d,bY n [fK rows,bD a,.ob i] h=some (.ob i,hh h e f c d)/\TR sz rw1 a (λq=>(kA rows q).map aj) (λq=>(jy rows q).map aG) (1+3*aX rows) (aX rows) c d
 | 0,rows,a,h,i,e,f,sz,rw1,hn,_,_,_,_,_,_,_,_,_=>by
  exfalso;cases rows with
  | nil=>simp[dP] at hn
  | cons r rs=>rw[dP] at hn;lia
 | n+1,rows,a,h,i,e,f,sz,rw1,hn,ha,G,es,er,t,ks,kr,ls,lr=>by
  have M:i≠e:=λz=>by rw[z,es] at G;cases G
  have N:i≠f:=λz=>by rw[z,er] at G;cases G
  have O:=(V9.mp es).1;have I:=(V9.mp er).1;have u:∀x y,(hh h e f x y)[i]?=some (.dct [(.inr "size",.ob e),(.inr "row",.ob f)]):=λx y=>by rw[U4 M N];exact G
  have e0:Rn (bY (n+1) [fK rows,bD a,.ob i] h) λp=>∃c d,p=(.ob i,hh h e f c d)/\TR sz rw1 a (λq=>(kA rows q).map aj) (λq=>(jy rows q).map aG) (1+3*aX rows) (aX rows) c d:=by
   unfold bY;refine aY ?_;nofun;refine rv (DT rows h) ?_;nofun;refine Dx ?_;nofun;refine rv (sP G).1 ?_;nofun;refine rv (AH es (by lia)) ?_;have Q:h.set e (.dcH (m8 sz (pk a) (bD a) (aj rows.length)))=hh h e f (m8 sz (pk a) (bD a) (aj rows.length)) rw1:=by
    rw[<-MW t (h:=h) (sz:=sz) (rw1:=rw1),LC es er]
   show j0 _ _ (Fl.nx,entry 7 [fK rows,bD a,D.ob i],List.set h e (MO.dcH (m8 sz (pk a) (bD a) (aj rows.length))));rw[Q];nofun;refine lR ?_;nofun;refine⟨_,_,_,rfl,rfl,?_⟩;rw[dW];refine eS (λj w A=>∃(X U E C:Option D)(c d:List (D×D)),w=[some (fK rows),some (bD a),some (.ob i),X,U,E,C]/\A=hh h e f c d/\TR sz rw1 a (GF rows j 0) (BF rows j 0 false) (1+3*aX (rows.take j)) (aX (rows.take j)) c d)
    ⟨_,_,_,_,_,_,rfl,rfl,DA ks rfl,kr,WQ zZ (by lia),W9 _ _,?_,?_⟩ (λ_ _ _ _ _=>rfl) ?_ ?_
   ·refine HW (b:=[]) (g:=λ_=>none) (v:=aj rows.length) (λp=>?_) rfl λq hq=>QY hq;rw[DL,Xb];exact Dz ks p
   ·rw[Ra,DL]
   ·rintro j x w A P ⟨X,U,E,C,c,d,rfl,rfl,T⟩;obtain⟨r,hr,rfl⟩:=oG P;have R:=Wk hr;have hct:=Gd rows j hr;have hle:=T.ls;have Y:=T.lr;have hc1:=Jf r;nofun;refine Dx ?_;nofun;refine rv (sP (u _ _)).2 ?_;nofun;refine rv (FZ a j (by lia) _) ?_;nofun;refine rv (AH (R0 I) (by lia)) ?_;rw[MX];nofun;refine lR ?_;nofun;refine rv (wj r _) ?_;nofun;refine⟨_,_,_,rfl,rfl,?_⟩;refine eS (λm w A=>∃(E C:Option D)(c d:List (D×D)),w=[some (fK rows),some (bD a),some (.ob i),some (.int j),some (aG r),E,C]/\A=hh h e f c d/\TR sz rw1 a (GF rows j m) (BF rows j m true) (1+3*aX (rows.take j)+(m+3*wz r m)) (aX (rows.take j)+1+wz r m) c d)
     ⟨_,_,_,_,rfl,rfl,T.ks,DA T.kr (Ji 0 r),by have:=T.ls;lia,WQ zZ (by lia),T.es,?_⟩ (λ_ _ _ _ _=>rfl) ?_ ?_
    ·refine HW (b:=[j]) (g:=BF rows j 0 false) (v:=aG r) (λp=>?_) (Dn hr).1 (Dn hr).2;rw[<-T.er];exact Dz T.kr p
    ·rintro m x w A P ⟨E,C,o,s,rfl,rfl,k⟩;obtain⟨l,hl,rfl⟩:=oG P;have S:=Wk hl;have hml:m < (aM r).length:=(V9.mp hl).1;have h3:=uz r;have hcs:=Ga hl;have hcl:=LW r (m+1);have hl3:=k.ls;have hl4:=k.lr;nofun;refine rv (Cz a j m (by lia) _) ?_;nofun;obtain⟨J,L,e4,H⟩:=sX n l (a++[j,m]) (hh h e f o s) i e f o s (by have:=Fz R;have:=Fy S;lia) (by simp;lia) (u _ _) (U3 t O) (R0 I) t k.ks k.kr (by lia) (by lia);refine rv e4 ?_;rw[R6 t];have F:=Vj hr hl;refine⟨_,_,J,L,rfl,rfl,H.ks,H.kr,by have:=H.ls;lia,by have:=H.lr;lia,?_,?_⟩
     ·rw[H.es,k.es];exact MP F.2.1 F.2.2.1 F.2.2.2
     ·rw[H.er,k.er];exact MP F.1.1 F.1.2.1 F.1.2.2
    ·rintro w A ⟨E,C,o,s,rfl,rfl,k⟩;rw[dG,Wc] at k;have htk:aX (rows.take (j+1))=aX (rows.take j)+cnt r:=by
      have h2:∀x y:List Row,aX (x++y)=aX x+aX y:=by
       intro x
       induction x with
       | nil=>intro y;simp[aX]
       | cons a x Z=>intro y;rw[Yr,aX,Z,aX];lia
      rw[YH,hr,YV,h2];simp[aX]
     have h3:=uz r;refine⟨_,_,_,_,o,s,rfl,rfl,k.ks,k.kr,by have:=k.ls;lia,by have:=k.lr;lia,?_,?_⟩
     ·rw[k.es,Nz hr]
     ·rw[k.er,NP hr]
   ·rintro w A ⟨X,U,E,C,c,d,rfl,rfl,T⟩;rw[dG,Wc] at T;nofun;refine⟨c,d,rfl,T.ks,T.kr,?_,?_,?_,?_⟩
    ·have:=T.ls;rw[Xf] at this;exact this
    ·have:=T.lr;rw[Xf] at this;exact this
    ·rw[T.es,J3]
    ·rw[T.er,Kl]
  obtain⟨p,e1,c,d,rfl,T⟩:=e0;exact⟨c,d,e1,T⟩
theorem sC{ws:W}{g:GM}{e:EM}:∀{xs:List D} {δ:DS} {h:MH} (J:Nat->List D->DS->MH->Prop),J 0 [] δ h->(∀i ys δ h,J i ys δ h->kc ws h=true)->
  (∀i x ys δ h,xs[i]?=some x->J i ys δ h->Rn (g x δ h) λq=>Rn (e q.1 q.2) λy=>J (i+1) (ys++[y.1]) q.1 y.2)->Rn (bO ws g cV e xs δ h) λp=>∃a,J xs.length p.1 a p.2
 | [],δ,h,J,b,c,_=>by
  unfold bO;rw[Wg (c 0 [] δ h b)];exact⟨_,rfl,δ,b⟩
 | x::xs,δ,h,J,b,c,d=>by
  obtain⟨q,n,y,m,f⟩:=d 0 x [] δ h rfl b;obtain⟨p,l,a,hp⟩:=sC (ws:=ws) (g:=g) (e:=e) (xs:=xs) (δ:=q.1) (h:=y.2) (λi ys δ h=>J (i+1) (y.1::ys) δ h) f (λi ys δ h=>c (i+1) (y.1::ys) δ h) λi x ys δ h j b=>d (i+1) x (y.1::ys) δ h j b;unfold bO;rw[Wg (c 0 [] δ h b),n];dsimp only[Option.bind_some];have k:cV q.1 q.2=some (true,q.2):=rfl;rw[k];dsimp only[Option.bind_some];rw[Wg rfl,m];dsimp only[Option.bind_some];rw[l];exact⟨_,rfl,a,hp⟩
structure SY(h:MH)(lo hi:Nat)(rows:List Row)(t:D):Prop where
 ex:∃ti si ri sz rw1,t=.ob ti/\h[ti]?=some (.dct [(.inr "size",.ob si),(.inr "row",.ob ri)])/\h[si]?=some (.dcH sz)/\h[ri]?=some (.dcH rw1)/\(lo<=ti/\ti < hi)/\(lo<=si/\si < hi)/\(lo<=ri/\ri < hi)/\
  (MV sz=λp=>(kA rows p).map aj)/\(MV rw1=λp=>(jy rows p).map aG)
def SY.mono{h h':MH}{lo hi a b:Nat}{rows:List Row}{t:D}(T:SY h lo hi rows t)(k:∀i,lo<=i->i < hi->h'[i]?=h[i]?)(s:a<=lo)(r:hi<=b):SY h' a b rows t:=by
 obtain⟨g,j,l,sz,c,q,p,o,n,f,e,d,m⟩:=T.ex;exact⟨g,j,l,sz,c,q,(k _ f.1 f.2).trans p,(k _ e.1 e.2).trans o,(k _ d.1 d.2).trans n,⟨by lia,by lia⟩,⟨by lia,by lia⟩,⟨by lia,by lia⟩,m⟩
def gV(P:Prog)(h:MH)(lo hi:Nat)(ts:List D):Prop:=∀(i:Nat)(d:di),P.ao[i]?=some d->∃t,ts[i]?=some t/\SY h lo hi d.2.2 t
theorem gV.mono{P:Prog}{h h':MH}{lo hi:Nat}{ts:List D}(T:gV P h lo hi ts)(k:∀i,lo<=i->i < hi->h'[i]?=h[i]?):gV P h' lo hi ts:=λi d e=>let⟨t,b,a⟩:=T i d e;⟨t,b,a.mono k (Wj _) (Wj _)⟩
def HX(g:List Nat->Option D):ov [] g (λ_=>none)=g:=by
 funext p
 unfold ov;show(match g p with | some d=>some d | none=>none)=g p;cases g p <;> rfl
def Hy{m:Mm}{δ:DS}{h:MH}{Q:D×MH->Prop}(hh:Rn (m δ h) λp=>p.1.length<=15/\Q (.ob p.2.length,p.2++[.dct (fy [] p.1)])):Rn (CF m δ h) Q:=aN (hh.imp λp ⟨l,q⟩=>by rw[Wg l];exact⟨_,rfl,q⟩)
def Hx{δ:DS}{h:MH}{Q:D×MH->Prop}(q:Q (.ob h.length,h++[.dcH []])):Rn (LU δ h) Q:=⟨_,rfl,q⟩
def zC{P:Prog}{h:MH}(hn:∀d∈P.ao,dP d.2.2<=8/\aX d.2.2<=1000)(hl:P.ao.length<=1000)(S:Cl h):Rn (fH [ax P] h) λp=>∃ts g,p=(.lv ts,h++g)/\gV P (h++g) h.length (h.length+g.length) ts/\ts.length=P.ao.length/\Cl (h++g):=by
 refine aY ?_;nofun;refine rv (a:=(P.ao.map gS,[],h)) rfl ?_;refine(sC (λi s C G=>∃(A:Option D)(g:MH),C=[A]/\G=h++g/\s.length=i/\(∀(k:Nat)(d:di),k < i->P.ao[k]?=some d->∃t,s[k]?=some t/\SY (h++g) h.length (h.length+g.length) d.2.2 t)/\Cl (h++g)) ⟨_,[],rfl,by rw[Xb],rfl,λk d F=>absurd F (Xh _),by rw[Xb];exact S⟩ (λ_ _ _ _ _=>rfl) ?_).imp ?_
 ·rintro i x s C G E ⟨A,g,rfl,rfl,l,r,y⟩;rw[Wt] at E;obtain⟨d,hd,rfl⟩:=Xi.mp E;obtain⟨n1,n2⟩:=hn d (Wk hd);nofun;refine rv (a:=(fK d.2.2,h++g)) rfl ?_;nofun;refine Hy ?_;refine Dv ?_;nofun;refine Hx ⟨_,rfl,?_⟩;refine Dv ?_;nofun;refine Hx ⟨_,rfl,?_⟩;refine rv (a:=([],_)) rfl ⟨by show 2<=15;decide,?_⟩;nofun;generalize o:(h++g).length=N;have n:(h++g++[MO.dcH []]).length=N+1:=by rw[Wn,o];rfl
  have w:(h++g++[MO.dcH []]++[MO.dcH []]).length=N+2:=by rw[Wn,n];rfl
  have U:h.length+g.length=N:=by rw[<-o,Wn]
  show Rn (bY 8 [fK d.2.2,bD [],.ob (h++g++[MO.dcH []]++[MO.dcH []]).length] (h++g++[MO.dcH []]++[MO.dcH []]++[MO.dct [(.inr "size",.ob N),(.inr "row",.ob (h++g++[MO.dcH []]).length)]])) _;rw[n,w];have j:∀a b c:MO,h++g++[a]++[b]++[c]=(h++g)++[a,b,c]:=λa b c=>by simp
  rw[j];have I:∀(a b c:MO),((h++g)++[a,b,c])[N]?=some a/\((h++g)++[a,b,c])[N+1]?=some b/\((h++g)++[a,b,c])[N+2]?=some c:=λa b c=>by
   subst o;refine⟨?_,?_,?_⟩
   ·rw[Wy (Wj _),X6];rfl
   ·rw[Wy (W9 _ _),Zy];rfl
   ·rw[Wy (W9 _ _),Zy];rfl
  obtain⟨O,M,L⟩:=I (.dcH []) (.dcH []) (.dct [(.inr "size",.ob N),(.inr "row",.ob (N+1))]);obtain⟨sz,f,Y,T⟩:=sX 8 d.2.2 [] _ (N+2) N (N+1) [] [] n1 (by decide) L O M (by lia) (λ_ z=>(nomatch z)) (λ_ z=>(nomatch z)) (by simp;lia) (by simp;lia);refine rv Y ?_;have X:hh ((h++g)++[MO.dcH [],.dcH [],.dct [(.inr "size",.ob N),(.inr "row",.ob (N+1))]]) N (N+1) sz f=h++(g++[MO.dcH sz,.dcH f,.dct [(.inr "size",.ob N),(.inr "row",.ob (N+1))]]):=by
   unfold hh;subst o;rw[Y4 _ _ (Wj _),X6,Y4 _ _ (W9 _ _),Zy,<-W8];rfl
  rw[X];have q:=I (.dcH sz) (.dcH f) (.dct [(.inr "size",.ob N),(.inr "row",.ob (N+1))]);rw[W8] at q;refine⟨_,_,rfl,rfl,by rw[Wn,l];rfl,λk Z F e=>?_,?_⟩
  ·by_cases c:k < i
   ·obtain⟨t,R,Q⟩:=r k Z c e;refine⟨t,by rw[Wx (by lia)];exact R,Q.mono (λm _ hm=>?_) (Wj _) (by rw[Wn];lia)⟩;rw[<-W8,Wx (by rw[Wn];exact hm)]
   ·have u:k=i:=by lia
    subst u;rw[hd] at e;cases e;refine⟨.ob (N+2),by rw[Wy (by lia),l,X6];rfl,N+2,N,N+1,sz,f,rfl,q.2.2,q.1,q.2.1,?_,?_,?_,?_,?_⟩
    ·rw[Wn];simp;lia
    ·rw[Wn];simp;lia
    ·rw[Wn];simp;lia
    ·rw[T.es];exact HX _
    ·rw[T.er];exact HX _
  ·have c1:Cl (h++g++[.dcH sz]):=y.snoc T.ks.cl;have c2:Cl (h++g++[.dcH sz]++[.dcH f]):=c1.snoc T.kr.cl;have H:Cl (h++g++[.dcH sz]++[.dcH f]++[.dct [(.inr "size",.ob N),(.inr "row",.ob (N+1))]]):=c2.snoc (by
    rw[Wn,Wn,o];show(decide (N < _)&&(decide (N+1 < _)&&true))=true;rw[WI (by simp <;> lia),WI (by simp <;> lia)];rfl)
   rw[j] at H;rw[<-W8];exact H
 ·rintro p ⟨J,A,g,hd,v,l,r,y⟩;rw[Wc] at l r;refine⟨by rw[l,show sizeLine=16777216 from rfl];lia,?_⟩;nofun;exact⟨p.1,g,by rw[v],λi d e=>r i d (V9.mp e).1 e,l,y⟩
def LM{xs:List D}{i:Nat}{d:D}{h:MH}(e:xs[i]?=some d):aB (.lv xs) (aj i) h=some (d,h):=by
 have a:=(V9.mp e).1;unfold aB;show((df (.lv xs) h).bind λp=>(hW p.1 (i:Int)).map λz=>(z,h))=_;show((hW xs (i:Int)).map λz=>(z,h))=_;rw[oP e];rfl
def Ed{h:MH}{n:Nat}{kvs:List (D×D)}{p:List Nat}(e:h[n]?=some (.dcH kvs)):AK (.ob n) (bD p) h=(MV kvs p).map λd=>(d,h):=by
 unfold AK wx;dsimp only;rw[e];dsimp only[Option.bind_some];rw[qr];rfl
def Ar{h:MH}{n:Nat}{kvs:List (D×D)}{p:List Nat}{x:D}(e:h[n]?=some (.dcH kvs)):As (.ob n) [bD p,x] h=some ((MV kvs p).getD x,h)/\xj (.ob n) h=true:=by
 have hd:wx (.ob n) h=some kvs:=by unfold wx;dsimp only;rw[e]
 constructor
 ·unfold As;rw[hd];dsimp only[Option.bind_some];rw[qr];rfl
 ·unfold xj;rw[hd];rfl
structure V6(h:MH)(ts:List D)(i:Nat)(rows:List Row)(t:D)(si ri:Nat):Prop where
 t0:aB (.lv ts) (aj i) h=some (t,h)
 s:aB t (.str "size") h=some (.ob si,h)
 r:aB t (.str "row") h=some (.ob ri,h)
 sz:∀{st:List (Nat×Nat)} {lot:List Row},bq rows st=some lot->AK (.ob si) (bD (flat st)) h=some (aj lot.length,h)
 rw:∀{st:List (Nat×Nat)} {lot:List Row} {k:Nat} {r:Row},bq rows st=some lot->lot[k]?=some r->AK (.ob ri) (bA st k) h=some (aG r,h)
 gt:∀{st:List (Nat×Nat)} {lot:List Row} {k:Nat},bq rows st=some lot->As (.ob ri) [bA st k,.bb] h=some (nX lot[k]?,h)/\xj (.ob ri) h=true
def gV.at_{P:Prog}{h:MH}{lo hi:Nat}{ts:List D}(T:gV P h lo hi ts){i:Nat}{d:di}(e:P.ao[i]?=some d):∃t b c,V6 h ts i d.2.2 t b c:=by
 obtain⟨t,n,⟨l,b,c,sz,m,rfl,j,q,f,_,_,_,o,g⟩⟩:=T i d e;refine⟨.ob l,b,c,LM n,(sP j).1,(sP j).2,λ{st a} hl=>?_,λ{st a k r} hl hr=>?_,λ{st a k} hl=>?_⟩
 ·rw[Ed q,o];dsimp only;rw[wN,hl];rfl
 ·unfold bA;rw[Ed f,g];dsimp only;rw[pS,hl,Wz,hr];rfl
 ·unfold bA;refine⟨?_,(Ar (p:=[]) (x:=.bb) f).2⟩;rw[(Ar f).1,g];dsimp only;rw[pS,hl,Wz];cases a[k]? <;> rfl
def ie(st:List (Nat×Nat))(k:Nat)(h:MH)(hl:st.length<=1000):br [bA st k] h=some (bA st (k+1),h):=by
 have c:Rn (br [bA st k] h) λp=>p=(bA st (k+1),h):=by
  refine aY ?_;nofun;refine⟨_,rfl,rv (p7 st k _) ?_⟩;nofun;refine rv (iX _ _ _) ?_;nofun;refine rv (a:=(aj (k+1),h)) rfl ?_;nofun;refine rv (ck (ys:=[aj (k+1)]) (by rw[Wc,i5];simp;lia)) ?_;show(D.tup ((flat st).map aj++[aj (k+1)]),h)=(D.tup ((flat st++[k+1]).map aj),h);rw[Wv];rfl
 obtain⟨p,b,rfl⟩:=c;exact b
def Dp.fr(f:aT):Dp 2 (cQ f):=Dp.tup (rn.cons (Dp.int _) (rn.cons (Dp.tup (rn.map λi _=>Dp.int i)) (rn.cons (Dp.tup (rn.map λi _=>Dp.int _)) rn.nil)))
def ne_nil{h:MH}{n m:Nat}{xs:List D}(e:h[n]?=some (.lst xs))(hd:rn m xs)(hm:m<=60):rY (.ob n) (.lv []) h=some (.bl (!xs.isEmpty),h):=by
 obtain⟨c,f,j,_⟩:=hd;have d:dH (.ob n) h=none:=by unfold dH;dsimp only;rw[e]
 unfold rY M1;rw[d];show(LQ (.ob n) (.lv []) h).map _=_;unfold LQ;have hr:Bf h (.ob n)=some (.list c):=by unfold Bf;dsimp only;rw[e];dsimp only;rw[f];rfl
 rw[hr];show((if(PyData.list c).depth<=64/\(PyData.list []).depth<=64 then some (PyData.eqv (.list c) (.list [])) else none).map _)=_;rw[Wg ⟨by rw[PyData.depth];lia,by simp[PyData.depth,PyData.depthAll]⟩];cases xs with
 | nil=>cases f;rfl
 | cons x xs=>
  obtain⟨p,_,g⟩:=a9 (show(qS x).bind (λa=>(md xs).map λb=>a::b)=some c from f);obtain⟨i,_,rfl⟩:=dS g;rfl
def Cu{h:MH}{n:Nat}{fs:List aT}(e:h[n]?=some (.lst (fs.reverse.map cQ))):rY (.ob n) (.lv []) h=some (.bl (!fs.isEmpty),h):=by
 rw[ne_nil e (rn.map λf _=>Dp.fr f) (by decide)];cases fs with
 | nil=>rfl
 | cons f fs=>simp
def DN{h:MH}{n:Nat}{xs:List D}{y:D}(e:h[n]?=some (.lst (xs++[y]))):aB (.ob n) (.int (-1)) h=some (y,h):=by
 have a:dH (.ob n) h=none:=by unfold dH;dsimp only;rw[e]
 unfold aB;rw[a];show((df (.ob n) h).bind λp=>(hW p.1 (-1)).map λz=>(z,h))=_;rw[lO e];show((hW (xs++[y]) (-1)).map λz=>(z,h))=_;rw[u6];rfl
def FE(P:Prog)(f:aT):Nat:=((bq (bJ P f.aO) f.rs.reverse).map List.length).getD 0
def FL(P:Prog):List aT->Prop
 | []=>True
 | f::fs=>f.k<=FE P f/\∀g∈fs,g.k < FE P g
def FL.pop{P:Prog}{f g:aT}{gs:List aT}(h:FL P (f::g::gs)):FL P ({g with k:=g.k+1}::gs):=⟨h.2 g We,λx a=>h.2 x (Wf _ a)⟩
def lV{P:Prog}{f:aT}{d:di}{a:List Row}(e:P.ao[f.aO]?=some d)(hl:bq d.2.2 f.rs.reverse=some a):FE P f=a.length:=by
 unfold FE;rw[cq e,hl];rfl
noncomputable def DP(fs:List aT):Nat:=(fs.map λf=>f.rs.length+1).sum
def kY(f:aT)(fs:List aT):DP (f::fs)=f.rs.length+1+DP fs:=rfl
def RW(r:Row)(h:MH):r8 (.str (cz r)) (.tup [.str "within",.str "all"]) h=some (.bl (i0 r),h):=by cases r <;> rfl
def PF(r:Row)(h:MH):∃b,bu (.str (cz r)) (.str "ask") h=some (.bl b,h)/\∀l,aL r l=(i0 r||(b&&l==0)):=by
 cases r with
 | ask _ _ _=>exact⟨true,rfl,λl=>by show(l==0)=(false||(true&&l==0));simp⟩
 | within _ _=>exact⟨false,rfl,λ_=>rfl⟩
 | all _ _=>exact⟨false,rfl,λ_=>rfl⟩
 | _=>exact⟨false,rfl,λ_=>rfl⟩
def OP{a b c:EM}{δ:DS}{h:MH}{x y z:Bool}(j:a δ h=some (.bl x,h))(i:b δ h=some (.bl y,h))(g:c δ h=some (.bl z,h)):Sm.ET (au a) (Sm.nO (au b) (au c)) δ h=some (x||(y&&z),h):=by
 have f:au a δ h=some (x,h):=by unfold au;rw[j];rfl
 have e:au b δ h=some (y,h):=by unfold au;rw[i];rfl
 have d:au c δ h=some (z,h):=by unfold au;rw[g];rfl
 unfold Sm.ET Sm.nO;rw[f];cases x with
 | true=>rfl
 | false=>
  show((au b δ h).bind _)=_;rw[e];cases y with
  | true=>exact d
  | false=>rfl
def I8(r:Row)(h:MH):bu (.str (cz r)) (.str "again") h=some (.bl (lX r),h):=by cases r <;> rfl
def cW{h:MH}{n:Nat}{o:MO}(hn:n < h.length):(h.set n o)[n]?=some o:=WW hn
def nS{P:Prog}{fs:List aT}{h:MH}{lo hi n:Nat}{ts:List D}(T:gV P h lo hi ts)(hn:h[n]?=some (.lst (fs.reverse.map cQ)))(hlo:¬(lo<=n/\n < hi))(ok:∀f∈fs,cF P f)(fl:FL P fs)(hl:fs.length<=1000)(hm:DP fs < 1000000):
  bQ [.lv ts,.ob n] h=some (.ob n,h.set n (.lst ((dw P fs).reverse.map cQ))):=by
 have H:=(V9.mp hn).1;have Tm:∀o,gV P (h.set n o) lo hi ts:=λo=>T.mono λi h1 h2=>Wm (λz=>hlo (by rw[z];exact⟨h1,h2⟩));have e0:Rn (bQ [.lv ts,.ob n] h) λp=>p=(.ob n,h.set n (.lst ((dw P fs).reverse.map cQ))):=by
  refine aY ?_;refine mx ?_;refine og (λm δ h'=>∃(a:List aT)(d2 d3 d4 d5 d6 d7 d8:Option D),m=DP a/\a.length<=1000/\(∀f∈a,cF P f)/\FL P a/\δ=[some (.lv ts),some (.ob n),d2,d3,d4,d5,d6,d7,d8]/\h'=h.set n (.lst (a.reverse.map cQ))/\dw P a=dw P fs) ?_ _ (DP fs) _ _ hm ⟨fs,_,_,_,_,_,_,_,rfl,hl,ok,fl,rfl,(nU hn).symm,rfl⟩;rintro m δ h' ⟨a,d2,d3,d4,d5,d6,d7,d8,rfl,E,A,O,rfl,rfl,R⟩;nofun;refine rv (Cu (cW H)) ⟨_,rfl,?_⟩;refine⟨λc=>?_,λc=>?_⟩
  ·cases a with
   | nil=>cases c
   | cons f a=>
    obtain⟨d,j,Q,I,f3⟩:=A f We;have er:bJ P f.aO=d.2.2:=cq Q;have hk:f.k<=j.length:=by have:=O.1;rw[lV Q I] at this;exact this
    have U:(f::a).reverse.map cQ=a.reverse.map cQ++[cQ f]:=by rw[WH,Wv];rfl
    obtain⟨t,si,ri,F⟩:=(Tm (.lst ((f::a).reverse.map cQ))).at_ Q;have M:∀x,aB (.ob n) (.int (-1)) (h.set n (.lst (a.reverse.map cQ++[x])))=some (x,h.set n (.lst (a.reverse.map cQ++[x]))):=λx=>DN (cW H);rw[U] at F ⊢;nofun;refine rv (M _) ?_;rw[eX f];nofun;refine rv (iX _ _ _) ?_;nofun;rw[<-eX f];refine rv (M _) ?_;rw[eX f];nofun;rw[<-eX f];refine rv F.t0 ?_;nofun;refine rv F.s ?_;nofun;refine rv (M _) ?_;rw[eX f];nofun;refine⟨_,rfl,rv (p7 _ _ _) ?_⟩;rw[<-eX f];nofun;refine rv (F.sz I) ?_;nofun;refine rv (lB _ _ _) ⟨_,rfl,λc1=>?_,λc1=>?_⟩
    ·have N:f.k=j.length:=by have:=Zf.mp c1;exact Int.ofNat.inj this
     have w:j[f.k]?=none:=Xw.mpr (Nat.le_of_eq N.symm);have ap:∀(x:D),bt (.ob n) [x] (h.set n (.lst (a.reverse.map cQ)))=some (.bb,h.set n (.lst (a.reverse.map cQ++[x]))):=λx=>by
      rw[bH (cW H) (by rw[Wc,WM,show sizeLine=16777216 from rfl];rw[Wq] at E;lia),XJ]
     have ls:∀xs:List D,bK (.ob n) (h.set n (.lst xs))=true:=λxs=>bV (cW H);nofun;refine fY ?_;nofun;refine⟨ls _,?_⟩;nofun;refine rv (gu (cW H)) ?_;rw[XJ,eX f];nofun;refine rv (uB _ _ _) ?_;cases q:f.rs with
     | nil=>
      have hp:mh (bJ P f.aO) f.rs f.k=none:=by rw[q] at I ⊢;rw[er];exact oh I w
      nofun;refine⟨_,rfl,λc2=>?_,λc2=>?_⟩
      ·exact absurd c2 (by simp)
      ·nofun;refine rv (Cu (cW H)) ⟨_,rfl,λG=>?_,λG=>?_⟩
       ·cases a with
        | nil=>cases G
        | cons g a=>
         obtain⟨dg,lg,k1,k2,k3⟩:=A g (Wf _ We);have hys:(g::a).reverse.map cQ=a.reverse.map cQ++[cQ g]:=by rw[WH,Wv];rfl
         rw[hys];nofun;refine fY ?_;nofun;refine⟨ls _,?_⟩;nofun;refine rv (gu (cW H)) ?_;rw[XJ,eX g];nofun;refine fY ?_;nofun;refine⟨ls _,?_⟩;nofun;refine rv (ie g.rs.reverse g.k _ (by rw[WM];exact k3)) ?_;nofun;refine rv (bH (cW H) (by rw[Wc,WM,show sizeLine=16777216 from rfl];rw[Wq,Wq] at E;lia)) ?_;rw[XJ];refine⟨DP (g::a),by rw[kY f];lia,{g with k:=g.k+1}::a,_,_,_,_,_,_,_,rfl,Yi E,λx C=>?_,O.pop,rfl,?_,?_⟩
         ·rcases Ws.mp C with rfl | C
          ·exact⟨dg,lg,k1,k2,k3⟩
          ·exact A x (Wf _ (Wf _ C))
         ·rw[WH,Wv];rfl
         ·rw[<-R];show fA P a {g with k:=g.k+1}=fA P (g::a) f;rw[jR hp]
       ·cases a with
        | cons g a=>cases G
        | nil=>
         nofun;exact⟨0,by rw[kY f];lia,[],_,_,_,_,_,_,_,rfl,WL _,λx C=>(nomatch C),True.intro,rfl,rfl,by rw[<-R];exact(gQ hp).symm⟩
     | cons s e=>
      rw[q] at I f3;obtain⟨l,r,g1,g2,g3⟩:=k8 I;have J:mh (bJ P f.aO) f.rs f.k=if aL r s.2 then some (s::e,f.k) else mh (bJ P f.aO) e (if lX r then s.1 else s.1+1):=by rw[q,er];exact t9 I w g1 g2
      obtain⟨t2,si2,ri2,F2⟩:=(Tm (.lst (a.reverse.map cQ))).at_ Q;obtain⟨ba,eba,X⟩:=PF r (h.set n (.lst (a.reverse.map cQ)));rw[WH] at*;nofun;refine⟨true,by congr 1;simp;lia,tt ?_⟩;nofun;refine rv F2.t0 ?_;nofun;refine rv F2.r ?_;nofun;refine⟨_,rfl,rv (gr e.reverse s.1 s.2 f.k _) ?_⟩;nofun;refine rv (F2.rw g1 g2) ?_;nofun;refine rv (aZ r _) ?_;have ret:aL r s.2=true->dw P fs=f::a:=λG=>by
       rw[<-R];show fA P a f=_;rw[G,Wg rfl] at J;rw[eG J];congr 1;rw[<-q]
      have efr:cQ f=.tup [aj f.aO,.tup (f.nums.map D.int),bA (e.reverse++[s]) f.k]:=by rw[eX,q,WH]
      refine mx (Dt (rv (OP (x:=i0 r) (y:=ba) (z:=s.2==0) (RW r _) eba ?_) ⟨λG=>?_,λG=>?_⟩))
      ·show(aB (bA (e.reverse++[s]) f.k) (.int (-2)) _).bind _=_;rw[Aa e.reverse s.1 s.2];show some (D.bl ((s.2:Int)==0),_)=_;congr 3;cases s.2 <;> rfl
      ·have c4:aL r s.2=true:=(X s.2).trans G;nofun;refine fY ?_;nofun;refine⟨ls _,?_⟩;nofun;refine rv (ap _) ?_;nofun;rw[<-efr,ret c4,WH,Wv];rfl
      ·have c4:aL r s.2=false:=(X s.2).trans G;rw[c4,Wh WR] at J;have Y:s.1 < l.length:=(V9.mp g2).1;have fok:∀v,cF P {f with rs:=e,k:=v}:=λv=>⟨d,l,Q,g1,Yi f3⟩;have S:∀v,v<=l.length->mh (bJ P f.aO) f.rs f.k=mh (bJ P f.aO) e v->∃m',m' < DP (f::a)/\∃(u:List aT)(d2 d3 d4 d5 e6 e7 e8:Option D),m'=DP u/\u.length<=1000/\(∀f∈u,cF P f)/\FL P u/\([some (.lv ts),some (.ob n),some (aj f.aO),some (.tup (f.nums.map D.int)),some (bA (e.reverse++[s]) f.k),some (.str (cz r)),d6,d7,d8]:DS)=[some (.lv ts),some (.ob n),d2,d3,d4,d5,e6,e7,e8]/\h.set n (.lst (a.reverse.map cQ++[.tup [aj f.aO,.tup (f.nums.map D.int),bA e.reverse v]]))=h.set n (.lst (u.reverse.map cQ))/\dw P u=dw P fs:=λv hk' hp=>by
        refine⟨DP ({f with rs:=e,k:=v}::a),by rw[kY,kY,q,Wq];lia,{f with rs:=e,k:=v}::a,_,_,_,_,_,_,_,rfl,E,λx C=>?_,⟨?_,O.2⟩,rfl,?_,?_⟩
        ·rcases Ws.mp C with rfl | C
         ·exact fok v
         ·exact A x (Wf _ C)
        ·rw[lV (f:={f with rs:=e,k:=v}) Q g1];exact hk'
        ·rw[WH,Wv];rfl
        ·rw[<-R];show fA P a {f with rs:=e,k:=v}=fA P a f;cases a with
         | nil=>unfold fA;rw[hp]
         | cons g a=>unfold fA;rw[hp]
       nofun;refine fY ?_;nofun;refine⟨ls _,?_⟩;nofun;have ea:(cz r==Str.ofString "again")=lX r:=by
        have z:=I8 r h;exact congrArg (λo:Option (D×MH)=>match o with | some (.bl b,_)=>b | _=>false) z
       rw[ea];refine⟨_,rfl,λc5=>?_,λc5=>?_⟩
       ·rw[c5,Wg rfl] at J;nofun;refine⟨_,rfl,rv (gr e.reverse s.1 s.2 f.k _) ?_⟩;nofun;refine rv (ap _) ?_;exact S s.1 (Yw Y) J
       ·rw[c5,Wh WR] at J;nofun;refine⟨_,rfl,rv (gr e.reverse s.1 s.2 f.k _) ?_⟩;nofun;refine rv (ie e.reverse s.1 _ (by rw[WM];exact Yi f3)) ?_;nofun;refine rv (ap _) ?_;exact S (s.1+1) Y J
    ·have N:f.k < j.length:=by
      refine Nat.lt_of_le_of_ne hk λz=>?_;rw[z] at c1;simp at c1
     have L:j[f.k]?=some j[f.k]:=Wl N;have hp:mh (bJ P f.aO) f.rs f.k=some (f.rs,f.k):=fI (er ▸ I) L;nofun;rw[<-U];have Z:dw P fs=f::a:=by rw[<-R];show fA P a f=_;rw[eG hp]
     rw[Z]
  ·cases a with
   | cons f a=>cases c
   | nil=>
    refine⟨λz=>(nomatch z),λ_=>?_⟩;nofun;rw[<-R];rfl
 obtain⟨p,e1,rfl⟩:=e0;exact e1
def eq_nil{h:MH}{n m:Nat}{xs:List D}(e:h[n]?=some (.lst xs))(hd:rn m xs)(hm:m<=60):bu (.ob n) (.lv []) h=some (.bl xs.isEmpty,h):=by
 obtain⟨c,f,j,_⟩:=hd;have d:dH (.ob n) h=none:=by unfold dH;dsimp only;rw[e]
 unfold bu M1;rw[d];show(LQ (.ob n) (.lv []) h).map _=_;unfold LQ;have hr:Bf h (.ob n)=some (.list c):=by unfold Bf;dsimp only;rw[e];dsimp only;rw[f];rfl
 rw[hr];show((if(PyData.list c).depth<=64/\(PyData.list []).depth<=64 then some (PyData.eqv (.list c) (.list [])) else none).map _)=_;rw[Wg ⟨by rw[PyData.depth];lia,by simp[PyData.depth,PyData.depthAll]⟩];cases xs with
 | nil=>cases f;rfl
 | cons x xs=>
  obtain⟨p,_,g⟩:=a9 (show(qS x).bind (λa=>(md xs).map λb=>a::b)=some c from f);obtain⟨i,_,rfl⟩:=dS g;rfl
def Pu{h:MH}{n:Nat}{fs:List aT}(e:h[n]?=some (.lst (fs.reverse.map cQ))):bu (.ob n) (.lv []) h=some (.bl fs.isEmpty,h):=by
 rw[eq_nil e (rn.map λf _=>Dp.fr f) (by decide)];cases fs with
 | nil=>rfl
 | cons f fs=>simp
def qx{h:MH}{n:Nat}{f:aT}{fs:List aT}(e:h[n]?=some (.lst ((f::fs).reverse.map cQ))):aB (.ob n) (.int (-1)) h=some (cQ f,h):=by
 rw[WH,Wv] at e;exact DN e
def LD(P:Prog):List aT->Prop
 | []=>True
 | f::_=>cF P f
def rm.hd{P:Prog}{fs:List aT}(h:rm P fs):LD P fs:=by
 cases fs with
 | nil=>trivial
 | cons f fs=>exact h.1.ok
def gM{P:Prog}{h:MH}{lo hi n:Nat}{ts:List D}{fs:List aT}{hd:List (List aq)}(T:gV P h lo hi ts)(e:h[n]?=some (.lst (fs.reverse.map cQ)))(ok:LD P fs):dM [.lv ts,.ob n] h=some (nX (mZ P (fs,hd)),h):=by
 refine fj ?_;refine aY ?_;nofun;refine rv (Pu e) ?_;cases fs with
 | nil=>
  refine⟨true,rfl,tt ?_⟩;nofun;rfl
 | cons f fs=>
  obtain⟨d,a,c,b,j⟩:=ok;obtain⟨t,g,i,F⟩:=T.at_ c;refine⟨false,rfl,ff ?_⟩;nofun;refine fY ?_;nofun;refine rv (qx e) ?_;rw[eX f];nofun;refine rv F.t0 ?_;nofun;refine rv F.r ?_;refine⟨(F.gt b (k:=0)).2,?_⟩;nofun;refine rv (qx e) ?_;rw[eX f];nofun;refine rv (F.gt b).1 ?_;show(nX a[f.k]?,h)=(nX (aQ P f),h);unfold aQ;rw[cq c,b];rfl
theorem uy{w:Str}:∀(ps:List Str)(ns:List Int)(acc:List (Key×D)),ps.Nodup->ps.length<=ns.length->(w∈ps->dk (fy acc (qP ps ns)) (.inr w)=(ns[ps.idxOf w]?).map D.int)/\(w∉ps->dk (fy acc (qP ps ns)) (.inr w)=dk acc (.inr w))
 | [],_,acc,_,_=>⟨λz=>(nomatch z),λ_=>rfl⟩
 | p::ps,[],acc,_,hl=>absurd hl (by simp)
 | p::ps,n::ns,acc,nd,hl=>by
  obtain⟨n1,n2⟩:=X3.mp nd;have a:=uy (w:=w) ps ns (putD acc (.inr p) (.int n)) n2 (Nat.le_of_succ_le_succ hl);have d:fy acc (qP (p::ps) (n::ns))=fy (putD acc (.inr p) (.int n)) (qP ps ns):=rfl;rw[d]
  by_cases z:w=p
  ·subst z;refine⟨λ_=>?_,λq=>absurd We q⟩;rw[a.2 n1,nM,Wg rfl,Aav,X8];rfl
  ·have b:(p==w)=false:=Yl.mpr λq=>z q.symm;refine⟨λq=>?_,λq=>?_⟩
   ·rw[a.1 ((Ws.mp q).resolve_left z),Aav,b];rfl
   ·rw[a.2 (λc=>q (Wf _ c)),nM,Wh (λq=>z (Sum.inr.inj q))]
def JX{P:Prog}{f:aT}{d:di}{t:Term}(e:P.ao[f.aO]?=some d)(nd:d.2.1.Nodup)(hl:d.2.1.length<=f.nums.length)(b:cb (bB P f) t)(hn:¬t.1=""):t.1∈d.2.1/\∃z,f.nums[d.2.1.idxOf t.1]?=some z/\cy (bB P f) t=z+t.2:=by
 obtain⟨z,a⟩:=b.resolve_left hn;have hm:t.1∈d.2.1:=XC λq=>by
  have:=(uy (w:=t.1) d.2.1 f.nums [] nd hl).2 q;unfold bB at a;rw[ic e,this] at a;cases a
 refine⟨hm,z,?_,?_⟩
 ·have c:=(uy (w:=t.1) d.2.1 f.nums [] nd hl).1 hm;unfold bB at a;rw[ic e,c] at a;obtain⟨y,h,g⟩:=dS a;cases g;exact h
 ·unfold cy;rw[Wh hn,a];rfl
theorem depth_strs':∀ws:List Str,PyData.depthAll (ws.map PyData.str)=0
 | []=>rfl
 | w::ws=>by rw[Wo,PyData.depthAll,depth_strs' ws];rfl
theorem pyL_strs':∀ws:List Str,md (ws.map D.str)=some (ws.map PyData.str)
 | []=>rfl
 | w::ws=>by show(qS (.str w)).bind (λa=>(md (ws.map D.str)).map λb=>a::b)=_;rw[pyL_strs' ws];rfl
theorem findIdx_strs'(w:Str):∀ws:List Str,w∈ws->(ws.map PyData.str).findIdx? (λb=>PyData.eqv b (.str w))=some (ws.idxOf w)
 | x::r,h=>by
  rw[Wo,Aac,Aav]
  by_cases z:x=w
  ·subst z;simp[PyData.eqv]
  ·have hm:w∈r:=(Ws.mp h).resolve_left λq=>z q.symm;have a:(x==w)=false:=Yl.mpr z;rw[findIdx_strs' w r hm,a];simp[PyData.eqv,z]
def AA{ws:List Str}{w:Str}{h:MH}(m:w∈ws):sL (.tup (ws.map D.str)) [.str w] h=some (aj (ws.idxOf w),h):=by
 unfold sL;simp only[Bf,qS,pyL_strs',Wz];rw[Wg ⟨by simp[PyData.depth],by rw[depth_strs'];exact WL _⟩,findIdx_strs' w ws m];rfl
def qU{ws:List Str}{w:Str}{h:MH}(m:w∈ws):lT (.lv (ws.map D.str)) [.str w] h=some (aj (ws.idxOf w),h):=by
 unfold lT;simp only[iY,Bf,qS,pyL_strs',Wz];rw[Wg ⟨by simp[PyData.depth],by rw[depth_strs'];exact WL _⟩,findIdx_strs' w ws m];rfl
def IJ(f:aT)(r:List D):D:=.tup (aj f.aO::.tup (f.nums.map D.int)::r)
structure Qs(P:Prog)(f:aT)(d:di):Prop where
 e:P.ao[f.aO]?=some d
 nd:d.2.1.Nodup
 hl:d.2.1.length<=f.nums.length
def eW{P:Prog}{f:aT}{d:di}{t:Term}{r:List D}{h:MH}(N:Qs P f d)(b:cb (bB P f) t):aW [ax P,IJ f r,bx t] h=some (.int (cy (bB P f) t),h):=by
 refine fj ?_;refine aY ?_;unfold bx;nofun;refine⟨_,rfl,λc=>?_,λc=>?_⟩
 ·have a:t.1="":=by simpa using c
  nofun;unfold cy;rw[Wg a]
 ·have a:¬t.1="":=by simpa using c
  obtain⟨hm,z,i,g⟩:=JX N.e N.nd N.hl b a;unfold IJ ax;nofun;refine fY ?_;nofun;refine rv (cM (by rw[Wt,N.e];rfl)) ?_;unfold gS;nofun;refine⟨rfl,?_⟩;nofun;refine rv (AA hm) ?_;nofun;refine rv (cM (by rw[Wt,i];rfl)) ?_;nofun;rw[g]
theorem z7:∀ks:List aq,Fh (ks.map dU)=some ks
 | []=>rfl
 | k::ks=>by show(HI (dU k)).bind (λa=>(Fh (ks.map dU)).map λb=>a::b)=_;rw[z7 ks];rfl
theorem u9(kvs:List (Key×D)):∀(ls:List Lock)(acc:List aq),(ls.map λl=>(l.1,cy kvs l.2)).foldl zl acc=ls.foldl (mE kvs) acc
 | [],_=>rfl
 | l::ls,acc=>by rw[Wo,Yz,Yz];exact u9 kvs ls _
def TF:EM:=ai aw (a2 v0 (ai aW (a3 v3 v2 v1)))
theorem wJ{P:Prog}{f:aT}{d:di}{r:List D}{h:MH}(N:Qs P f d):∀(ls:List Lock)(o1 a:Option D),(∀l∈ls,cb (bB P f) l.2)->bO [] (gT 2 (ag (gN 0) (ag (gN 1) bo))) cV TF (ls.map dX) [o1,a,some (IJ f r),some (ax P)] h=some (ls.map (λl=>dU (l.1,cy (bB P f) l.2)),h)
 | [],o1,a,_=>rfl
 | l::ls,o1,a,hw=>by
  have c:TF [some (.str l.1),some (bx l.2),some (IJ f r),some (ax P)] h=some (dU (l.1,cy (bB P f) l.2),h):=by
   refine fj ?_;unfold TF;nofun;refine rv (eW N (hw l We)) ?_;nofun;rfl
  rw[Wo,Wo];show(if kc [] h then((gT 2 (ag (gN 0) (ag (gN 1) bo))) (dX l) [o1,a,some (IJ f r),some (ax P)] h).bind _ else none)=_;rw[Wg (show kc [] h=true from rfl),show(gT 2 (ag (gN 0) (ag (gN 1) bo))) (dX l) [o1,a,some (IJ f r),some (ax P)] h=some ([some (.str l.1),some (bx l.2),some (IJ f r),some (ax P)],h) from rfl];show(TF _ h).bind _=_;rw[c];dsimp only[Option.bind_some];rw[wJ N ls _ _ λx b=>hw x (Wf _ b)];rfl
def BQ{m:EM}{δ:DS}{h:MH}{Q:D×MH->Prop}(r:Rn (m δ h) λp=>∃xs ks,iY p.1 p.2=some xs/\Fh xs=some ks/\ks.length<=4/\Q (.lv ((kz (EC ks)).map dU),p.2)):Rn (lZ m δ h) Q:=
 aN (r.imp λp ⟨xs,ks,c,b,a,q⟩=>⟨_,by rw[c];dsimp only[Option.bind_some];rw[b];dsimp only[Option.bind_some];rw[Wg a],q⟩)
def oz(r:Row):Bool:=i0 r||aL r 0
def ER(r:Row)(c:oz r=true)(h:MH):∃b x,(cz r==Str.ofString "all")=b/\aB (aG r) (.int 1) h=some (x,h)/\(b=true->x=.tup ((cC r).map dX))/\(b=false->D.tup [x]=.tup ((cC r).map dX)):=by
 cases r with
 | all ls b=>exact⟨true,.tup (ls.map dX),rfl,by rw[aG];rfl,λ_=>rfl,λz=>(nomatch z)⟩
 | within l b=>exact⟨false,dX l,rfl,by rw[aG];rfl,λz=>(nomatch z),λ_=>rfl⟩
 | ask l a b=>exact⟨false,dX l,rfl,by rw[aG];rfl,λz=>(nomatch z),λ_=>rfl⟩
 | _=>cases c
def mF{P:Prog}{f:aT}{d:di}{r:Row}{x:List D}{h:MH}(N:Qs P f d)(er:aQ P f=some r)(g:oz r=true)(e:∀l∈cC r,cb (bB P f) l.2)(i:(cC r).length<=4):eJ [ax P,IJ f x,aG r] h=some (bW (k9 P f),h):=by
 refine fj ?_;refine aY ?_;obtain⟨b,y,m,a,k,j⟩:=ER r g h;nofun;refine rv (aZ r _) ?_;nofun;rw[m];refine⟨_,rfl,?_⟩;have go:lZ (nB (fb [none,none,some 1,some 0] (jQ v3) (gT 2 (ag (gN 0) (ag (gN 1) bo))) cV (ai aw (a2 v0 (ai aW (a3 v3 v2 v1)))))) [some (ax P),some (IJ f x),some (aG r),some (.tup ((cC r).map dX))] h=some (.lv ((k9 P f).map dU),h):=by
  refine fj ?_;refine BQ ?_;nofun;refine kO ?_;nofun;refine⟨_,_,rfl,?_⟩;refine rv (wJ N (cC r) none none e) ⟨by rw[Wc,show sizeLine=16777216 from rfl];lia,?_⟩;nofun;refine⟨_,(cC r).map λl=>(l.1,cy (bB P f) l.2),rfl,?_,by rw[Wc];exact i,?_⟩
  ·rw[<-z7,Y0];rfl
  unfold EC k9;rw[u9,er];rfl
 refine⟨λc=>?_,λc=>?_⟩
 ·nofun;refine rv a ?_;rw[k c];nofun;refine rv go ?_;nofun;refine rv rfl ?_;rfl
 ·nofun;refine rv a ?_;nofun;rw[j c];refine rv go ?_;nofun;refine rv rfl ?_;rfl
structure dR(h:MH)(b:Nat)(S:List Hand):Prop where
 w:h[b]?=some (.lst ((List.range S.length).map λi=>.ob (b+3*i+3)))
 x:∀(i:Nat)(x:Hand),S[i]?=some x->h[b+3*i+1]?=some (.lst (x.1.reverse.map cQ))/\h[b+3*i+2]?=some (.lst (x.2.map bW))/\h[b+3*i+3]?=some (.lst [.ob (b+3*i+1),.ob (b+3*i+2)])
def Hv{n:Nat}{u:Gu}{d:D}{δ:DS}{h:MH}{xs:List D}{Q:DS×MH->Prop}(e:iY d h=some xs)(hn:xs.length=n)(r:Rn (u xs δ h) Q):Rn (Pt n u d δ h) Q:=by
 unfold Pt;rw[e,Wz,Wg hn];exact r
def yI{h:MH}{n:Nat}{xs:List D}(e:h[n]?=some (.lst xs)):iY (.ob n) h=some xs:=by unfold iY;dsimp only;rw[e]
def Eb{h:MH}{n i:Nat}{xs:List D}{d:D}(e:h[n]?=some (.lst xs))(q:xs[i]?=some d):aB (.ob n) (aj i) h=some (d,h):=by
 have a:dH (.ob n) h=none:=by unfold dH;dsimp only;rw[e]
 unfold aB;rw[a];show((df (.ob n) h).bind λp=>(hW p.1 (i:Int)).map λz=>(z,h))=_;rw[lO e];show((hW xs (i:Int)).map λz=>(z,h))=_;rw[oP q];rfl
def dR.at_{h:MH}{b i:Nat}{S:List Hand}{x:Hand}(W:dR h b S)(e:S[i]?=some x):aB (.ob b) (aj i) h=some (.ob (b+3*i+3),h)/\aB (.ob (b+3*i+3)) (.int 0) h=some (.ob (b+3*i+1),h):=
 ⟨Eb W.w (by rw[Wt,Yn (V9.mp e).1];rfl),Eb (i:=0) (W.x i x e).2.2 rfl⟩
def mG{h:MH}{b:Nat}{S:List Hand}{l:aq}(W:dR h b S):cS [.ob b,dU l] h=some (Ct (S.findIdx? (ny l)),h):=by
 refine fj ?_;refine aY ?_;nofun;refine lR ?_;nofun;refine⟨_,_,_,rfl,lO W.w,?_⟩;refine eS (λi g s=>s=h/\(∃(d2 A y p:Option D),g=[some (.ob b),some (dU l),d2,A,y,p])/\∀(j:Nat)(x:Hand),j < i->S[j]?=some x->ny l x=false) ⟨rfl,⟨_,_,_,_,rfl⟩,λj x a=>absurd a (Xh _)⟩ (λ_ _ _ _ z=>by rw[z.1];exact CL W.w) ?_ ?_
 ·rintro i x g s t ⟨rfl,⟨d2,A,y,p,rfl⟩,e⟩;obtain⟨j,a,rfl⟩:=oG t;have f:=(V9.mp a).1;rw[WK] at f;rw[Yn f] at a;cases a;have E:S[i]?=some S[i]:=Wl f;obtain⟨L,C,H⟩:=W.x i _ E;nofun;refine Hv (yI H) rfl ?_;nofun;refine kO ?_;nofun;refine⟨_,_,lO C,?_⟩;refine eS (λk g o=>o=s/\(∃(p:Option D),g=[some (.ob b),some (dU l),some (aj i),some (.ob (b+3*i+1)),some (.ob (b+3*i+2)),p])/\∀(j:Nat)(q:List aq),j < k->S[i].2[j]?=some q->l∉q) ⟨rfl,⟨_,rfl⟩,λj x a=>absurd a (Xh _)⟩ (λ_ _ _ _ z=>by rw[z.1];exact CL C) ?_ ?_
  ·rintro k x g o r ⟨rfl,⟨p,rfl⟩,d⟩;rw[Wt] at r;obtain⟨q,F,rfl⟩:=dS r;nofun;refine rv (yU l q _) ⟨_,rfl,λc=>?_,λc=>?_⟩
   ·have hl:ny l S[i]=true:=Ys.mpr ⟨q,Wk F,c⟩;have J:S.findIdx? (ny l)=some i:=by
     rw[Ye];refine⟨f,hl,λj a=>?_⟩;have:=e j (S[j]'(by lia)) a (Wl _);rw[this];exact WR
    rw[J];nofun;rfl
   ·nofun;refine⟨rfl,⟨_,rfl⟩,λj I a n=>?_⟩;rcases Zq.mp a with z | z
    ·exact d j I z n
    ·subst z;rw[F] at n;cases n;exact Ze c
  ·rintro g o ⟨rfl,⟨p,rfl⟩,d⟩;rw[Wc] at d;refine⟨rfl,⟨_,_,_,_,rfl⟩,λj x a m=>?_⟩;rcases Zq.mp a with z | z
   ·exact e j x z m
   ·subst z;rw[E] at m;cases m;refine Bool.eq_false_iff.mpr λz=>?_;obtain⟨q,v,u⟩:=Ys.mp z;obtain⟨k,G⟩:=Xg.mp v;exact d k q (V9.mp G).1 G (Xk u)
 ·rintro g s ⟨rfl,⟨d2,A,y,p,rfl⟩,e⟩;rw[dG,Wc,WK] at e;have:S.findIdx? (ny l)=none:=by
   rw[AaF];intro x t;obtain⟨j,a⟩:=Xg.mp t;exact e j x (V9.mp a).1 a
  rw[this];nofun;rfl
def RO:TM:=au (ah gR (ai cS (a2 v1 v0)) (eK .bb))
def O5{h:MH}{b:Nat}{S:List Hand}{l:aq}(W:dR h b S):RO [some (dU l),some (.ob b)] h=some (cR S l,h):=by
 refine fj ?_;unfold RO;nofun;refine rv (mG W) ?_;nofun;unfold cR;cases S.findIdx? (ny l) with
 | none=>exact rv rfl ⟨_,rfl,rfl⟩
 | some i=>exact rv rfl ⟨_,rfl,rfl⟩
theorem yE{h:MH}{b:Nat}{S:List Hand}(W:dR h b S):∀(ls:List aq)(o:Option D),bO [] (gN 0) RO v0 (ls.map dU) [o,some (.ob b)] h=some ((ls.filter (cR S)).map dU,h)
 | [],o=>rfl
 | l::ls,o=>by
  rw[Wo];show(RO [some (dU l),some (.ob b)] h).bind _=_;rw[O5 W,Y6];cases c:cR S l with
  | false=>exact yE W ls _
  | true=>
   show(bO [] (gN 0) RO v0 (ls.map dU) [some (dU l),some (.ob b)] h).map _=_;rw[yE W ls _];rfl
def Ir{P:Prog}{f:aT}{r:Row}(er:aQ P f=some r)(a:(cC r).length<=4):(k9 P f).length<=4:=by
 unfold k9;rw[er,(eF _).length_eq];have:=i3 (bB P f) (cC r) [];simp at this ⊢
 lia
structure VH(P:Prog)(f:aT):Prop where
 n:∃d,Qs P f d
 t:∀r,aQ P f=some r->Gn P f r
def uD{P:Prog}{h:MH}{lo hi b i:Nat}{ts:List D}{S:List Hand}{x:Hand}(T:gV P h lo hi ts)(W:dR h b S)(e:S[i]?=some x)(ok:LD P x.1)(n:∀f fs,x.1=f::fs->VH P f):gh [ax P,.lv ts,.ob b,aj i] h=some (bW (vj P S x),h):=by
 obtain⟨a,p,o⟩:=W.x i x e;obtain⟨m,l⟩:=W.at_ e;refine fj ?_;refine aY ?_;nofun;refine rv m ?_;nofun;refine rv l ?_;nofun;refine rv (gM (hd:=x.2) T a ok) ?_;nofun;refine rv (jO _ _) ?_;cases er:mZ P x with
 | none=>
  refine⟨true,rfl,tt (tt ?_)⟩;nofun;obtain⟨fs,hd⟩:=x;cases fs with
  | nil=>rfl
  | cons f fs=>
   have er:aQ P f=none:=er;show(bW [],h)=(bW (vj P S (f::fs,hd)),h);unfold vj;dsimp only;rw[er]
 | some r=>
  obtain⟨fs,hd⟩:=x;cases fs with
  | nil=>cases er
  | cons f fs=>
   have er:aQ P f=some r:=er;obtain⟨⟨d,N⟩,t⟩:=n f fs rfl;obtain⟨_,j,g⟩:=t r er;refine⟨false,rfl,ff ?_⟩;nofun;refine rv (aZ r _) ?_;nofun;refine rv (He r _) ?_;cases c:i0 r with
   | false=>
    refine⟨true,rfl,tt ?_⟩;nofun;show(bW [],h)=(bW (vj P S (f::fs,hd)),h);unfold vj;dsimp only;rw[er];dsimp only;rw[c];rfl
   | true=>
    refine⟨false,rfl,ff ?_⟩;nofun;refine kO ?_;nofun;refine rv (qx a) ?_;nofun;refine rv (mF (x:=[bA f.rs.reverse f.k]) N er (by unfold oz;rw[c];rfl) j g) ?_;refine⟨(k9 P f).map dU,[],rfl,?_⟩;refine rv (yE W (k9 P f) none) ⟨?_,?_⟩
    ·have s:=Aa6 (cR S) (k9 P f);have q:=Ir er g;rw[Wc,show sizeLine=16777216 from rfl]
     lia
    nofun;refine rv rfl ?_;show(bW ((k9 P f).filter (cR S)),h)=(bW (vj P S (f::fs,hd)),h);unfold vj;dsimp only;rw[er];dsimp only;rw[c];rfl
def gU{h g:MH}{n:Nat}{o:MO}(e:h[n]?=some o):(h++g)[n]?=some o:=by rw[Wx (V9.mp e).1,e]
def dR.app{h g:MH}{b:Nat}{S:List Hand}(W:dR h b S):dR (h++g) b S:=⟨gU W.w,λi x e=>let⟨a,b,c⟩:=W.x i x e;⟨gU a,gU b,gU c⟩⟩
def gV.app{P:Prog}{h g:MH}{lo hi:Nat}{ts:List D}(T:gV P h lo hi ts):gV P (h++g) lo hi ts:=λi d e=>by
 obtain⟨t,j,⟨b,c,f,sz,a,n,m,l,k,r⟩⟩:=T i d e;exact⟨t,j,⟨b,c,f,sz,a,n,gU m,gU l,gU k,r⟩⟩
def O8{h:MH}{n:Nat}{xs:List D}(e:h[n]?=some (.lst xs)):eN [.ob n] h=some (.int (xs.length:Int),h):=by
 have a:dH (.ob n) h=none:=by unfold dH;dsimp only;rw[e]
 unfold eN;dsimp only;rw[a];dsimp only;rw[lO e];rfl
def Iv{H g:MH}{xs:List D}{m:Nat}(hm:H.length<=m)(e:(H++g)[m]?=some (.lst xs))(b:gv H.length (.lv xs)=true):leave H (.ob m) (H++g)=some (.lv xs,H):=by
 have a:zB H.length (H++g) (.ob m)=.lv xs:=by
  unfold zB;dsimp only;rw[Wh (Nat.not_lt.mpr hm),e]
 unfold leave;rw[a,Y7 (Wj _),Xf,b,xB];rfl
theorem Jj(n:Nat):∀a:List (Nat×Nat),dY n (a.map wa)=true
 | []=>rfl
 | m::a=>by rw[Wo];show(gv n (wa m)&&dY n (a.map wa))=true;rw[Jj n a];rfl
def O0{P:Prog}{S:List Hand}{i:Nat}{x:Hand}(e:S[i]?=some x):DO P S i=(oO P S x).map λc=>(i,c):=by unfold DO;rw[e];rfl
def Il(P:Prog)(S:List Hand)(i:Nat):(List.range (i+1)).flatMap (DO P S)=(List.range i).flatMap (DO P S)++DO P S i:=by
 rw[List.range_succ,List.flatMap_append,List.flatMap_cons,List.flatMap_nil,Xb]
theorem yD(P:Prog)(S:List Hand):∀i,((List.range i).flatMap (DO P S)).length<=2*i
 | 0=>Wj _
 | i+1=>by
  rw[Il,Wn];have b:=yD P S i;have a:(DO P S i).length<=2:=by
   unfold DO;rw[Wc];cases S[i]? with
   | none=>exact WL _
   | some x=>exact L4 P S x
  lia
def LP(l:List aq)(h:MH):LN (bW l) (.tup []) h=some (.bl l.isEmpty,h):=by cases l <;> rfl
def Lv(r:Row)(h:rW r=true):i0 r=false:=by cases r <;> first | rfl | cases h
def Nh{P:Prog}{S:List Hand}{f:aT}{fs:List aT}{hd:List (List aq)}{r:Row}(er:aQ P f=some r)(c:rW r=true):vj P S (f::fs,hd)=[]:=by
 unfold vj;dsimp only;rw[er];dsimp only;rw[Lv r c];rfl
def zc{P:Prog}{S:List Hand}{f:aT}{fs:List aT}{hd:List (List aq)}{a b:Bool}(d:((aQ P f).map rW).getD false=a)(c:(vj P S (f::fs,hd)).isEmpty=b):oO P S (f::fs,hd)=if a then[0,1] else if b then[0] else[]:=by
 subst d;subst c;rfl
structure VD(P:Prog)(S:List Hand):Prop where
 hl:S.length<=1000
 fr:∀(i:Nat)(x:Hand),S[i]?=some x->LD P x.1/\∀f fs,x.1=f::fs->VH P f
def uE{P:Prog}{h:MH}{lo hi b:Nat}{ts:List D}{S:List Hand}(T:gV P h lo hi ts)(W:dR h b S)(O:VD P S):gj [ax P,.lv ts,.ob b] h=some (.lv ((OZ P S).map wa),h):=by
 have H:=O.hl;refine fj ?_;refine wU ?_;nofun;refine t7 ?_;nofun;refine rv (O8 W.app.w) ?_;rw[Wc,WK];nofun;refine⟨(S.length:Int),rfl,by lia,by lia,?_⟩;refine eS (λi k n=>n=h++[.lst (((List.range i).flatMap (DO P S)).map wa)]/\∃(p o:Option D),k=[some (ax P),some (.lv ts),some (.ob b),some (.ob h.length),p,o]) ⟨rfl,_,_,rfl⟩ (λ_ _ _ _ _=>rfl) ?_ ?_
 ·rintro i x k n C ⟨rfl,p,o,rfl⟩;obtain⟨j,m,rfl⟩:=dS (by rw[<-Wt];exact C);have d:=(V9.mp m).1;rw[WK,WT] at d;rw[WT,Yn d] at m;cases m;have e:S[i]?=some S[i]:=Wl d;obtain⟨ok,E⟩:=O.fr i _ e;have U9:=yD P S i;have s:=W.app (g:=[.lst (((List.range i).flatMap (DO P S)).map wa)]);have y:=T.app (g:=[.lst (((List.range i).flatMap (DO P S)).map wa)]);obtain⟨t,G,F⟩:=s.x i _ e;obtain⟨v,u⟩:=s.at_ e;rw[Il,O0 e];generalize A:S[i]=x at*;nofun;refine rv v ?_;nofun;refine rv u ?_;nofun;refine rv (gM (hd:=x.2) y t ok) ?_;nofun;refine rv v ?_;nofun;refine rv u ?_;nofun;refine rv (Cu t) ?_;obtain⟨fs,hd⟩:=x;cases fs with
  | nil=>
   refine⟨false,rfl,ff (ff ?_)⟩;nofun;exact⟨by rw[show oO P S ([],hd)=[] from rfl,Zd,Xb],_,_,rfl⟩
  | cons f fs=>
   refine⟨true,rfl,tt ?_⟩;nofun;refine rv (uD y s e ok E) ?_;nofun;refine rv (LP _ _) ⟨_,rfl,λc=>?_,λc=>?_⟩
   ·nofun;refine fY ?_;nofun;refine⟨bV (qw rfl),?_⟩;nofun;refine rv (bH (qw rfl) (by rw[Wc,show sizeLine=16777216 from rfl];lia)) ?_;rw[GQ rfl];nofun;refine rv (uu _ _) ?_;have l:mZ P (f::fs,hd)=aQ P f:=rfl;rw[l];cases er:aQ P f with
    | none=>
     refine⟨false,rfl,ff (ff ?_)⟩;nofun;refine⟨?_,_,_,rfl⟩;have:oO P S (f::fs,hd)=[0]:=zc (a:=false) (by rw[er];rfl) c;rw[this,Wv];rfl
    | some r=>
     refine⟨true,rfl,tt ?_⟩;nofun;refine rv (aZ r _) ?_;nofun;refine rv (Hg r _) ⟨_,rfl,λq=>?_,λq=>?_⟩
     ·nofun;refine fY ?_;nofun;refine⟨bV (qw rfl),?_⟩;nofun;refine rv (bH (qw rfl) (by rw[Wn,Wc,show sizeLine=16777216 from rfl,Wq,Xm];lia)) ?_;rw[GQ rfl];nofun;refine⟨?_,_,_,rfl⟩;have:oO P S (f::fs,hd)=[0,1]:=zc (a:=true) (by rw[er];exact q) c;rw[this,Wv,W8];rfl
     ·nofun;refine⟨?_,_,_,rfl⟩;have:oO P S (f::fs,hd)=[0]:=zc (a:=false) (by rw[er];exact q) c;rw[this,Wv];rfl
   ·nofun;refine⟨?_,_,_,rfl⟩;have hn:∀r,aQ P f=some r->rW r=false:=λr er=>Bool.eq_false_iff.mpr λz=>by rw[Nh er z] at c;cases c
    have:oO P S (f::fs,hd)=[]:=zc (a:=false) (by
     cases er:aQ P f with
     | none=>rfl
     | some r=>exact hn r er) c
    rw[this,Zd,Xb]
 ·rintro k n ⟨rfl,p,o,rfl⟩;rw[Wc,WK,WT];nofun;refine rv (Iv (Wj _) (qw rfl) (by show dY _ _=true;exact Jj _ _)) ?_;rfl
def Mj(P:Prog)(t:Gm):Prop:=∀p∈t,∃d∈P.ao,d.1=p.1/\d.2.1.length=p.2.length
def Jx{P:Prog}(f:Dr P){t:Gm}(l:Mj P t)(hl:t.length<=10):(∀h,l7 [ax P,Mz t] h=some (bS (t.map (lD P (c7 P))),h))/\Mk P 0 (t.map (lD P (c7 P))):=by
 have hd:∀p∈t,∃d,P.ao[c7 P p.1]?=some d/\d.1=p.1/\d.2.1.length=p.2.length:=λp hp=>by
  obtain⟨d,hd,a,b⟩:=l p hp;obtain⟨j,i⟩:=Xg.mp hd;exact⟨d,by rw[<-a,f.num i];exact i,a,b⟩
 refine⟨λh=>CO f.nd (by have:=f.six;lia) (by lia) λp hp=>?_,λx o=>?_,by rw[Wc];exact hl⟩
 ·obtain⟨d,a,b,_⟩:=hd p hp;rw[Wt,a,<-b];rfl
 ·obtain⟨p,hp,rfl⟩:=WY.mp o;obtain⟨d,a,b,q⟩:=hd p hp;have e:∀g∈[({aO:=c7 P p.1,nums:=p.2,rs:=[],k:=0}:aT)],cF P g:=λg c=>by
   rw[Wr.mp c];exact⟨d,d.2.2,a,rfl,WL _⟩
  have fn:∀g∈[({aO:=c7 P p.1,nums:=p.2,rs:=[],k:=0}:aT)],EI P 0 g:=λg c=>by
   rw[Wr.mp c];exact⟨by rw[ic a,q];exact Wj _,Wj _⟩
  obtain⟨n,m⟩:=yP e;exact⟨n,yQ e fn,m,Wj _,(uL e).trans rfl⟩
def gO{h:MH}{b:Nat}{S:List Hand}(W:dR h b S)(t:S.length<=1000):dN [.ob b] h=some (bS S,h):=by
 refine fj ?_;refine aY ?_;nofun;refine kO ?_;nofun;refine⟨_,_,lO W.w,?_⟩;obtain⟨⟨f,u⟩,n,p,rfl,c,-⟩:=sC (ws:=[(b,.lst ((List.range S.length).map λi=>.ob (b+3*i+3)))]) (g:=Pt 2 (ag (gN 0) (ag (gN 1) bo))) (e:=ai aw (a2 (ai cA (a1 v0)) (ai cA (a1 v1)))) (xs:=(List.range S.length).map λi=>.ob (b+3*i+3)) (δ:=[none,none]) (h:=h)
  (λi f d l=>l=h/\f=(S.take i).map cK/\∃o d1,d=[o,d1]) ⟨rfl,rfl,_,_,rfl⟩ (λi f d l z=>by rw[z.1];exact CL W.w) (by
   rintro i x f d l m ⟨rfl,rfl,o,d1,rfl⟩;rw[Wt] at m;obtain⟨j,k,rfl⟩:=dS m;have a:=(V9.mp k).1;rw[WK] at a;rw[Yn a] at k;cases k;have c:S[i]?=some S[i]:=Wl a;obtain⟨s,r,q⟩:=W.x i _ c;refine Hv (yI q) rfl ?_;nofun;refine rv (fB s) ?_;nofun;refine rv (fB r) ?_;nofun;refine⟨rfl,?_,_,_,rfl⟩;rw[YZ,c,YV,Wv];rfl)
 rw[Wc,WK,Xf] at c;dsimp only at c n;subst c;refine rv n ⟨by dsimp only;rw[Wc,show sizeLine=16777216 from rfl];lia,?_⟩;nofun;refine rv rfl ?_;rfl
def MY(b i:Nat)(x:Hand):MH:=[.lst (x.1.reverse.map cQ),.lst (x.2.map bW),.lst [.ob (b+3*i+1),.ob (b+3*i+2)]]
def hG(b:Nat):Nat->List Hand->MH
 | _,[]=>[]
 | i,x::S=>MY b i x++hG b (i+1) S
noncomputable def Ci(b n:Nat):List D:=(List.range n).map λi=>.ob (b+3*i+3)
def Be(b:Nat)(S:List Hand):MH:=.lst (Ci b S.length)::hG b 0 S
theorem yN(b:Nat):∀(i:Nat)(S:List Hand),(hG b i S).length=3*S.length
 | _,[]=>rfl
 | i,x::S=>by
  show(MY b i x++hG b (i+1) S).length=_;rw[Wn,yN b (i+1) S,Wq];show 3+_=_
  lia
theorem D0(b:Nat)(y:Hand):∀(i:Nat)(S:List Hand),hG b i (S++[y])=hG b i S++MY b (i+S.length) y
 | i,[]=>by show MY b i y++[]=_;rw[Xb];rfl
 | i,x::S=>by
  show MY b i x++hG b (i+1) (S++[y])=(MY b i x++hG b (i+1) S)++_;rw[D0 b y (i+1) S,W8,Wq,show i+1+S.length=i+(S.length+1) by lia]
theorem MZ(b:Nat):∀(i:Nat)(S:List Hand)(j:Nat)(x:Hand),S[j]?=some x->(hG b i S)[3*j]?=some (.lst (x.1.reverse.map cQ))/\(hG b i S)[3*j+1]?=some (.lst (x.2.map bW))/\(hG b i S)[3*j+2]?=some (.lst [.ob (b+3*(i+j)+1),.ob (b+3*(i+j)+2)])
 | i,y::S,0,x,e=>by cases e;exact⟨rfl,rfl,rfl⟩
 | i,y::S,j+1,x,e=>by
  obtain⟨a,c,d⟩:=MZ b (i+1) S j x e;have f:∀k,(hG b i (y::S))[3*(j+1)+k]?=(hG b (i+1) S)[3*j+k]?:=λk=>by
   show(MY b i y++hG b (i+1) S)[3*(j+1)+k]?=_;rw[Wy (by show 3<=_;lia)];congr 1;show 3*(j+1)+k-3=_
   lia
  refine⟨(f 0).trans a,(f 1).trans c,(f 2).trans ?_⟩;rw[d,show i+1+j=i+(j+1) by lia]
def dR.new(h:MH)(S:List Hand):dR (h++Be h.length S) h.length S:=by
 have d:∀k,(h++Be h.length S)[h.length+k+1]?=(hG h.length 0 S)[k]?:=λk=>by
  rw[Wy (by lia),show h.length+k+1-h.length=k+1 by lia];rfl
 refine⟨?_,λi x e=>?_⟩
 ·rw[Wy (Wj _),X6];rfl
 ·obtain⟨a,b,c⟩:=MZ h.length 0 S i x e;refine⟨(d _).trans a,(d _).trans b,(d (3*i+2)).trans ?_⟩;rw[c,X5]
theorem qD{h:MH}:∀(ds:List di)(o:Option D),bO [] (gN 0) cV (ah aB v0 (ki 0)) (ds.map gS) [o] h=some ((ds.map (·.1)).map D.str,h)
 | [],o=>rfl
 | d::ds,o=>by
  rw[Wo];show((bO [] (gN 0) cV (ah aB v0 (ki 0)) (ds.map gS) [some (gS d)] h).map _)=_;rw[qD ds _];rfl
def uF{P:Prog}{h:MH}{lo hi:Nat}{ts:List D}{t:Gm}(r:Dr P)(T:gV P h lo hi ts)(v:hi<=h.length)(s:Mj P t)(E:t.length<=1000):gm [ax P,.lv ts,Mz t] h=some (.ob h.length,h++Be h.length (t.map (lD P (c7 P)))):=by
 have F:=r.six;refine fj ?_;refine aY ?_;unfold ax;nofun;refine kO ?_;nofun;refine⟨_,_,rfl,?_⟩;refine rv (qD P.ao none) ⟨by dsimp only;rw[Wc,Wc,show sizeLine=16777216 from rfl];lia,?_⟩;unfold Mz;nofun;refine kO ?_;nofun;refine⟨_,_,rfl,?_⟩;refine eS (λi e j=>j=h++Be h.length ((t.take i).map (lD P (c7 P)))/\∃(m l:Option D),e=[some (.tup [.tup (P.names.map D.str),.tup (P.ao.map gS)]),some (.lv ts),some (.tup (t.map λp=>.tup [.str p.1,.tup (p.2.map D.int)])),some (.lv ((P.ao.map (·.1)).map D.str)),some (.ob h.length),m,l]) ⟨rfl,_,_,rfl⟩ (λ_ _ _ _ _=>rfl) ?_ ?_
 ·rintro i x e j n ⟨rfl,m,l,rfl⟩;rw[Wt] at n;obtain⟨p,hp,rfl⟩:=dS n;have u:=(V9.mp hp).1;obtain⟨d,hd,d1,d2⟩:=s p (Wk hp);obtain⟨C,c⟩:=Xg.mp hd;have b:P.ao[c7 P p.1]?=some d:=by rw[<-d1,r.num c];exact c
  have a:((t.take i).map (lD P (c7 P))).length=i:=by rw[Wc,WJ];lia
  have o:Be h.length ((t.take i).map (lD P (c7 P)))=.lst (Ci h.length i)::hG h.length 0 ((t.take i).map (lD P (c7 P))):=by unfold Be;rw[a]
  have A:(h++Be h.length ((t.take i).map (lD P (c7 P)))).length=h.length+3*i+1:=by rw[Wn,o,Wq,yN,a];lia
  have q:∀g,((h++Be h.length ((t.take i).map (lD P (c7 P))))++g)[h.length]?=some (.lst (Ci h.length i)):=λg=>by
   rw[W8,Wy (Wj _),X6,o];rfl
  nofun;refine fY ?_;nofun;refine⟨bV (by have:=q [];rw[Xb] at this;exact this),?_⟩;nofun;refine fY ?_;nofun;refine⟨rfl,?_⟩;nofun;refine rv (qU (WY.mpr ⟨d,hd,d1⟩)) ?_;nofun;refine rv (nS (fs:=[{aO:=c7 P p.1,nums:=p.2,rs:=[],k:=0}]) (T.app.app) (qw rfl) (by rw[A];lia) (λf w=>by rw[Wr.mp w];exact⟨d,d.2.2,b,rfl,WL _⟩) ⟨WL _,λ_ z=>(nomatch z)⟩ (show 1<=1000 by decide) (show 1 < 1000000 by decide)) ?_;rw[GQ rfl];nofun;refine rv (bH (by rw[W8,W8];exact q _) (by unfold Ci;rw[Wc,WK,show sizeLine=16777216 from rfl];lia)) ?_;nofun;refine⟨?_,_,_,rfl⟩;rw[YZ,hp,YV,Wv];show _=h++Be h.length ((t.take i).map (lD P (c7 P))++[lD P (c7 P) p]);unfold Be;rw[D0,Wn,a,W8,W8,W8,Y4 _ _ (Wj _),X6,X5];simp only[Wn,Wq,Xm,yN,a];have y:Ci h.length (i+(0+1))=Ci h.length i++[D.ob (h.length+(3*i+1)+(0+1)+(0+1))]:=by
   unfold Ci;rw[show i+(0+1)=i+1 from rfl,List.range_succ,Wv];rfl
  rw[y];rfl
 ·rintro e j ⟨rfl,m,l,rfl⟩;rw[Wc,Xf];nofun
theorem DB{rows:List Row}:∀{rs:List (Nat×Nat)} {k:Nat} {a:List Row} {p:List (Nat×Nat)×Nat},bq rows rs.reverse=some a->k<=a.length->mh rows rs k=some p->∃d,bq rows p.1.reverse=some d/\p.2<=d.length
 | [],k,a,p,e,f,b=>by
  cases q:a[k]? with
  | none=>rw[oh e q] at b;cases b
  | some r=>rw[fI e q] at b;cases b;exact⟨a,e,f⟩
 | s::rs,k,a,p,e,f,b=>by
  cases q:a[k]? with
  | some r=>rw[fI e q] at b;cases b;exact⟨a,e,f⟩
  | none=>
   obtain⟨l,r,g1,g2,g3⟩:=k8 e;have hl:=(V9.mp g2).1;rw[t9 e q g1 g2] at b
   by_cases c:aL r s.2=true
   ·rw[Wg c] at b;cases b;exact⟨a,e,f⟩
   ·rw[Wh c] at b;exact DB g1 (by split <;> lia) b
theorem D7{P:Prog}:∀{fs:List aT} {f:aT},cF P f->(∀g∈fs,cF P g)->FL P (f::fs)->FL P (fA P fs f)
 | fs,f,⟨d,a,f1,f2,t⟩,b,hf=>by
  have l:f.k<=a.length:=by rw[<-lV f1 f2];exact hf.1
  cases q:mh (bJ P f.aO) f.rs f.k with
  | some p=>
   rw[eG q];rw[cq f1] at q;obtain⟨s,o,n⟩:=DB f2 l q;exact⟨by rw[lV (f:={f with rs:=p.1,k:=p.2}) f1 o];exact n,hf.2⟩
  | none=>cases fs with
   | nil=>rw[gQ q];trivial
   | cons g m=>
    obtain⟨r,c,i,h,e⟩:=b g We;rw[jR q];exact D7 (fs:=m) (f:={g with k:=g.k+1}) ⟨r,c,i,h,e⟩ (λx j=>b x (Wf _ j)) hf.pop
theorem D4{P:Prog}:∀{fs:List aT},(∀g∈fs,cF P g)->FL P fs->FL P (dw P fs)
 | [],_,_=>trivial
 | f::fs,h,hf=>D7 (h f We) (λg a=>h g (Wf _ a)) hf
def Kn{P:Prog}{f:aT}{r:Row}(st:iQ P f)(er:aQ P f=some r):f.k < FE P f:=by
 obtain⟨d,d1,⟨b,a,c⟩,e⟩:=st;unfold aQ at er;rw[cq d1,a] at er;rw[lV d1 a];exact(V9.mp er).1
def Jb{P:Prog}{f:aT}(st:iQ P f)(er:aQ P f=none):∃s a,f.rs=s::a/\sg f={f with rs:=a,k:=s.1+1}/\s.1+1<=FE P (sg f):=by
 obtain⟨d,d1,⟨e,h,g⟩,n⟩:=st;unfold aQ at er;rw[cq d1,h] at er;rcases g with⟨r,hr⟩ |⟨_,s,a,l,r,c,j,i,m⟩
 ·exact absurd (hr.symm.trans er) (λz=>nomatch z)
 ·have b:sg f={f with rs:=a,k:=s.1+1}:=by unfold sg;rw[c]
  refine⟨s,a,c,b,?_⟩;rw[b,lV (f:={f with rs:=a,k:=s.1+1}) d1 j];exact(V9.mp i).1
def LG{P:Prog}{S:List Hand}{c j:Nat}{f:aT}{fs:List aT}{hd:List (List aq)}(st:iQ P f)(b:FL P (f::fs)):FL P (gone P S (f::fs,hd) c j).1:=by
 cases er:aQ P f with
 | none=>
  obtain⟨s,i,p,o,n⟩:=Jb st er;have d:(gone P S (f::fs,hd) c j).1=sg f::fs:=by unfold gone;dsimp only;rw[er]
  rw[d];exact⟨by rw[show(sg f).k=s.1+1 by rw[o]];exact n,b.2⟩
 | some r=>
  have e:=Kn st er
  by_cases a:nv r=true
  ·cases r with
   | call w h=>
    have d:(gone P S (f::fs,hd) c j).1=nE P f j h::f::fs:=by unfold gone;dsimp only;rw[er]
    rw[d];exact⟨WL _,λg m=>(Ws.mp m).elim (λz=>z ▸ e) (b.2 g)⟩
   | _=>cases a
  ·rw[ip er (by simpa using a)];cases du P S f c r with
   | none=>exact⟨e,b.2⟩
   | some l=>exact⟨WL _,b.2⟩
structure SL(P:Prog)(n:Nat)(S:List Hand):Prop where
 s:Mk P n S
 f:∀x∈S,FL P x.1
section
variable {P:Prog} (D:Dr P)
include D
theorem w6{n:Nat}{f:aT}{fs:List aT}{hd:List (List aq)}(e:iw P n (f::fs,hd)):∃b,P.ao[gP P (f::fs,hd)]?=some b/\∀w ts,aQ P f=some (.call w ts)->(p8 P (gP P (f::fs,hd))).length<=ts.length:=by
 obtain⟨d,a,_⟩:=e.fr.1;have hp:=D.pos;have hr:mZ P (f::fs,hd)=aQ P f:=rfl;cases er:aQ P f with
 | none=>exact⟨P.ao[0],by unfold gP;rw[hr,er];exact Wl hp,λ_ _ z=>(nomatch z)⟩
 | some r=>
  obtain⟨T,B,C⟩:=D.row a (e.nm f We) er;cases r with
  | call w ts=>
   obtain⟨⟨b,c,m,h⟩,l,k⟩:=C w ts rfl;have i:gP P (f::fs,hd)=c7 P w:=by unfold gP;rw[hr,er]
   rw[i];exact⟨b,c,λj g z=>by cases z;rw[ic c,h];exact Wj _⟩
  | _=>exact⟨P.ao[0],by unfold gP;rw[hr,er];exact Wl hp,λ_ _ z=>(nomatch z)⟩
theorem SL.step{n:Nat}{S:List Hand}(s:SL P n S)(hn:n<=900){i c:Nat}{f:aT}{fs:List aT}{hd:List (List aq)}(e:S[i]?=some (f::fs,hd))(q:c∈oO P S (f::fs,hd)):
  SL P (n+1) (S.set i (vh P S (f::fs,hd) c))/\(∀g∈(gone P S (f::fs,hd) c (gP P (f::fs,hd))).1,cF P g)/\(gone P S (f::fs,hd) c (gP P (f::fs,hd))).1.length<=1000/\FL P (gone P S (f::fs,hd) c (gP P (f::fs,hd))).1:=by
 have hm:=Wk e;have b:=s.s.h _ hm;obtain⟨r,k,d⟩:=w6 D b;obtain⟨p,m,o⟩:=b.next (S:=S) (c:=c) hn d k λ_ _ _=>Jl q;have fl:=LG (S:=S) (c:=c) (j:=gP P (f::fs,hd)) (hd:=hd) b.fr.1 (s.f _ hm);refine⟨⟨⟨λy a=>?_,by rw[Xl];exact s.s.l⟩,λy a=>?_⟩,m,o,fl⟩
 ·rcases Yh a with z | z
  ·exact(s.s.h y z).up
  ·rw[z];exact p
 ·rcases Yh a with z | z
  ·exact s.f y z
  ·rw[z];exact D4 m fl
theorem SL.V5{t:Gm}(l:Mj P t)(hl:t.length<=10):SL P 0 (t.map (lD P (c7 P))):=by
 have hd:∀p∈t,∃d,P.ao[c7 P p.1]?=some d/\d.1=p.1/\d.2.1.length=p.2.length:=λp hp=>by
  obtain⟨d,hd,a,f⟩:=l p hp;obtain⟨j,h⟩:=Xg.mp hd;exact⟨d,by rw[<-a,D.num h];exact h,a,f⟩
 have b:∀p∈t,∀g∈[({aO:=c7 P p.1,nums:=p.2,rs:=[],k:=0}:aT)],cF P g:=λp hp g e=>by
  obtain⟨d,a,f,i⟩:=hd p hp;rw[Wr.mp e];exact⟨d,d.2.2,a,rfl,WL _⟩
 refine⟨⟨λx c=>?_,by rw[Wc];exact hl⟩,λx c=>?_⟩
 ·obtain⟨p,hp,rfl⟩:=WY.mp c;obtain⟨d,a,f,i⟩:=hd p hp;have fn:∀g∈[({aO:=c7 P p.1,nums:=p.2,rs:=[],k:=0}:aT)],EI P 0 g:=λg e=>by
   rw[Wr.mp e];exact⟨by rw[ic a,i];exact Wj _,Wj _⟩
  obtain⟨n,m⟩:=yP (b p hp);exact⟨n,yQ (b p hp) fn,m,Wj _,(uL (b p hp)).trans rfl⟩
 ·obtain⟨p,hp,rfl⟩:=WY.mp c;exact D4 (b p hp) ⟨WL _,λ_ z=>(nomatch z)⟩
theorem Dr.np{i:Nat}{d:di}(e:P.ao[i]?=some d):d.2.1.Nodup:=let⟨_,_,_,ok,o⟩:=D.ex;ok.np _ (Wk (o.dd i d e).2.1)
theorem SL.ow{n:Nat}{S:List Hand}(s:SL P n S):VD P S:=by
 refine⟨by have:=s.s.l;lia,λi x e=>?_⟩;have a:=s.s.h _ (Wk e);refine⟨a.fr.hd,λf fs g=>?_⟩;have c:=a.fr;have b:=a.nm;rw[g] at c b;obtain⟨d,hd,_⟩:=c.1;have hn:=b f We;exact⟨⟨d,hd,Dr.np D hd,by have:=hn.nm;rw[ic hd] at this;exact this⟩,λr er=>(D.row hd hn er).1⟩
end
noncomputable def isIn:Row->Bool
 | .vi _ _ _ _ _=>true
 | .either _ _=>true
 | .again _=>true
 | _=>false
def rV{P:Prog}{S:List Hand}{f:aT}{d:di}{r:Row}{x:List D}{c:Nat}{h:MH}(N:Qs P f d)(hi:isIn r=true)(B:Sy (bB P f) r):en [ax P,IJ f x,aG r,aj c] h=some (Ct (du P S f c r),h):=by
 refine fj ?_;refine aY ?_;cases r with
 | vi s t a b z=>
  rw[aG];nofun;refine⟨true,by ac_nf,tt ?_⟩;nofun;refine rv (eW N B.1) ?_;nofun;refine rv (eW N B.2) ?_;nofun;refine⟨_,_,rfl,?_⟩;nofun;refine rv rfl ?_;nofun;refine rv rfl ?_;nofun;show(D.int ((if decide (cy (bB P f) t<=cy (bB P f) s)=true then(1:Int) else 0)+(if decide (cy (bB P f) t < cy (bB P f) s)=true then(1:Int) else 0)),h)=(aj (M6 (bB P f) s t),h);unfold M6 aj;congr 2
  by_cases g:cy (bB P f) s < cy (bB P f) t
  ·rw[Wh (by simp;lia),Wh (by simp;lia),Wg g];rfl
  ·by_cases i:cy (bB P f) s=cy (bB P f) t
   ·rw[Wg (by simp;lia),Wh (by simp;lia),Wh g,Wg i];rfl
   ·rw[Wg (by simp;lia),Wg (by simp;lia),Wh g,Wh i];rfl
 | either a b=>
  rw[aG];nofun;refine⟨false,by ac_nf,ff ?_⟩;nofun;refine⟨true,by ac_nf,tt ?_⟩;nofun;rfl
 | again a=>
  rw[aG];nofun;refine⟨false,by ac_nf,ff ?_⟩;nofun;refine⟨false,by ac_nf,ff ?_⟩;nofun;refine rv (lB c 1 _) ⟨_,rfl,λz=>?_,λz=>?_⟩
  ·have e:c=1:=by have:=eq_of_beq z;lia
   nofun;subst e;rfl
  ·have e:¬c=1:=λq=>by subst q;cases z
   nofun;show(D.bb,h)=(Ct (if c=1 then some 0 else none),h);rw[Wh e];rfl
 | _=>cases hi
theorem Im{m:Nat}:∀fs:List aT,(∀f∈fs,f.rs.length<=m)->DP fs<=fs.length*(m+1)
 | [],_=>WL _
 | f::fs,h=>by
  have c:=h f We;have b:=Im fs λg a=>h g (Wf _ a);rw[kY,Wq,Nat.succ_mul]
  lia
abbrev nN:SM:=(ak (aP 12 (xn (au (ah oF Qu (eK .bb))) (ai br (a1 JM)) (ah aI JM (ai aw (a2 Qu (ki 0))))))
  (ak (cJ (eM bK bt v6 (a1 (ai aw (a3 v10 v11 JM)))))
  (ak (cJ (ai bQ (a2 v1 v6)))
  (aC v9))))
def qv{P:Prog}{h:MH}{lo hi n:Nat}{ts:List D}{gs:List aT}{g:aT}{X ev:D}{o:Option Nat}{t e3 s r p m e d:Option D}{Q:D×MH->Prop}{δ:DS}(j:δ=[some (ax P),some (.lv ts),t,e3,s,r,some (.ob n),p,m,some ev,some (aj g.aO),some (.tup (g.nums.map D.int)),some X,some (Ct o),e,d])(T:gV P h lo hi ts)(hn:h[n]?=some (.lst (gs.reverse.map cQ)))(b:¬(lo<=n/\n < hi))
  (hp:match (generalizing:=false) o with | none=>br [X] h=some (bA g.rs.reverse g.k,h) | some l=>aI X (.tup [aj l,.int 0]) h=some (bA g.rs.reverse g.k,h))
  (ok:∀f∈g::gs,cF P f) (fl:FL P (g::gs)) (hl:(g::gs).length<=1000) (hm:DP (g::gs) < 1000000) (q:Q (ev,h.set n (.lst ((dw P (g::gs)).reverse.map cQ)))):
  Rn (nN δ h) (l9 Q):=by
 subst j;have u:=(V9.mp hn).1;have c:∀(δ:DS),δ=[some (ax P),some (.lv ts),t,e3,s,r,some (.ob n),p,m,some ev,some (aj g.aO),some (.tup (g.nums.map D.int)),some (bA g.rs.reverse g.k),some (Ct o),e,d]->
   Rn ((ak (cJ (eM bK bt v6 (a1 (ai aw (a3 v10 v11 JM))))) (ak (cJ (ai bQ (a2 v1 v6))) (aC v9))) δ h) (l9 Q):=by
  rintro δ rfl;nofun;refine fY ?_;nofun;refine⟨bV hn,?_⟩;nofun;refine rv (bH hn (by rw[Wc,WM,show sizeLine=16777216 from rfl];rw[Wq] at hl;lia)) ?_;nofun;have x:gs.reverse.map cQ++[D.tup [aj g.aO,D.tup (g.nums.map D.int),bA g.rs.reverse g.k]]=(g::gs).reverse.map cQ:=by rw[WH,Wv];rfl
  rw[x];refine rv (nS (T.mono λi w v=>Wm (λz=>b (by rw[z];exact⟨w,v⟩))) (cW u) b ok fl hl hm) ?_;rw[XJ];nofun;exact q
 unfold nN;nofun;cases o with
 | none=>
  refine rv (a:=(.bl true,h)) rfl ⟨true,rfl,tt ?_⟩;nofun;refine rv hp ?_;exact c _ rfl
 | some l=>
  refine rv (a:=(.bl false,h)) rfl ⟨false,rfl,ff ?_⟩;nofun;refine rv hp ?_;exact c _ rfl
def dR.Q0{h:MH}{b i:Nat}{S:List Hand}{x:Hand}(W:dR h b S)(e:S[i]?=some x)(fs:List aT):dR (h.set (b+3*i+1) (.lst (fs.reverse.map cQ))) b (S.set i (fs,x.2)):=by
 have k:=(V9.mp e).1;have g:=(V9.mp (W.x i x e).1).1;refine⟨?_,λj y f=>?_⟩
 ·rw[Wm (by lia),W.w,Xl]
 ·by_cases z:i=j
  ·subst z;rw[WW k] at f;cases f;obtain⟨a,c,d⟩:=W.x i x e;exact⟨cW g,by rw[Wm (by lia)];exact c,by rw[Wm (by lia)];exact d⟩
  ·rw[Wm z] at f;obtain⟨a,c,d⟩:=W.x j y f;exact⟨by rw[Wm (by lia)];exact a,by rw[Wm (by lia)];exact c,by rw[Wm (by lia)];exact d⟩
def dR.Uw{h:MH}{b i:Nat}{S:List Hand}{x:Hand}(W:dR h b S)(e:S[i]?=some x)(hd:List (List aq)):dR (h.set (b+3*i+2) (.lst (hd.map bW))) b (S.set i (x.1,hd)):=by
 have k:=(V9.mp e).1;have g:=(V9.mp (W.x i x e).2.1).1;refine⟨?_,λj y f=>?_⟩
 ·rw[Wm (by lia),W.w,Xl]
 ·by_cases z:i=j
  ·subst z;rw[WW k] at f;cases f;obtain⟨a,c,d⟩:=W.x i x e;exact⟨by rw[Wm (by lia)];exact a,cW g,by rw[Wm (by lia)];exact d⟩
  ·rw[Wm z] at f;obtain⟨a,c,d⟩:=W.x j y f;exact⟨by rw[Wm (by lia)];exact a,by rw[Wm (by lia)];exact c,by rw[Wm (by lia)];exact d⟩
def dE(h:MH)(b i:Nat)(x:Hand):MH:=(h.set (b+3*i+1) (.lst (x.1.reverse.map cQ))).set (b+3*i+2) (.lst (x.2.map bW))
def dR.put{h:MH}{b i:Nat}{S:List Hand}{x:Hand}(W:dR h b S)(e:S[i]?=some x)(y:Hand):dR (dE h b i y) b (S.set i y):=by
 have a:=(V9.mp e).1;have:=(W.Q0 e y.1).Uw (i:=i) (x:=(y.1,x.2)) (WW a) y.2;rw[XJ] at this;exact this
def xH{h:MH}{b i:Nat}{S:List Hand}{x:Hand}(W:dR h b S)(e:S[i]?=some x)(fs:List aT):h.set (b+3*i+1) (.lst (fs.reverse.map cQ))=dE h b i (fs,x.2):=by
 unfold dE;exact(nU (by rw[Wm (by lia)];exact(W.x i x e).2.1)).symm
def Es(n:Nat)(bs:List (List aq)):dY n (bs.map bW)=true:=by
 have:=Ep n ([],bs);have a:(true&&(dY n (bs.map bW)&&true))=true:=this
 simpa using a
theorem Cl.dE{h:MH}(C:Cl h)(b i:Nat)(x:Hand):Cl (dE h b i x):=by
 unfold Mi.dE;exact(C.set (o:=.lst (x.1.reverse.map cQ)) (qF _ _)).set (o:=.lst (x.2.map bW)) (Es _ _)
def sT(h:MH)(b i:Nat)(x:Hand):(dE h b i x).length=h.length:=by unfold dE;rw[Xl,Xl]
section
variable {P:Prog} {h:MH} {lo hi b n i c:Nat} {ts:List D} {S:List Hand} {f:aT} {fs:List aT} {hd:List (List aq)} (T:gV P h lo hi ts) (hb:hi<=b) (W:dR h b S) (C:Cl h) (e:S[i]?=some (f::fs,hd))
include T hb W C e
theorem uJ{r:Row}{ev:D}{R e3 Q O N M y w:Option D}{δ:DS}{a:MH}(er:aQ P f=some r)(u:nv r=false)(G:f.rs.length<=1000)(H:∀n,ev≠.ob n)(J:gv h.length ev=true)
  (E:∀g∈(gone P S (f::fs,hd) c (gP P (f::fs,hd))).1,cF P g) (A:(gone P S (f::fs,hd) c (gP P (f::fs,hd))).1.length<=1000) (fl:FL P (gone P S (f::fs,hd) c (gP P (f::fs,hd))).1) (z:DP (gone P S (f::fs,hd) c (gP P (f::fs,hd))).1 < 1000000)
  (m:δ=[some (ax P),some (.lv ts),R,e3,Q,O,some (.ob (b+3*i+1)),N,M,some ev,some (aj f.aO),some (.tup (f.nums.map D.int)),some (bA f.rs.reverse f.k),some (Ct (du P S f c r)),y,w])
  (v:a=dE h b i (fs,(gone P S (f::fs,hd) c (gP P (f::fs,hd))).2)):
  Rn (nN δ a) (l9 λp=>Rn (leave h p.1 p.2) λp=>p=(ev,dE h b i (vh P S (f::fs,hd) c))):=by
 have s:=(V9.mp (W.x i _ e).1).1;have q:=ip (P:=P) (S:=S) (c:=c) (j:=gP P (f::fs,hd)) (fs:=fs) (hd:=hd) er u;have I:vh P S (f::fs,hd) c=(dw P (gone P S (f::fs,hd) c (gP P (f::fs,hd))).1,(gone P S (f::fs,hd) c (gP P (f::fs,hd))).2):=rfl;have go:∀(o:Option Nat)(g:aT),(gone P S (f::fs,hd) c (gP P (f::fs,hd))).1=g::fs->du P S f c r=o->g.aO=f.aO->g.nums=f.nums->(match (generalizing:=false) o with | none=>br [bA f.rs.reverse f.k] a=some (bA g.rs.reverse g.k,a) | some l=>aI (bA f.rs.reverse f.k) (.tup [aj l,.int 0]) a=some (bA g.rs.reverse g.k,a))->
   Rn (nN δ a) (l9 λp=>Rn (leave h p.1 p.2) λp=>p=(ev,dE h b i (vh P S (f::fs,hd) c))):=λo g F d g1 g2 hp=>by
  rw[F] at E A fl z;rw[d,<-g1,<-g2] at m;have t:¬(lo<=b+3*i+1/\b+3*i+1 < hi):=by lia
  refine qv (P:=P) (g:=g) (gs:=fs) (o:=o) (lo:=lo) (hi:=hi) (n:=b+3*i+1) (ts:=ts) m ?_ ?_ t hp E fl A z ?_
  ·rw[v];unfold dE;exact T.mono λj H a=>by rw[Wm (by lia),Wm (by lia)]
  ·rw[v];unfold dE;rw[Wm (by lia),cW s]
  ·have L:a.set (b+3*i+1) (.lst ((dw P (g::fs)).reverse.map cQ))=dE h b i (vh P S (f::fs,hd) c):=by
    rw[v,I,F];unfold dE;rw[Z4 _ _ (by lia),XJ]
   rw[L];exact rv (nr (sT h b i _) (C.dE b i _) H J) rfl
 cases d:du P S f c r with
 | none=>
  rw[d] at q;exact go none {f with k:=f.k+1} (by rw[q]) d rfl rfl (ie _ _ _ (by rw[WM];exact G))
 | some l=>
  rw[d] at q;exact go (some l) {f with rs:=(f.k,l)::f.rs,k:=0} (by rw[q]) d rfl rfl (DK _ _ _ _ G)
end
abbrev Ip:SM:=(ak (aP 15 (ai eJ (a3 v0 (ai aw (a2 v10 v11)) v8)))
  (ak (aP 13 (ai Cy (a1 (qC (ah bu (ah aB v8 (ki 0)) (ks "ask")) (ah gR (ai cS (a2 v2 (ah aB QK (ki 0)))) (eK .bb))))))
  (eL (au (ah bu Qu (ki 0))) (cJ (eM bK bt v7 (a1 QK))) bU)))
abbrev Jt:SM:=(ak (aP 14 (ai cA (a1 (nB (fb [none,some 10,some 11,some 0] (jQ (ah aB v8 (ki 2))) (gN 0) cV (ai aW (a3 v3 (ai aw (a2 v1 v2)) v0)))))))
  (ak (cJ (eM bK bt v6 (a1 (ai aw (a3 v10 v11 JM)))))
  (fi (ai aw (a3 (eM bK lT (nB (fb [none] (jQ (ah aB v0 (ki 1))) (gN 0) cV (ah aB v0 (ki 0)))) (a1 (ah aB v8 (ki 1)))) Vq (ai aw (a1 (i6 cT (ki 1)))))) (gT 3 (ag (gN 10) (ag (gN 11) (ag (gN 12) bo)))))))
abbrev Pp:SM:=aP 13 (ai en (a4 v0 (ai aw (a2 v10 v11)) v8 v5))
abbrev NL:SM:=aP 9 (ai aw (a2 v4 (ah aB v8 (ki 1))))
abbrev RM:SM:=eL (au (ah bu (ah aB v8 (ki 0)) (ks "say"))) NL (eL (au (ah bu (ah aB v8 (ki 0)) (ks "call"))) Jt (eL (au (ah r8 (ah aB v8 (ki 0)) (eK (.tup [.str "within",.str "all",.str "ask"])))) Ip Pp))
noncomputable def Iz:Row->Bool
 | .say _=>true
 | _=>false
def NK(r:Row)(h:MH):bu (.str (cz r)) (.str "say") h=some (.bl (Iz r),h):=by cases r <;> ac_nf
def Jp(r:Row)(h:MH):bu (.str (cz r)) (.str "call") h=some (.bl (nv r),h):=by cases r <;> ac_nf
def Ko(r:Row)(h:MH):r8 (.str (cz r)) (.tup [.str "within",.str "all",.str "ask"]) h=some (.bl (oz r),h):=by cases r <;> ac_nf
def O2{r:Row}{δ:DS}{h:MH}{Q:Fl×DS×MH->Prop}(o:δ[8]?=some (some (aG r)))(m:Iz r=true->Rn (NL δ h) Q)(l:nv r=true->Rn (Jt δ h) Q)(j:oz r=true->Rn (Ip δ h) Q)(i:Iz r=false->nv r=false->oz r=false->Rn (Pp δ h) Q):Rn (RM δ h) Q:=by
 have p:ah aB v8 (ki 0) δ h=some (.str (cz r),h):=by
  refine fj ?_;refine BR ?_;refine ib o ?_;nofun;exact rv (aZ r h) rfl
 have t:∀{f:D->D->MH->Option (D×MH)} {k:D} {b:Bool} {x y:SM},f (.str (cz r)) k h=some (.bl b,h)->(b=true->Rn (x δ h) Q)->(b=false->Rn (y δ h) Q)->Rn (eL (au (ah f (ah aB v8 (ki 0)) (eK k))) x y δ h) Q:=λ{f k b x y} n g e=>by
  refine Dt (HA (BR (rv p (Qv (rv n ⟨b,rfl,g,e⟩)))))
 exact t (NK r h) m λd=>t (Jp r h) l λc=>t (Ko r h) j λa=>i d c a
theorem DQ{P:Prog}{f:aT}{d:di}{h:MH}(N:Qs P f d):∀(ts:List Term)(o:Option D),(∀t∈ts,cb (bB P f) t)->bO [] (gN 0) cV (ai aW (a3 v3 (ai aw (a2 v1 v2)) v0)) (ts.map bx) [o,some (aj f.aO),some (.tup (f.nums.map D.int)),some (ax P)] h=some ((ts.map (cy (bB P f))).map D.int,h)
 | [],o,_=>rfl
 | t::ts,o,hw=>by
  have a:=DQ N (h:=h) ts (some (bx t)) (λx b=>hw x (Wf _ b));rw[Wo];show(aW [ax P,IJ f [],bx t] h).bind (λy=>(bO [] (gN 0) cV (ai aW (a3 v3 (ai aw (a2 v1 v2)) v0)) (ts.map bx) [some (bx t),some (aj f.aO),some (.tup (f.nums.map D.int)),some (ax P)] y.2).map λz=>(y.1::z.1,z.2))=_;rw[eW N (hw t We)];show(bO [] (gN 0) cV (ai aW (a3 v3 (ai aw (a2 v1 v2)) v0)) (ts.map bx) [some (bx t),some (aj f.aO),some (.tup (f.nums.map D.int)),some (ax P)] h).map _=_;rw[a];rfl
section
variable {P:Prog} {h:MH} {lo hi b n i c:Nat} {ts:List D} {S:List Hand} {f:aT} {fs:List aT} {hd:List (List aq)} {d:di} {r:Row} (N:Qs P f d) (T:gV P h lo hi ts) (hb:hi<=b) (W:dR h b S) (C:Cl h) (e:S[i]?=some (f::fs,hd))
 (er:aQ P f=some r) (hf:f.rs.length<=1000)
  (k2:∀g∈(gone P S (f::fs,hd) c (gP P (f::fs,hd))).1,cF P g) (k3:(gone P S (f::fs,hd) c (gP P (f::fs,hd))).1.length<=1000) (fl:FL P (gone P S (f::fs,hd) c (gP P (f::fs,hd))).1) (km:DP (gone P S (f::fs,hd) c (gP P (f::fs,hd))).1 < 1000000)
  {e3:Option D} {δ:DS} {h2:MH}
  (eδ:δ=[some (ax P),some (.lv ts),some (.ob b),e3,some (aj i),some (aj c),some (.ob (b+3*i+1)),some (.ob (b+3*i+2)),some (aG r),some .bb,some (aj f.aO),some (.tup (f.nums.map D.int)),some (bA f.rs.reverse f.k),some .bb,none,none])
  (eh:h2=h.set (b+3*i+1) (.lst (fs.reverse.map cQ)))
include er in
theorem DW(a:nv r=false)(j:oz r=false):(gone P S (f::fs,hd) c (gP P (f::fs,hd))).2=hd:=by
 rw[ip er a];cases du P S f c r with
 | none=>rfl
 | some l=>dsimp only;rw[show(i0 r||aL r 0)=false from j];rfl
include T hb W C e er hf k2 k3 fl km eδ eh
theorem IG(a:Iz r=true):Rn (NL δ h2) (j0 nN (l9 λp=>Rn (leave h p.1 p.2) λp=>p=(Ee i (some r),dE h b i (vh P S (f::fs,hd) c)))):=by
 cases r with
 | say w=>
  subst eδ;have j:aB (aG (Row.say w)) (.int 1) h2=some (.str w,h2):=by rw[aG];rfl
  refine Rn.imp (Q:=λz=>z=(.nx,[some (ax P),some (.lv ts),some (.ob b),e3,some (aj i),some (aj c),some (.ob (b+3*i+1)),some (.ob (b+3*i+2)),some (aG (Row.say w)),some (.tup [aj i,.str w]),some (aj f.aO),some (.tup (f.nums.map D.int)),some (bA f.rs.reverse f.k),some .bb,none,none],h2)) ?_ ?_
  ·walk_at "g";refine rv j ?_;nofun;rfl
  ·rintro _ rfl;refine uJ (c:=c) (ev:=.tup [aj i,.str w]) T hb W C e er rfl hf (λn z=>(nomatch z)) rfl k2 k3 fl km rfl ?_;rw[eh,DW er rfl rfl];exact xH W e fs
 | _=>cases a
include N in
theorem II(B:Sy (bB P f) r)(m:Iz r=false)(j:nv r=false)(l:oz r=false):Rn (Pp δ h2) (j0 nN (l9 λp=>Rn (leave h p.1 p.2) λp=>p=(Ee i (some r),dE h b i (vh P S (f::fs,hd) c)))):=by
 have a:isIn r=true:=by cases r <;> first | rfl |(cases m;done) |(cases j;done) |(cases l;done)
 have o:Ee i (some r)=.bb:=by cases r <;> first | rfl |(cases m;done)
 rw[o];subst eδ;refine Rn.imp (Q:=λz=>z=(.nx,[some (ax P),some (.lv ts),some (.ob b),e3,some (aj i),some (aj c),some (.ob (b+3*i+1)),some (.ob (b+3*i+2)),some (aG r),some .bb,some (aj f.aO),some (.tup (f.nums.map D.int)),some (bA f.rs.reverse f.k),some (Ct (du P S f c r)),none,none],h2)) ?_ ?_
 ·nofun;refine rv (rV (S:=S) (x:=[]) N a B) ?_;rfl
 ·rintro _ rfl;refine uJ (c:=c) (ev:=.bb) T hb W C e er j hf (λn z=>(nomatch z)) rfl k2 k3 fl km rfl ?_;rw[eh,DW er j l];exact xH W e fs
include N in
theorem FU(E:∀l∈cC r,cb (bB P f) l.2)(H:(cC r).length<=4)(j:oz r=true)(hl:hd.length<=1000):Rn (Ip δ h2) (j0 nN (l9 λp=>Rn (leave h p.1 p.2) λp=>p=(Ee i (some r),dE h b i (vh P S (f::fs,hd) c)))):=by
 have m:nv r=false:=by cases r <;> first | rfl |(cases j;done)
 have w:Ee i (some r)=.bb:=by cases r <;> first | rfl |(cases j;done)
 have u:h2[b+3*i+2]?=some (.lst (hd.map bW)):=by rw[eh,Wm (by lia)];exact(W.x i _ e).2.1
 have O:dR h2 b (S.set i (fs,hd)):=by rw[eh];exact W.Q0 e fs
 have G:∀l,cR (S.set i (fs,hd)) l=cR S l:=IE (ID (y:=(fs,hd)) e rfl);obtain⟨q,I,J,M⟩:∃q:Bool,(ai Cy (a1 (qC (ah bu (ah aB v8 (ki 0)) (ks "ask")) (ah gR (ai cS (a2 v2 (ah aB QK (ki 0)))) (eK .bb))))) [some (ax P),some (.lv ts),some (.ob b),e3,some (aj i),some (aj c),some (.ob (b+3*i+1)),some (.ob (b+3*i+2)),some (aG r),some .bb,some (aj f.aO),some (.tup (f.nums.map D.int)),some (bA f.rs.reverse f.k),some .bb,none,some (bW (k9 P f))] h2=some (aj (if q then 1 else 0),h2)/\du P S f c r=some (if q then 1 else 0)/\(gone P S (f::fs,hd) c (gP P (f::fs,hd))).2=if q then hd else hd++[k9 P f]:=by
  have v:∀q:Bool,du P S f c r=some (if q then 1 else 0)->(gone P S (f::fs,hd) c (gP P (f::fs,hd))).2=if q then hd else hd++[k9 P f]:=λq z=>by
   rw[ip er m,z];dsimp only;rw[show(i0 r||aL r 0)=true from j];cases q <;> rfl
  have F:(bu (.str (cz r)) (.str "ask") h2=some (.bl false,h2)/\du P S f c r=some 0)\/∃l a s,r=.ask l a s:=by
   cases r with
   | within l a=>exact .inl ⟨by ac_nf,rfl⟩
   | all l a=>exact .inl ⟨by ac_nf,rfl⟩
   | ask l a s=>exact .inr ⟨_,_,_,rfl⟩
   | _=>cases j
  rcases F with⟨A,t⟩ |⟨l,a,s,rfl⟩
  ·refine⟨false,?_,t,v false t⟩;refine fj ?_;walk_at "g";refine rv (aZ _ _) ?_;walk_at "g";refine rv A ⟨false,rfl,ff ?_⟩;nofun;exact rv rfl rfl
  ·refine⟨(k9 P f).any (cR S),?_,rfl,v _ rfl⟩;have L:=yK er;refine fj ?_;walk_at "g";refine rv (aZ _ _) ?_;walk_at "g";refine rv (a:=(.bl true,h2)) (by ac_nf) ⟨true,rfl,tt ?_⟩;rw[L];walk_at "g";refine rv (a:=(dU (l.1,cy (bB P f) l.2),h2)) rfl ?_;walk_at "g";refine rv (mG O) ?_;walk_at "g";have o:=G (l.1,cy (bB P f) l.2);unfold cR at o;rw[XY,List.any_nil,Z5];unfold cR;rw[<-o];cases(S.set i (fs,hd)).findIdx? (ny (l.1,cy (bB P f) l.2)) with
   | none=>
    refine rv rfl ?_;nofun;exact rv rfl rfl
   | some k=>
    refine rv rfl ?_;nofun;exact rv rfl rfl
 rw[w];subst eδ;refine Rn.imp (Q:=λz=>z=(.nx,[some (ax P),some (.lv ts),some (.ob b),e3,some (aj i),some (aj c),some (.ob (b+3*i+1)),some (.ob (b+3*i+2)),some (aG r),some .bb,some (aj f.aO),some (.tup (f.nums.map D.int)),some (bA f.rs.reverse f.k),some (aj (if q then 1 else 0)),none,some (bW (k9 P f))],if q then h2 else h2.set (b+3*i+2) (.lst (hd.map bW++[bW (k9 P f)])))) ?_ ?_
 ·nofun;refine rv (mF (x:=[]) N er j E H) ?_;refine xJ (mx ?_);refine Du (rv I ?_);refine xJ ?_;cases q with
  | true=>
   walk_at "g";refine rv (a:=(.bl false,h2)) rfl ⟨false,rfl,ff ?_⟩;walk_at "g";rfl
  | false=>
   walk_at "g";refine rv (a:=(.bl true,h2)) rfl ⟨true,rfl,tt ?_⟩;walk_at "g";refine fY ?_;walk_at "g";refine⟨bV u,?_⟩;walk_at "g";refine rv (bH u (by rw[Wc,show sizeLine=16777216 from rfl];lia)) ?_;walk_at "g";rfl
 ·rintro _ rfl;refine uJ (c:=c) (ev:=.bb) T hb W C e er m hf (λn z=>(nomatch z)) rfl k2 k3 fl km (by rw[J];rfl) ?_;rw[eh,M];cases q with
  | true=>exact xH W e fs
  | false=>
   unfold dE;dsimp only;rw[Wh (by decide),Wh (by decide),Wv];rfl
include N in
theorem FV{w:Str}{tt:List Term}{q:di}(G:r=.call w tt)(v:∀t∈tt,cb (bB P f) t)(J:tt.length<=3)(y:P.ao[c7 P w]?=some q)(m:q.1=w)(I:P.ao.length<=6)(A:fs.length<=1000):Rn (Jt δ h2) (j0 nN (l9 λp=>Rn (leave h p.1 p.2) λp=>p=(Ee i (some r),dE h b i (vh P S (f::fs,hd) c)))):=by
 subst G;have k:=(V9.mp (W.x i _ e).1).1;have E:gP P (f::fs,hd)=c7 P w:=by unfold gP;rw[show mZ P (f::fs,hd)=aQ P f from rfl,er]
 have u:gone P S (f::fs,hd) c (gP P (f::fs,hd))=(nE P f (c7 P w) tt::f::fs,hd):=by rw[E];unfold gone;dsimp only;rw[er]
 rw[u] at k2 k3 fl km;have s:h2[b+3*i+1]?=some (.lst (fs.reverse.map cQ)):=by rw[eh,cW k]
 have l:¬(lo<=b+3*i+1/\b+3*i+1 < hi):=by lia
 rw[aG] at eδ;subst eδ;refine Rn.imp (Q:=λz=>z=(.nx,[some (ax P),some (.lv ts),some (.ob b),e3,some (aj i),some (aj c),some (.ob (b+3*i+1)),some (.ob (b+3*i+2)),some (.tup [.str "call",.str w,.tup (tt.map bx)]),some .bb,some (aj (nE P f (c7 P w) tt).aO),some (.tup ((nE P f (c7 P w) tt).nums.map D.int)),some (.tup [.int (-1)]),some (Ct none),some (.tup ((nE P f (c7 P w) tt).nums.map D.int)),none],h2.set (b+3*i+1) (.lst (fs.reverse.map cQ++[cQ f])))) ?_ ?_
 ·nofun;refine rv (a:=(tt.map bx,[],h2)) rfl ?_;refine rv (DQ N tt none v) ⟨by rw[Wc,Wc,show sizeLine=16777216 from rfl];lia,?_⟩;nofun;refine rv rfl ?_;nofun;refine fY ?_;nofun;refine⟨bV s,?_⟩;nofun;refine rv (bH s (by rw[Wc,WM,show sizeLine=16777216 from rfl];lia)) ?_;nofun;refine fY ?_;unfold ax;nofun;refine rv (a:=(P.ao.map gS,[],_)) rfl ?_;refine rv (qD P.ao none) ⟨by dsimp only;rw[Wc,Wc,show sizeLine=16777216 from rfl];lia,?_⟩;nofun;refine⟨rfl,?_⟩;nofun;refine rv (qU (WY.mpr ⟨q,Wk y,m⟩)) ?_;nofun;rfl
 ·rintro _ rfl;have H:h2.set (b+3*i+1) (.lst (fs.reverse.map cQ++[cQ f]))=h.set (b+3*i+1) (.lst ((f::fs).reverse.map cQ)):=by rw[eh,XJ,WH,Wv];rfl
  rw[H];refine qv (P:=P) (g:=nE P f (c7 P w) tt) (gs:=f::fs) (o:=none) (lo:=lo) (hi:=hi) (n:=b+3*i+1) (ts:=ts) (X:=.tup [.int (-1)]) (ev:=.bb) rfl (T.mono λj L h2=>by rw[Wm (by lia)]) (by rw[cW k]) l (by ac_nf) k2 fl k3 km ?_;rw[XJ];have F:h.set (b+3*i+1) (.lst ((dw P (nE P f (c7 P w) tt::f::fs)).reverse.map cQ))=dE h b i (vh P S (f::fs,hd) c):=by
   unfold vh;rw[u];exact xH W e _
  rw[F];exact rv (nr (sT h b i _) (C.dE b i _) (λn z=>(nomatch z)) rfl) rfl
include N in
theorem IH{m:Nat}(o:Dr P)(a:iw P m (f::fs,hd))(hm:m<=100)(s:∀l∈cC r,cb (bB P f) l.2)(q:(cC r).length<=4):Rn (RM δ h2) (j0 nN (l9 λp=>Rn (leave h p.1 p.2) λp=>p=(Ee i (some r),dE h b i (vh P S (f::fs,hd) c)))):=by
 obtain⟨_,B,E⟩:=o.row N.e (a.nm f We) er;have A:=o.six;have k:fs.length<=1000:=by have:=a.fl;dsimp only at this;rw[Wq] at this;lia
 have j:hd.length<=1000:=by have:=a.hl;dsimp only at this;lia
 refine O2 (r:=r) (by rw[eδ];rfl) (IG T hb W C e er hf k2 k3 fl km eδ eh) ?_ (λy=>FU N T hb W C e er hf k2 k3 fl km eδ eh s q y j) (II N T hb W C e er hf k2 k3 fl km eδ eh B);intro z;cases r with
 | call w tt=>
  obtain⟨⟨G,x,v,F⟩,u,t⟩:=E w tt rfl;exact FV N T hb W C e er hf k2 k3 fl km eδ eh rfl t u x v A k
 | _=>cases z
end
set_option maxHeartbeats 400000 in
def wk{P:Prog}{h:MH}{lo hi b n i c:Nat}{ts:List D}{S:List Hand}{f:aT}{fs:List aT}{hd:List (List aq)}(H:Dr P)(T:gV P h lo hi ts)(hb:hi<=b)(W:dR h b S)(s:SL P n S)(hn:n<=100)(C:Cl h)(e:S[i]?=some (f::fs,hd))(cm:c∈oO P S (f::fs,hd)):
  iz [ax P,.lv ts,.ob b,wa (i,c)] h=some (Ee i (mZ P (f::fs,hd)),dE h b i (vh P S (f::fs,hd) c)):=by
 have l:=s.s.h _ (Wk e);have a:=l.fr.1;obtain⟨s1,O,M,fl⟩:=s.step H (by lia) e cm;obtain⟨dj,hdj,w⟩:=w6 H l;have kp:=(nz (S:=S) (c:=c) a l.nm l.ct w).1;have L:DP (gone P S (f::fs,hd) c (gP P (f::fs,hd))).1 < 1000000:=by
  have E:=Im _ λg hg=>(kp g hg).rs;have G:=(nz (S:=S) (c:=c) a l.nm l.ct w).2.1;have Z:=l.fl;dsimp only at Z;rw[Wq] at Z;have h4:(gone P S (f::fs,hd) c (gP P (f::fs,hd))).1.length<=102:=by lia
  exact Z8 (WQ E (AaA h4 (show n+1+1<=102 by lia))) (by decide)
 obtain⟨F,Y,x3⟩:=W.x i _ e;obtain⟨i1,i2⟩:=W.at_ e;obtain⟨_,hT⟩:=(s.ow H).fr i _ e;obtain⟨⟨d,N⟩,RT⟩:=hT f fs rfl;have J:=(V9.mp F).1;have nl2:=(V9.mp Y).1;have Q:¬(lo<=b+3*i+1/\b+3*i+1 < hi):=by lia
 have I:h[b+3*i+1]?=some (.lst (fs.reverse.map cQ++[cQ f])):=by rw[F,WH,Wv];rfl
 have A:f.rs.length<=1000:=let⟨_,_,_,_,z⟩:=a.ok;z;refine fj ?_;refine wU ?_;unfold wa;nofun;refine rv i1 ?_;nofun;refine Hv (yI x3) rfl ?_;nofun;refine rv (gM (hd:=hd) T F l.fr.hd) ?_;nofun;refine⟨_,_,rfl,?_⟩;nofun;refine fY ?_;nofun;refine⟨bV F,?_⟩;nofun;refine rv (gu I) ?_;rw[eX f];nofun;refine rv (jO _ _) ?_;have hr:mZ P (f::fs,hd)=aQ P f:=rfl;rw[hr];have T1:∀o,gV P (h.set (b+3*i+1) o) lo hi ts:=λo=>T.mono λj E G=>Wm (by lia);have R:∀{t:D} {y:Hand},(∀n,t≠.ob n)->gv h.length t=true->leave h t (dE h b i y)=some (t,dE h b i y):=λ{t y} E G=>nr (sT h b i y) (C.dE b i y) E G;cases er:aQ P f with
 | none=>
  refine⟨true,rfl,tt ?_⟩;have q:=l.ct;dsimp only at q;rw[dI,(yZ a er).1] at q;have p:hd≠[]:=by
   rintro rfl;rw[Xm] at q
   lia
  obtain⟨v,m,e1,e2,e3⟩:=Jb a er;have eh:hd=hd.dropLast++[hd.getLast p]:=(Aaw p).symm;have U:gone P S (f::fs,hd) c (gP P (f::fs,hd))=(sg f::fs,hd.dropLast):=by unfold gone;dsimp only;rw[er]
  rw[e2] at U;rw[U] at O M fl L;have u:(h.set (b+3*i+1) (.lst (fs.reverse.map cQ)))[b+3*i+2]?=some (.lst (hd.dropLast.map bW++[bW (hd.getLast p)])):=by
   rw[Wm (by lia),Y];dsimp only
   conv=>lhs;rw[eh]
   rw[Wv];rfl
  nofun;refine fY ?_;nofun;refine⟨bV u,?_⟩;nofun;refine rv (gu u) ?_;nofun;rw[e1,WH];refine⟨_,rfl,rv (gr m.reverse v.1 v.2 f.k _) ?_⟩;refine xJ ?_;refine qv (P:=P) (g:={f with rs:=m,k:=v.1+1}) (gs:=fs) (o:=none) (lo:=lo) (hi:=hi) (n:=b+3*i+1) (ts:=ts) (X:=bA m.reverse v.1) (ev:=.bb) rfl (T.mono λj E G=>by rw[Wm (by lia),Wm (by lia)]) (by rw[Wm (by lia),cW J]) Q ?_ O fl M L ?_
  ·exact ie _ _ _ (by rw[WM];rw[e1,Wq] at A;lia)
  ·have ew:((h.set (b+3*i+1) (.lst (fs.reverse.map cQ))).set (b+3*i+2) (.lst (hd.dropLast.map bW))).set (b+3*i+1) (.lst ((dw P ({f with rs:=m,k:=v.1+1}::fs)).reverse.map cQ))=dE h b i (vh P S (f::fs,hd) c):=by
    unfold dE vh;rw[U,Z4 _ _ (by lia),XJ]
   rw[ew];exact rv (R (λn z=>(nomatch z)) rfl) rfl
 | some r=>
  refine⟨false,rfl,ff ?_⟩;obtain⟨_,t1,t2⟩:=RT r er;exact IH (e3:=some (.tup [aj i,aj c])) N T hb W C e er A O M fl L rfl rfl H l (by lia) t1 t2
def F0{h:MH}{m:Nat}{xs:List D}(hd:rn m xs)(hm:m<=60):bu (.lv xs) (.lv []) h=some (.bl xs.isEmpty,h):=by
 obtain⟨c,d,g,_⟩:=hd;unfold bu M1;show(LQ (.lv xs) (.lv []) h).map _=_;unfold LQ;have hr:Bf h (.lv xs)=some (.list c):=by show(md xs).map PyData.list=_;rw[d];rfl
 rw[hr];show((if(PyData.list c).depth<=64/\(PyData.list []).depth<=64 then some (PyData.eqv (.list c) (.list [])) else none).map _)=_;rw[Wg ⟨by rw[PyData.depth];lia,by simp[PyData.depth,PyData.depthAll]⟩];cases xs with
 | nil=>cases d;rfl
 | cons x xs=>
  obtain⟨p,_,e⟩:=a9 (show(qS x).bind (λa=>(md xs).map λb=>a::b)=some c from d);obtain⟨f,_,rfl⟩:=dS e;rfl
def St.as{s c R:Nat}{a:List Int}{h h':MH}(S:St s c a R h)(d:h'[s]?=h[s]?)(b:h'[c]?=h[c]?):St s c a R h':=by
 obtain⟨n,t,e,r⟩:=S.st;exact⟨⟨n,t,d.trans e,r⟩,b.trans S.ce,S.ne⟩
def dR.as{h h':MH}{b:Nat}{S:List Hand}(W:dR h b S)(k:∀i,b<=i->h'[i]?=h[i]?):dR h' b S:=
 ⟨(k _ (Wj _)).trans W.w,λi x e=>let⟨a1,a2,a3⟩:=W.x i x e;⟨(k _ (by lia)).trans a1,(k _ (by lia)).trans a2,(k _ (by lia)).trans a3⟩⟩
def Lb{P:Prog}{n:Nat}{S:List Hand}(s:Mk P n S):((OZ P S).map wa).length<=20:=by
 rw[Wc];have:=yD P S S.length;have:=s.l;unfold OZ
 lia
structure WS(P:Prog)(lo hi b s c:Nat)(cs:List Int)(ts:List D)(n R:Nat)(S:List Hand)(h:MH):Prop where
 l:SL P n S
 T:gV P h lo hi ts
 W:dR h b S
 S:St s c cs R h
 C:Cl h
section
variable {P:Prog} {lo hi b s c n m R:Nat} {cs:List Int} {ts:List D} {S:List Hand} {h:MH} (dr:Dr P) (hs:s < lo) (hc:c < lo) (hh:lo<=hi) (hb:hi<=b)
include dr hs hc hh hb
end
end Mi
namespace Pg
open PySem Sm L2
def plain:Nat->D->Prop
 | 0,_=>False
 | n+1,.tup xs=>xs.length<=100000/\∀x∈xs,plain n x
 | _+1,.str _=>True
 | _+1,.int _=>True
 | _+1,.bb=>True
 | _+1,_=>False
theorem ua:∀{n m:Nat} {d:D},plain n d->n<=m->plain m d
 | 0,_,_,h,_=>h.elim
 | n+1,0,_,_,hm=>absurd hm (by lia)
 | n+1,m+1,.tup xs,h,hm=>⟨h.1,λx a=>ua (h.2 x a) (by lia)⟩
 | n+1,m+1,.str _,h,hm=>trivial
 | n+1,m+1,.int _,h,hm=>trivial
 | n+1,m+1,.bb,h,hm=>trivial
 | n+1,m+1,.bl _,h,hm=>h.elim
 | n+1,m+1,.lv _,h,hm=>h.elim
 | n+1,m+1,.ro _,h,hm=>h.elim
 | n+1,m+1,.dv _,h,hm=>h.elim
 | n+1,m+1,.ob _,h,hm=>h.elim
 | n+1,m+1,.ty _,h,hm=>h.elim
def gp{a:Type}{n:Nat}{f:a->D}{xs:List a}(hl:xs.length<=100000)(h:∀x∈xs,plain n (f x)):plain (n+1) (.tup (xs.map f)):=
 ⟨by rw[Wc];exact hl,λy b=>by obtain⟨x,c,rfl⟩:=WY.mp b;exact h x c⟩
end Pg
namespace Mi
open PySem Sm L2 Pg
theorem wG:∀xs:List D,pB xs xs=xs.map λx=>.tup [x,x]
 | []=>rfl
 | x::r=>by rw[Wo,<-wG r];rfl
theorem AY{a:Type}:∀xs:List a,wC (xs.map λ_=>D.bl true)=some (xs.map λ_=>true)
 | []=>rfl
 | x::r=>by rw[Wo];show(wC (r.map _)).map _=_;rw[AY r];rfl
def IX{a:Type}(xs:List a)(h:MH):PC [.lv (xs.map λ_=>D.bl true)] h=some (.bl true,h):=by
 show(wC (xs.map λ_=>D.bl true)).map _=_;rw[AY];simp
theorem same_refl:∀(n:Nat)(d:D)(h:MH),plain n d->cw n [d,d] h=some (.bl true,h)
 | 0,_,_,hp=>hp.elim
 | n+1,d,h,hp=>by
  have e:Rn (cw (n+1) [d,d] h) λp=>p=(.bl true,h):=by
   unfold cw;refine aY ?_;cases d with
   | tup xs=>
    nofun;refine rv rfl ⟨true,rfl,λ_=>?_,λz=>(nomatch z)⟩;nofun;refine rv rfl ⟨true,rfl,λz=>(nomatch z),λ_=>?_⟩;nofun;refine⟨false,by simp,λz=>(nomatch z),λ_=>?_⟩;nofun;refine N7 ?_;nofun;refine⟨_,_,_,_,_,_,rfl,rfl,rfl,?_⟩;rw[wG];refine rv (LX rfl (λx=>.tup [x,x]) (λ_=>.bl true) (λc=>∃a b,c=[a,b]) xs ⟨_,_,rfl⟩ ?_) ⟨?_,?_⟩
    ·rintro x f c ⟨a,b,rfl⟩;nofun;refine⟨rfl,⟨_,_,rfl⟩,?_⟩;nofun;exact rv (same_refl n x h (hp.2 x f)) rfl
    ·dsimp only;rw[Wc,show sizeLine=16777216 from rfl];have:=hp.1
     lia
    ·nofun;refine rv (IX xs h) ?_;nofun
   | str x=>
    nofun;refine rv rfl ⟨false,rfl,λz=>(nomatch z),λ_=>?_⟩;nofun;refine rv rfl ⟨false,rfl,λz=>(nomatch z),λ_=>?_⟩;nofun;refine rv rfl ⟨true,rfl,λ_=>?_,λz=>(nomatch z)⟩;nofun;refine rv rfl ⟨true,rfl,λ_=>?_,λz=>(nomatch z)⟩;nofun;simp
   | int x=>
    nofun;refine rv rfl ⟨false,rfl,λz=>(nomatch z),λ_=>?_⟩;nofun;refine rv rfl ⟨false,rfl,λz=>(nomatch z),λ_=>?_⟩;nofun;refine rv rfl ⟨false,rfl,λz=>(nomatch z),λ_=>?_⟩;nofun;refine rv rfl ⟨true,rfl,λ_=>?_,λz=>(nomatch z)⟩;nofun;refine rv rfl ⟨false,rfl,⟨_,rfl,λ_=>?_,λz=>(nomatch z)⟩⟩;nofun;simp
   | bb=>
    nofun;refine rv rfl ⟨false,rfl,λz=>(nomatch z),λ_=>?_⟩;nofun;refine rv rfl ⟨true,rfl,λ_=>?_,λz=>(nomatch z)⟩;nofun;exact rv rfl rfl
   | bl _=>exact hp.elim
   | lv _=>exact hp.elim
   | ro _=>exact hp.elim
   | dv _=>exact hp.elim
   | ob _=>exact hp.elim
   | ty _=>exact hp.elim
  obtain⟨p,g,rfl⟩:=e;exact g
noncomputable def E8(l:Nat):MO:=.lst [.int (l:Int)]
def M4(n l:Nat):xr n (E8 l)=true:=rfl
structure Bz(s c w:Nat)(cs:List Int)(h0:MH)(R l:Nat)(h:MH):Prop where
 S:St s c cs R h
 o:h[w]?=some (E8 l)
 b:h.length=h0.length/\∀k,k≠s->k≠w->h[k]?=h0[k]?
 C:Cl h
section
variable {s c w R R' l l':Nat} {cs:List Int} {h h0 h1:MH}
theorem Bz.le(A:Bz s c w cs h0 R l h)(q:R'<=R):Bz s c w cs h0 R' l h:=⟨A.S.le q,A.o,A.b,A.C⟩
def Bz.nx(A:Bz s c w cs h0 R l h)(ws:w≠s)(B:Sb s c cs h R' h1):Bz s c w cs h0 R' l h1:=
 ⟨B.S,(B.b.2 w ws).trans A.o,⟨B.b.1.trans A.b.1,λk a d=>(B.b.2 k a).trans (A.b.2 k a d)⟩,A.C.but B.S B.b⟩
theorem Bz.lt(A:Bz s c w cs h0 R l h):s < h.length/\c < h.length/\w < h.length:=⟨A.S.lt.1,A.S.lt.2,(V9.mp A.o).1⟩
theorem Bz.set(A:Bz s c w cs h0 R l h)(ws:w≠s)(d:w≠c)(l':Nat):Bz s c w cs h0 R l' (h.set w (E8 l')):=
 ⟨A.S.off ws d,WW A.lt.2.2,⟨by rw[Xl];exact A.b.1,λk e a=>by rw[Wm (Xy a)];exact A.b.2 k e a⟩,A.C.set (M4 _ _)⟩
def Bz.push(A:Bz s c w cs h0 R l h){o:MO}(a:xr (h.length+1) o=true):Bz s c w cs (h++[o]) R l (h++[o]):=
 ⟨A.S.more _,by rw[Wx A.lt.2.2];exact A.o,⟨rfl,λ_ _ _=>rfl⟩,A.C.snoc a⟩
def Bz.pop{o:MO}(A:Bz s c w cs h0 R l h)(B:Bz s c w cs (h++[o]) R' l' h1):∃p,h1=p++[o]/\Bz s c w cs h0 R' l' p:=by
 obtain⟨a1,a2,a3⟩:=A.lt;have hl:h1.length=h.length+1:=by rw[B.b.1,Wn];rfl
 have u:h1=h1.take h.length++[o]:=by
  refine Yk λk=>?_
  by_cases z:k < h.length
  ·rw[Wx (by rw[WJ];lia),WX z]
  ·by_cases f:k=h.length
   ·subst f;rw[B.b.2 _ (by lia) (by lia),Wy (Wj _),Wy (by rw[WJ];lia),WJ,show min h.length h1.length=h.length by lia]
   ·rw[WO (by lia),WO (by rw[Wn,WJ];simp;lia)]
 have d:(h1.take h.length).length=h.length:=by rw[WJ];lia
 have gt:∀k,k < h.length->(h1.take h.length)[k]?=h1[k]?:=λk z=>WX z;have q:St s c cs R' (h1.take h.length):=B.S.as (gt s a1) (gt c a2);have m:(h1.take h.length)[w]?=some (E8 l'):=(gt w a3).trans B.o;have same:∀k,k≠s->k≠w->(h1.take h.length)[k]?=h[k]?:=λk i g=>by
  by_cases z:k < h.length
  ·rw[gt k z,B.b.2 k i g,Wx z]
  ·rw[WO (by lia),WO (by lia)]
 refine⟨_,u,q,m,⟨d.trans A.b.1,λk i g=>(same k i g).trans (A.b.2 k i g)⟩,λx r=>?_⟩;rw[d];obtain⟨k,a⟩:=Xg.mp r
 by_cases j:k=s
 ·subst j;obtain⟨n,t,e,_⟩:=q.st;rw[e] at a;cases a;show(true&&(decide (c < h.length)&&(true&&true)))=true;rw[WI a2];rfl
 ·by_cases f:k=w
  ·subst f;rw[m] at a;cases a;exact M4 _ _
  ·rw[same k j f] at a;exact A.C x (Wk a)
end
noncomputable def nG:Wd:=⟨[Str.ofString "n"],[Str.ofString "da",Str.ofString "db",Str.ofString "dc"],[[],[],[]]⟩
section
variable (s c w:Nat) (cs:List Int)
def Qq(f:Nat):Prop:=∀{h e:MH} {R l j d:Nat} {Q:D×MH->Prop},Bz s c w cs e (R+20*l+1) l h->j < 3->1<=d->d<=5->2*(6-d)<=f->
 (∀(a:List Row)(b:Nat)(g:MH),bZ nG [] d a->a.length<=2->b+aX a<=l->Bz s c w cs e (R+20*b) b g->Q (.tup (eD a),g))->Rn (bz f [.ob s,.ob w,.int (j:Int),.int (d:Int)] h) Q
def Qm(f:Nat):Prop:=∀{h b:MH} {R l j d:Nat} {Q:D×MH->Prop},Bz s c w cs b (R+20*l+15) l h->j < 3->1<=d->d<=5->2*(6-d)<=f+1->
 (∀(r:Row)(a:Nat)(e:MH),bE nG [] d r->a+cnt r<=l+1->Bz s c w cs b (R+20*a) a e->Q (aG r,e))->Rn (cp f [.ob s,.ob w,.int (j:Int),.int (d:Int)] h) Q
end
theorem Ak{W:Wd}{ps:List Str}{d:Nat}:∀{rows:List Row},(∀r∈rows,bE W ps d r)->bZ W ps d rows
 | [],_=>by rw[bZ];trivial
 | r::rows,h=>by rw[bZ];exact⟨h r We,Ak λx a=>h x (Wf _ a)⟩
def Sl(l:List Row)(r:Row):aX (l++[r])=aX l+cnt r:=by rw[uU,aX,aX,Nat.add_zero]
section
variable {s c w:Nat} {cs:List Int} (ws:w≠s) (wc:w≠c)
include ws wc
theorem Lh{f:Nat}(E:Qm s c w cs f):Qq s c w cs (f+1):=by
 intro h X R l j d Q A hj d1 d5 hf k;obtain⟨U,cl,wl⟩:=A.lt;unfold bz;refine wU ?_;nofun;refine t7 ?_;nofun;refine iO (R:=R+20*l) (A.S.more [.lst []]).sb (by decide) (by decide) λr h1 r0 r1 A1=>?_;obtain⟨N,rfl,T⟩:=A1.b.app U;have S1:=A1.S.cut (by rw[T.1];exact U) (by rw[T.1];exact cl);have B1:=A.nx ws ⟨S1,T⟩;nofun;refine⟨r,rfl,by lia,by lia,?_⟩;have m:h.length=X.length:=A.b.1;refine eS (λi L O=>∃(a:List Row)(e:Nat)(v5:Option D)(g:MH),L=[some (.ob s),some (.ob w),some (.int (j:Int)),some (.int (d:Int)),some (.ob h.length),v5]/\O=g++[.lst (a.map aG)]/\a.length<=i/\(∀r∈a,bE nG [] d r)/\e+aX a<=l/\Bz s c w cs X (R+20*e) e g)
  ⟨[],l,_,N,rfl,rfl,Wj _,λ_ z=>(nomatch z),by simp[aX],B1⟩ (λ_ _ _ _ _=>rfl) ?_ ?_
 ·rintro i x L O hx ⟨a,e,v5,g,rfl,rfl,hl,I,M,B⟩;have hi:i < 2:=by
   have:=(V9.mp hx).1;rw[Wc,WK] at this
   lia
  obtain⟨bs,bc,Y⟩:=B.lt;have v:g.length=h.length:=B.b.1.trans m.symm;have u:(g++[MO.lst (a.map aG)])[w]?=some (.lst [.int (e:Int)]):=by rw[Wx Y];exact B.o
  nofun;refine rv (lA u rfl) ?_;nofun;refine⟨_,rfl,λz=>?_,λz=>?_⟩
  ·have z':0 < e:=by have:=Xk z;lia
   nofun;refine rv (lA u rfl) ?_;nofun;rw[show((e:Int)-1)=((e-1:Nat):Int) by lia];refine rv (sO (p:=0) u rfl) ?_;rw[List.set_append_left _ _ Y];have J:=B.set ws wc (e-1);rw[show([D.int (e:Int)].set 0 (.int ((e-1:Nat):Int)))=[.int ((e-1:Nat):Int)] from rfl];have e2:g.set w (MO.lst [.int ((e-1:Nat):Int)])=g.set w (E8 (e-1)):=rfl;rw[e2];generalize g.set w (E8 (e-1))=H at J;have F:H.length=h.length:=J.b.1.trans m.symm;have P:xr (H.length+1) (.lst (a.map aG))=true:=by show dY _ _=true;rw[<-dW];exact eZ _ _
   nofun;refine fY ?_;nofun;refine⟨bV (qw F),?_⟩;nofun;refine E (R:=R) (d:=d) (l:=e-1) ((J.push P).le (by lia)) hj d1 d5 (by lia) λq l2 h2 gq hq B3=>?_;obtain⟨G,rfl,Z⟩:=J.pop B3;have t:G.length=h.length:=Z.b.1.trans m.symm;nofun;refine rv (bH (qw t) (by rw[Wc,show sizeLine=16777216 from rfl];lia)) ?_;rw[GQ t];nofun;refine⟨a++[q],l2,_,G,rfl,by rw[Wv];rfl,by rw[Wn,YC];lia,λy hy=>(Xa.mp hy).elim (I y) λz=>by rw[Wr.mp z];exact gq,by rw[Sl];lia,Z⟩
  ·nofun;exact⟨a,e,_,g,rfl,rfl,by lia,I,M,B⟩
 ·rintro L O ⟨a,e,v5,g,rfl,rfl,hl,I,M,B⟩;have v:g.length=h.length:=B.b.1.trans m.symm;rw[Wc,WK] at hl;nofun;refine rv (fB (qw v)) ?_;refine rv (uC v B.C (λn z=>(nomatch z)) (by show dY _ _=true;rw[<-dW];exact eZ _ _)) ?_;rw[<-dW];exact k a e g (Ak I) (by lia) M B
end
abbrev RS(i:Int):Lock:=(Str.ofString "n",Str.ofString "",i)
def Cm{i:Int}(b:0<=i)(a:i<=3):ur nG [] (RS i):=⟨by simp[nG],.inl rfl,by dsimp only;lia,by dsimp only;lia⟩
abbrev MA:SM:=(ak (BE 6 7 (a2 (ai aw (a2 (ks "n") (ai aw (a2 (ks "") (ai aU (a2 v0 (ki 2))))))) (ai aw (a2 (ks "n") (ai aw (a2 (ks "") (ah aI (ki 2) (ai aU (a2 v0 (ki 2))))))))))
  (ak (eL (au (ah bu (ai eN (a1 v5)) (ki 1))) (ak (aP 8 (nB (a3 (ah aI (ai aw (a1 (ks "again"))) v5) (ah aI (ai aw (a2 (ks "within") v6)) v5) (ah aI (ai aw (a2 (ks "all") (ai aw (a2 v6 v7)))) v5))))
  (aC (ai dO (a2 v0 v8)))) bU)
  (ak (eL (au (ah bu (ai eN (a1 v5)) (ki 2))) (aC (ai dO (a2 v0 (nB (a2 (ah aI (ai aw (a1 (ks "either"))) v5) (ah aI (ai aw (a2 (ks "ask") v6)) v5)))))) bU)
  (aC (ah aI (ai aw (a3 (ks "by") (ah aB v6 (ki 1)) (ai aw (a2 (ks "") (ai aU (a2 v0 (ki 2))))))) v5)))))
section
variable {s c w:Nat} {cs:List Int} (ws:w≠s)
include ws
theorem Hf{h G:MH}{R l d:Nat}{v1 v2 v3 v4:Option D}{lots:List (List Row)}{Q:D×MH->Prop}(A:Bz s c w cs G (R+20*l+4) l h)(n:d < 5)(hl:1<=lots.length/\lots.length<=3)(m:∀t∈lots,bZ nG [] (d+1) t/\t.length<=2)
  (k:∀(r:Row)(h':MH),bE nG [] d r->cnt r=1+(lots.map aX).sum->Bz s c w cs G (R+20*l) l h'->Q (aG r,h')):
  Rn (MA [some (.ob s),v1,v2,v3,v4,some (.tup (lots.map λt=>.tup (eD t))),none,none,none] h) (l9 Q):=by
 unfold MA;nofun;refine iO (R:=R+20*l+3) A.S.sb (by decide) (by decide) λx h1 O x1 A1=>?_;have M:=A.nx ws A1;nofun;refine iO (R:=R+20*l+2) M.S.sb (by decide) (by decide) λy h2 y0 y1 Z=>?_;have q:=M.nx ws Z;have o1:=Cm O (by lia);have P:=Cm (i:=2+y) (by lia) (by lia);have j:∀(r:Row) {h':MH} {I:Nat},Bz s c w cs G I l h'->R+20*l<=I->bE nG [] d r->cnt r=1+(lots.map aX).sum->∀dd,aG r=dd->Q (dd,h'):=λr h' I B U o e dd Y=>Y ▸ k r h' o e (B.le U);nofun;refine⟨_,_,rfl,?_⟩;nofun;have p:∀(E C:List D)(H:MH),E.length+C.length<=10000->aI (.tup E) (.tup C) H=some (.tup (E++C),H):=λE C H z=>ck z
 match lots,hl with
 | [a],_=>
  obtain⟨f,J⟩:=m a (by simp);refine⟨true,by ac_nf,tt ?_⟩;nofun;refine rv (p _ _ _ (by simp)) ?_;nofun;refine rv (p _ _ _ (by simp)) ?_;nofun;refine rv (p _ _ _ (by simp)) ?_;nofun;refine L9 (R:=R+20*l+1) q.S.sb (.inl rfl) (by simp) (by simp) λz L u v=>?_;have g:=q.nx ws v;simp only[Ws,YL,ZN] at u;rcases u with rfl | rfl | rfl
  ·nofun;exact j (.again a) g (by lia) (by unfold bE;exact⟨n,by lia,f⟩) (by simp[cnt]) _ (by rw[aG];rfl)
  ·nofun;exact j (.within (RS x) a) g (by lia) (by unfold bE;exact⟨o1,n,by lia,f⟩) (by simp[cnt]) _ (by rw[aG];rfl)
  ·nofun;exact j (.all [RS x,RS (2+y)] a) g (by lia) (by unfold bE;exact⟨⟨by simp,by simp,by simp;lia,by simpa using ⟨o1,P⟩⟩,n,by lia,f⟩) (by simp[cnt]) _ (by rw[aG];rfl)
 | [a,b],_=>
  obtain⟨f,J⟩:=m a (by simp);obtain⟨F,T⟩:=m b (by simp);refine⟨false,by ac_nf,ff ?_⟩;nofun;refine⟨true,by ac_nf,tt ?_⟩;nofun;refine rv (p _ _ _ (by simp)) ?_;nofun;refine rv (p _ _ _ (by simp)) ?_;nofun;refine L9 (R:=R+20*l+1) q.S.sb (.inl rfl) (by simp) (by simp) λz L u v=>?_;have g:=q.nx ws v;simp only[Ws,YL,ZN] at u;rcases u with rfl | rfl
  ·nofun;exact j (.either a b) g (by lia) (by unfold bE;exact⟨n,by lia,by lia,f,F⟩) (by simp[cnt];lia) _ (by rw[aG];rfl)
  ·nofun;exact j (.ask (RS x) a b) g (by lia) (by unfold bE;exact⟨o1,n,by lia,by lia,f,F⟩) (by simp[cnt];lia) _ (by rw[aG];rfl)
 | [a,b,e],_=>
  obtain⟨f,J⟩:=m a (by simp);obtain⟨F,T⟩:=m b (by simp);obtain⟨X,le⟩:=m e (by simp);refine⟨false,by ac_nf,ff ?_⟩;nofun;refine⟨false,by ac_nf,ff ?_⟩;nofun;refine iO (R:=R+20*l+1) q.S.sb (by decide) (by decide) λz L N z1 v=>?_;have g:=q.nx ws v;nofun;refine rv (p _ _ _ (by simp)) ?_;nofun;exact j (.vi (Str.ofString "",x) (Str.ofString "",z) a b e) g (by lia) (by unfold bE;exact⟨o1.2,(Cm N (by lia)).2,n,by lia,by lia,by lia,f,F,X⟩) (by simp[cnt];lia) _ (by rw[aG];rfl)
end
section
variable {s c w:Nat} {cs:List Int} (ws:w≠s) (wc:w≠c)
include ws
theorem Km{f:Nat}(M:Qq s c w cs f):Qm s c w cs (f+1):=by
 intro h h0 R l j d Q A hj d1 d5 hf k;have X:∀(r:Row) {u:MH} {G J:Nat},Bz s c w cs h0 G J u->R+20*J<=G->bE nG [] d r->J+cnt r<=l+1->∀dd,aG r=dd->Q (dd,u):=λr u G J B hR o e dd ed=>ed ▸ k r J u o e (B.le hR);have say:∀{u:MH} {G:Nat},Bz s c w cs h0 G l u->R+20*l<=G->Q (.tup [.str "say",.str "x"],u):=λB hR=>X (.say "x") B hR (by unfold bE;trivial) (by rw[cnt];exact Wj _) _ (by rw[aG]);unfold cp;refine aY ?_;nofun;refine iO (R:=R+20*l+14) (A.S.le (by lia)).sb (by decide) (by decide) λm h1 m0 m1 A1=>?_;have O:=A.nx ws A1;refine xJ ?_;refine Ks (m < 2\/d=5) ?_ (λz=>?_) (λz=>?_)
 ·nofun;refine⟨_,rfl,λy=>?_,λy=>?_⟩
  ·rw[WI (.inl (Xk y))]
  ·have y:=Ze y;nofun;refine⟨_,rfl,?_⟩;rw[show((d:Int)==5)=decide (m < 2\/d=5) by rw[ZK];simp;lia]
 ·nofun;refine⟨_,rfl,λy=>?_,λy=>?_⟩
  ·have y:j < 2:=by have:=Xk y;lia
   nofun;refine iO (R:=R+20*l+13) O.S.sb (by decide) (by decide) λq h2 q0 q1 A2=>?_;have N:=O.nx ws A2;nofun;refine⟨_,rfl,λy2=>?_,λy2=>?_⟩
   ·nofun;refine iO (R:=R+20*l+12) N.S.sb (by lia) (by lia) λp h3 p0 p1 A3=>?_;have F:=N.nx ws A3;obtain⟨p,rfl⟩:=Int.eq_ofNat_of_zero_le p0;have hp:j+1+p < nG.ao.length:=by show _ < 3;lia
    obtain⟨nm,L⟩:∃nm,nG.ao[j+1+p]?=some nm:=⟨_,Wl hp⟩;nofun;rw[show(j:Int)+1+(p:Int)=((j+1+p:Nat):Int) by lia];refine rv (Pz (f:=D.str) (xs:=nG.ao) L) ?_;nofun;have Y:nG.params[j+1+p]?=some []:=by
     have:j+1+p < 3:=hp
     match j+1+p,this with
     | 0,_=>rfl
     | 1,_=>rfl
     | 2,_=>rfl
    exact X (.call nm []) F (by lia) (by unfold bE;exact⟨⟨j+1+p,[],L,Y,rfl⟩,λ_ z=>(nomatch z)⟩) (by rw[cnt];exact Wj _) _ (by rw[aG];rfl)
   ·nofun;exact say N (by lia)
  ·refine ff ?_;nofun;exact say O (by lia)
 ·have hd:d < 5:=by lia
  refine mx (Du ?_);nofun;refine t7 ?_;nofun;refine iO (R:=R+20*l+13) O.S.sb (by decide) (by decide) λq h2 q0 q1 A2=>?_;have N:=O.nx ws A2;obtain⟨n,hn,e1⟩:∃n:Nat,(1<=n/\n<=3)/\∀H,aB (.lv [.int 1,.int 2,.int 3]) (.int q) H=some (.int (n:Int),H):=by
   have:q=0\/q=1\/q=2:=by lia
   rcases this with rfl | rfl | rfl
   ·exact⟨1,by decide,λH=>rfl⟩
   ·exact⟨2,by decide,λH=>rfl⟩
   ·exact⟨3,by decide,λH=>rfl⟩
  nofun;refine rv (e1 _) ?_;nofun;refine⟨n,rfl,by lia,by lia,?_⟩;obtain⟨⟨U,h3⟩,e3,δ',b,v,o0,P,C,E,Z,-,F⟩:=sC (ws:=[]) (g:=gN 0) (e:=ai (bz f) (a4 v4 v3 v1 (ah aI v2 (ki 1)))) (xs:=(List.range (n:Int).toNat).map λ(k:Nat)=>D.int (k:Int)) (δ:=[none,some (.int (j:Int)),some (.int (d:Int)),some (.ob w),some (.ob s)]) (h:=h2)
   (λi U T u=>∃(b:List (List Row)) (v:Nat) (o0:Option D),U=b.map (λt=>.tup (eD t))/\b.length=i/\(∀t∈b,bZ nG [] (d+1) t/\t.length<=2)/\v+(b.map aX).sum<=l/\T=[o0,some (.int (j:Int)),some (.int (d:Int)),some (.ob w),some (.ob s)]/\Bz s c w cs h0 (R+(13-i)+20*v) v u) ⟨[],l,_,rfl,rfl,λ_ z=>(nomatch z),by simp,rfl,N.le (by lia)⟩ (λ_ _ _ _ _=>rfl) (by
    rintro i x U T u hx ⟨b,v,o0,rfl,C,E,Z,rfl,F⟩;have hi:i < 3:=by
     have:=(V9.mp hx).1;rw[Wc,WK] at this
     lia
    nofun;refine M (R:=R+(13-(i+1))) (l:=v) (d:=d+1) (F.le (by lia)) hj (by lia) hd (by lia) λI l2 h4 g1 g2 g3 B4=>?_;exact⟨b++[I],l2,_,by rw[Wv];rfl,by rw[Wn,C];rfl,λy P=>(Xa.mp P).elim (E y) λz=>by rw[Wr.mp z];exact⟨g1,g2⟩,by rw[Wv,Aas];simp;lia,rfl,B4⟩)
  rw[Wc,WK,WT] at C F;dsimp only at P e3 F;subst P;refine rv e3 ⟨by dsimp only;rw[Wc,show sizeLine=16777216 from rfl];lia,?_⟩;nofun;refine rv (a:=(.tup (b.map λt=>.tup (eD t)),h3)) rfl ?_;refine xJ ?_;exact Hf ws (R:=R) (l:=v) (d:=d) (lots:=b) (F.le (by lia)) hd (by lia) E λr h4 o1 o2 B4=>X r B4 (Wj _) o1 (by lia) _ rfl
include wc
theorem MI:∀f,Qq s c w cs f/\Qm s c w cs f
 | 0=>⟨λ_ _ _ _ z _=>absurd z (by lia),λ_ _ _ _ z _=>absurd z (by lia)⟩
 | f+1=>let⟨a,b⟩:=MI f;⟨Lh ws wc b,Km ws a⟩
end
def Bz.out{s c w R l:Nat}{g:List Int}{d a:MH}{o:MO}(m:s < a.length)(cl:c < a.length)(C:Cl a)(p:w=a.length)(A:Bz s c w g (a++[o]) R l d):∃e,d=e++[E8 l]/\St s c g R e/\wF s a e/\Cl e:=by
 have hl:d.length=a.length+1:=by rw[A.b.1,Wn];rfl
 have q:d=d.take a.length++[E8 l]:=by
  refine Yk λk=>?_
  by_cases z:k < a.length
  ·rw[Wx (by rw[WJ];lia),WX z]
  ·by_cases j:k=a.length
   ·subst j;rw[<-p,A.o,Wy (by rw[WJ];lia),WJ,show w-min w d.length=0 by lia];rfl
   ·rw[WO (by lia),WO (by rw[Wn,WJ];simp;lia)]
 have f:(d.take a.length).length=a.length:=by rw[WJ];lia
 have gt:∀k,k < a.length->(d.take a.length)[k]?=d[k]?:=λk z=>WX z;have i:St s c g R (d.take a.length):=A.S.as (gt s m) (gt c cl);have h:wF s a (d.take a.length):=⟨f,λk n=>by
  by_cases z:k < a.length
  ·rw[gt k z,A.b.2 k n (by lia),Wx z]
  ·rw[WO (by lia),WO (by lia)]⟩
 exact⟨_,q,i,h,C.but i h⟩
def VX:[Str.ofString "n"]=GK nG.names:=by simp[nG,GK]
def TX:SU nG [0,0,0] 0 where
 n1:=by decide
 n2:=by decide
 d1:=by decide
 d2:=by decide
 pl:=rfl
 p3:=λb hp=>by simp[nG] at hp;simp[hp]
 V0:=rfl
 f0:=by decide
 o0:=by decide
 o1:=by decide
 sn:=λw a=>by
  rw[Wr.mp a];exact⟨by decide,by decide,by unfold low;decide+kernel⟩
 sd:=λw a=>by
  simp only[nG,Ws,YL,ZN] at a;rcases a with rfl | rfl | rfl <;> exact⟨by decide,by decide,by unfold low;decide+kernel⟩
 sp:=λb hp w a=>by simp[nG] at hp;simp[hp] at a
 nn:=by decide+kernel
 nd:=by decide+kernel
 np:=λb hp=>by simp[nG] at hp;simp[hp]
theorem wY{W:Wd}{ps:List Str}{d:Nat}:∀{a b:List Row},bZ W ps d a->bZ W ps d b->bZ W ps d (a++b)
 | [],_,_,c=>c
 | r::a,b,e,c=>by
  rw[bZ] at e;rw[Yr,bZ];exact⟨e.1,wY e.2 c⟩
def P8{h h0:MH}{s c R:Nat}{M:List Int}{Q:D×MH->Prop}(A:Sb s c M h0 (R+500) h)(C:Cl h)(k:∀(P:Prog)(Z:MH),Dr P->P.ao.map (·.1)=nG.ao->(∀d∈P.ao,d.2.1.length=0)->Sb s c M h0 R Z->Cl Z->Q (ax P,Z)):Rn (iA [.ob s] h) Q:=by
 obtain⟨sl,cl⟩:=A.S.lt;have ws:h.length≠s:=by lia
 have wc:h.length≠c:=by lia
 have B0:Bz s c h.length M (h++[E8 20]) (R+500) 20 (h++[E8 20]):=⟨A.S.more _,qw rfl,⟨rfl,λ_ _ _=>rfl⟩,C.snoc rfl⟩;have y:(h++[E8 20]).length=h.length+1:=by rw[Wn];rfl
 refine wU ?_;nofun;refine lR ?_;nofun;refine⟨_,_,_,rfl,rfl,?_⟩;rw[show h++[MO.lst [D.int 20]]=h++[E8 20] from rfl,y];refine eS (λi N h'=>∃(a:List di)(w:Nat)(d3 d4 d5:Option D)(v:MH),N=[some (.ob s),some (.ob h.length),some (.ob (h.length+1)),d3,d4,d5]/\h'=v++[.lst (a.map gS)]/\a.length=i/\(∀(j:Nat)(d:di),a[j]?=some d->nG.ao[j]?=some d.1/\d.2.1=[]/\bZ nG [] 1 d.2.2/\d.2.2.length<=12)/\2*w+(a.map λd=>aX d.2.2).sum<=40/\Bz s c h.length M (h++[E8 20]) (R+20*w+(40-5*i)) w v)
  ⟨[],20,_,_,_,_,rfl,rfl,rfl,λ_ _ z=>by simp at z,by simp,B0.le (by lia)⟩ (λ_ _ _ _ _=>rfl) ?_ ?_
 ·rintro i x N h' hx ⟨a,w,d3,d4,d5,v,rfl,rfl,o,p,hc,B⟩;obtain⟨dn,J,rfl⟩:=oG (f:=D.str) (xs:=nG.ao) hx;have hi:i < 3:=(V9.mp J).1;have F:v.length=h.length+1:=B.b.1.trans y;have clr:xr (v.length+1) (.lst (a.map gS))=true:=qE _ gS (Er _) a;have Bp:=B.push clr;nofun;refine(MI ws wc 12).1 (R:=R+(38-5*i)) (l:=w) (j:=i) (d:=1) (Bp.le (by lia)) hi (by decide) (by decide) (by decide) λm l2 h2 ok hl L B2=>?_;obtain⟨U,rfl,B3⟩:=B.pop B2;have E:U.length=h.length+1:=B3.b.1.trans y;nofun;refine fY ?_;nofun;refine⟨bV (qw E),?_⟩;nofun;refine iO (R:=R+(37-5*i)+20*l2) ((B2.S.le (by lia)).sb) (by decide) (by decide) λr h4 r0 r1 A4=>?_;have B4:=B2.nx ws A4;obtain⟨G,rfl,B5⟩:=B.pop B4;have u:G.length=h.length+1:=B5.b.1.trans y;obtain⟨g,T,X,hc',e1⟩:∃g:List Row,bZ nG [] 1 g/\g.length<=12/\aX g<=2*aX m/\∃q:List D,(∀H,AJ (.tup (eD m)) (.int r) H=some (.tup q,H))/\∀H,aI (.tup (eD m)) (.tup q) H=some (.tup (eD g),H):=by
   have I:(eD m).length=m.length:=by rw[dW,Wc]
   have hr:r=0\/r=1:=by lia
   rcases hr with rfl | rfl
   ·refine⟨m,ok,by lia,by lia,[],λH=>?_,λH=>?_⟩
    ·show(if _ then _ else _)=_;rw[Wg ⟨by decide,by decide,by lia⟩];rfl
    ·rw[ck (by rw[I];simp;lia),Xb]
   ·refine⟨m++m,wY ok ok,by rw[Wn];lia,by rw[uU];lia,eD m,λH=>?_,λH=>?_⟩
    ·show(if _ then _ else _)=_;rw[Wg ⟨by decide,by decide,by lia⟩];show some (D.tup ([eD m].flatten),H)=_;rw[Yj,List.flatten_nil,Xb]
    ·rw[ck (by rw[I];lia),dW,dW,Wv]
  obtain⟨q,e1,e2⟩:=e1;nofun;refine rv (e1 _) ?_;nofun;refine rv (e2 _) ?_;nofun;refine rv (bH (qw u) (by rw[Wc,show sizeLine=16777216 from rfl];lia)) ?_;rw[GQ u];nofun;have L:((a++[(dn,[],g)]).map λd:di=>aX d.2.2).sum=(a.map λd:di=>aX d.2.2).sum+aX g:=by
   rw[Wv,Aas];simp
  refine⟨a++[(dn,[],g)],l2,_,_,_,G,rfl,by rw[Wv];rfl,by rw[Wn,o];rfl,λj d t=>?_,by rw[L];lia,B5.le (by lia)⟩
  by_cases z:j < a.length
  ·rw[Wx z] at t;exact p j d t
  ·have Y:=(V9.mp t).1;rw[Wn,YC] at Y;have:j=a.length:=by lia
   subst this;rw[Wy (Wj _),X6] at t;cases t;exact⟨by rw[o];exact J,rfl,T,X⟩
 ·rintro N h' ⟨a,w,d3,d4,d5,v,rfl,rfl,o,p,hc,B⟩;have o:a.length=3:=o;have F:v.length=h.length+1:=B.b.1.trans y;obtain⟨hb,rfl,S9,b9,C9⟩:=B.out sl cl C rfl;nofun;refine rv (fB (qw F)) ?_;nofun;rw[W8];refine rv (uC b9.1 C9 (λn z=>(nomatch z)) (LZ _ ⟨[Str.ofString "n"],a⟩)) ?_;have O:Tt nG 60 ⟨[Str.ofString "n"],a⟩:=⟨VX,o,λj d t=>by
   obtain⟨a1,a2,a3,a4⟩:=p j d t;refine⟨a1,?_,by rw[a2];exact a3,a4⟩;rw[a2];have:=(V9.mp t).1;dsimp only at this
   match j,(show j < 3 by lia) with
   | 0,_=>rfl
   | 1,_=>rfl
   | 2,_=>rfl,by dsimp only;lia⟩
  refine k ⟨[Str.ofString "n"],a⟩ hb ⟨nG,[0,0,0],0,TX,O⟩ ?_ (λd hd=>?_) ⟨S9.le (by lia),A.b.trans b9⟩ C9
  ·refine Yk λj=>?_;rw[Wt];cases e:a[j]? with
   | none=>
    have:=Xw.mp e;exact(WO (show nG.ao.length<=j by show 3<=j;lia)).symm
   | some d=>exact(p j d e).1.symm
  ·obtain⟨j,t⟩:=Xg.mp hd;rw[(p j d t).2.1];rfl
def CT(x:Hand):Prop:=(∀f∈x.1,f.nums.length<=3)/\∀b∈x.2,b.length<=4
theorem AF{P:Prog}:∀{fs:List aT} {f:aT},(∀g∈f::fs,g.nums.length<=3)->∀g∈fA P fs f,g.nums.length<=3
 | fs,f,h,x,a=>by
  have e:=h f We;have c:=λg d=>h g (Wf _ d);cases q:mh (bJ P f.aO) f.rs f.k with
  | some p=>
   rw[eG q] at a;rcases Ws.mp a with rfl | a
   ·exact e
   ·exact c x a
  | none=>cases fs with
   | nil=>rw[gQ q] at a;cases a
   | cons g i=>
    rw[jR q] at a;refine AF (fs:=i) (f:={g with k:=g.k+1}) (λy b=>?_) x a;rcases Ws.mp b with rfl | b
    ·exact c g We
    ·exact c y (Wf _ b)
theorem AE{P:Prog}:∀{fs:List aT},(∀g∈fs,g.nums.length<=3)->∀g∈dw P fs,g.nums.length<=3
 | [],_=>λ_ z=>(nomatch z)
 | _::_,h=>AF h
def Lk{P:Prog}{f:aT}{r:Row}(er:aQ P f=some r)(a:(cC r).length<=4):(k9 P f).length<=4:=by
 unfold k9;rw[er,(eF _).length_eq];have:=i3 (bB P f) (cC r) [];rw[Xm] at this;exact WQ this (by lia)
def LB{P:Prog}(D:Dr P){n c:Nat}{S:List Hand}{f:aT}{fs:List aT}{hd:List (List aq)}(q:iw P n (f::fs,hd))(U9:CT (f::fs,hd)):CT (vh P S (f::fs,hd) c):=by
 obtain⟨p,i⟩:=U9;have k:=p f We;have v:∀g∈fs,g.nums.length<=3:=λg e=>p g (Wf _ e);have two:∀{s:aT},s.nums.length<=3->∀g∈s::fs,g.nums.length<=3:=λh g e=>by
  rcases Ws.mp e with rfl | e
  ·exact h
  ·exact v g e
 have hr:mZ P (f::fs,hd)=aQ P f:=rfl
 suffices h:CT (gone P S (f::fs,hd) c (gP P (f::fs,hd))) from⟨AE h.1,h.2⟩
 cases er:aQ P f with
 | none=>
  have:gone P S (f::fs,hd) c (gP P (f::fs,hd))=(sg f::fs,hd.dropLast):=by unfold gone;dsimp only;rw[er]
  rw[this];have u:(sg f).nums=f.nums:=by unfold sg;split <;> rfl
  exact⟨two (by rw[u];exact k),λb a=>i b (ZR (List.dropLast_eq_take ▸ a))⟩
 | some r=>
  obtain⟨d,o,_⟩:=q.fr.1;obtain⟨T,B,C⟩:=D.row o (q.nm f We) er
  by_cases j:nv r=true
  ·cases r with
   | call w m=>
    have:gone P S (f::fs,hd) c (gP P (f::fs,hd))=(nE P f (gP P (f::fs,hd)) m::f::fs,hd):=by unfold gone;dsimp only;rw[er]
    rw[this];obtain⟨⟨E,t,A,z⟩,y,x⟩:=C w m rfl;have F:=D.par t;refine⟨λg e=>?_,i⟩;rcases Ws.mp e with rfl | e
    ·show(m.map _).length<=3;rw[Wc]
     lia
    ·exact two k g e
   | _=>cases j
  ·rw[ip er (by simpa using j)];cases du P S f c r with
   | none=>exact⟨two k,i⟩
   | some l=>
    refine⟨two k,λb a=>?_⟩;dsimp only at a
    split at a
    ·rcases Xa.mp a with a | a
     ·exact i b a
     ·rw[Wr.mp a];exact Lk er T.four
    ·exact i b a
def HK{f:aT}(c:f.nums.length<=3)(b:f.rs.length<=1000):plain 3 (cQ f):=by
 refine⟨by show 3<=100000;decide,λx a=>?_⟩;rcases Ws.mp a with rfl | a
 ·trivial
 ·rcases Ws.mp a with rfl | a
  ·exact gp (by lia) λ_ _=>trivial
  ·rw[Wr.mp a];refine gp ?_ λ_ _=>trivial;rw[Wn,i5,WM];show _+1<=_
   lia
def wW{P:Prog}{n:Nat}{S:List Hand}(s:Mk P n S)(hn:n<=100)(hm:∀x∈S,CT x):plain 6 (bS S):=by
 refine gp (by have:=s.l;lia) λx g=>⟨by show 2<=100000;decide,λy d=>?_⟩;have e:=s.h x g;obtain⟨j,i⟩:=hm x g;rcases Ws.mp d with rfl | d
 ·refine gp (by rw[WM];have:=e.fl;lia) λf a=>?_;have a:=List.mem_reverse.mp a;exact HK (j f a) (by have:=(e.nm f a).rs;lia)
 ·rw[Wr.mp d];refine gp (by have:=e.hl;lia) λb k=>gp (by have:=i b k;lia) λp _=>⟨by show 2<=100000;decide,λz c=>?_⟩;rcases Ws.mp c with rfl | c
  ·trivial
  ·rw[Wr.mp c];trivial
def BV{d:D}(h:plain 6 d)(i:Nat)(o:Option Row):plain 8 (.tup [d,Ee i o]):=by
 refine⟨by show 2<=100000;decide,λx b=>?_⟩;rcases Ws.mp b with rfl | b
 ·exact ua h (by decide)
 ·rw[Wr.mp b];cases o with
  | none=>trivial
  | some r=>cases r with
   | say w=>
    refine⟨by show 2<=100000;decide,λz a=>?_⟩;rcases Ws.mp a with rfl | a
    ·trivial
    ·rw[Wr.mp a];trivial
   | _=>trivial
def V7(b:List Int):Cl [.lst (b.map D.int),.lst [.int 0,.ob 0,.int 0]]:=by
 intro o a;rcases Ws.mp a with rfl | a
 ·exact qE _ D.int (λ_=>rfl) _
 ·rw[Wr.mp a];rfl
theorem M5{n b:Nat}:∀(i:Nat)(S:List Hand),b+3*(i+S.length) < n->∀o∈hG b i S,xr n o=true
 | _,[],_,o,a=>(nomatch a)
 | i,x::S,hn,o,a=>by
  rw[Wq] at hn;have a:o∈MY b i x++hG b (i+1) S:=a;rcases Xa.mp a with z | z
  ·rcases Ws.mp z with rfl | z
   ·exact qF _ _
   ·rcases Ws.mp z with rfl | z
    ·exact Es _ _
    ·rw[Wr.mp z];show(decide (b+3*i+1 < n)&&(decide (b+3*i+2 < n)&&true))=true;rw[WI (by lia),WI (by lia)];rfl
  ·exact M5 (i+1) S (by lia) o z
def Cl.wd{h:MH}(C:Cl h)(S:List Hand):Cl (h++Be h.length S):=by
 have hl:(h++Be h.length S).length=h.length+(3*S.length+1):=by rw[Wn];unfold Be;rw[Wq,yN]
 intro o c;rw[hl];rcases Xa.mp c with z | z
 ·exact Jk (by lia) o (C o z)
 ·rcases Ws.mp z with rfl | z
  ·have:∀l:List Nat,(∀i∈l,i < S.length)->dY (h.length+(3*S.length+1)) (l.map λi=>.ob (h.length+3*i+3))=true:=λl=>by
    induction l with
    | nil=>exactλ_=>rfl
    | cons i l b=>
     intro a;have e:=a i We;rw[Wo];show(decide (h.length+3*i+3 < _)&&dY _ _)=true;rw[WI (by lia),b λj d=>a j (Wf _ d)];rfl
   exact this _ λi a=>XE.mp a
  ·exact M5 0 S (by lia) o z
def law_true(ns:List Int)(hn:ns.length<=63):∃h',EH [.ro (ns.map D.int)] []=some (.bl true,h'):=by
 have e:Rn (EH [.ro (ns.map D.int)] []) λp=>p.1=.bl true:=by
  obtain⟨cs,ed,S0⟩:=CH ns hn 90000 (by decide);refine aY ?_;nofun;refine rv ed ?_;nofun;refine t7 ?_;nofun;refine rv (a:=(.int (ns.length:Int),_)) (by show some (D.int ((ns.map D.int).length:Int),_)=_;rw[Wc]) ?_;nofun;refine rv (LI _ _ _) ?_;nofun;refine rv (LJ _ _ _) ?_;nofun;refine⟨_,rfl,by lia,by lia,?_⟩;refine eS (λi u h=>∃(v2 v3 v4 v5 v6 v7 v8 v9 v10 v11:Option D),u=[some (.ro (ns.map D.int)),some (.ob 1),v2,v3,v4,v5,v6,v7,v8,v9,v10,v11]/\St 1 0 cs (90000-10000*i) h/\Cl h)
   ⟨_,_,_,_,_,_,_,_,_,_,rfl,S0,V7 cs⟩ (λ_ _ _ _ _=>rfl) ?_ ?_
  ·rintro i x u h E ⟨v2,v3,v4,v5,v6,v7,v8,v9,v10,v11,rfl,S,C⟩;have hi:i < 8:=by
    have:=(V9.mp E).1;rw[Wc,WK] at this
    lia
   nofun;refine P8 (R:=90000-10000*(i+1)+1000) ((S.le (by lia)).sb) C λP n r dn dp A1 C1=>?_;nofun;have ft:=r.fit;obtain⟨_,et,J,g,rfl,T,tsl,C2⟩:=zC (P:=P) (h:=n) (λd hd=>⟨WQ (ft.nd d hd) (by decide),WQ (C4 hd) ft.ct⟩) ft.dl C1;refine rv et ?_;nofun;have hg:(n++g).length=n.length+g.length:=Wn;obtain⟨l1,l2⟩:=A1.S.lt;refine L9 (R:=90000-10000*(i+1)+900) ((A1.S.more g).le (by lia)).sb (.inl rfl) (by decide) (by decide) λd o hd I=>?_;obtain⟨w,X,rfl⟩:∃w:Str,w∈P.ao.map (·.1)/\d=.str w:=by
    rw[dn];simp only[Ws,YL,ZN] at hd;rcases hd with rfl | rfl | rfl <;> exact⟨_,by simp[nG],rfl⟩
   have T2:gV P o n.length (n.length+g.length) J:=T.mono λk k1 k2=>I.b.2 k (by lia);have C3:=C2.but I.S I.b;have hl2:o.length=n.length+g.length:=I.b.1.trans hg;nofun;have L:Mj P [(Str.ofString "da",[]),(w,[])]:=by
    have A:∀w∈P.ao.map (·.1),∃d∈P.ao,d.1=w/\d.2.1.length=([]:List Int).length:=λw X=>by
     obtain⟨d,hd,rfl⟩:=WY.mp X;exact⟨d,hd,rfl,dp d hd⟩
    intro p hp;rcases Ws.mp hp with rfl | hp
    ·exact A _ (by rw[dn];simp[nG])
    ·rw[Wr.mp hp];exact A _ X
   generalize Z:[(Str.ofString "da",([]:List Int)),(w,[])]=t at L;have htl:t.length=2:=by rw[<-Z];rfl
   have Y:(D.tup [.tup [.str (Str.ofString "da"),.tup []],.tup [.str w,.tup []]])=Mz t:=by rw[<-Z];rfl
   rw[show("da":Str)=Str.ofString "da" from rfl,Y];refine rv (uF r T2 (by lia) L (by lia)) ?_;have M:=SL.V5 r L (by lia);obtain⟨eb,-⟩:=Jx r L (by lia);have v:∀x∈t.map (lD P (c7 P)),CT x:=λx E=>by
    obtain⟨p,hp,rfl⟩:=WY.mp E;refine⟨AE (P:=P) (fs:=[{aO:=c7 P p.1,nums:=p.2,rs:=[],k:=0}]) λg hg=>?_,λ_ z=>(nomatch z)⟩;rw[Wr.mp hg];rw[<-Z] at hp;rcases Ws.mp hp with rfl | hp
    ·exact WL _
    ·rw[Wr.mp hp];exact WL _
   generalize t.map (lD P (c7 P))=c at M eb v;have S5:=I.S.more (Be o.length c);have T5:=T2.app (g:=Be o.length c);have O:=dR.new o c;have C6:=C3.wd c;have hb5:n.length+g.length<=o.length:=by lia
   have l15:1 < n.length:=l1;generalize o++Be o.length c=h5 at S5 T5 O C6;generalize o.length=b at T5 O hb5;nofun;refine rv (eb _) ?_;nofun;refine rv (gO O (by have:=M.s.l;lia)) ?_;nofun;refine rv (same_refl 8 _ _ (ua (wW M.s (by decide) v) (by decide))) ⟨true,rfl,ff ?_⟩;nofun;refine t7 ?_;nofun;refine⟨40,rfl,by decide,by decide,?_⟩;refine eS (λj u h'=>∃(S:List Hand)(v7 v8 v9 v10 v11:Option D),u=[some (.ro (ns.map D.int)),some (.ob 1),some x,some (ax P),some (.lv J),some (Mz t),some (.ob b),v7,v8,v9,v10,v11]/\(∀x∈S,CT x)/\WS P n.length (n.length+g.length) b 1 0 cs J j (90000-10000*(i+1)+800-j) S h')
    ⟨c,_,_,_,_,_,rfl,v,M,T5,O,S5.le (by lia),C6⟩ (λ_ _ _ _ _=>rfl) ?_ ?_
   ·rintro j z u h' hz ⟨S,w7,w8,w9,U,Q,rfl,v,B⟩;have hj:j < 40:=by
     have:=(V9.mp hz).1;rw[Wc,WK] at this;exact this
    have hS:=B.l.s.l;nofun;refine rv (uE B.T B.W (B.l.ow r)) ?_;nofun;refine rv (F0 (m:=1) (rn.map λp _=>Dp.tup (rn.cons (Dp.int _) (rn.cons (Dp.int _) rn.nil))) (by decide)) ⟨_,rfl,λz=>?_,λz=>?_⟩
    ·nofun;exact⟨_,_,_,_,_,_,_,_,_,_,rfl,B.S.le (by lia),B.C⟩
    ·have F:0 < ((OZ P S).map wa).length:=by
      cases q:(OZ P S).map wa with
      | nil=>rw[q] at z;cases z
      | cons _ _=>exact ZD _
     have hlm:=Lb B.l.s;nofun;refine L9 (R:=90000-10000*(i+1)+800-(j+1)) ((B.S.le (by lia)).sb) (.inl rfl) F (by lia) λd1 h6 hd1 H=>?_;obtain⟨a,ha,rfl⟩:=WY.mp hd1;obtain⟨⟨fs,hd⟩,ex,N⟩:=Lc.mp ha;cases fs with
     | nil=>cases N
     | cons f fs=>
      have T6:gV P h6 n.length (n.length+g.length) J:=B.T.mono λj j1 j2=>H.b.2 j (by lia);have W6:dR h6 b S:=B.W.as λj j1=>H.b.2 j (by lia);have C7:Cl h6:=B.C.but H.S H.b;have E:=B.l.s.h _ (Wk ex);obtain⟨st,so⟩:=B.l.s.step r (by lia) ex N;have W7:=W6.put ex (vh P S (f::fs,hd) a.2);have G:∀y∈S.set a.1 (vh P S (f::fs,hd) a.2),CT y:=λy hy=>by
       rcases Yh hy with z | z
       ·exact v y z
       ·rw[z];exact LB r E (v _ (Wk ex))
      nofun;refine rv (gO W6 (by lia)) ?_;nofun;refine rv (wk r T6 (by lia) W6 B.l (by lia) C7 ex N) ?_;nofun;refine rv (st _) ?_;nofun;refine rv (gO W7 (by rw[Xl];lia)) ?_;nofun;refine rv (same_refl 8 _ _ (BV (wW so (by lia) G) _ _)) ⟨true,rfl,ff ?_⟩;nofun;refine⟨_,_,_,_,_,_,rfl,G,(B.l.step r (by lia) ex N).1,?_,W7,?_,C7.dE _ _ _⟩
      ·exact T6.mono λj j1 j2=>by unfold dE;rw[Wm (by lia),Wm (by lia)]
      ·exact H.S.as (by unfold dE;rw[Wm (by lia),Wm (by lia)]) (by unfold dE;rw[Wm (by lia),Wm (by lia)])
   ·rintro u h' ⟨S,w7,w8,w9,U,Q,rfl,v,B⟩;rw[Wc,WK] at B;exact⟨_,_,_,_,_,_,_,_,_,_,rfl,B.S.le (by lia),B.C⟩
  ·rintro u h ⟨v2,v3,v4,v5,v6,v7,v8,v9,v10,v11,rfl,S,C⟩;nofun
 obtain⟨⟨_,h'⟩,e1,rfl⟩:=e;exact⟨h',e1⟩
end Mi
open PySem PySem.W PyProof.Rows
def Mi.U5:defOf Mi.view "law"=some (Hd.wR "law" Mi.qQ,[]):=by ac_nf
def Mi.hp:PySem.Program.theDef Mi.pw "law"=some (L2.oJ Mi.qQ,L2.iq Mi.qQ,L2.ae Mi.qQ):=by ac_nf
theorem PySem.Challenge.cw_neverstuck_k22_ends_of_lots_holds : PySem.Challenge.rw_neverstuck_k22_ends_of_lots.Holds := by
 refine holds_law Mi.NM λNM=>?_;refine PySem.W.holds_open (q:=Mi.view) (loose:=["SHAPES"]) (Xt:=Mi.Xt) (XP:=XL Mi.view []) (Yf:=Mi.Yf) (Ya:=Mi.ya) (YP:=λw h=>Hd.tabAt h "SHAPES"=Mi.ya w) (N:=20000) (d:=Hd.wR "law" Mi.qQ) (kwd:=[]) Mi.left (λ_ _ e=>e) (λ_ _ _ y k=>Hd.Bm k y) (λs e=>xl_of s (WE.mp e).1) XL.keeps Mi.U5 Mi.hp (by ac_nf) (λs e=>recFacts_of (WE.mp e).2) (by ac_nf) NM (by decide+kernel) ⟨rfl,rfl,rfl,rfl,rfl,by decide+kernel⟩ (by w_witness2) ?_;exact Hd.Pr (k:=18) (by ac_nf) (by ac_nf) ⟨rfl,by decide,by decide⟩ λw s₀ mg b h G Y=>Mi.all_mk G.T Y Mi.law_true
