import PyProof.Rows.All
import KE.KEqDict
import KE.KIsAll
import KE.KSortTup
import KE.KDictOf
import KE.KDictList
import PySem.Challenge.RW_neverstuck_k28_books
set_option Elab.async false
set_option linter.all false
set_option maxRecDepth 100000
set_option maxHeartbeats 4000000
set_option compiler.small 0
set_option compiler.extract_closed false
set_option compiler.reuse false
noncomputable section
local macro_rules | `(∅) => `(by ac_rfl)
local macro_rules | `(tactic| ac_nf) => `(tactic| kernel_rfl)
local macro_rules | `(tactic| nofun) => `(tactic| walk_at "r")
abbrev Wr:=@PySem.wpAny_bind
abbrev Ws:=@List.length_map
abbrev Wt:=@PySem.wpAny_pure
abbrev Wu:=@PySem.Heap.get?_push_of_some
abbrev Ww:=@List.getElem?_eq_some_iff
abbrev Wx:=@List.mem_of_getElem?
abbrev Wy:=@List.mem_cons_self
abbrev Wz:=@List.mem_cons_of_mem
abbrev WA:=@List.getElem?_eq_getElem
abbrev WB:=@Nat.le_refl
abbrev WC:=@if_pos
abbrev WD:=@List.mem_singleton
abbrev WE:=@if_neg
abbrev WG:=@List.map_cons
abbrev WH:=@PySem.Heap.lt_size
abbrev WI:=@List.mem_cons
abbrev WJ:=@List.getElem?_map
abbrev WK:=@PySem.Heap.get?_push_size
abbrev WL:=@Nat.le_trans
abbrev WM:=@Nat.lt_of_lt_of_le
abbrev WN:=@List.length_cons
abbrev WO:=@List.getElem?_append_left
abbrev WQ:=@List.length_append
abbrev WR:=@List.map_append
abbrev WS:=@Bool.and_eq_true
abbrev WT:=@List.size_toArray
abbrev WU:=@Bool.false_eq_true
abbrev WW:=@decide_eq_false
abbrev WX:=@List.length_range
abbrev WY:=@Option.bind_some
abbrev WZ:=@Nat.ne_of_lt
abbrev W0:=@Option.map_eq_some_iff
abbrev W2:=@List.length_take
abbrev W3:=@Bool.and_eq_true_iff
abbrev W4:=@decide_eq_true
abbrev W5:=@List.getElem?_append_right
abbrev W6:=@List.mem_map
abbrev W7:=@Int.toNat_natCast
abbrev W8:=@Bool.false_ne_true
abbrev W9:=@List.mem_append_right
abbrev Xa:=@of_decide_eq_true
abbrev Xb:=@Array.getElem?_eq_getElem
abbrev Xc:=@PySem.wpAny_newObj_type
abbrev Xd:=@PySem.wpAny_callSpecial?_slot
abbrev Xe:=@Nat.zero_le
abbrev Xf:=@Option.map_some
abbrev Xg:=@PySem.wpAny_call_entry
abbrev Xh:=@List.getElem?_eq_none
abbrev Xi:=@List.mem_append
abbrev Xj:=@PySem.wpAny_holding
abbrev Xk:=@Nat.lt_of_le_of_lt
abbrev Xl:=@PySem.wpAny_field
abbrev Xm:=@List.getElem?_take_of_lt
abbrev Xn:=@Nat.le_add_right
abbrev Xo:=@decide_eq_true_eq
abbrev Xp:=@List.reverse_cons
abbrev Xq:=@List.length_reverse
abbrev Xr:=@PyProof.Rows.callWith_type1
abbrev Xs:=@List.lookup_cons
abbrev Xu:=@Nat.le_succ_of_le
abbrev Xv:=@PySem.wpAny_mono
abbrev Xw:=@PySem.Around.under_plainId
abbrev Xx:=@List.mem_range
abbrev Xy:=@List.getElem?_set_ne
abbrev Xz:=@PySem.PassesOwn.never
abbrev XA:=@PySem.wpAny_seqItems
abbrev XB:=@if_false
abbrev XC:=@Nat.le_of_not_lt
abbrev XD:=@List.getElem?_cons_succ
abbrev XE:=@Nat.le_of_lt_succ
abbrev XF:=@PySem.Heap.size_push
abbrev XG:=@PyProof.Rows.slot_tuple_getitem
abbrev XH:=@List.getElem?_set_self
abbrev XI:=@List.find?_cons
abbrev XJ:=@Ne.symm
abbrev XM:=@List.append_assoc
abbrev XN:=@PySem.W.kia_one
abbrev XO:=@List.length_nil
abbrev XQ:=@Nat.le_of_lt
abbrev XR:=@PySem.sizeLine_eq
abbrev XS:=@PySem.codeAny_builtin
abbrev XT:=@List.mem_iff_getElem?
abbrev XU:=@Bool.not_true
abbrev XW:=@List.append_nil
abbrev XX:=@Int.emod_nonneg
abbrev XY:=@Bool.eq_iff_iff
abbrev XZ:=@of_decide_eq_false
abbrev X0:=@PySem.Heap.get?_update_self
abbrev X1:=@List.take_length
abbrev X2:=@PySem.wpAny_rule
abbrev X3:=@bne_self_eq_false
abbrev X4:=@PySem.wpAny_isInstance
abbrev X5:=@List.getD_eq_getElem?_getD
abbrev X6:=@Int.le_trans
abbrev X7:=@PySem.mem_of_lookup
abbrev X8:=@List.filterMap_cons
abbrev X9:=@Array.length_toList
abbrev Yb:=@PySem.wpAny_standAt
abbrev Yc:=@Classical.byContradiction
abbrev Yd:=@PySem.wpAny_setState_of
abbrev Ye:=@PySem.F.slot_tuple_hash
abbrev Yg:=@Array.getElem?_toList
abbrev Yh:=@Nat.succ_le_succ
abbrev Yi:=@List.all_eq_true
abbrev Yj:=@Int.emod_lt_of_pos
abbrev Yk:=@List.map_nil
abbrev Yl:=@Array.mem_toList_iff
abbrev Ym:=@PySem.wpAny_Call_Name_kw
abbrev Yn:=@Int.eq_ofNat_of_zero_le
abbrev Yo:=@List.length_set
abbrev Yp:=@Bool.or_eq_true
abbrev Yq:=@List.replicate_succ
abbrev Yr:=@PySem.wpAny_truthy_bool
abbrev Ys:=@PySem.F.slot_dict_keyiterator_next
abbrev Yt:=@beq_iff_eq
abbrev Yu:=@Array.forIn_toList
abbrev Yv:=@List.length_singleton
abbrev Yw:=@PySem.Heap.get?_update_other
abbrev Yx:=@PySem.wpAny_attempt
abbrev Yy:=@PySem.plainId_quiet
abbrev Yz:=@Nat.not_lt_zero
abbrev YA:=@List.nodup_cons
abbrev YB:=@Nat.succ_pos
abbrev YC:=@Nat.le_succ
abbrev YD:=@List.map_map
abbrev YE:=@Nat.lt_irrefl
abbrev YF:=@Nat.add_assoc
abbrev YG:=@List.any_cons
abbrev YH:=@List.all_cons
abbrev YI:=@PySem.wpAny_specialOf
abbrev YJ:=@PySem.F.slot_zip_next
abbrev YK:=@beq_self_eq_true
abbrev YL:=@Nat.lt_succ_self
abbrev YM:=@List.length_drop
abbrev YN:=@List.getElem_mem
abbrev YO:=@decide_eq_true_iff
abbrev YQ:=@Nat.ne_of_gt
abbrev YR:=@Nat.lt_or_ge
abbrev YS:=@List.take_of_length_le
abbrev YT:=@List.pairwise_cons
abbrev YU:=@List.length_eq_one_iff
abbrev YV:=@Int.lt_of_le_of_lt
abbrev YW:=@PySem.wpAny_askSetting
abbrev YX:=@PySem.isSubtype_stop
abbrev YY:=@PySem.wpAny_typeNameOfWhole_keyiter
abbrev YZ:=@List.flatten_cons
abbrev Y0:=@PySem.wpAny_typeOf
abbrev Y1:=@PySem.Obj.data_mapFields
abbrev Y2:=@PySem.wpAny_passesOwn
abbrev Y3:=@Array.getElem?_eq_some_iff
abbrev Y4:=@if_true
abbrev Y5:=@PySem.F.slot_enumerate_next
abbrev Y6:=@Nat.zero_add
abbrev Y7:=@List.any_eq_true
abbrev Y8:=@Int.ofNat_lt
abbrev Y9:=@PySem.F.slot_tuple_iterator_next
abbrev Za:=@List.forIn_cons
abbrev Zb:=@PySem.wpAny_forIn_list
abbrev Zc:=@PySem.Str.length_append
abbrev Zd:=@Option.join_eq_some_iff
abbrev Ze:=@PySem.Heap.SameBut.update
abbrev Zf:=@PySem.F.slot_list_append
abbrev Zg:=@PySem.wpAny_pyIter_tuple
abbrev Zh:=@PySem.wpAny_getItem_str_slice
abbrev Zi:=@Array.toList_inj
abbrev Zj:=@Bool.true_and
abbrev Zk:=@beq_eq_false_iff_ne
abbrev Zl:=@PySem.hashByValue_scannable
abbrev Zm:=@Nat.add_le_add_left
abbrev Zn:=@Int.toNat_of_nonneg
abbrev Zo:=@PySem.Around.in1_units
abbrev Zq:=@Nat.lt_trans
abbrev Zr:=@PySem.wpAny_letGo
abbrev Zs:=@List.take_succ
abbrev Zt:=@List.mem_filterMap
abbrev Zu:=@List.filterMap_map
abbrev Zv:=@List.drop_zero
abbrev Zw:=@PySem.F.slot_dict_getitem
abbrev Zx:=@List.mem_or_eq_of_mem_set
abbrev Zy:=@List.drop_eq_getElem_cons
abbrev Zz:=@PySem.F.plain_extend_loop
abbrev ZA:=@Option.isSome_map
abbrev ZC:=@Nat.le_of_succ_le
abbrev ZD:=@List.pairwise_map
abbrev ZE:=@List.nodup_append
abbrev ZF:=@List.ext_getElem?
abbrev ZG:=@PySem.codeAny_mono
abbrev ZH:=@PySem.F.type_list_append
abbrev ZI:=@PySem.F.args_tuple_add_2
abbrev ZJ:=@Option.isSome_iff_exists
abbrev ZK:=@List.length_filterMap_le
abbrev ZL:=@List.Perm.eq_of_pairwise
abbrev ZM:=@PySem.wpAny_setField
abbrev ZN:=@PySem.wpAny_newTuple
abbrev ZO:=@PySem.tupleKind_room_in1
abbrev ZP:=@PySem.F.plainAttrs_list
abbrev ZQ:=@PySem.F.entry_tuple_add
abbrev ZR:=@Option.bind_eq_some_iff
abbrev ZS:=@List.prefix_refl
abbrev ZT:=@List.isEmpty_nil
abbrev ZU:=@List.filter_cons
abbrev ZV:=@PySem.F.slot_tuple_add
abbrev ZW:=@Array.getElem?_eq_none
abbrev ZX:=@PySem.wpAny_pyIter_list
abbrev ZY:=@PySem.wpAny_dictEntries
abbrev ZZ:=@PySem.Heap.get?_push_ne
abbrev Z0:=@PySem.F.plain_list_iadd
abbrev Z1:=@PySem.F.args_zip_next_1
abbrev Z2:=@Nat.zero_lt_one
abbrev Z3:=@Nat.le_antisymm
abbrev Z4:=@PySem.wpAny_comprehension_free
abbrev Z5:=@List.set_append_right
abbrev Z6:=@Array.mem_of_getElem?
abbrev Z7:=@PySem.Heap.size_update
abbrev Z8:=@PySem.F.slot_zip_getattribute
abbrev Z9:=@PySem.F.entry_zip_next
abbrev Aaa:=@Nat.le_sub_one_of_lt
abbrev Aab:=@Nat.add_le_add_right
abbrev Aac:=@List.mem_of_mem_take
abbrev Aad:=@List.mem_append_left
abbrev Aae:=@List.length_dropLast
abbrev Aaf:=@List.forIn_nil
abbrev Aag:=@Bool.and_false
abbrev Aah:=@PySem.wpAny_pyNext_list_item
abbrev Aai:=@PySem.SetTable.insertAt_perm
abbrev Aaj:=@List.getElem?_range
abbrev Aak:=@PySem.wpAny_execs_nil
abbrev Aal:=@PySem.post_val_or_str
abbrev Aam:=@List.map_take
abbrev Aan:=@PySem.wpAny_pyNext_list_end
abbrev Aao:=@PySem.wpAny_callSpecialIfBoundUnlessNone?_slot
abbrev Aap:=@PySem.builtinLookup_eq_fast
abbrev Aaq:=@PySem.Obj.isFreed_of_fields
abbrev Aar:=@Nat.lt_of_le_of_ne
abbrev Aas:=@List.getElem_range
abbrev Aat:=@Int.natCast_nonneg
abbrev Aau:=@PySem.wpAny_updateSeq_pair
abbrev Aav:=@PySem.wpAny_fieldsOf
abbrev Aaw:=@Nat.sub_self
abbrev Aax:=@Nat.lt_trichotomy
abbrev Aay:=@List.take_sublist
abbrev Aaz:=@List.getElem?_inj
abbrev AaA:=@decide_eq_decide
abbrev AaB:=@PySem.wpAny_setEntries_of
abbrev AaC:=@List.nodup_range
abbrev AaD:=@List.cons_append
abbrev AaE:=@PySem.wpAny_onRaise
abbrev AaF:=@Nat.le.dest
abbrev AaG:=@List.take_append_of_le_length
abbrev AaH:=@List.eq_nil_of_length_eq_zero
abbrev AaI:=@PySem.call_meets
abbrev AaJ:=@PySem.Calls.spliced_cons
abbrev AaK:=@Nat.min_le_left
abbrev AaL:=@Nat.min_eq_left
abbrev AaM:=@List.of_mem_zip
abbrev AaN:=@List.nil_append
abbrev AaO:=@List.foldl_cons
abbrev AaP:=@List.dropLast_concat_getLast
abbrev AaQ:=@Array.getD_eq_getD_getElem?
abbrev AaR:=@PySem.wpAny_pyIter_slot
abbrev AaS:=@PySem.fits_of_scanBound
abbrev AaT:=@PySem.eqIsQuiet_byValue
abbrev AaU:=@PySem.Obj.cls_mapFields
abbrev AaV:=@PySem.Calls.spliced_nil
abbrev AaW:=@Nat.not_lt
abbrev AaX:=@Nat.mod_lt
abbrev AaY:=@List.nodup_iff_pairwise_ne
abbrev AaZ:=@List.length_eraseIdx_of_lt
abbrev Aa0:=@Bool.false_and
abbrev Aa1:=@List.mem_of_find?_eq_some
abbrev Aa2:=@PySem.noFill_tuple_add
abbrev Aa3:=@PySem.entryFor_of_tree
abbrev Aa4:=@PySem.F.args_dict_keyiterator_next_1
abbrev Aa5:=@List.map_drop
abbrev Aa6:=@List.Pairwise.imp_of_mem
abbrev Aa7:=@Bool.or_false
abbrev Aa8:=@Bool.false_or
abbrev Aa9:=@decide_eq_false_iff_not
abbrev Aba:=@PySem.wpAny_of_eq
abbrev Abb:=@PySem.F.entry_dict_keyiterator_next
abbrev Abd:=@List.pairwise_mergeSort
abbrev Abe:=@List.getElem?_replicate
abbrev Abf:=@List.getElem?_cons_zero
abbrev Abg:=@PySem.wpAny_updateSeq
abbrev Abh:=@PySem.wpAny_ret_mkInt
abbrev Abi:=@PySem.wpAny_dictEpoch
abbrev Abj:=@PySem.typeLookup_type
abbrev Abk:=@PySem.W.cellsFrom_some
abbrev Abl:=@PySem.SeqAt.eqAt_reads
abbrev Abm:=@PySem.F.args_tuple_iterator_next_1
abbrev Abn:=@Nat.sub_zero
abbrev Abo:=@Nat.le_total
abbrev Abp:=@List.length_pos_of_mem
abbrev Abq:=@List.find?_cons_of_neg
abbrev Abr:=@List.drop_eq_nil_of_le
abbrev Abs:=@List.any_map
abbrev Abt:=@Int.le_of_lt
abbrev Abu:=@Int.ediv_one
abbrev Abv:=@PySem.F.entry_tuple_iterator_next
abbrev Abw:=@PyProof.Rows.assignInOrder_cons
abbrev Abx:=@Nat.le_of_sub_eq_zero
abbrev Aby:=@List.getElem?_toArray
abbrev Abz:=@List.filterMap_eq_map
abbrev AbA:=@Bool.and_eq_false_iff
abbrev AbB:=@PySem.Calls.Name_function_global
abbrev AbC:=@Nat.pow_le_pow_right
abbrev AbD:=@List.dropLast_concat
abbrev AbE:=@Array.getElem_of_mem
set_option hygiene false
set_option hygiene true
abbrev FR:=PySem.W.Frag
namespace Hd
open PySem PySem.W PySem.Spec PyProof.Rows
noncomputable def DN:List Value->Option (List Int)
 | []=>some []
 | .int i _::r=>(DN r).map λa=>i::a
 | _=>none
noncomputable def Ar(v:Value)(t:String):Bool:=match v with
 | .type s=>decide (s=t)
 | _=>false
def rowAt(h:Heap)(e:DictEntry):Option (Str×Int×List Int):=match e.key with
 | .str x _=>match e.val with
  | .ref t=>match h.get? t with
   | some u=>if Ar u.cls "tuple"&&u.dict.isNone then(match u.data with
     | .seq a _=>if a.size<=100 then(DN a.toList).map λb=>(x,e.hash,b) else none
     | _=>none) else none
   | none=>none
  | _=>none
 | _=>none
def kQ(h:Heap):List DictEntry->Option (List (Str×Int×List Int))
 | []=>some []
 | e::r=>(rowAt h e).bind λx=>(kQ h r).map λa=>x::a
def tabAt(h:Heap)(nm:Str):Option (List (Str×Int×List Int)):=match h.nsMap mainGlobals nm with
 | some (.ref a)=>if a==sysModules then none else(match h.get? a with
  | some o=>if Ar o.cls "dict"&&o.dict.isNone&&decide (o.slots=#[]) then(match o.data with
    | .dict b _=>kQ h b.toList
    | _=>none) else none
  | none=>none)
 | _=>none
noncomputable def NF:List Value->Option (List (Option Str))
 | []=>some []
 | .none::r=>(NF r).map λl=>none::l
 | .str x _::r=>(NF r).map λl=>some x::l
 | _=>none
def yJ(h:Heap)(nm:Str):Option (List (Option Str)):=match h.nsMap mainGlobals nm with
 | some (.ref a)=>match h.get? a with
  | some o=>if Ar o.cls "tuple"&&o.dict.isNone then(match o.data with
    | .seq b _=>if b.size<=100 then NF b.toList else none
    | _=>none) else none
  | none=>none
 | _=>none
theorem LF(row:String)(i:∀w:World,(fencedOpening treeTable p w N).map (λs₀=>(topFrom treeTable p (w.withFollow row false) N s₀).map (λs=>(openSeen q loose (importedModules p.main.body) Xt true s,Yf s)))=some (some (openGood q loose,f (w.withFollow row false))))(h:∀w:World,(fencedOpening treeTable p w N).map (λs₀=>(topFrom treeTable p (w.withFollow row true) N s₀).map (λs=>(openSeen q loose (importedModules p.main.body) Xt true s,Yf s)))=some (some (openGood q loose,f (w.withFollow row true)))):LeftO p q loose Xt Yf f N true:=λw=>by
 obtain⟨s₀,a,d⟩:=W0.mp (i w);obtain⟨b,a1,c⟩:=W0.mp (h w);have e:=World.withFollow_self w row;unfold openEnds;cases g:w.params.followText row <;> rw[g] at e
 ·rw[a];rw[e] at d;exact d
 ·rw[a1];rw[e] at c;exact c
end Hd
namespace Mi
open PySem
abbrev pw:Program:=PySem.Challenge.pw_neverstuck_k28_books
noncomputable def top(i:Nat):Stmt:=pw.main.body.getD i (.Pass ⟨0,0,0,0⟩)
noncomputable def jL:List (Str×List Int):=[("say",[2,0]),("call",[3,0]),("within",[2,1]),("all",[2,1]),("ask",[2,2]),("by",[3,3]),("either",[1,2]),("again",[1,1])]
def view:Program:={pw with main:={pw.main with body:=[top 1,top 2,top 3,top 5,top 6,top 7,top 8,top 10,top 11,top 12,top 13,top 14,top 15,top 16,top 17,top 18,top 19,top 20,top 21,top 22,top 23,top 25,top 26,top 28,top 29,top 30,top 31,top 32,top 33,top 34,top 35,top 36,top 37,top 38,top 40,top 42,top 43,top 45,top 46,top 47,top 48,top 49,top 50,top 51,top 52,top 53,top 54,top 55,top 56,top 57,top 58,top 59,top 60,top 61,top 62,top 63,top 64,top 65]}}
end Mi
local macro_rules | `(tactic| walk_at "s") => `(tactic| exact⟨rfl, rfl, rfl, by decide +kernel, rfl, by decide +kernel, by decide +kernel⟩)
namespace Mi
open PySem PySem.W PyProof.Rows
abbrev ya(w:World):=(some (jL.map λx:Str×List Int=>(x.1,hashStr w x.1,x.2)),some ([some "open",none]:List (Option Str)))
abbrev Xt:Shared->Bool:=λs=>xlAt view [] s&&recOk (RowW.records (OpenRow.toRowW PySem.Challenge.rw_neverstuck_k28_books.row)) s
abbrev Yf:Shared->Option (List (Str×Int×List Int))×Option (List (Option Str)):=λs=>(Hd.tabAt s.heap "SHAPES",Hd.yJ s.heap "TOO_MANY")
def IL{c b g e d:Type}{o:Option c}{t:c->Option b}{f:b->g×e}{k:b->d}{x:g×e}{y:d}(h:(o.map λs=>(t s).map λu=>((f u).1,k u))=some (some (x.1,y)))(a:(o.map λs=>(t s).map λu=>(f u).2)=some (some x.2)):(o.map λs=>(t s).map λu=>(f u,k u))=some (some (x,y)):=by
 obtain⟨s,rfl,n⟩:=W0.mp h;obtain⟨u,m,l⟩:=W0.mp n;rw[Xf,m] at a ⊢;injection l with j i
 injection a with a
 injection a with a
 exact congrArg (λz=>some (some z)) (Prod.ext (Prod.ext j a) i)
def Gw{c b h g e d:Type}{o:Option c}{t:c->Option b}{f:b->h×g×e}{k:b->d}{x:h×g×e}{y:d}(j:(o.map λs=>(t s).map λu=>((f u).1,k u))=some (some (x.1,y)))(a:(o.map λs=>(t s).map λu=>((f u).2.2,(f u).2.1))=some (some (x.2.2,x.2.1))):(o.map λs=>(t s).map λu=>(f u,k u))=some (some (x,y)):=by
 obtain⟨s,rfl,q⟩:=W0.mp j;obtain⟨u,p,n⟩:=W0.mp q;rw[Xf,p] at a ⊢;injection n with m l
 injection a with a
 injection a with a
 injection a with a i
 exact congrArg (λz=>some (some z)) (Prod.ext (Prod.ext m (Prod.ext i a)) l)
abbrev tO(b:Bool)(w:World){α:Type}(f:Shared->α):Option (Option α):=(fencedOpening treeTable pw w 20000).map λs₀=>(topFrom treeTable pw (w.withFollow "special-get-raises" b) 20000 s₀).map f
abbrev oL:List Str:=["SHAPES","TOO_MANY"]
abbrev oS(s:Shared):=openSeen view oL (importedModules pw.main.body) Xt true s
abbrev oG:=openGood view oL
abbrev oH:=(true,pinGoodD (drecsOf view),plainGoodE view (looseW view oL),plainGoodD view oL,wideGood view,clsGoodW view oL)
def Wg(w:World):tO false w (λs=>(oS s).2.2.2)=some (some oH):=by ac_nf
def QM(w:World):tO true w (λs=>(oS s).2.2.2)=some (some oH):=by ac_nf
def T9(w:World):tO false w (λs=>((oS s).2.2.1,(oS s).2.1))=some (some (true,bltViewBooted)):=by ac_nf
def Vj(w:World):tO true w (λs=>((oS s).2.2.1,(oS s).2.1))=some (some (true,bltViewBooted)):=by ac_nf
def Wi(w:World):tO false w (λs=>((oS s).1,Yf s))=some (some (oG.1,ya (w.withFollow "special-get-raises" false))):=by ac_nf
def Wh(w:World):tO true w (λs=>((oS s).1,Yf s))=some (some (oG.1,ya (w.withFollow "special-get-raises" true))):=by ac_nf
def Sr(w:World):tO false w (λs=>(oS s,Yf s))=some (some (oG,(ya) (w.withFollow "special-get-raises" false))):=Gw (x:=oG) (Wi w) (IL (x:=(true,oH)) (T9 w) (Wg w))
def Sq(w:World):tO true w (λs=>(oS s,Yf s))=some (some (oG,(ya) (w.withFollow "special-get-raises" true))):=Gw (x:=oG) (Wh w) (IL (x:=(true,oH)) (Vj w) (QM w))
theorem left:LeftO pw view (["SHAPES","TOO_MANY"]:List Str) Xt Yf (ya) 20000:=Hd.LF "special-get-raises" Sr Sq
theorem N5:PySem.Challenge.rw_neverstuck_k28_books.wellSaid=true:=by
 unfold OpenLaw.wellSaid
 repeat(with_reducible refine look_both ?_ (by decide+kernel))
 unfold OpenRow.wellSaid
 repeat(with_reducible refine look_both ?_ (by decide+kernel))
 unfold OpenRow.partSaid
 repeat(with_reducible refine look_both ?_ (by decide+kernel))
 unfold looksOpen
 repeat(with_reducible refine look_both ?_ (by decide+kernel))
 decide+kernel
end Mi
def cf{a:Type}{p:a}{C:Prop}(h:none=some p):C:=nomatch h
section
open PySem PySem.Spec
namespace L2
open PyProof.Rows
abbrev Key:=Sum Int Str
noncomputable def vH:Key->Value->Bool
 | .inl k,v=>Value.isInt k v
 | .inr x,v=>Value.isStrOf x v
noncomputable def Pr(w:World):Key->Int
 | .inl k=>hashInt k
 | .inr x=>hashStr w x
theorem bW:∀{k:Key} {v:Value},vH k v=true->(∃i t,k=Sum.inl i/\v=Value.int i t)\/(∃x t,k=Sum.inr x/\v=Value.str x t)
 | .inl i,v,h=>by
  obtain⟨t,e⟩:=Value.isInt_shape (k:=i) (v:=v) h;exact .inl ⟨i,t,rfl,e⟩
 | .inr x,v,h=>by
  obtain⟨t,e⟩:=Value.isStrOf_shape (x:=x) (v:=v) h;exact .inr ⟨x,t,rfl,e⟩
def Fx(i:Int)(t:Tok):vH (.inl i) (.int i t)=true:=by simp[vH,Value.isInt]
def Fw(x:Str)(t:Tok):vH (.inr x) (.str x t)=true:=by simp[vH,Value.isStrOf]
def Pq(a b:Int):decide ((Sum.inl a:Key)=Sum.inl b)=(a==b):=by
 by_cases e:a=b
 ·subst e;simp
 ·have h:¬(Sum.inl a:Key)=Sum.inl b:=λq=>e (Sum.inl.inj q);rw[WW h];exact(Zk.mpr e).symm
def Pn(a b:Str):decide ((Sum.inr a:Key)=Sum.inr b)=decide (a=b):=by
 by_cases e:a=b
 ·subst e;simp
 ·have h:¬(Sum.inr a:Key)=Sum.inr b:=λq=>e (Sum.inr.inj q);rw[WW h,WW e]
def Pp(a:Int)(b:Str):decide ((Sum.inl a:Key)=Sum.inr b)=false:=WW (λq=>nomatch q)
def Po(a:Str)(b:Int):decide ((Sum.inr a:Key)=Sum.inl b)=false:=WW (λq=>nomatch q)
def bu(prog:Program)(w:World):PySem.KeyKind prog w Key where
 is:=vH
 hash:=Pr w
 inj:=λv a b l f=>by
  rcases bW l with⟨i,t,rfl,rfl⟩ |⟨x,t,rfl,rfl⟩
  ·rcases bW f with⟨j,u,rfl,e⟩ |⟨y,u,rfl,e⟩
   ·injection e with c _;rw[c]
   ·exact nomatch e
  ·rcases bW f with⟨j,u,rfl,e⟩ |⟨y,u,rfl,e⟩
   ·exact nomatch e
   ·injection e with c _;rw[c]
 byValue:=λk v h=>by
  rcases bW h with⟨i,t,rfl,rfl⟩ |⟨x,t,rfl,rfl⟩ <;> rfl
 pyHash:=λd h=>by
  rcases bW d with⟨i,t,rfl,rfl⟩ |⟨x,t,rfl,rfl⟩
  ·exact wpAny_pyHash_int h
  ·exact wpAny_pyHash_str h
 eqBool:=λg d h=>by
  rcases bW g with⟨i,t,rfl,rfl⟩ |⟨x,t,rfl,rfl⟩
  ·rcases bW d with⟨j,u,rfl,rfl⟩ |⟨y,u,rfl,rfl⟩
   ·rw[Pq] at h;exact wpAny_eqBool_int h
   ·rw[Pp] at h;exact SeqAt.EqAt.int_str i t y u _ _ _ _ h
  ·rcases bW d with⟨j,u,rfl,rfl⟩ |⟨y,u,rfl,rfl⟩
   ·rw[Po] at h;exact SeqAt.EqAt.str_int x t j u _ _ _ _ h
   ·rw[Pn] at h;exact wpAny_eqBool_str h
 «strs»:=λk x t v h=>by
  rcases bW h with⟨i,u,rfl,e⟩ |⟨y,u,rfl,e⟩
  ·exact nomatch e
  ·injection e with c _
   subst c;cases v <;> rfl
def ju(prog:Program)(w:World)(i:Int)(t:Tok):(bu prog w).is (.inl i) (.int i t)=true:=Fx i t
def jt(prog:Program)(w:World)(x:Str)(t:Tok):(bu prog w).is (.inr x) (.str x t)=true:=Fw x t
inductive V where
 | bo | bl (b:Bool) | int (i:Int) | str (x:Str) | byt (b:Array UInt8) | QQ (b:UInt64) | ref (a:Addr) | ty (n:String)
 deriving DecidableEq
def RelV:V->Value->Prop
 | .bo,u=>u=Value.none
 | .bl b,u=>u=Value.bool b
 | .int i,u=>∃t,u=Value.int i t
 | .str x,u=>∃t,u=Value.str x t
 | .byt b,u=>∃t,u=Value.bytes b t
 | .QQ b,u=>∃t,u=Value.float b t
 | .ref a,u=>u=Value.ref a
 | .ty n,u=>u=Value.type n
abbrev Vals:List V->List Value->Prop:=Paired RelV
theorem Vals.length(r:Vals xs us):xs.length=us.length:=Paired.length r
def Vals.get:∀{a:List V} {us:List Value} {i:Nat} {x:V},Vals a us->a[i]?=some x->∃u,us[i]?=some u/\RelV x u
 :=by
 intro a us i x r
 induction r generalizing i x with
 | nil=>intro e;cases e
 | cons r _ b=>cases i with
  | zero=>intro e;cases e;exact⟨_,rfl,r⟩
  | succ i=>exactλe=>b (i:=i) e
theorem Vals.set(r:RelV x u):∀{a:List V} {us:List Value} (i:Nat),Vals a us->Vals (a.set i x) (us.set i u)
 | _,_,_,.nil=>.nil
 | _,_,0,.cons _ t=>.cons r t
 | _,_,i+1,.cons q t=>.cons q (Vals.set r i t)
def Vals.append{c b:List V}{us d:List Value}(a:Vals c us)(s:Vals b d):Vals (c++b) (us++d):=by
 induction a with
 | nil=>exact s
 | cons r t e=>exact .cons r e
theorem Vals.take:∀{a:List V} {us:List Value} (n:Nat),Vals a us->Vals (a.take n) (us.take n)
 | _,_,0,_=>.nil
 | _,_,_+1,.nil=>.nil
 | _,_,n+1,.cons r t=>.cons r (Vals.take n t)
theorem Vals.drop:∀{a:List V} {us:List Value} (n:Nat),Vals a us->Vals (a.drop n) (us.drop n)
 | _,_,0,r=>r
 | _,_,_+1,.nil=>.nil
 | _,_,n+1,.cons _ t=>Vals.drop n t
def tF:Option V->Option Value->Prop
 | some v,some u=>RelV v u
 | none,none=>True
 | _,_=>False
def KV{a:Type}:List (a×V)->List (a×Value)->Prop:=Paired λ(p:a×V)(q:a×Value)=>p.1=q.1/\RelV p.2 q.2
noncomputable def kV:Key->V
 | .inl i=>.int i
 | .inr x=>.str x
inductive HO where
 | lst (xs:List V)
 | tup (xs:List V)
 | dK (kvs:List (Key×V)) | dT (kvs:List (List Key×V))
 | set (S:Int->Bool) (n:Nat)
 | ins (C dx:Addr) (fs:List (Str×V))
 | own (x:Addr)
 | xd (fs:List (Str×V))
 | met (f x:Addr)
 | UO (lo hi:Int)
 | DY (o:Obj) (u:HO)
 | NG (ps:Array Value)
 | ext (φ:Heap->Prop)
 | Cg (φ:World->Heap->Prop)
abbrev Hp:=Addr->Option HO
noncomputable def upd(H:Hp)(a:Addr)(o:HO):Hp:=λb=>if b=a then some o else H b
def aO:upd H a o a=some o:=by unfold upd;rw[WC rfl]
def aC(h:b≠a):upd H a o b=H b:=by unfold upd;rw[WE h]
def Kl:upd (upd H a o) a u=upd H a u:=by
 funext b;unfold upd;split <;> rfl
def Se{H:Hp}{a b:Addr}{o u:HO}(h:H a=some o)(c:H b=some u)(d:o≠u):a≠b:=by
 intro e;subst e;rw[h] at c;exact d (Option.some.inj c)
def aR{H:Hp}{a b:Addr}{o:HO}(h:H a=some o)(c:H b=none):a≠b:=by
 intro e;subst e;rw[h] at c;cases c
def yt(h:Heap)(a:Addr)(b:Array Value):Prop:=∃o,h.get? a=some o/\o.cls=.type "tuple"/\(∃n,o.data=.seq b n)/\o.dict=none
def yt.tup(x:yt h a items):IsTup h a items:=let⟨o,e,c,d,_⟩:=x;⟨o,e,c,d⟩
def yt.new(h:Heap)(a:Array Value):yt (h.push {cls:=.type "tuple",data:=.seq a}) h.objs.size a:=⟨_,WK _ rfl,rfl,⟨_,rfl⟩,rfl⟩
section
variable (P:Program) (w:World)
def bY(H:Hp)(h:Heap)(a:Addr):HO->Prop
 | .lst d=>d.length<=sizeLine/\∃(c:List Value)(n:Nat),Vals d c/\h.get? a=some {cls:=.type "list",data:=.seq c.toArray n}
 | .tup d=>d.length<=sizeLine/\∃c:List Value,Vals d c/\yt h a c.toArray
 | .dK b=>b.length<=sizeLine/\(a==sysModules)=false/\∃l,KV b l/\h.DictOf (bu P w) a l
 | .dT b=>b.length<=sizeLine/\(a==sysModules)=false/\∃d:List (List Key×Addr×Value),
   Paired (λ(p:List Key×V)(q:List Key×Addr×Value)=>p.1=q.1/\H q.2.1=some (.tup (p.1.map kV))/\RelV p.2 q.2.2) b d/\
   ∃o m y,h.get? a=some o/\o.ExactDict/\o.data=.dict m y/\m.toList=d.map (entryOfKey (tupleKind (bu P w)))/\(d.map (·.1)).Nodup
 | .set S n=>h.SetOf (intKind P w) a S n
 | .ins C k fs=>H k=some (.own a)/\fs.length<=1000/\k≠a/\h.get? a=some (PySem.W.instObj C k)/\
   ∃g,h.Ns1 k g/\(∀f,tF (fs.lookup f) (g f))/\PySem.Within g (fs.map (·.1))
 | .own _=>∃o,h.get? a=some o
 | .xd fs=>∃g,h.Ns1 a g/\∀f,tF (fs.lookup f) (g f)
 | .UO lo s=>∃t u v,h.get? a=some {cls:=.type "range",data:=.fields #[.int lo t,.int s u,.int 1 v]}
 | .DY o u=>h.get? a=some o/\bY H h a u
 | .NG r=>h.get? a=some {cls:=.none,data:=.fields r}
 | .met f x=>h.get? a=some (PySem.W.methodObj (.ref f) (.ref x))
 | .ext e=>e h/\(∃o,h.get? a=some o)/\∀j i:Heap,e j->(∀o,j.get? a=some o->i.get? a=some o)->e i
 | .Cg e=>e w h/\(∃o,h.get? a=some o)/\∀j i:Heap,e w j->(∀o,j.get? a=some o->i.get? a=some o)->e w i
def hW(H:Hp)(h:Heap):Prop:=∀a o,H a=some o->bY P w H h a o
end
theorem bY.lt(x:bY P w H h a o):a < h.objs.size:=by
 cases o with
 | lst xs=>obtain⟨_,_,_,_,e⟩:=x;exact WH e
 | tup xs=>obtain⟨_,_,_,p⟩:=x;exact p.tup.lt
 | dK b=>obtain⟨_,_,_,_,o,_,_,e,_⟩:=x;exact WH e
 | dT b=>obtain⟨_,_,_,_,o,_,_,e,_⟩:=x;exact WH e
 | set S n=>obtain⟨o,_,_,_,e,_⟩:=x;exact WH e
 | ins C i fs=>obtain⟨_,_,_,e,_⟩:=x;exact WH e
 | own y=>obtain⟨_,e⟩:=x;exact WH e
 | xd fs=>obtain⟨_,⟨_,_,_,e,_⟩,_⟩:=x;exact WH e
 | UO lo g=>obtain⟨_,_,_,e⟩:=x;exact WH e
 | DY ob u=>obtain⟨e,_⟩:=x;exact WH e
 | NG d=>exact WH (show h.get? a=some _ from x)
 | met f y=>exact WH (show h.get? a=some _ from x)
 | ext c=>obtain⟨_,⟨_,e⟩,_⟩:=x;exact WH e
 | Cg c=>obtain⟨_,⟨_,e⟩,_⟩:=x;exact WH e
def Paired.Pf{g e:Type}{F G:g->e->Prop}{d:List g}{c:List e}(a:Paired F d c)(f:∀a b,F a b->G a b):Paired G d c:=by
 induction a with
 | nil=>exact .nil
 | cons r t h=>exact .cons (f _ _ r) h
def Paired.imp'(f:∀a b,F a b->G a b)(r:Paired F d c):Paired G d c:=Paired.Pf r f
def bY.wD(x:bY P w H h a o)(k:∀b u,(b=a\/H b=some (.own a))->h.get? b=some u->E.get? b=some u)
  (M:∀b,H b=some (.own a)->G b=some (.own a)) (ht:∀b l,H b=some (.tup l)->G b=some (.tup l)):bY P w G E a o:=by
 induction o with
 | lst l=>obtain⟨z,j,n,r,e⟩:=x;exact⟨z,j,n,r,k _ _ (.inl rfl) e⟩
 | tup l=>obtain⟨z,j,r,ob,e,c⟩:=x;exact⟨z,j,r,ob,k _ _ (.inl rfl) e,c⟩
 | dK A=>obtain⟨z,y,J,r,ob,g,i,e,c⟩:=x;exact⟨z,y,J,r,ob,g,i,k _ _ (.inl rfl) e,c⟩
 | dT A=>
  obtain⟨z,y,l,r,ob,g,i,e,c⟩:=x;exact⟨z,y,l,Paired.Pf r λp q z=>⟨z.1,ht _ _ z.2.1,z.2.2⟩,ob,g,i,k _ _ (.inl rfl) e,c⟩
 | set S n=>obtain⟨ob,g,i,t,e,c⟩:=x;exact⟨ob,g,i,t,k _ _ (.inl rfl) e,c⟩
 | ins C Q fs=>
  obtain⟨d,z,ne,e,s,⟨m,g,i,N,c⟩,r⟩:=x;exact⟨M _ d,z,ne,k _ _ (.inl rfl) e,s,⟨m,g,i,k _ _ (.inr d) N,c⟩,r⟩
 | own y=>obtain⟨ob,e⟩:=x;exact⟨ob,k _ _ (.inl rfl) e⟩
 | xd fs=>obtain⟨s,⟨m,g,i,e,c⟩,r⟩:=x;exact⟨s,⟨m,g,i,k _ _ (.inl rfl) e,c⟩,r⟩
 | UO lo O=>obtain⟨t,u,v,e⟩:=x;exact⟨t,u,v,k _ _ (.inl rfl) e⟩
 | DY ob u L=>obtain⟨e,q⟩:=x;exact⟨k _ _ (.inl rfl) e,L q⟩
 | NG F=>
  have e:h.get? a=some {cls:=.none,data:=.fields F}:=x;show E.get? a=some {cls:=.none,data:=.fields F};exact k a _ (.inl rfl) e
 | met f y=>
  have e:h.get? a=some (PySem.W.methodObj (.ref f) (.ref y)):=x;show E.get? a=some (PySem.W.methodObj (.ref f) (.ref y));exact k a _ (.inl rfl) e
 | ext I=>obtain⟨p,⟨o,e⟩,st⟩:=x;exact⟨st _ _ p λo q=>k _ _ (.inl rfl) q,⟨o,k _ _ (.inl rfl) e⟩,st⟩
 | Cg I=>obtain⟨p,⟨o,e⟩,st⟩:=x;exact⟨st _ _ p λo q=>k _ _ (.inl rfl) q,⟨o,k _ _ (.inl rfl) e⟩,st⟩
theorem hW.lt(x:hW P w H h)(e:H a=some o):a < h.objs.size:=(x a o e).lt
def hW.fresh(x:hW P w H h)(e:h.objs.size<=a):H a=none:=by
 cases q:H a with
 | none=>rfl
 | some u=>exact absurd (WM (x.lt q) e) (YE _)
def hW.kept(x:hW P w H h)(k:∀b u,h.get? b=some u->h'.get? b=some u):hW P w H h':=λa o e=>
 (x a o e).wD (λb u _ q=>k b u q) (λ_ q=>q) λ_ _ q=>q
def hW.laid(x:hW P w H h)(k:∀b u,h.get? b=some u->h'.get? b=some u)(hp:h.objs.size<=a)(new:bY P w (upd H a o) h' a o):hW P w (upd H a o) h':=λb u e=>by
 have hn:=x.fresh hp
 by_cases d:b=a
 ·subst d;rw[aO] at e;cases e;exact new
 ·rw[aC d] at e;exact(x b u e).wD (λc v _ q=>k c v q) (λc q=>by rw[aC (aR q hn)];exact q) λc f q=>by rw[aC (aR q hn)];exact q
def Rd(H:Hp)(a:Addr)(u:HO):Prop:=H a=some u\/∃o,H a=some (.DY o u)
def Rd.ok(r:Rd H a u)(x:hW P w H h):bY P w H h a u:=by
 rcases r with r |⟨o,r⟩
 ·exact x a u r
 ·obtain⟨_,q⟩:=x a _ r;exact q
def TL:Option HO->Prop
 | some (.lst _)=>True
 | some (.dK _)=>True
 | some (.dT _)=>True
 | some (.set _ _)=>True
 | some (.ins _ _ _)=>True
 | some (.ext _)=>True
 | some (.Cg _)=>True
 | _=>False
def hW.write(ok:hW P w H h)(i:TL (H x))(s:e=x\/H e=some (.own x))(k:∀b u,b≠e->h.get? b=some u->n.get? b=some u)(m:∃u,n.get? e=some u)
  (new:bY P w (upd H x p) n x p):hW P w (upd H x p) n:=λb u q=>by
 have d:∀c y,H c=some (.own y)->c≠x:=λc y r z=>by subst z;rw[r] at i;exact i
 have f:∀c g,H c=some (.tup g)->c≠x:=λc g r z=>by subst z;rw[r] at i;exact i
 by_cases l:b=x
 ·subst l;rw[aO] at q;cases q;exact new
 ·rw[aC l] at q
  by_cases a:b=e
  ·have o:H b=some (.own x):=by
    rcases s with z | z
    ·exact absurd (a.trans z) l
    ·rw[a];exact z
   rw[q] at o;cases o;obtain⟨v,t⟩:=m;exact⟨v,by rw[a];exact t⟩
  ·refine(ok b u q).wD (λc v j r=>k c v ?_ r) (λc r=>by rw[aC (d c b r)];exact r) λc g r=>by rw[aC (f c g r)];exact r
   rcases j with rfl | j
   ·exact a
   ·rintro rfl;rcases s with z | z
    ·exact d c b j z
    ·rw[j] at z;cases z;exact l rfl
structure Un(fs ex:List Addr)(H H':Hp)(h h':Heap):Prop where
 keep:∀b o,h.get? b=some o->H b=none->b∉fs->b∉ex->h'.get? b=some o
 slot:∀b o,h.get? b=some o->H b=none->b∈fs->b∉ex->∃sl,h'.get? b=some {o with slots:=sl}
 free:∀b o,h.get? b=some o->H b=none->b∉ex->H' b=none
 there:∀b o,h.get? b=some o->b∉ex->∃o',h'.get? b=some o'
 qS:∀b xs,H b=some (.tup xs)->H' b=some (.tup xs)
 uz:∀b o u,H b=some (.DY o u)->H' b=some (.DY o u)
 wz:∀b ps,H b=some (.NG ps)->∃more,H' b=some (.NG (ps++more))
def Un.any(u:Un fs ex H H1 h e)(q:h.get? b=some ob)(n:H b=none)(a:b∉ex):∃d,e.get? b=some {ob with slots:=d}:=by
 by_cases c:b∈fs
 ·exact u.slot b ob q n c a
 ·exact⟨ob.slots,u.keep b ob q n c a⟩
def Un.kept(k:∀b u,h.get? b=some u->h'.get? b=some u):Un fs ex H H h h':=
 ⟨λb ob q _ _ _=>k b ob q,λb ob q _ _ _=>⟨ob.slots,k b ob q⟩,λ_ _ _ n _=>n,λb ob q _=>⟨ob,k b ob q⟩,λ_ _ q=>q,λ_ _ _ q=>q,λ_ a q=>⟨#[],by rw[q];simp⟩⟩
def Un.refl:Un fs ex H H h h:=Un.kept λ_ _ q=>q
def Un.laid(k:∀b u,h.get? b=some u->h'.get? b=some u)(hp:h.objs.size<=a)(hn:H a=none):Un fs ex H (upd H a o) h h' where
 keep:=λb u q _ _ _=>k b u q
 slot:=λb u q _ _ _=>⟨u.slots,k b u q⟩
 free:=λb u q n _=>by rw[aC (WZ (WM (WH q) hp))];exact n
 there:=λb u q _=>⟨u,k b u q⟩
 qS:=λb c q=>by rw[aC (aR q hn)];exact q
 uz:=λb u c q=>by rw[aC (aR q hn)];exact q
 wz:=λb d q=>⟨#[],by rw[aC (aR q hn),q];simp⟩
def Un.write(c:TL (H x))(l:e=x\/H e=some (.own x))(k:∀b u,b≠e->h.get? b=some u->i.get? b=some u)(d:∃u,i.get? e=some u):Un fs ex H (upd H x o) h i:=by
 have f:∀b,H b=none->b≠x:=λb n z=>by subst z;rw[n] at c;exact c
 have g:∀b,H b=none->b≠e:=λb n z=>by
  subst z;rcases l with r | r
  ·exact f b n r
  ·rw[n] at r;cases r
 have hm:∀b u,H b=some u->¬TL (some u)->b≠x:=λb u q nm z=>by subst z;rw[q] at c;exact nm c
 refine⟨λb u q n _ _=>k b u (g b n) q,λb u q n _ _=>⟨u.slots,k b u (g b n) q⟩,λb u q n _=>by rw[aC (f b n)];exact n,λb u q _=>?_,
  λb j q=>by rw[aC (hm b _ q λz=>z)];exact q,λb u j q=>by rw[aC (hm b _ q λz=>z)];exact q,λb m q=>⟨#[],by rw[aC (hm b _ q λz=>z),q];simp⟩⟩
 by_cases a:b=e
 ·subst a;exact d
 ·exact⟨u,k b u a q⟩
noncomputable def TX(h:Heap)(H:Hp):List Addr:=(List.range h.objs.size).filter λa=>(H a).isSome
def xP(h:Heap)(H:Hp):Heap:=PySem.W.hideAll h (TX h H)
def FG(h:Heap)(H:Hp):(xP h H).objs.size=h.objs.size:=PySem.W.hideAll_size _ _
def IK(e:h.get? b=some o)(n:H b=none):(xP h H).get? b=some o:=
 PySem.W.hideAll_get _ e λhm=>by
  have q:(H b).isSome=true:=(List.mem_filter.mp hm).2;rw[n] at q;simp at q
def Lv(e:(xP h H).get? b=some o):h.get? b=some o/\H b=none:=by
 have a:h.get? b=some o:=PySem.W.of_hideAll (TX h H) e;refine⟨a,?_⟩;cases q:H b with
 | none=>rfl
 | some x=>
  have hm:b∈TX h H:=List.mem_filter.mpr ⟨Xx.mpr (WH a),by simp[q]⟩;have z:(xP h H).get? b=none:=PySem.W.hideAll_none (TX h H) hm;rw[z] at e;cases e
structure Mod(K:FR)(mg:Str->Option Value)(base:Heap):Prop where
 T8:K.In base
 glob:base.Ns mainGlobals mg
 blt:∃mb,base.Ns builtinsNs mb/\∀x:Str,x≠"__name__"->mb x=bootBuiltins x
 nolimit:base.NoLimit
structure Cx where
 prog:Program
 w:World
 K:FR
 mg:Str->Option Value
 base:Heap
 A:Around
 N:List Str
 s₀:Shared
 H₀:Hp
 env:Env
 outer:List Env
 stack:List Env
 ex:List Addr
 fn:Str->Bool
 calm:Bool
 pn:List (Addr×Obj)
 xe:Value->Shared->Prop
noncomputable def Gg(l:List Env):List Addr:=l.filterMap (·.frame)
abbrev Cx.fs(X:Cx):List Addr:=Gg X.outer
def QT(a:Scope)(x:Str):Prop:=a.names.lookup x=some .local\/a.names.lookup x=some .cell\/a.names.lookup x=some .free
def Loc(a:Scope)(x:Str):Prop:=a.names.lookup x=some .local\/a.names.lookup x=some .cell
def Look(env:Env)(h:Heap)(m:Str->Option Value)(x:Str)(u:Value):Prop:=
 (env.kindOf x=some .local/\m x=some u)\/((env.kindOf x=some .cell\/env.kindOf x=some .free)/\∃c,env.cells.lookup x=some c/\h.IsCell c (some u))
structure Cx.Ok(X:Cx):Prop where
 mod:Mod X.K X.mg X.base
 kind:X.env.scope.kind=.function
 glob:X.env.globals=mainGlobals
 blt:X.env.builtins=builtinsNs
 above:X.s₀.heap.objs.size<=X.env.locals
 inj:∀x y c,X.env.cells.lookup x=some c->X.env.cells.lookup y=some c->x=y
 has:∀x,(X.env.kindOf x=some .cell\/X.env.kindOf x=some .free)->∃c,X.env.cells.lookup x=some c
 SN:∀x c,X.fn x=true->X.env.cells.lookup x=some c->X.s₀.heap.objs.size<=c
 hd:X.calm=true->X.A.handled=none
 frames:X.A.frames=some X.stack
 TY:X.stack=X.outer\/(X.stack=X.env::X.outer/\X.env.frame=some X.env.locals)
 VQ:∀b∈X.ex,b≠X.env.locals/\∀x c,X.env.cells.lookup x=some c->c≠b
 bs:∀b o,X.base.get? b=some o->X.s₀.heap.get? b=some o/\X.H₀ b=none
 Nh:X.base.objs.size<=X.s₀.heap.objs.size
 Iy:∀b o,X.base.get? b=some o->b∉X.ex
 L7:∀b∈X.ex,b∉X.fs
 sI:X.s₀.heap.FunFrames X.base X.outer
 QP:∀b∈X.fs,X.H₀ b=none
structure Inv(X:Cx)(pins:List (Addr×Obj))(σ:List (Option V))(H:Hp)(s:Shared):Prop where
 ok:X.Ok
 os:s.os=X.s₀.os
 bare:AllBare s.gens
 base:Un X.fs X.ex X.H₀ H X.s₀.heap s.heap
 loc:∃m,s.heap.Ns X.env.locals m/\∀(i:Nat)(x:Str)(v:V),X.N[i]?=some x->σ[i]?=some (some v)->QT X.env.scope x->∃u,RelV v u/\Look X.env s.heap m x u
 cell:∀x c,X.env.cells.lookup x=some c->∃v,s.heap.IsCell c v
 free:H X.env.locals=none
 jy:∀x c,X.env.cells.lookup x=some c->H c=none
 pin:∀p∈X.pn++pins,s.heap.get? p.1=some p.2/\H p.1=none/\p.1≠X.env.locals/\p.1∉X.fs/\∀v,p.2.data≠.cell v
 a8:hW X.prog X.w H s.heap
 len:σ.length=X.N.length
section
variable {X:Cx} {pins:List (Addr×Obj)} {σ:List (Option V)} {H H':Hp} {s:Shared} {h':Heap}
def Cx.Ok.Vc(ok:X.Ok)(e:X.base.get? b=some o):b∉X.fs:=λa=>by
 have:=(ok.sI.mem a).1;rw[e] at this;cases this
theorem Inv.bs(I:Inv X pins σ H s):∀b o,X.base.get? b=some o->s.heap.get? b=some o/\H b=none:=λb o e=>
 ⟨I.base.keep b o (I.ok.bs b o e).1 (I.ok.bs b o e).2 (I.ok.Vc e) (I.ok.Iy b o e),I.base.free b o (I.ok.bs b o e).1 (I.ok.bs b o e).2 (I.ok.Iy b o e)⟩
def Inv.bk(I:Inv X pins σ H s):∀b o,X.base.get? b=some o->s.heap.get? b=some o:=λb o e=>(I.bs b o e).1
theorem Inv.mod(I:Inv X pins σ H s):Mod X.K X.mg X.base:=I.ok.mod
def Inv.vJ(I:Inv X pins σ H s):X.K.In s.heap:=I.ok.mod.T8.keeps I.bk
theorem Inv.lt(I:Inv X pins σ H s):X.env.locals < s.heap.objs.size:=let⟨_,hn,_⟩:=I.loc;hn.lt
def Inv.sz(I:Inv X pins σ H s):X.s₀.heap.objs.size<=s.heap.objs.size:=WL I.ok.above (XQ I.lt)
def Inv.Vb(I:Inv X pins σ H s)(h:s.heap.objs.size<=a):a∉X.fs:=λc=>by
 obtain⟨_,o,b,_⟩:=I.ok.sI.mem c;exact absurd (WM (WH b) (WL I.sz h)) (YE _)
def Inv.P6(I:Inv X pins σ H s):∀x c,X.env.cells.lookup x=some c->c≠X.env.locals:=λx c e z=>by
 obtain⟨v,o,d,hd⟩:=I.cell x c e;obtain⟨m,⟨f,g,h,a,b,_⟩,_⟩:=I.loc;rw[z,a] at d;cases d;rw[b] at hd;cases hd
theorem Inv.sI(I:Inv X pins σ H s):s.heap.FunFrames X.base X.outer:=by
 have all:∀(l:List Env),(∀b∈Gg l,b∈X.fs)->X.s₀.heap.FunFrames X.base l->s.heap.FunFrames X.base l:=by
  intro l
  induction l with
  | nil=>intro _ _;trivial
  | cons env r g=>
   intro f hl;obtain⟨i,⟨L,o,a,hn,h,hd⟩,hr⟩:=hl;have d:L∈X.fs:=f L (by unfold Gg;rw[X8,a];exact Wy);obtain⟨j,e⟩:=I.base.slot L o h (I.ok.QP L d) d λz=>I.ok.L7 L z d;exact⟨i,⟨L,_,a,hn,e,hd⟩,g (λb c=>f b (by unfold Gg;rw[X8,a];exact Wz _ c)) hr⟩
 exact all X.outer (λ_ c=>c) I.ok.sI
theorem Inv.stack(I:Inv X pins σ H s):s.heap.FunFrames X.base X.stack:=by
 rcases I.ok.TY with e |⟨e,a⟩
 ·rw[e];exact I.sI
 ·rw[e];obtain⟨m,hn,_⟩:=I.loc;refine .cons (by rw[I.ok.kind];decide) a hn ?_ I.sI;exact Heap.get?_none_of_le (WL I.ok.Nh I.ok.above)
def Inv.nY(I:Inv X pins σ H s):∀b∈Gg X.stack,b∈X.env.locals::X.fs:=λb a=>by
 rcases I.ok.TY with e |⟨e,c⟩
 ·rw[e] at a;exact Wz _ a
 ·rw[e] at a;unfold Gg at a;rw[X8,c] at a;exact a
def Inv.CZ(I:Inv X pins σ H s):∀b∈Gg X.stack,H b=none:=λb a=>by
 rcases WI.mp (I.nY b a) with e | a
 ·rw[e];exact I.free
 ·obtain⟨_,o,c,_⟩:=I.ok.sI.mem a;exact I.base.free b o c (I.ok.QP b a) λz=>I.ok.L7 b z a
def Inv.step{g':Array GenState}{P:Nat}{d':Drawn}{ch:List Addr}(I:Inv X pins σ H s)
  (g:∀b∈ch,(b∈X.ex\/X.s₀.heap.objs.size<=b)/\b≠X.env.locals/\(∀x c,X.env.cells.lookup x=some c->c≠b)/\∀p∈X.pn++pins,p.1≠b)
  (keep:∀b o,b≠X.env.locals->b∉X.fs->b∉ch->s.heap.get? b=some o->H b=none->h'.get? b=some o)
  (slot:∀b o,b≠X.env.locals->b∈X.fs->b∉ch->s.heap.get? b=some o->H b=none->∃M,h'.get? b=some {o with slots:=M}) (free:∀b o,b∉ch->s.heap.get? b=some o->H b=none->H' b=none)
  (there:∀b o,b∉ch->s.heap.get? b=some o->∃E,h'.get? b=some E)
  (qS:∀b y,H b=some (.tup y)->H' b=some (.tup y)) (uz:∀b o u,H b=some (.DY o u)->H' b=some (.DY o u)) (wz:∀b J,H b=some (.NG J)->∃more,H' b=some (.NG (J++more)))
  (ns:∀m,s.heap.Ns X.env.locals m->h'.Ns X.env.locals m) (a8:hW X.prog X.w H' h') (S:AllBare g'):
  Inv X pins σ H' {s with heap:=h',gens:=g',drawn:=d',toks:=P}:=by
 have F:∀b o,X.s₀.heap.get? b=some o->b≠X.env.locals:=λb o e=>WZ (WM (WH e) I.ok.above);have j:∀b o,X.s₀.heap.get? b=some o->b∉X.ex->b∉ch:=λb o e a A=>by
  rcases(g b A).1 with z | z
  ·exact a z
  ·exact absurd (WM (WH e) z) (YE _)
 have h:∀x c,X.env.cells.lookup x=some c->∀v,s.heap.IsCell c v->h'.IsCell c v:=λx c e v u9=>by
  obtain⟨o,C,hd⟩:=u9;have f:c∉ch:=λz=>(g c z).2.2.1 x c e rfl
  by_cases O:c∈X.fs
  ·obtain⟨M,q⟩:=slot c o (I.P6 x c e) O f C (I.jy x c e);exact⟨_,q,hd⟩
  ·exact⟨o,keep c o (I.P6 x c e) O f C (I.jy x c e),hd⟩
 refine⟨I.ok,I.os,S,⟨λb o e n A a=>?_,λb o e n A a=>?_,λb o e n a=>?_,λb o e a=>?_,λb y e=>qS b y (I.base.qS b y e),λb o y e=>uz b o y (I.base.uz b o y e),λb J e=>?_⟩,?_,λx c e=>?_,?_,λx c e=>?_,λp hp=>?_,a8,I.len⟩
 ·exact keep b o (F b o e) A (j b o e a) (I.base.keep b o e n A a) (I.base.free b o e n a)
 ·obtain⟨M,t⟩:=I.base.slot b o e n A a;obtain⟨L,G⟩:=slot b _ (F b o e) A (j b o e a) t (I.base.free b o e n a);exact⟨L,G⟩
 ·obtain⟨E,t⟩:=I.base.there b o e a;exact free b E (j b o e a) t (I.base.free b o e n a)
 ·obtain⟨E,t⟩:=I.base.there b o e a;exact there b E (j b o e a) t
 ·obtain⟨R,t⟩:=I.base.wz b J e;obtain⟨Q,G⟩:=wz b _ t;exact⟨R++Q,by rw[G,Array.append_assoc]⟩
 ·obtain⟨m,hn,hl⟩:=I.loc;refine⟨m,ns m hn,λi x v t G T=>?_⟩;obtain⟨u,r,l⟩:=hl i x v t G T;refine⟨u,r,?_⟩;rcases l with l |⟨k,c,e,z⟩
  ·exact .inl l
  ·exact .inr ⟨k,c,e,h x c e _ z⟩
 ·obtain⟨v,z⟩:=I.cell x c e;exact⟨v,h x c e v z⟩
 ·obtain⟨m,⟨o,_,_,C,_⟩,_⟩:=I.loc;exact free _ o (λz=>(g _ z).2.1 rfl) C I.free
 ·obtain⟨v,o,C,hd⟩:=I.cell x c e;exact free c o (λz=>(g c z).2.2.1 x c e rfl) C (I.jy x c e)
 ·obtain⟨e,n,ne,N,d⟩:=I.pin p hp;have f:p.1∉ch:=λz=>(g p.1 z).2.2.2 p hp rfl;exact⟨keep p.1 p.2 ne N f e n,free p.1 p.2 f e n,ne,N,d⟩
def Inv.un{t':Nat}(I:Inv X pins σ H s)(u:Un X.fs [] H H' s.heap h')(a8:hW X.prog X.w H' h'):Inv X pins σ H' {s with heap:=h',toks:=t'}:=by
 obtain⟨m,⟨o,p,q,g,r⟩,_⟩:=id I.loc;obtain⟨j,i⟩:=u.any g I.free (by simp);exact I.step (g':=s.gens) (d':=s.drawn) (ch:=[]) (λ_ z=>nomatch z) (λb o _ c _ e n=>u.keep b o e n c (by simp)) (λb o _ c _ e n=>u.slot b o e n c (by simp)) (λb o _ e n=>u.free b o e n (by simp)) (λb o _ e=>u.there b o e (by simp)) u.qS u.uz u.wz (λl hm=>by
  obtain⟨k,d,f,a,h⟩:=hm;rw[g] at a;cases a;exact⟨_,d,f,i,h⟩) a8 I.bare
def Inv.call{g':Array GenState}{t':Nat}{d':Drawn}{ch:List Addr}(I:Inv X pins σ H s)(u:Un (Gg X.stack) ch H H' s.heap h')(a8:hW X.prog X.w H' h')(l:AllBare g')
  (f:∀b∈ch,(b∈X.ex\/X.s₀.heap.objs.size<=b)/\b≠X.env.locals/\(∀x c,X.env.cells.lookup x=some c->c≠b)/\∀p∈X.pn++pins,p.1≠b):
  Inv X pins σ H' {s with heap:=h',gens:=g',drawn:=d',toks:=t'}:=by
 obtain⟨m,⟨o,A,C,j,r⟩,_⟩:=id I.loc;obtain⟨t,g⟩:=u.any j I.free λz=>(f _ z).2.1 rfl;exact I.step (ch:=ch) f (λb o g q a e n=>u.keep b o e n (λz=>(WI.mp (I.nY b z)).elim g q) a) (λb o _ _ a e n=>u.any e n a) (λb o a e n=>u.free b o e n a) (λb o a e=>u.there b o e a) u.qS u.uz u.wz (λy hm=>by
  obtain⟨v,h,i,d,k⟩:=hm;rw[j] at d;cases d;exact⟨_,h,i,g,k⟩) a8 l
def Inv.turned{t':Nat}{it:Addr}(I:Inv X pins σ H s)(k:∀b o,b≠it->s.heap.get? b=some o->h'.get? b=some o)(hn:H it=none)(f:it≠X.env.locals)
  (l:it∈X.ex\/X.s₀.heap.objs.size<=it) (j:∀x c,X.env.cells.lookup x=some c->c≠it) (i:∀p∈X.pn++pins,p.1≠it):Inv X pins σ H {s with heap:=h',toks:=t'}:=by
 have d:∀b u,H b=some u->b≠it:=λb u e z=>by rw[z,hn] at e;cases e
 refine I.step (g':=s.gens) (d':=s.drawn) (ch:=[it]) (λb h=>?_) (λb o _ _ a e _=>k b o (λz=>a (by simp[z])) e) (λb o _ _ a e _=>⟨o.slots,k b o (λz=>a (by simp[z])) e⟩) (λ_ _ _ _ n=>n)
  (λb o a e=>⟨o,k b o (λz=>a (by simp[z])) e⟩) (λ_ _ e=>e) (λ_ _ _ e=>e) (λb y e=>⟨#[],by rw[e];simp⟩) (λm hm=>?_) (λb u e=>?_) I.bare
 ·have e:b=it:=by simpa using h
  subst e;exact⟨l,f,j,i⟩
 ·obtain⟨o,t,w,g,r⟩:=hm;exact⟨o,t,w,k _ o (XJ f) g,r⟩
 ·refine(I.a8 b u e).wD (λc v a q=>k c v ?_ q) (λ_ q=>q) λ_ _ q=>q;rcases a with z | z
  ·rw[z];exact d b u e
  ·exact d c _ z
def Inv.tok(I:Inv X pins σ H s)(t:Nat):Inv X pins σ H {s with toks:=t}:=I.un (h':=s.heap) (t':=t) Un.refl I.a8
theorem Inv.kept(I:Inv X pins σ H s)(k:∀b u,s.heap.get? b=some u->h'.get? b=some u):Inv X pins σ H {s with heap:=h',toks:=t'}:=I.un (Un.kept k) (I.a8.kept k)
theorem Inv.laid(I:Inv X pins σ H s)(k:∀b u,s.heap.get? b=some u->h'.get? b=some u)(hp:s.heap.objs.size<=a)(new:bY X.prog X.w (upd H a o) h' a o):
  Inv X pins σ (upd H a o) {s with heap:=h',toks:=t'}:=I.un (Un.laid k hp (I.a8.fresh hp)) (I.a8.laid k hp new)
theorem Inv.write(I:Inv X pins σ H s)(c:TL (H x))(d:e=x\/H e=some (.own x))(k:∀b u,b≠e->s.heap.get? b=some u->h'.get? b=some u)(a:∃u,h'.get? e=some u)(new:bY X.prog X.w (upd H x o) h' x o):Inv X pins σ (upd H x o) {s with heap:=h',toks:=f}:=I.un (Un.write c d k a) (I.a8.write c d k a new)
def Inv.DA(I:Inv X pins σ H s)(h:∀p∈a,s.heap.get? p.1=some p.2/\H p.1=none/\p.1≠X.env.locals/\p.1∉X.fs/\∀v,p.2.data≠.cell v):Inv X a σ H s:=
 ⟨I.ok,I.os,I.bare,I.base,I.loc,I.cell,I.free,I.jy,λp hp=>(Xi.mp hp).elim (λz=>I.pin p (Aad _ z)) (h p),I.a8,I.len⟩
def zJ{N:List Str}(c:N.Nodup){i j:Nat}{x:Str}(a:N[i]?=some x)(b:N[j]?=some x):i=j:=by
 obtain⟨g,e⟩:=Ww.mp a;obtain⟨f,d⟩:=Ww.mp b;exact(List.getElem_inj c).mp (e.trans d.symm)
def uN{M:Model}{A:Around}{E:Value->Shared->Prop}{i:Nat}{x:Str}{v:V}{u:Value}{Q:Unit->Shared->Prop}(I:Inv X pins σ H s)(hN:X.N.Nodup)(T:X.N[i]?=some x)(C:Loc X.env.scope x)(r:RelV v u)
  (h:∀s',Inv X pins (σ.set i (some v)) H s'->(∃a,Heap.SameBut a s.heap s'.heap/\(a=X.env.locals\/X.env.cells.lookup x=some a))->Q () s') (hf:X.fn x=true\/X.env.scope.names.lookup x=some .local:=by first | exact .inl rfl | exact .inr rfl | assumption):wpAny M A (storeName X.env x u) Q E s:=by
 obtain⟨m,hn,hl⟩:=id I.loc;have U:(X.env.scope.kind==.class||(X.env.scope.kind==.module&&X.env.locals !=X.env.globals))=false:=by rw[I.ok.kind];rfl
 have L:i < σ.length:=by rw[I.len];exact(Ww.mp T).1
 have P6:=I.P6;have g:∀{a:Addr} {h':Heap},(∃o,s.heap.get? a=some o/\H a=none)->Heap.SameBut a s.heap h'->hW X.prog X.w H h':=λ{a h'} ha f b ob e=>by
  obtain⟨_,_,F⟩:=ha;refine(I.a8 b ob e).wD (λc w' t q=>(f.2 c ?_).trans q) (λ_ q=>q) λ_ _ q=>q;rintro rfl;rcases t with rfl | t
  ·rw[F] at e;cases e
  ·rw[F] at t;cases t
 rcases C with J | J
 ·refine wpAny_storeName_local J hn (λh' hn' f=>?_) U;obtain⟨oL,_,_,hoL,_⟩:=id hn;refine h _ ⟨I.ok,I.os,I.bare,⟨λb o e n P C=>?_,λb o e n P C=>?_,I.base.free,λb o e C=>?_,I.base.qS,I.base.uz,I.base.wz⟩,⟨_,hn',λj y v' l G e3=>?_⟩,λy c e=>?_,I.free,I.jy,λp hp=>?_,g ⟨oL,hoL,I.free⟩ f,by simpa using I.len⟩ ⟨_,f,.inl rfl⟩
  ·exact(f.2 b (WZ (WM (WH e) I.ok.above))).trans (I.base.keep b o e n P C)
  ·obtain⟨sl,l⟩:=I.base.slot b o e n P C;exact⟨sl,(f.2 b (WZ (WM (WH e) I.ok.above))).trans l⟩
  ·obtain⟨o',l⟩:=I.base.there b o e C;exact⟨o',(f.2 b (WZ (WM (WH e) I.ok.above))).trans l⟩
  ·by_cases hj:j=i
   ·subst hj;rw[T] at l;cases l;rw[XH L] at G;cases G;exact⟨u,r,.inl ⟨J,by simp⟩⟩
   ·rw[Xy (XJ hj)] at G;obtain⟨u',r',q⟩:=hl j y v' l G e3;refine⟨u',r',?_⟩;rcases q with⟨k,e⟩ |⟨k,c,e,z⟩
    ·refine .inl ⟨k,?_⟩;have:y≠x:=λe=>hj (zJ hN l (e ▸ T));simp[this,e]
    ·exact .inr ⟨k,c,e,z.sameBut f (P6 y c e)⟩
  ·obtain⟨w',z⟩:=I.cell y c e;exact⟨w',z.sameBut f (P6 y c e)⟩
  ·obtain⟨e,n,ne,nf,d⟩:=I.pin p hp;exact⟨(f.2 p.1 ne).trans e,n,ne,nf,d⟩
 ·have O:X.fn x=true:=by
   rcases hf with z | z
   ·exact z
   ·rw[z] at J;cases J
  obtain⟨c,t⟩:=I.ok.has x (.inl J);obtain⟨w',z⟩:=I.cell x c t;refine wpAny_storeName_cell I.ok.kind J t z (λh' Z f=>?_);obtain⟨oc,S,R⟩:=id z;refine h {s with heap:=h'} ⟨I.ok,I.os,I.bare,⟨λb o e n P C=>?_,λb o e n P C=>?_,I.base.free,λb o e C=>?_,I.base.qS,I.base.uz,I.base.wz⟩,⟨m,hn.sameBut f (XJ (P6 x c t)),λj y v' l G e3=>?_⟩,λy c' e=>?_,I.free,I.jy,λp hp=>?_,g ⟨oc,S,I.jy x c t⟩ f,by simpa using I.len⟩ ⟨c,f,.inr t⟩
  ·exact(f.2 b (WZ (WM (WH e) (I.ok.SN x c O t)))).trans (I.base.keep b o e n P C)
  ·obtain⟨sl,l⟩:=I.base.slot b o e n P C;exact⟨sl,(f.2 b (WZ (WM (WH e) (I.ok.SN x c O t)))).trans l⟩
  ·obtain⟨o',l⟩:=I.base.there b o e C;exact⟨o',(f.2 b (WZ (WM (WH e) (I.ok.SN x c O t)))).trans l⟩
  ·by_cases hj:j=i
   ·subst hj;rw[T] at l;cases l;rw[XH L] at G;cases G;exact⟨u,r,.inr ⟨.inl J,c,t,Z⟩⟩
   ·rw[Xy (XJ hj)] at G;obtain⟨u',r',q⟩:=hl j y v' l G e3;refine⟨u',r',?_⟩;rcases q with q |⟨k,c',e,z'⟩
    ·exact .inl q
    ·refine .inr ⟨k,c',e,z'.sameBut f ?_⟩;rintro rfl;exact hj (zJ hN l (I.ok.inj _ _ _ e t ▸ T))
  ·by_cases Y:c'=c
   ·subst Y;exact⟨_,Z⟩
   ·obtain⟨w2,z2⟩:=I.cell y c' e;exact⟨w2,z2.sameBut f Y⟩
  ·obtain⟨e,n,ne,nf,d⟩:=I.pin p hp;refine⟨(f.2 p.1 ?_).trans e,n,ne,nf,d⟩;intro q;rw[q,S] at e;have q':oc=p.2:=Option.some.inj e;exact d w' (by rw[<-q'];exact R)
def i5(I:Inv X pins σ H s)(e:X.N.Nodup)(c:X.N[i]?=some x)(b:Loc X.env.scope x)(r:RelV v u)(h:∀a,Inv X pins (σ.set i (some v)) H a->Q () a)(d:X.fn x=true\/X.env.scope.names.lookup x=some .local:=by first | exact .inl rfl | exact .inr rfl | assumption):wpAny M A (storeName X.env x u) Q E s:=
 uN I e c b r (λa f _=>h a f) d
def Inv.call'(I:Inv X pins σ H s)(f:s'.os=s.os)(u:Un (Gg X.stack) ch H H' s.heap s'.heap)(a8:hW X.prog X.w H' s'.heap)(g:AllBare s'.gens)(a:∀b∈ch,(b∈X.ex\/X.s₀.heap.objs.size<=b)/\b≠X.env.locals/\(∀x c,X.env.cells.lookup x=some c->c≠b)/\∀p∈X.pn++pins,p.1≠b):Inv X pins σ H' s':=by
 obtain⟨h',g',d',t',d⟩:=s';have e:d=s.os:=f;subst e;exact I.call (g':=g') (t':=t') (d':=d') u a8 g a
end
abbrev XK:=Value->Option Addr->Hp->Prop
abbrev St:=List (Option V)
abbrev VK:=V->Hp->Prop
abbrev TE:=St->Hp->VK->Prop
abbrev TT:=St->Hp->(Bool->Hp->Prop)->Prop
abbrev TA:=St->Hp->(List V->Hp->Prop)->Prop
structure Ends where
 nx:St->Hp->Prop
 rt:VK
 bk:St->Hp->Prop:=λ_ _=>False
 ct:St->Hp->Prop:=λ_ _=>False
abbrev TS:=Ends->St->Hp->Prop
inductive V2(X:Cx)(pins:List (Addr×Obj))(σ:St)(Q:VK)(u:Value)(s':Shared):Prop where
 | mk (v H'):Inv X pins σ H' s'->RelV v u->Q v H'->V2 X pins σ Q u s'
def EP(X:Cx)(a:List (Addr×Obj))(b:St)(Q:VK)(u:Value)(c:Shared):Prop:=V2 X a b Q u c
def TP(X:Cx)(a:List (Addr×Obj))(d:St)(Q:Bool->Hp->Prop)(b:Bool)(e:Shared):Prop:=∃c,Inv X a d c e/\Q b c
inductive V3(X:Cx)(pins:List (Addr×Obj))(σ:St)(Q:List V->Hp->Prop)(us:List Value)(s':Shared):Prop where
 | mk (vs H'):Inv X pins σ H' s'->Vals vs us->Q vs H'->V3 X pins σ Q us s'
def AP(X:Cx)(a:List (Addr×Obj))(b:St)(Q:List V->Hp->Prop)(us:List Value)(c:Shared):Prop:=V3 X a b Q us c
def SP(X:Cx)(b:List (Addr×Obj))(D:Ends)(f:Flow)(d:Shared):Prop:=
 match f with
 | .next=>∃a c,Inv X b a c d/\D.nx a c
 | .brk=>∃a c,Inv X b a c d/\D.bk a c
 | .cont=>∃a c,Inv X b a c d/\D.ct a c
 | .ret u=>∃v a c,Inv X b a c d/\RelV v u/\D.rt v c
def PE(X:Cx)(e:Expr)(t:TE):Prop:=
 ∀(a:List (Addr×Obj)) (s:Shared) (b:St) (H:Hp) (Q:VK),Inv X a b H s->t b H Q->wpAny (model X.prog X.w) X.A (eval e X.env) (EP X a b Q) X.xe s
def PT(X:Cx)(e:Expr)(t:TT):Prop:=
 ∀(a:List (Addr×Obj)) (s:Shared) (b:St) (H:Hp) (Q:Bool->Hp->Prop),Inv X a b H s->t b H Q->wpAny (model X.prog X.w) X.A (isTrue e X.env (eval e X.env)) (TP X a b Q) X.xe s
def PW(X:Cx)(e:Expr)(t:TT):Prop:=
 ∀(b:Sem Value)(a:List (Addr×Obj)) (s:Shared) (c:St) (H:Hp) (Q:Bool->Hp->Prop),Inv X a c H s->t c H Q->wpAny (model X.prog X.w) X.A (isTrue e X.env b) (TP X a c Q) X.xe s
def PW.pt(h:PW X e t):PT X e t:=h _
def PA(X:Cx)(c:List Expr)(t:TA):Prop:=
 ∀(pos:Pos)(a:List (Addr×Obj)) (s:Shared) (b:St) (H:Hp) (Q:List V->Hp->Prop),Inv X a b H s->t b H Q->wpAny (model X.prog X.w) X.A (spliced (backTo pos (starEach c X.env))) (AP X a b Q) X.xe s
def PS(X:Cx)(st:Stmt)(t:TS):Prop:=
 ∀(a:List (Addr×Obj)) (s:Shared) (b:St) (H:Hp) (D:Ends),Inv X a b H s->t D b H->wpAny (model X.prog X.w) X.A (exec st X.env) (SP X a D) X.xe s
def AK(X:Cx)(st:List Stmt)(t:TS):Prop:=
 ∀(a:List (Addr×Obj)) (s:Shared) (b:St) (H:Hp) (D:Ends),Inv X a b H s->t D b H->wpAny (model X.prog X.w) X.A (execs st X.env) (SP X a D) X.xe s
def b5(h:wpAny M A t Q E s)(b:∀a s,Q a s->c a s):wpAny M A t c E s:=Xv h b λ_ _ x=>x
section
variable {X:Cx}
def Um(i:Nat):TE:=λa H Q=>∃v,a[i]?=some (some v)/\Q v H
def tC(v:V):TE:=λ_ H Q=>Q v H
def HU(o:X.N[i]?=some x)(n:QT X.env.scope x)(hd:(x==("__debug__":Str))=false:=by decide)(g:(x==("__classdict__":Str))=false:=by decide):PE X (.Name x pos) (Um i):=by
 intro f s k H Q I h;obtain⟨v,e,h⟩:=h;obtain⟨m,hn,hl⟩:=I.loc;obtain⟨u,r,l⟩:=hl i x v o e n;have d:EP X f k Q u s:=⟨v,H,I,r,h⟩;rcases l with⟨b,hm⟩ |⟨b,c,j,a⟩
 ·exact wpAny_Name (wpAny_loadName_local I.ok.kind b hn hm d) hd
 ·rcases b with b | b
  ·exact wpAny_Name (wpAny_loadName_cell I.ok.kind b j a d) hd
  ·exact wpAny_Name (wpAny_loadName_free I.ok.kind b j a d g) hd
def OU{i j pos}:PE X (.Constant (.int i) j pos) (tC (.int i)):=λ_ _ _ H _ I h=>wpAny_Constant_int ⟨.int i,H,I.tok _,⟨_,rfl⟩,h⟩
def RZ{b j pos}:PE X (.Constant (.bool b) j pos) (tC (.bl b)):=λ_ _ _ H _ I h=>Constant_bool ⟨.bl b,H,I,rfl,h⟩
def OS{j pos}:PE X (.Constant .none j pos) (tC .bo):=λ_ _ _ H _ I h=>Constant_none ⟨.bo,H,I,rfl,h⟩
def OP{x j pos}:PE X (.Constant (.str x) j pos) (tC (.str x)):=λ_ _ _ H _ I h=>Calls.Constant_str ⟨.str x,H,I.tok _,⟨_,rfl⟩,h⟩
def Gl(X:Cx)(x:Str):Prop:=X.env.kindOf x=some .globalImplicit
def xJ(I:Inv X pins σ H s)(a:Gl X x)(hm:X.mg x=some u)(h:Q u s)(hd:(x==("__debug__":Str))=false:=by decide):wpAny (model X.prog X.w) X.A (eval (.Name x pos) X.env) Q E s:=
 AbB I.ok.kind a (Calls.loadGlobal_global (by rw[I.ok.glob];exact I.mod.glob.keeps I.bk) hm h) hd
def fW(I:Inv X pins σ H s)(b:Gl X x)(hm:X.mg x=none)(a:bootBuiltins x=some u)(h:Q u s)(hn:x≠"__name__":=by decide)(hd:(x==("__debug__":Str))=false:=by decide):wpAny (model X.prog X.w) X.A (eval (.Name x pos) X.env) Q E s:=by
 obtain⟨e,d,c⟩:=I.mod.blt;exact AbB I.ok.kind b (Calls.loadGlobal_builtin (by rw[I.ok.glob];exact I.mod.glob.keeps I.bk) hm (by rw[I.ok.blt];exact d.keeps I.bk) ((c x hn).trans a) h) hd
def DC(a:Gl X x)(hm:X.mg x=some u)(r:RelV v u)(hd:(x==("__debug__":Str))=false:=by decide):PE X (.Name x pos) (tC v):=
 λ_ _ _ H _ I h=>xJ I a hm ⟨v,H,I,r,h⟩ hd
def Lm(b:Gl X x)(hm:X.mg x=none)(a:bootBuiltins x=some u)(r:RelV v u)(hn:x≠"__name__":=by decide)(hd:(x==("__debug__":Str))=false:=by decide):PE X (.Name x pos) (tC v):=
 λ_ _ _ H _ I h=>fW I b hm a ⟨v,H,I,r,h⟩ hn hd
variable {a b:Expr} {ta tb:TE} {pos:Pos}
variable {tA tB':TT} {rest:List Expr}
def iU(t u:TT):TT:=λd H Q=>t d H λc e=>if c=true then u d e Q else Q false e
def Gz(t u:TT):TT:=λd H Q=>t d H λc e=>if c=true then Q true e else u d e Q
def pP(t:TT):TT:=λd H Q=>t d H λc e=>Q (!c) e
def KU(g:PT X a tA):PW X (.BoolOp .And [a] pos) tA:=by
 intro i d s f H Q I h;refine isTrue_and (b5 (g d s f H Q I h) λc j e=>?_);cases c with
 | true=>exact isTrue_and_nil e
 | false=>exact e
def OA(g:PT X a tA):PW X (.BoolOp .Or [a] pos) tA:=by
 intro i d s f H Q I h;refine isTrue_or (b5 (g d s f H Q I h) λc j e=>?_);cases c with
 | false=>exact isTrue_or_nil e
 | true=>exact e
def OB(k:PT X a tA)(j:PW X (.BoolOp .And (b::rest) pos) tB'):PW X (.BoolOp .And (a::b::rest) pos) (iU tA tB'):=by
 intro i d s e H Q I h;refine isTrue_and (b5 (k d s e H _ I h) λc s1 u9=>?_);obtain⟨H1,g,f⟩:=u9;cases c with
 | true=>exact j i d s1 e H1 Q g f
 | false=>exact⟨H1,g,f⟩
def RU(k:PT X a tA)(j:PW X (.BoolOp .Or (b::rest) pos) tB'):PW X (.BoolOp .Or (a::b::rest) pos) (Gz tA tB'):=by
 intro i d s e H Q I h;refine isTrue_or (b5 (k d s e H _ I h) λc s1 u9=>?_);obtain⟨H1,g,f⟩:=u9;cases c with
 | true=>exact⟨H1,g,f⟩
 | false=>exact j i d s1 e H1 Q g f
def OC(f:PT X a tA):PT X (.UnaryOp .Not a pos) (pP tA):=by
 intro d s e H Q I h;exact isTrue_not (f d s e H (λc g=>Q (!c) g) I h)
def Rp(ta tb:TE):TE:=λd H Q=>ta d H λx e=>∃c,x=.bl c/\if c=true then tb d e Q else Q (.bl false) e
def Us(ta tb:TE):TE:=λd H Q=>ta d H λx e=>∃c,x=.bl c/\if c=true then Q (.bl true) e else tb d e Q
def Rh(ta:TE):TE:=λd H Q=>ta d H λx e=>∃c,x=.bl c/\Q (.bl (!c)) e
def OQ{op}(h:PE X a t):PE X (.BoolOp op [a] pos) t:=λc s d H Q I e=>BoolOp_one (h c s d H Q I e)
def OW(k:PE X a ta)(j:PE X (.BoolOp .And (b::rest) pos) tb):PE X (.BoolOp .And (a::b::rest) pos) (Rp ta tb):=by
 intro d s f H Q I h;refine BoolOp_and (b5 (k d s f H _ I h) λv s1 u9=>?_);obtain⟨x,H1,g,i,e⟩:=u9;obtain⟨c,rfl,e⟩:=e;cases i;refine Yr ?_;cases c with
 | true=>exact j d s1 f H1 Q g e
 | false=>exact⟨.bl false,H1,g,rfl,e⟩
def RX(k:PE X a ta)(j:PE X (.BoolOp .Or (b::rest) pos) tb):PE X (.BoolOp .Or (a::b::rest) pos) (Us ta tb):=by
 intro d s f H Q I h;refine BoolOp_or (b5 (k d s f H _ I h) λv s1 u9=>?_);obtain⟨x,H1,g,i,e⟩:=u9;obtain⟨c,rfl,e⟩:=e;cases i;refine Yr ?_;cases c with
 | false=>exact j d s1 f H1 Q g e
 | true=>exact⟨.bl true,H1,g,rfl,e⟩
def OR(i:PE X a ta):PE X (.UnaryOp .Not a pos) (Rh ta):=by
 intro d s f H Q I h;refine UnaryOp_ (b5 (i d s f H _ I h) λv s1 u9=>?_);obtain⟨x,H1,j,g,e⟩:=u9;obtain⟨c,rfl,e⟩:=e;cases g;exact not_of (Yr ⟨.bl (!c),H1,j,rfl,e⟩)
def V9(t:TT)(ta tb:TE):TE:=λd H Q=>t d H λc e=>if c=true then ta d e Q else tb d e Q
def HX(j:PT X c tA)(l:PE X a ta)(k:PE X b tb):PE X (.IfExp c a b pos) (V9 tA ta tb):=by
 intro e s f H Q I h;refine wpAny_IfExp (b5 (j e s f H _ I h) λd s1 u9=>?_);obtain⟨H1,i,g⟩:=u9;cases d with
 | true=>exact l e s1 f H1 Q i g
 | false=>exact k e s1 f H1 Q i g
end
def eV(K:FR)(H:Hp)(a:Addr)(c:List V):Prop:=
 Rd H a (.lst c)\/
  ∃(o:Obj)(b:Array Value)(n:Nat),K.lookup a=some o/\o.cls=.type "list"/\o.dict=none/\o.data=.seq b n/\b.size<=sizeLine/\Vals c b.toList
def iZ(K:FR)(H:Hp)(a:Addr)(c:List V):Prop:=
 Rd H a (.tup c)\/
  ∃(o:Obj)(b:Array Value)(n:Nat),K.lookup a=some o/\o.cls=.type "tuple"/\o.data=.seq b n/\b.size<=sizeLine/\Vals c b.toList/\o.dict=none
noncomputable def Vz:Value->Option V
 | .none=>some .bo
 | .bool b=>some (.bl b)
 | .int i _=>some (.int i)
 | .str x _=>some (.str x)
 | .bytes b _=>some (.byt b)
 | .float b _=>some (.QQ b)
 | .ref a=>some (.ref a)
 | .type n=>some (.ty n)
 | _=>none
def RelV.abs(r:RelV x u):Vz u=some x:=by
 cases x with
 | bo=>cases r;rfl
 | bl _=>cases r;rfl
 | int _=>obtain⟨t,rfl⟩:=r;rfl
 | str _=>obtain⟨t,rfl⟩:=r;rfl
 | byt _=>obtain⟨t,rfl⟩:=r;rfl
 | QQ _=>obtain⟨t,rfl⟩:=r;rfl
 | ref _=>cases r;rfl
 | ty _=>cases r;rfl
theorem RelV.inj(r:RelV x u)(q:RelV y u):x=y:=Option.some.inj (r.abs.symm.trans q.abs)
theorem Vals.inj{d c:List V}{us:List Value}(a:Vals d us)(b:Vals c us):d=c:=by
 induction a generalizing c with
 | nil=>cases b;rfl
 | cons r t g=>cases b with | cons f e=>rw[r.inj f,g e]
def eV.of{K:FR}(h:H a=some (.lst xs)):eV K H a xs:=.inl (.inl h)
def Inv.list(I:Inv X pins σ H s)(h:eV X.K H a xs):∃b:List Value,Vals xs b/\PlainL s.heap a b.toArray/\xs.length<=sizeLine:=by
 rcases h with h |⟨o,b,n,d,f,hd,c,g,r⟩
 ·obtain⟨z,b,n,r,e⟩:=h.ok I.a8;exact⟨b,r,⟨_,n,e,rfl,rfl,rfl⟩,z⟩
 ·refine⟨b.toList,r,⟨o,n,I.vJ a o d,f,hd,by simpa using c⟩,?_⟩;have e:=r.length;simp only[X9] at e
  lia
def Inv.tuple(I:Inv X pins σ H s)(h:iZ X.K H a xs):∃b:List Value,Vals xs b/\IsTup s.heap a b.toArray/\xs.length<=sizeLine:=by
 rcases h with h |⟨o,b,n,d,f,c,g,r,_⟩
 ·obtain⟨z,b,r,p⟩:=h.ok I.a8;exact⟨b,r,p.tup,z⟩
 ·refine⟨b.toList,r,⟨o,I.vJ a o d,f,n,by simpa using c⟩,?_⟩;have e:=r.length;simp only[X9] at e
  lia
def Inv.zT(I:Inv X pins σ H s)(h:eV X.K H a xs)(k:eV X.K H a i):xs=i:=by
 obtain⟨c,r,⟨o,n,e,_,_,d⟩,_⟩:=I.list h;obtain⟨b,j,⟨l,m,f,_,_,g⟩,_⟩:=I.list k;rw[e] at f;cases f;rw[d] at g;injection g with d1 _
 have:c=b:=by simpa using congrArg Array.toList d1
 subst this;exact r.inj j
def Inv.uK(I:Inv X pins σ H s)(h:iZ X.K H a xs)(k:iZ X.K H a i):xs=i:=by
 obtain⟨c,r,⟨o,e,_,n,d⟩,_⟩:=I.tuple h;obtain⟨b,j,⟨l,f,_,m,g⟩,_⟩:=I.tuple k;rw[e] at f;cases f;rw[d] at g;injection g with d1 _
 have:c=b:=by simpa using congrArg Array.toList d1
 subst this;exact r.inj j
abbrev Cx.tQ(X:Cx)(E:Value->Shared->Prop):Cx:={X with xe:=E}
abbrev Cx.QL(X:Cx):Cx:=X.tQ λ_ _=>False
theorem Cx.Ok.tQ{X:Cx}(ok:X.Ok)(E:Value->Shared->Prop):(X.tQ E).Ok:=
 ⟨ok.mod,ok.kind,ok.glob,ok.blt,ok.above,ok.inj,ok.has,ok.SN,ok.hd,ok.frames,ok.TY,ok.VQ,ok.bs,ok.Nh,ok.Iy,ok.L7,ok.sI,ok.QP⟩
def Cx.Ok.i3{X:Cx}{E:Value->Shared->Prop}(ok:(X.tQ E).Ok):X.Ok:=
 ⟨ok.mod,ok.kind,ok.glob,ok.blt,ok.above,ok.inj,ok.has,ok.SN,ok.hd,ok.frames,ok.TY,ok.VQ,ok.bs,ok.Nh,ok.Iy,ok.L7,ok.sI,ok.QP⟩
theorem Inv.tQ(I:Inv X pins σ H s)(E:Value->Shared->Prop):Inv (X.tQ E) pins σ H s:=⟨I.ok.tQ E,I.os,I.bare,I.base,I.loc,I.cell,I.free,I.jy,I.pin,I.a8,I.len⟩
theorem Inv.i3(I:Inv (X.tQ E) pins σ H s):Inv X pins σ H s:=⟨I.ok.i3,I.os,I.bare,I.base,I.loc,I.cell,I.free,I.jy,I.pin,I.a8,I.len⟩
theorem SP.i3(h:SP (X.tQ E) pins D f c):SP X pins D f c:=by
 cases f with
 | next=>obtain⟨a,b,I,q⟩:=h;exact⟨a,b,I.i3,q⟩
 | brk=>obtain⟨a,b,I,q⟩:=h;exact⟨a,b,I.i3,q⟩
 | cont=>obtain⟨a,b,I,q⟩:=h;exact⟨a,b,I.i3,q⟩
 | ret u=>obtain⟨v,a,b,I,r,q⟩:=h;exact⟨v,a,b,I.i3,r,q⟩
theorem AK.QL{st:List Stmt}{t:TS}(h:AK X.QL st t):AK X st t:=λa s b H D I c=>
 Xv (h a s b H D (I.tQ _) c) (λ_ _ q=>q.i3) λ_ _ z=>False.elim z
section
variable {X:Cx} {st:Stmt} {rest:List Stmt} {t u:TS} {e:Expr} {te:TE} {pos:Pos}
def Ri:TS:=λD a H=>D.nx a H
def Ra(t u:TS):TS:=λD a H=>t {D with nx:=u D} a H
def K0:AK X [] Ri:=λ_ _ a H _ I h=>Aak ⟨a,H,I,h⟩
def HH(i:PS X st t)(g:AK X rest u):AK X (st::rest) (Ra t u):=by
 intro a s c H D I h;refine wpAny_execs_cons (b5 (i a s c H {D with nx:=u D} I h) λf d q=>?_);cases f with
 | next=>
  obtain⟨b,k,j,q⟩:=q;exact g a d b k D j q
 | ret v=>exact q
 | brk=>exact q
 | cont=>exact q
def KZ(c:PS X st t):AK X [st] t:=by
 intro a s b H D I h;refine wpAny_execs_cons (b5 (c a s b H D I h) λf d q=>?_);cases f with
 | next=>exact Aak q
 | ret v=>exact q
 | brk=>exact q
 | cont=>exact q
def NM:TS:=λD a H=>D.bk a H
def HM:PS X (.Break pos) NM:=λ_ _ a H _ I h=>wpAny_Break ⟨a,H,I,h⟩
def Inv.quiet(I:Inv X pins σ H s):interactive X.env=false:=by simp[interactive,I.ok.kind]
def Rl(te:TE):TS:=λD a H=>te a H λ_ b=>D.nx a b
def K3(f:PE X e te)(d:swapsWith e none pos.line X.env=pure false:=by rfl):PS X (.Expr e pos) (Rl te):=by
 intro a s b H D I h;exact wpAny_Expr_any (b5 (f a s b H _ I h) λv s1 ⟨x,H1,g,i,c⟩=>⟨b,H1,g,c⟩) I.quiet d
def Ur(te:TE):TS:=λD a H=>te a H D.rt
def OE(f:PE X e te):PS X (.Return (some e) pos) (Ur te):=by
 intro a s b H D I h;exact wpAny_Return_some (b5 (f a s b H _ I h) λv s1 ⟨x,H1,g,c,d⟩=>⟨x,b,H1,g,c,d⟩)
def Uw(c:TT)(t u:TS):TS:=λD a H=>c a H λb d=>if b=true then t D a d else u D a d
def RV(l:PT X c k)(n:AK X a t)(m:AK X b u):PS X (.If c a b pos) (Uw k t u):=by
 intro f s g H D I h;refine wpAny_If (b5 (l f s g H _ I h) λd s1 u9=>?_);obtain⟨H1,j,i⟩:=u9;cases d with
 | true=>exact n f s1 g H1 D j i
 | false=>exact m f s1 g H1 D j i
def NH:TS:=λ_ _ _=>False
def HK:PS X st NH:=λ_ _ _ _ _ _ h=>h.elim
end
abbrev TG:=V->St->Hp->(St->Hp->Prop)->Prop
abbrev Qx:=List V->St->Hp->(St->Hp->Prop)->Prop
def PG(X:Cx)(a:Expr)(t:TG):Prop:=
 ∀(b:List (Addr×Obj)) (s:Shared) (d:St) (H:Hp) (v:V) (u:Value) (Q:St->Hp->Prop),Inv X b d H s->RelV v u->t v d H Q->
  wpAny (model X.prog X.w) X.A (assign a X.env u) (λ_ f=>∃c e,Inv X b c e f/\Q c e) X.xe s
def Nr(X:Cx)(f:List Expr)(t:Qx):Prop:=
 ∀(a:List (Addr×Obj)) (s:Shared) (c:St) (H:Hp) (d:List V) (us:List Value) (Q:St->Hp->Prop),Inv X a c H s->Vals d us->t d c H Q->
  wpAny (model X.prog X.w) X.A (assignInOrder ((assignEach f X.env).map (·.2)) us) (λ_ g=>∃b e,Inv X a b e g/\Q b e) X.xe s
abbrev Ti:=V->V->V->Hp->(Hp->Prop)->Prop
def Mz(X:Cx)(t:Ti):Prop:=
 ∀(a:List (Addr×Obj)) (s:Shared) (b:St) (H:Hp) (o i v:V) (c d u:Value) (Q:Hp->Prop),Inv X a b H s->RelV o c->RelV i d->RelV v u->t o i v H Q->
  wpAny (model X.prog X.w) X.A (setItem c d u) (λ_ f=>∃e,Inv X a b e f/\Q e) X.xe s
abbrev VT:=V->V->Hp->VK->Prop
def TH(X:Cx)(c:Operator)(t:VT):Prop:=
 ∀(a:List (Addr×Obj)) (s:Shared) (b:St) (H:Hp) (x y:V) (v u:Value) (Q:VK),Inv X a b H s->RelV x v->RelV y u->t x y H Q->
  wpAny (model X.prog X.w) X.A (inplaceOp c v u) (EP X a b Q) X.xe s
def z7(i:Nat):TG:=λv a H Q=>Q (a.set i (some v)) H
def Li(e:X.N.Nodup)(c:X.N[i]?=some x)(b:Loc X.env.scope x)(d:X.fn x=true\/X.env.scope.names.lookup x=some .local:=by first | exact .inl rfl | exact .inr rfl | assumption):PG X (.Name x pos) (z7 i):=by
 intro a s g H v u Q I r h;exact wpAny_assign_Name (i5 I e c b r (λj f=>⟨_,H,f,h⟩) d)
noncomputable def Vm:Qx:=λb a H Q=>b=[]/\Q a H
def Su(t:TG)(u:Qx):Qx:=λc b H Q=>∃v r,c=v::r/\t v b H λa d=>u r a d Q
def Lh:Nr X [] Vm:=by
 intro a s b H c us Q I r h;obtain⟨e,h⟩:=h;subst e;cases r;exact assignInOrder_nil ⟨b,H,I,h⟩
def HQ(k:PG X e t)(j:Nr X c u)(i:(assignEach (e::c) X.env).map (·.2)=assign e X.env::(assignEach c X.env).map (·.2):=by rfl):Nr X (e::c) (Su t u):=by
 intro a s d H n us Q I r h;obtain⟨v,o,l,h⟩:=h;subst l;cases r with
 | cons r f=>
  rw[i];refine Abw (b5 (k a s d H _ _ _ I r h) λ_ s1 u9=>?_);obtain⟨b,H1,m,g⟩:=u9;exact j a s1 b H1 _ _ Q m f g
def Vl(K:FR)(n:Nat)(t:Qx):TG:=λv c H Q=>∃a b,v=.ref a/\iZ K H a b/\b.length=n/\t b c H Q
def OM(q:X.calm=true)(h:Nr X g t)(hn:(assignEach g X.env).length=n:=by rfl)(f:(assignEach g X.env).findIdx? (·.1)=none:=by rfl):PG X (.Tuple g k pos) (Vl X.K n t):=by
 intro c s i H v u Q I r d;obtain⟨a,j,x,p,hl,d⟩:=d;subst x;cases r;obtain⟨l,rv,ht,z⟩:=I.tuple p;refine assign_Tuple_tuple (I.ok.hd q) ht (by simp[hn,<-hl,rv.length]) f λw m=>?_;have y:Inv X c i H {s with heap:=w}:=I.kept (t':=s.toks) λb o e=>m b o (WZ (WH e)) e;exact h c _ i H j _ Q y (by simpa using rv) d
def uy(b c:TE)(t:Ti):TG:=λv a H Q=>b a H λo f=>c a f λi e=>t o i v e λd=>Q a d
def HR (n:PE X o to) (p:PE X i e) (m:Mz X t) (q:∀v,assign (.Subscript o i pos) X.env v=(do
   let b<-holding [v] (eval o X.env);let c<-holding [v,b] (eval i X.env)
   standAt pos
   holding [v,b,c] (setItem b c v)
   release [v,b,c] []):=by intro _;rfl):PG X (.Subscript o i pos) (uy to e t):=by
 intro a s d H v u Q I r h;rw[q];refine Wr (Xj (b5 (n a s d H _ I h) λb s1 u9=>?_));obtain⟨x,H1,A,g,l⟩:=u9;refine Wr (Xj (b5 (p a s1 d H1 _ A l) λc s2 u9=>?_));obtain⟨y,E,z,f,k⟩:=u9;refine Wr (Yb (Wr (Xj (b5 (m a s2 d E x y v b c u _ z g f r k) λ_ s3 u9=>?_))));obtain⟨C,w,j⟩:=u9;exact wpAny_release ⟨d,C,w,j⟩
def Kq(b:TE)(g:TG):TS:=λD a H=>b a H λx c=>g x a c D.nx
def OH(m:PE X e d)(l:PG X b g)(k:swapsWithSole [b] e pos.line X.env=pure false:=by rfl)(j:swappedStores [b] e X.env=pure none:=by rfl)(n:(assignEach [b] X.env).map (·.2)=[assign b X.env]:=by rfl):PS X (.Assign [b] e pos) (Kq d g):=by
 intro a s c H D I h;refine wpAny_Assign_stores (b5 (m a s c H _ I h) λv s1 u9=>?_) k j;obtain⟨x,H1,o,f,i⟩:=u9;rw[n];exact b5 (l a s1 c H1 x v _ o f i) λ_ p q=>q
def OD(n:X.N.Nodup)(k:X.N[i]?=some x)(g:Loc X.env.scope x)(m:PE X e c)(j:swapsWith e (some (.Name x pos')) pos.line X.env=pure false:=by rfl)(l:X.fn x=true\/X.env.scope.names.lookup x=some .local:=by first | exact .inl rfl | exact .inr rfl | assumption):
  PS X (.Assign [.Name x pos'] e pos) (Kq c (z7 i)):=by
 intro a s b H D I h;refine wpAny_Assign_Name (b5 (m a s b H _ I h) λv s1 u9=>?_) j;obtain⟨y,H1,p,d,f⟩:=u9;exact i5 p n k g d (λq o=>⟨_,H1,o,f⟩) l
def Rf(i j:Nat)(c:TA):TS:=λD a H=>c a H λb d=>∃v w,b=[v,w]/\D.nx ((a.set i (some v)).set j (some w)) d
def rW{kt k d}(P:X.calm=true)(z:X.N.Nodup)(O:X.N[i]?=some x)(hj:X.N[j]?=some y)(m:i≠j)(u:X.env.scope.names.lookup x=some .local)(t:X.env.scope.names.lookup y=some .local)(Q:PA X [a,b] E)(L:swappedStores [.Tuple [.Name x r,.Name y py] kt pt] (.Tuple [a,b] k d) X.env=pure (some [x,y]))(M:swapsWithSole [.Tuple [.Name x r,.Name y py] kt pt] (.Tuple [a,b] k d) pos.line X.env=pure false:=by rfl):
  PS X (.Assign [.Tuple [.Name x r,.Name y py] kt pt] (.Tuple [a,b] k d) pos) (Rf i j E):=by
 intro c s n H D I h;rw[exec_Assign_arm];refine Wr (Yb ?_);rw[M];refine Wr (Wt ?_);rw[WE (by decide)];refine Wr (Tuple_ (b5 (Q _ c s n H _ I h) λus s1 u9=>?_));obtain⟨Z,H1,Y,F,g⟩:=u9;obtain⟨v,w,R,g⟩:=g;subst R;obtain⟨u1,u2,rfl,rv,f⟩:∃u1 u2,us=[u1,u2]/\RelV v u1/\RelV w u2:=by
  cases F with
  | cons p q=>
   cases q with
   | cons J G=>
    cases G;exact⟨_,_,rfl,p,J⟩
 refine Xc ?_ (by show 2<=sizeLine;decide);have U:Inv X c n H1 {s1 with heap:=s1.heap.push {cls:=.type "tuple",data:=.seq [u1,u2].toArray}}:=Y.kept (t':=s1.toks) λb o e=>Wu _ e;rw[L];refine Wr (Wt ?_);show wpAny (model X.prog X.w) X.A (do rule "assign.swapped-stores";let items<-unpackItems (.ref s1.heap.objs.size) 2 none;assignInOrder [λv=>bindName X.env y v,λv=>bindName X.env x v] items.reverse;pure Flow.next) _ _ _;refine Wr (X2 (Wr (unpackItems_tuple (items:=#[u1,u2]) (I.ok.hd P) (IsTup.new s1.heap _) λh' l=>?_)));have T:=U.kept (h':=h') (t':=s1.toks) λb o e=>l b o (WZ (WH e)) e;show wpAny _ _ (assignInOrder [λv=>bindName X.env y v,λv=>bindName X.env x v] [u2,u1] >>=λ_=>pure Flow.next) _ _ _;refine Wr (Abw (wpAny_bindName (i5 T z hj (.inl t) f (λs2 S=>?_) (.inr t))));refine Abw (wpAny_bindName (i5 S z O (.inl u) rv (λs3 C=>assignInOrder_nil (Wt ?_)) (.inr u)));rw[List.set_comm _ _ (XJ m)] at C;exact⟨_,H1,C,g⟩
def UA(i:Nat)(c:TE)(b:VT):TS:=λD a H=>∃x,a[i]?=some (some x)/\c a H λy e=>b x y e λz d=>D.nx (a.set i (some z)) d
def OG(P:X.N.Nodup)(p:X.N[i]?=some x)(n:Loc X.env.scope x)(M:PE X e t)(J:TH X op q)(L:X.fn x=true\/X.env.scope.names.lookup x=some .local:=by first | exact .inl rfl | exact .inr rfl | assumption):
  PS X (.AugAssign (.Name x pos') op e pos) (UA i t q):=by
 intro a s o H D I h;obtain⟨v,Q,h⟩:=h;obtain⟨m,hn,hl⟩:=I.loc;have j:QT X.env.scope x:=by rcases n with k | k;exact .inl k;exact .inr (.inl k)
 obtain⟨u,r,l⟩:=hl i x v p Q j;refine wpAny_AugAssign_Name ?_;have go:wpAny (model X.prog X.w) X.A (eval e X.env) (λw g=>wpAny (model X.prog X.w) X.A (inplaceOp op u w) (λr f=>wpAny (model X.prog X.w) X.A (storeName X.env x r) (λ_=>SP X a D .next) X.xe f) X.xe g) X.xe s:=by
  refine b5 (M a s o H _ I h) λw s1 u9=>?_;obtain⟨y,H1,T,E,G⟩:=u9;refine b5 (J a s1 o H1 v y u w _ T r E G) λz s2 u9=>?_;obtain⟨Y,U,S,C,F⟩:=u9;exact i5 S P p n C (λZ R=>⟨_,U,R,F⟩) L
 rcases l with⟨b,hm⟩ |⟨b,c,O,d⟩
 ·exact wpAny_loadName_local I.ok.kind b hn hm go
 ·rcases b with b | b
  ·exact wpAny_loadName_cell I.ok.kind b O d go
  ·rcases n with k | k
   ·have:X.env.scope.names.lookup x=some .free:=b;rw[k] at this;cases this
   ·have:X.env.scope.names.lookup x=some .free:=b;rw[k] at this;cases this
def Gy(c:TT)(h:TS):TS:=λD a H=>∃W:Nat->St->Hp->Prop,(∃m,W m a H)/\∀m a H,W m a H->
 c a H λb f=>if b=true then ∃N:St->Hp->Prop,(∀d g,N d g->∃e,e < m/\W e d g)/\h {D with nx:=N,ct:=N,bk:=D.nx} a f else D.nx a f
def HJ(hp:PassesOwn (model X.prog X.w) X.A X.env X.xe)(O:PT X c F)(P:AK X body G):PS X (.While c body [] pos) (Gy F G):=by
 intro d s z H D I h;obtain⟨W,⟨M,E⟩,i⟩:=h;refine wpAny_While (codeAny_whileLoop (λn L=>∃g y,Inv X d g y L/\W n g y) ?_ M ⟨z,H,I,E⟩);rintro n J ⟨e,x,Q,C⟩;refine Y2 hp (b5 (O d J e x _ Q (i n e x C)) λb s2 u9=>?_);obtain⟨u,t,l⟩:=u9;cases b with
 | true=>
  obtain⟨N,r,l⟩:=l;rw[WC rfl];refine Y2 hp (b5 (P d s2 e u _ t l) λf R k=>?_);cases f with
  | next=>
   obtain⟨a,j,q,o⟩:=k;obtain⟨p,hm,m⟩:=r a j o;exact⟨p,hm,a,j,q,m⟩
  | cont=>
   obtain⟨a,j,q,o⟩:=k;obtain⟨p,hm,m⟩:=r a j o;exact⟨p,hm,a,j,q,m⟩
  | brk=>exact k
  | ret v=>exact k
 | false=>
  rw[WE W8];exact Aak ⟨e,u,t,l⟩
structure It where
 go:Nat->Hp->Prop
 MI:Nat->Hp->V->Hp->Prop
 stop:Nat->Hp->Prop
def eG(X:Cx)(a:List (Addr×Obj))(H:Hp)(b:Addr):Prop:=
 H b=none/\b≠X.env.locals/\b∉X.fs/\(b∈X.ex\/X.s₀.heap.objs.size<=b)/\(∀x c,X.env.cells.lookup x=some c->c≠b)/\∀p∈X.pn++a,p.1≠b
def Inv.uA(I:Inv X pins σ H s)(a:s.heap.objs.size<=b)(hn:H' b=none):eG X pins H' b:=by
 refine⟨hn,YQ (WM I.lt a),I.Vb a,.inr (WL I.sz a),λx c e z=>?_,λp hp z=>?_⟩
 ·obtain⟨v,q⟩:=I.cell x c e;exact absurd (WM q.lt (by rw[z];exact a)) (YE _)
 ·exact absurd (WM (WH (I.pin p hp).1) (by rw[z];exact a)) (YE _)
structure Turn(P:Program)(w:World)(K:FR)(tg:Expr)(J:It)(fp:List Addr)(it:Addr)(tn:Nat->Heap->Prop):Prop where
 mem:it∈fp
 obj:∀i h,tn i h->∀b∈fp,∃o,h.get? b=some o/\∀v,o.data≠.cell v
 keep:∀i h h',tn i h->(∀b∈fp,∀o,h.get? b=some o->h'.get? b=some o)->tn i h'
 item:∀(X:Cx),X.prog=P->X.w=w->X.K=K->X.calm=true->∀(i:Nat)(pins:List (Addr×Obj)) (s:Shared) (σ:St) (H:Hp) (E:Value->Shared->Prop),Inv X pins σ H s->(∀b∈fp,eG X pins H b)->tn i s.heap->J.go i H->
  wpAny (model P w) X.A (pyNext (.ref it)) (λr s1=>∃u,r=some u/\
   wpAny (model P w) X.A (letOwnedTupleGo tg (.ref it) u) (λ_ s2=>∃x H',Inv X pins σ H' s2/\RelV x u/\J.MI i H x H'/\tn (i+1) s2.heap/\∀b∈fp,H' b=none) E s1) E s
 done:∀(X:Cx),X.prog=P->X.w=w->X.K=K->X.calm=true->∀(i:Nat)(pins:List (Addr×Obj)) (s:Shared) (σ:St) (H:Hp) (E:Value->Shared->Prop),Inv X pins σ H s->(∀b∈fp,eG X pins H b)->tn i s.heap->J.stop i H->
  wpAny (model P w) X.A (pyNext (.ref it)) (λr s1=>r=none/\Inv X pins σ H s1) E s
 self:∀(A:Around)(i:Nat)(s:Shared)(Q:Value->Shared->Prop)(E:Value->Shared->Prop),tn i s.heap->Q (.ref it) s->wpAny (model P w) A (pyIter (.ref it)) Q E s
abbrev TI:=St->Hp->(It->Hp->Prop)->Prop
def VB(X:Cx)(a:List (Addr×Obj))(i:St)(j:Expr)(R:It->Hp->Prop)(c:Value)(f:Shared):Prop:=
 ∃(g:Addr)(h:List Addr)(e:Nat->Heap->Prop)(J:It)(d:Hp),c=.ref g/\Inv X a i d f/\Turn X.prog X.w X.K j J h g e/\e 0 f.heap/\(∀b∈h,eG X a d b)/\R J d
def PI(X:Cx)(e b:Expr)(d:TI):Prop:=
 ∀(a:List (Addr×Obj)) (s:Shared) (c:St) (H:Hp) (R:It->Hp->Prop),Inv X a c H s->d c H R->
  wpAny (model X.prog X.w) X.A (eval b X.env) (λv f=>wpAny (model X.prog X.w) X.A (pyIter v) (VB X a c e R) X.xe f) X.xe s
def DQ(d:s.heap.get? it=some o)(e:o.cls=.type n)(hd:o.data=.fields b)(hn:["enumerate","zip","dict_itemiterator","dict_reverseitemiterator","odict_iterator","itertools.zip_longest","itertools.pairwise"].contains n=false)(a:Q () s):wpAny M A (letOwnedTupleGo c (.ref it) u) Q E s:=by
 unfold letOwnedTupleGo;cases c <;> first
  | exact Wt a
  |(cases u <;> first
    | exact Wt a
    |(refine Wr (wpAny_load d ?_);rw[e,hd];show wpAny M A (if(["enumerate","zip","dict_itemiterator","dict_reverseitemiterator","odict_iterator","itertools.zip_longest","itertools.pairwise"].contains n&&b[0]?==some (rawInt _))=true then _ else _) Q E s;rw[WE (by intro h;rw[hn,Aa0] at h;cases h)];exact Wt a))
noncomputable def VF(K:FR)(a:Addr):It:=
 ⟨λi H=>∃b x,eV K H a b/\b[i]?=some x,λi H x c=>c=H/\∀b,eV K H a b->b[i]?=some x,λi H=>∃b,eV K H a b/\b.length<=i⟩
noncomputable def VE(K:FR)(a:Addr):It:=
 ⟨λi H=>∃b x,iZ K H a b/\b[i]?=some x,λi H x c=>c=H/\∀b,iZ K H a b->b[i]?=some x,λi H=>∃b,iZ K H a b/\b.length<=i⟩
noncomputable def Ud(a:Int)(n:Nat):It:=⟨λi _=>i < n,λi H x b=>b=H/\x=.int (a+i),λi _=>n<=i⟩
def Eu{P:Program}{w:World}{K:FR}{R:Expr}(a g:Addr):Turn P w K R (VF K a) [g] g (λi h=>h.IsListIter g a i) where
 mem:=by simp
 obj:=λi h st b j=>by
  have e:b=g:=by simpa using j
  subst e;obtain⟨o,e,c,d⟩:=st;exact⟨o,e,λv z=>by rw[d] at z;cases z⟩
 keep:=λi h q st k=>st.at λo e=>k g (by simp) o e
 item:=by
  intro X C y F O i f s N H E I n st A;subst C y F;obtain⟨Q,x,m,t⟩:=A;obtain⟨r,rv,p,T⟩:=I.list m;obtain⟨u,Y,S⟩:=rv.get t;obtain⟨f0,M,Z,L,J,G⟩:=n g (by simp);refine Aah st p.isList (x:=u) (by simpa using Y) λq l sb=>?_;have I1:Inv X f N H {s with heap:=q}:=I.turned (t':=s.toks) (λb o j e=>(sb.2 b j).trans e) f0 M L J G;obtain⟨o,e,c,d⟩:=id l;exact⟨u,rfl,DQ (s:={s with heap:=q}) e c d (by decide) ⟨x,H,I1,S,⟨rfl,λys U=>by rw[I.zT U m];exact t⟩,l,λb j=>(n b j).1⟩⟩
 done:=by
  intro X C y F O i f s N H E I n st A;subst C y F;obtain⟨Q,m,t⟩:=A;obtain⟨r,rv,p,T⟩:=I.list m;obtain⟨f0,M,Z,L,J,G⟩:=n g (by simp);have hl:=rv.length;exact Aan (I.ok.hd O) st p.isList (by simp;lia) λq eb=>⟨rfl,I.turned (t':=s.toks) (λb o j e=>eb b o j e) f0 M L J G⟩
 self:=λ_ _ _ _ _ st h=>wpAny_pyIter_listiter st h
def AX{P:Program}{w:World}{K:FR}{R:Expr}(a j:Addr):Turn P w K R (VE K a) [j] j (λi h=>h.IsTupleIter j a i) where
 mem:=by simp
 obj:=λi h st b l=>by
  have e:b=j:=by simpa using l
  subst e;obtain⟨o,e,c,d⟩:=st;exact⟨o,e,λv z=>by rw[d] at z;cases z⟩
 keep:=λi h r st k=>st.at λo e=>k j (by simp) o e
 item:=by
  intro X C y F O i f s N H E I q st A;subst C y F;obtain⟨Q,x,n,t⟩:=A;obtain⟨g,rv,p,T⟩:=I.tuple n;obtain⟨u,Y,S⟩:=rv.get t;obtain⟨f0,M,Z,L,J,G⟩:=q j (by simp);refine wpAny_pyNext_tuple_item st (show s.heap.IsTuple a g.toArray from p) (x:=u) (by simpa using Y) λr m sb=>?_;have I1:Inv X f N H {s with heap:=r}:=I.turned (t':=s.toks) (λb o l e=>(sb.2 b l).trans e) f0 M L J G;obtain⟨o,e,c,d⟩:=id m;exact⟨u,rfl,DQ (s:={s with heap:=r}) e c d (by decide) ⟨x,H,I1,S,⟨rfl,λys U=>by rw[I.uK U n];exact t⟩,m,λb l=>(q b l).1⟩⟩
 done:=by
  intro X C y F O i f s N H E I q st A;subst C y F;obtain⟨Q,n,t⟩:=A;obtain⟨g,rv,p,T⟩:=I.tuple n;obtain⟨f0,M,Z,L,J,G⟩:=q j (by simp);have hl:=rv.length;exact wpAny_pyNext_tuple_end (I.ok.hd O) st (show s.heap.IsTuple a g.toArray from p) (by simp;lia) λr eb=>⟨rfl,I.turned (t':=s.toks) (λb o l e=>eb b o l e) f0 M L J G⟩
 self:=λ_ _ _ _ _ st h=>wpAny_pyIter_tupleiter st h
def AY{P:Program}{w:World}{K:FR}{L:Expr}(c:Addr)(g:Int)(n:Nat):Turn P w K L (Ud g n) [c] c (λi h=>IsRangeIter h c (g+(i:Nat)*1) ((n:Int)-(i:Nat)) 1) where
 mem:=by simp
 obj:=λi h st b d=>by
  have e:b=c:=by simpa using d
  subst e;exact⟨_,st,λv z=>by
   have J:Data.fields _=Data.cell v:=z;cases J⟩
 keep:=λi h l st k=>k c (by simp) _ st
 item:=by
  intro X r m u q i a s F H E I j st p;subst r m u;obtain⟨f0,C,O,A,y,x⟩:=j c (by simp);have W:=Walks.range (prog:=X.prog) (w:=X.w) (I.ok.hd q) c g 1 n;refine W.item i s _ _ p st λv l G N f M=>?_;obtain⟨t,rfl⟩:=N;have R:Inv X a F H {s with heap:=l,toks:=G}:=I.turned (λb o d e=>M b o (by simpa using d) e) f0 C A y x;refine⟨_,rfl,DQ (s:={s with heap:=l,toks:=G}) (n:="range_iterator") f rfl rfl (by decide) ⟨.int (g+i),H,R,⟨t,?_⟩,⟨rfl,rfl⟩,f,λb d=>(j b d).1⟩⟩;rw[Int.mul_one]
 done:=by
  intro X r m u q i a s F H E I j st p;subst r m u;obtain⟨f0,C,O,A,y,x⟩:=j c (by simp);exact wpAny_pyNext_range_end (I.ok.hd q) st (by have:n<=i:=p;lia) λl Q=>⟨rfl,I.turned (t':=s.toks) (λb o d e=>Q b o d e) f0 C A y x⟩
 self:=λ_ _ _ _ _ st h=>wpAny_pyIter_rangeiter st h
def Hu{d:List (Addr×Obj)}{f:St}{H:Hp}{s:Shared}{R:It->Hp->Prop}{E:Value->Shared->Prop}{a c:Int}{t u v:Tok}{g:Nat}(I:Inv X d f H s)(m:-(2^62)<=a)(l:a < 2^62)(k:-(2^62)<=c)(j:c < 2^62)
  (q:R (Ud a (c-a).toNat) H):wpAny (model X.prog X.w) X.A (pyIter (.ref s.heap.objs.size)) (VB X d f r R) E {s with heap:=s.heap.push {cls:=.type "range",data:=.fields #[.int a t,.int c u,.int 1 v]},toks:=g}:=by
 refine wpAny_pyIter_range (IsRange.new ..) (small_one m l k j) ?_;have h:Inv X d f H {s with heap:=s.heap.push {cls:=.type "range",data:=.fields #[.int a t,.int c u,.int 1 v]},toks:=g}:=I.kept λb o e=>Wu _ e;refine⟨(s.heap.push {cls:=.type "range",data:=.fields #[.int a t,.int c u,.int 1 v]}).objs.size,[(s.heap.push {cls:=.type "range",data:=.fields #[.int a t,.int c u,.int 1 v]}).objs.size],_,_,H,rfl,
  h.kept (t':=g) λb o e=>Wu _ e,AY _ a (c-a).toNat,?_,λb i=>?_,q⟩
 ·have p:a+((0:Nat):Int)*1=a:=by simp
  have n:(((c-a).toNat:Nat):Int)-((0:Nat):Int)=Builtin.Range.rangeSize a c 1:=by rw[rangeSize_one];split <;> lia
  show IsRangeIter _ _ (a+((0:Nat):Int)*1) ((((c-a).toNat:Nat):Int)-((0:Nat):Int)) 1;rw[p,n];exact WK _ rfl
 ·have e:b=(s.heap.push {cls:=.type "range",data:=.fields #[.int a t,.int c u,.int 1 v]}).objs.size:=by simpa using i
  subst e;exact h.uA (WB _) (h.a8.fresh (WB _))
def Sn(c:TA):TI:=λa H R=>c a H λb d=>∃j:Int,b=[.int j]/\-(2^62)<=j/\j < 2^62/\R (Ud 0 j.toNat) d
def E9{a:Expr}{d:TA}{p pos:Pos}(m:Gl X "range")(hm:X.mg "range"=none)(n:PA X [a] d)(l:starEach [a] X.env=[(false,eval a X.env)]:=by rfl):PI X v (.Call (.Name "range" p) [a] [] pos) (Sn d):=by
 intro b s f H R I h;refine Call_ (fW I m hm boot_range (Xr (b5 (n pos b s f H _ I h) λus s1 u9=>?_) l rfl));obtain⟨u,H1,o,i,c⟩:=u9;obtain⟨j,e,c,k,q⟩:=c;subst e;cases i with
 | cons r g=>
  cases g;obtain⟨t,rfl⟩:=r;exact call_range_1 (Hu o (by simp) (Aat _) c k (by simpa using q))
def Rk(f:TI)(g:TG)(h:TS):TS:=λD a H=>f a H λJ k=>∃W:Nat->Nat->St->Hp->Prop,(∃m,W 0 m a k)/\∀i m a H,W i m a H->
 (J.stop i H/\D.nx a H)\/(J.go i H/\∃N:St->Hp->Prop,(∀b c,N b c->∃e,e < m/\W (i+1) e b c)/\∀x c,J.MI i H x c->g x a c λd j=>h {D with nx:=N,ct:=N,bk:=D.nx} d j)
noncomputable def ow(a:List Addr)(h:Heap):List (Addr×Obj):=a.filterMap λb=>(h.get? b).map λo=>(b,o)
def eB(a:b∈c)(e:h.get? b=some o):(b,o)∈ow c h:=Zt.mpr ⟨b,a,by rw[e];rfl⟩
def Fo(hp:p∈ow c h):p.1∈c/\h.get? p.1=some p.2:=by
 obtain⟨b,a,e⟩:=Zt.mp hp;cases q:h.get? b with
 | none=>rw[q] at e;cases e
 | some o=>
  rw[q] at e;have d:(b,o)=p:=Option.some.inj e;subst d;exact⟨a,q⟩
def Inv.pinned(I:Inv X pins σ H s)(h:∀b∈c,eG X pins H b)(g:∀b∈c,∃o,s.heap.get? b=some o/\∀v,o.data≠.cell v):Inv X (pins++ow c s.heap) σ H s:=
 I.DA λp hp=>(Xi.mp hp).elim (λz=>I.pin p (W9 _ z)) λz=>by
  obtain⟨a,e⟩:=Fo z;obtain⟨f0,j,i,_⟩:=h p.1 a;obtain⟨o,f,d⟩:=g p.1 a;rw[e] at f;cases f;exact⟨e,f0,j,i,d⟩
def Inv.i4(I:Inv X (pins++pl) σ H s):Inv X pins σ H s:=I.DA λp hp=>I.pin p (W9 _ (Aad _ hp))
def OF(hp:PassesOwn (model X.prog X.w) X.A X.env X.xe)(hc:X.calm=true)(hi:PI X tg iter wi)(hg:PG X tg g)(p:AK X body tb)(hs:∀x,foldedSetIterable iter X.env x=pure x:=by intro _;rfl):PS X (.For tg iter body [] pos) (Rk wi g tb):=by
 intro c s Y H D I h;refine wpAny_For (b5 (hi c s Y H _ I h) λv s1 h1=>b5 h1 λitv s2 h2=>?_) hs;obtain⟨it,M,Z,J,H2,e,I2,T,Q,f2,W,⟨m0,w0⟩,E⟩:=h2;subst e;have l:∀{y:Hp},(∀b∈M,y b=none)->∀b∈M,eG X c y b:=λhn b p=>⟨hn b p,(f2 b p).2⟩;refine codeAny_forLoop_any (λn s'=>∃i k y,Inv X c k y s'/\Z i s'.heap/\(∀b∈M,y b=none)/\W i n k y) ?_ m0 ⟨0,Y,H2,I2,Q,λb p=>(f2 b p).1,w0⟩;rintro n s3 ⟨i,j,O,I3,F,L,w3⟩;rcases E i n j O w3 with⟨stop,qn⟩ |⟨go,N,hN,step⟩
 ·refine Y2 hp (b5 (T.done X rfl rfl rfl hc i c s3 j O X.xe I3 (l L) F stop) λr s4 u9=>?_);obtain⟨hr,I4⟩:=u9;subst hr;exact Aak ⟨j,O,I4,qn⟩
 ·refine Y2 hp (b5 (T.item X rfl rfl rfl hc i c s3 j O X.xe I3 (l L) F go) λr s4 u9=>?_);obtain⟨u,hr,h4⟩:=u9;subst hr;refine Y2 hp (b5 h4 λ_ s5 u9=>?_);obtain⟨x,H5,I5,r5,y5,C,S⟩:=u9;have U:=I5.pinned (l S) (T.obj _ _ C);refine Y2 hp (b5 (hg _ s5 j H5 x u _ U r5 (step x H5 y5)) λ_ s6 u9=>?_);obtain⟨P,H6,I6,q6⟩:=u9;refine Y2 hp (b5 (p _ s6 P H6 _ I6 q6) λf R z=>?_);have again:∀{a:St} {t:Hp},Inv X (c++ow M s5.heap) a t R->N a t->∃m,m < n/\∃i k y,Inv X c k y R/\Z i R.heap/\(∀b∈M,y b=none)/\W i m k y:=λ{a t} q G=>by
   obtain⟨m',hm,w7⟩:=hN a t G;refine⟨m',hm,i+1,a,t,q.i4,T.keep _ _ _ C λb p o e=>(q.pin (b,o) (W9 _ (W9 _ (eB p e)))).1,λb p=>?_,w7⟩;obtain⟨o,e,d⟩:=T.obj _ _ C b p;exact(q.pin (b,o) (W9 _ (W9 _ (eB p e)))).2.1
  cases f with
  | next=>obtain⟨a,t,q,G⟩:=z;exact again q G
  | cont=>obtain⟨a,t,q,G⟩:=z;exact again q G
  | brk=>obtain⟨a,t,q,z⟩:=z;exact⟨a,t,q.i4,z⟩
  | ret v=>obtain⟨x7,a,t,q,r7,z⟩:=z;exact⟨x7,a,t,q.i4,r7,z⟩
abbrev R2:=V->V->Hp->VK->Prop
def lu(X:Cx)(f:Value->Value->Sem Value)(r:R2):Prop:=
 ∀(a:List (Addr×Obj)) (s:Shared) (b:St) (H:Hp) (x y:V) (v u:Value) (Q:VK),Inv X a b H s->RelV x v->RelV y u->r x y H Q->
  wpAny (model X.prog X.w) X.A (f v u) (EP X a b Q) X.xe s
def Th(X:Cx)(f:Value->Sem Value)(r:V->Hp->VK->Prop):Prop:=
 ∀(a:List (Addr×Obj)) (s:Shared) (b:St) (H:Hp) (x:V) (v:Value) (Q:VK),Inv X a b H s->RelV x v->r x H Q->
  wpAny (model X.prog X.w) X.A (f v) (EP X a b Q) X.xe s
def eU(X:Cx)(f:Value)(r:List V->Hp->VK->Prop):Prop:=
 ∀(a:List (Addr×Obj)) (s:Shared) (b:St) (H:Hp) (c:List V) (us:List Value) (Q:VK),Inv X a b H s->Vals c us->r c H Q->
  wpAny (model X.prog X.w) X.A (call f us) (EP X a b Q) X.xe s
def VA(X:Cx)(r:V->Hp->(Bool->Hp->Prop)->Prop):Prop:=
 ∀(a:List (Addr×Obj)) (s:Shared) (b:St) (H:Hp) (x:V) (v:Value) (Q:Bool->Hp->Prop),Inv X a b H s->RelV x v->r x H Q->
  wpAny (model X.prog X.w) X.A (truthy v) (TP X a b Q) X.xe s
def Rg(r:R2)(c b:TE):TE:=λa H Q=>c a H λx e=>b a e λy d=>r x y d Q
def V5(r:V->Hp->VK->Prop)(b:TE):TE:=λa H Q=>b a H λx c=>r x c Q
def rI(C:Int->Int->Prop)(g:Int->Int->V):R2:=λx y H Q=>∃i j,x=.int i/\y=.int j/\C i j/\Q (g i j) H
def HB(g:Int->Int->V):R2:=λx y H Q=>∃i j,x=.int i/\y=.int j/\Q (g i j) H
def rU(g:Int->V):V->Hp->VK->Prop:=λx H Q=>∃i,x=.int i/\Q (g i) H
def Qp(t:PE X a m)(r:PE X b l){c:List (Addr×Obj)}{s:Shared}{d:St}{H:Hp}{R:V->V->Hp->Prop}(I:Inv X c d H s)
  (h:m d H λx k=>l d k λy e=>R x y e) {Q:Value->Shared->Prop} {f:Value->Value->Sem Value}
  (hf:∀v u j x y e,Inv X c d e j->RelV x v->RelV y u->R x y e->wpAny (model X.prog X.w) X.A (f v u) Q X.xe j):
  wpAny (model X.prog X.w) X.A (eval a X.env) (λv i=>wpAny (model X.prog X.w) X.A (eval b X.env) (λu g=>wpAny (model X.prog X.w) X.A (f v u) Q X.xe g) X.xe i) X.xe s:=by
 refine b5 (t c s d H _ I h) λv s1 u9=>?_;obtain⟨x,k,C,o,q⟩:=u9;refine b5 (r c s1 d k _ C q) λu j u9=>?_;obtain⟨y,e,z,n,p⟩:=u9;exact hf v u j x y e z o n p
def M1{d:Operator}{r:R2}(l:lu X (binaryOp d) r)(n:PE X a g)(m:PE X b f):PE X (.BinOp a d b pos) (Rg r g f):=by
 intro c s e H Q I h;exact wpAny_BinOp (Qp n m I h λv u i x y p o k j q=>l c i e p x y v u Q o k j q)
def RW(g:Th X (unaryOp op) r)(i:PE X a d):PE X (.UnaryOp op a pos) (V5 r d):=by
 intro b s c H Q I h;exact UnaryOp_ (b5 (i b s c H _ I h) λv s1 ⟨x,H1,j,e,f⟩=>g b s1 c H1 x v Q j e f)
def TZ{f:Value->Value->Sem Value}{C:Int->Int->Prop}{g:Int->Int->Int}
  (rule:∀(i j:Int)(t u:Tok)(s:Shared)(Q:Value->Shared->Prop)(E:Value->Shared->Prop),C i j->Q (.int (g i j) s.toks) {s with toks:=s.toks+1}->wpAny (model X.prog X.w) X.A (f (.int i t) (.int j u)) Q E s):
  lu X f (rI C λi j=>.int (g i j)):=by
 intro a s k H x y v u Q I d c h;obtain⟨i,j,rfl,rfl,e,q⟩:=h;obtain⟨t,rfl⟩:=d;obtain⟨b,rfl⟩:=c;exact rule i j t b s _ _ e ⟨.int (g i j),H,I.tok _,⟨_,rfl⟩,q⟩
def Pb{f:Value->Value->Sem Value}{g:Int->Int->Int}
  (rule:∀(i j:Int)(t u:Tok)(s:Shared)(Q:Value->Shared->Prop)(E:Value->Shared->Prop),Q (.int (g i j) s.toks) {s with toks:=s.toks+1}->wpAny (model X.prog X.w) X.A (f (.int i t) (.int j u)) Q E s):
  lu X f (HB λi j=>.int (g i j)):=by
 intro a s e H x y v u Q I d c h;obtain⟨i,j,rfl,rfl,q⟩:=h;obtain⟨t,rfl⟩:=d;obtain⟨b,rfl⟩:=c;exact rule i j t b s _ _ ⟨.int (g i j),H,I.tok _,⟨_,rfl⟩,q⟩
def Lr{f:Value->Value->Sem Value}{g:Int->Int->Bool}
  (rule:∀(i j:Int)(t u:Tok)(s:Shared)(Q:Value->Shared->Prop)(E:Value->Shared->Prop),Q (.bool (g i j)) s->wpAny (model X.prog X.w) X.A (f (.int i t) (.int j u)) Q E s):
  lu X f (HB λi j=>.bl (g i j)):=by
 intro a s e H x y v u Q I d c h;obtain⟨i,j,rfl,rfl,q⟩:=h;obtain⟨t,rfl⟩:=d;obtain⟨b,rfl⟩:=c;exact rule i j t b s _ _ ⟨.bl (g i j),H,I,rfl,q⟩
def VH(i j:Int):Prop:=0<=j/\j<=1000000/\i.natAbs < 2^64
def QI(i j:Int):Prop:=(-(2^64) < i/\i < 2^64)\/(-(2^64) < j/\j < 2^64)
def QI.ok(h:QI i j):IntMulOk i j:=by
 rcases h with⟨b,a⟩ |⟨b,a⟩
 ·exact .of_left (intBits_le_64 b a)
 ·exact .of_right (intBits_le_64 b a)
def Pa:lu X (binaryOp .Add) (HB λi j=>.int (i+j)):=Pb λ_ _ _ _ _ _ _ q=>add_int q
def O4:lu X (binaryOp .Sub) (HB λi j=>.int (i-j)):=Pb λ_ _ _ _ _ _ _ q=>sub_int q
def O7:lu X (binaryOp .Mult) (rI QI λi j=>.int (i*j)):=TZ λ_ _ _ _ _ _ _ a q=>mul_int q a.ok
def O8:lu X (binaryOp .Mod) (rI (λ_ j=>0 < j) λi j=>.int (i % j)):=TZ λi j _ _ _ _ _ a q=>by
 have b:(0:Int) < j:=a;exact mod_int' (by lia) (by rw[Int.fmod_eq_emod_of_nonneg i (Abt b)];exact q)
def O6:lu X (binaryOp .Pow) (rI VH λi j=>.int (i^j.toNat)):=TZ λ_ _ _ _ _ _ _ a q=>pow_int_small a.1 a.2.1 a.2.2 q
def LR:lu X (inplaceOp .Add) (HB λi j=>.int (i+j)):=Pb λ_ _ _ _ _ _ _ q=>iadd_int q
def V4{f:Value->Sem Value}{g:Int->Int}
  (rule:∀(i:Int)(t:Tok)(s:Shared)(Q:Value->Shared->Prop)(E:Value->Shared->Prop),Q (.int (g i) s.toks) {s with toks:=s.toks+1}->wpAny (model X.prog X.w) X.A (f (.int i t)) Q E s):
  Th X f (rU λi=>.int (g i)):=by
 intro a s c H x v Q I b h;obtain⟨i,rfl,q⟩:=h;obtain⟨t,rfl⟩:=b;exact rule i t s _ _ ⟨.int (g i),H,I.tok _,⟨_,rfl⟩,q⟩
def Nz:Th X (unaryOp .USub) (rU λi=>.int (-i)):=V4 λ_ _ _ _ _ q=>neg_int q
def IT(I:Inv X pins σ H s)(q:Q (.bl k) H)(e:k=a):EP X pins σ Q (.bool a) s:=by
 subst e;exact⟨.bl k,H,I,rfl,q⟩
def R8:lu X (compareOp .Lt) (HB λi j=>.bl (decide (i < j))):=Lr λ_ _ _ _ _ _ _ q=>lt_int q
def R9:lu X (compareOp .LtE) (HB λi j=>.bl (decide (i<=j))):=Lr λ_ _ _ _ _ _ _ q=>le_int q
def Sa:lu X (compareOp .Gt) (HB λi j=>.bl (decide (j < i))):=Lr λ_ _ _ _ _ _ _ q=>gt_int q
def Sd:lu X (compareOp .GtE) (HB λi j=>.bl (decide (j<=i))):=Lr λ_ _ _ _ _ _ _ q=>ge_int q
def O9:lu X (compareOp .Is) (λx y H Q=>y=.bo/\Q (.bl (decide (x=.bo))) H):=by
 intro b s d H x y v u Q I a c h;obtain⟨rfl,q⟩:=h;cases c;refine is_none_gen (IT I q ?_);cases x <;> first
  |(cases a;rfl)
  |(obtain⟨t,rfl⟩:=a;rfl)
def Lp:lu X (compareOp .IsNot) (λx y H Q=>y=.bo/\Q (.bl (!decide (x=.bo))) H):=by
 intro b s d H x y v u Q I a c h;obtain⟨rfl,q⟩:=h;cases c;refine isnot_none_gen (IT I q ?_);cases x <;> first
  |(cases a;rfl)
  |(obtain⟨t,rfl⟩:=a;rfl)
def sr(b:Expr)(h:op≠.In:=by decide)(a:op≠.NotIn:=by decide):behindInMarks op b=false:=by
 have d:(op==CmpOp.In)=false:=by cases op <;> first | rfl | exact absurd rfl h
 have c:(op==CmpOp.NotIn)=false:=by cases op <;> first | rfl | exact absurd rfl a
 cases b <;> simp[behindInMarks,d,c]
def Lk{d:CmpOp}{r:R2}(l:lu X (compareOp d) r)(n:PE X a g)(m:PE X b f)(hm:behindInMarks d b=false):PE X (.Compare a [d] [b] pos) (Rg r g f):=by
 intro c s e H Q I h;exact wpAny_Compare1 (Qp n m I h λv u i x y p o k j q=>l c i e p x y v u Q o k j q) hm
def Q9(t:TE):TT:=λa H Q=>t a H λx b=>∃k,x=.bl k/\Q k b
def KW(q:lu X (compareOp op) r)(w:PE X a i)(t:PE X b g)(hm:behindInMarks op b=false):PT X (.Compare a [op] [b] pos) (Q9 (Rg r i g)):=by
 intro d s f H Q I h;refine wpAny_isTrue_Compare1 (b5 (w d s f H _ I h) λv s1 ⟨x,H1,E,m,p⟩=>b5 (t d s1 f H1 _ E p) λu s2 ⟨y,G,C,l,o⟩=>
  b5 (q d s2 f G x y v u _ C m l o) λc s3 ⟨z,F,A,j,k,e,n⟩=>?_) hm
 subst e;cases j;exact Yr ⟨F,A,n⟩
def GC(r g:R2)(f e d:TE):TE:=λa H Q=>f a H λx j=>e a j λy i=>r x y i λz b=>∃k,z=.bl k/\
 (if k=true then d a b λc h=>g y c h Q else Q (.bl false) b)
def HZ(N:lu X (compareOp op) r)(j:lu X (compareOp i) G)(R:PE X a A)(P:PE X b w)(O:PE X c t)(hm:lastMarks [op,i] [b,c]=false:=by with_unfolding_all rfl):PE X (.Compare a [op,i] [b,c] pos) (GC r G A w t):=by
 intro f s g H Q I h;refine Compare_chain (b5 (R f s g H _ I h) λv s1 ⟨x,H1,U,F,M⟩=>chain_link (b5 (P f s1 g H1 _ U M) λu s2 ⟨y,Z,T,l,L⟩=>
  b5 (N f s2 g Z x y v u _ T F l L) λd s3 ⟨z,o,n,E,k,e,m⟩=>?_)) hm
 subst e;cases E;refine Yr ?_;cases k with
 | false=>exact ite_ff ⟨.bl false,o,n,rfl,m⟩
 | true=>exact ite_tt (chain_last (b5 (O f s3 g o _ n m) λq s4 ⟨p,Y,S,C,J⟩=>j f s4 g Y y p u q Q S l C J))
def Qv(K:FR)(x:V)(H:Hp)(k:Bool):Prop:=
 match x with
 | .bo=>k=false
 | .bl b=>k=b
 | .int i=>k=(i !=0)
 | .str y=>y.length<=sizeLine/\k=((y.length:Int) !=0)
 | .byt y=>y.size<=sizeLine/\k=((y.size:Int) !=0)
 | .ref p=>(∃a,eV K H p a/\k=!a.isEmpty)\/(∃a,iZ K H p a/\k=!a.isEmpty)\/∃c,H p=some (.dK c)/\k=!c.isEmpty
 | _=>False
def B4(r:KV a b):(!b.isEmpty)=!a.isEmpty:=by
 cases r <;> rfl
def sF(r:Vals xs a):(!a.toArray.isEmpty)=!xs.isEmpty:=by
 cases r <;> simp
def kX:(sizeLine:Nat) < 2^63:=by rw[XR];decide
def ND:VA X (λx H Q=>∃k,Qv X.K x H k/\Q k H):=by
 intro o s C H x v Q I g h;obtain⟨k,e,q⟩:=h;have hl:=kX;have E:sizeLine=16777216:=XR;cases x with
 | bo=>
  cases g;have a:k=false:=e;subst a;exact truthy_none ⟨H,I,q⟩
 | bl b=>
  cases g;have a:k=b:=e;subst a;exact Yr ⟨H,I,q⟩
 | int i=>
  obtain⟨t,rfl⟩:=g;have a:k=(i !=0):=e;subst a;exact PySem.P.truthy_int ⟨H,I,q⟩
 | str y=>
  obtain⟨t,rfl⟩:=g;obtain⟨z,a⟩:y.length<=sizeLine/\k=((y.length:Int) !=0):=e;subst a;exact PySem.P.truthy_str (by lia) ⟨H,I.tok _,q⟩
 | byt y=>
  obtain⟨t,rfl⟩:=g;obtain⟨z,a⟩:y.size<=sizeLine/\k=((y.size:Int) !=0):=e;subst a;exact PySem.W.truthy_bytes (WL z (by decide)) ⟨H,I.tok _,q⟩
 | ref p=>
  cases g;have a:(∃f,eV X.K H p f/\k=!f.isEmpty)\/(∃f,iZ X.K H p f/\k=!f.isEmpty)\/∃c,H p=some (.dK c)/\k=!c.isEmpty:=e;rcases a with⟨f,j,a⟩ |⟨f,j,a⟩ |⟨c,j,a⟩
  ·subst a;obtain⟨n,r,pl,u⟩:=I.list j;have d:=r.length;exact wpAny_truthy_list pl.isList (by simp only[WT];lia) ⟨H,I.tok _,by rw[sF r];exact q⟩
  ·subst a;obtain⟨n,r,pl,u⟩:=I.tuple j;have d:=r.length;exact truthy_tuple pl (by simp only[WT];lia) ⟨H,I.tok _,by rw[sF r];exact q⟩
  ·subst a;obtain⟨u,A,l,r,m⟩:c.length<=sizeLine/\(p==sysModules)=false/\∃l,KV c l/\s.heap.DictOf (bu X.prog X.w) p l:=I.a8 p _ j;have d:c.length=l.length:=Paired.length r;exact wpAny_truthy_dict A m (by lia) ⟨H,I.tok _,by rw[B4 r];exact q⟩
 | _=>exact(show False from e).elim
def HG(l:PE X a f)(j:∀b,isTrue a X.env b=(do let v<-b;standAt a.pos;holding [v] (truthy v))):
  PT X a (λd H Q=>f d H λx e=>∃k,Qv X.K x e k/\Q k e):=by
 intro c s d H Q I h;exact isTrue_plain (b5 (l c s d H _ I h) λv s1 ⟨x,H1,m,g,i⟩=>ND c s1 d H1 x v Q m g i) (j _)
def BL:lu X (binaryOp .Add) (λx y H Q=>∃i j,x=.str i/\y=.str j/\i.length+j.length<=sizeLine/\Q (.str (i++j)) H):=by
 intro a s f H x y v u Q I d c h;obtain⟨i,j,rfl,rfl,e,q⟩:=h;obtain⟨t,rfl⟩:=d;obtain⟨b,rfl⟩:=c;exact add_str (λb g=>⟨.str (i++j),H,I.tok _,⟨_,rfl⟩,q⟩) e
def vals1(r:Vals [x] us):∃u,us=[u]/\RelV x u:=by
 cases r with
 | cons b a=>cases a;exact⟨_,rfl,b⟩
def vals2(r:Vals [x,y] us):∃u a,us=[u,a]/\RelV x u/\RelV y a:=by
 cases r with
 | cons e d=>
  cases d with
  | cons c b=>cases b;exact⟨_,_,rfl,e,c⟩
def Jv:eU X (.builtin "abs") (λa H Q=>∃i,a=[.int i]/\Q (.int (if i < 0 then -i else i)) H):=by
 intro b s c H a us Q I r h;obtain⟨i,rfl,q⟩:=h;obtain⟨u,rfl,t,rfl⟩:=vals1 r;exact call_abs_int λu d=>⟨.int (if i < 0 then -i else i),H,I.tok _,⟨_,rfl⟩,q⟩
def F1(c:X.calm=true):eU X (.builtin "max") (λa H Q=>∃i j,a=[.int i,.int j]/\Q (.int (if j > i then j else i)) H):=by
 intro b s d H a us Q I r h;obtain⟨i,j,rfl,q⟩:=h;obtain⟨u,e,rfl,⟨t,rfl⟩,⟨g,rfl⟩⟩:=vals2 r;refine max_two_ints (I.ok.hd c) λl f k=>⟨_,H,I.kept k,?_,q⟩
 by_cases hj:j > i
 ·rw[WC hj,WC hj];exact⟨_,rfl⟩
 ·rw[WE hj,WE hj];exact⟨_,rfl⟩
def F0(c:X.calm=true):eU X (.builtin "min") (λa H Q=>∃i j,a=[.int i,.int j]/\Q (.int (if j < i then j else i)) H):=by
 intro b s d H a us Q I r h;obtain⟨i,j,rfl,q⟩:=h;obtain⟨u,e,rfl,⟨t,rfl⟩,⟨g,rfl⟩⟩:=vals2 r;refine min_two_ints (I.ok.hd c) λl f k=>⟨_,H,I.kept k,?_,q⟩
 by_cases hj:j < i
 ·rw[WC hj,WC hj];exact⟨_,rfl⟩
 ·rw[WE hj,WE hj];exact⟨_,rfl⟩
structure QF(h:Heap)(x dx C:Addr)(mA:Str->Option Value):Prop where
 obj:h.get? x=some (PySem.W.instObj C dx)
 ns:h.Ns1 dx mA
 ne:dx≠x
def Fq{h:Heap}{g:Addr}{d:Str->Option Value}(n:h.Ns1 g d):∃c,h.get? g=some c/\∀name,PySem.W.lookIn name c=some (d name):=by
 obtain⟨o,f,m,j,hd,k,_,hm⟩:=n;refine⟨o,j,λname=>?_⟩;have e:=hm name;unfold nsFind findBy at e;rw[<-Array.find?_toList] at e;unfold PySem.W.lookIn;rw[hd];dsimp only
 split
 ·rename_i y q;rw[q] at e;exact congrArg some e
 ·rename_i q;rw[q] at e;have a:f.toList.any (·.refKey)=false:=by
   rw[List.any_eq_false];intro y i;obtain⟨z,t,b⟩:=k y (Yl.mp i);simp[DictEntry.refKey,b]
  have l:¬f.toList.any (·.refKey)=true:=by rw[a];exact W8
  rw[WE l];exact congrArg some e
def QF.look(I:QF h x d C b):∃a,PySem.W.InstAt h x (PySem.W.instObj C d) C (some a)/\∀name,PySem.W.lookIn name a=some (b name):=
 let⟨a,c,hl⟩:=Fq I.ns
 ⟨a,⟨I.obj,rfl,rfl,c⟩,hl⟩
section
variable {prog:Program} {w:World} {A:Around} {E:Value->Shared->Prop} {s:Shared} {K:FR} {x dx C f:Addr} {mA:Str->Option Value} {name:Str} {v:Value}
end
def tF.some_of(r:tF (some v) o):∃u,o=some u/\RelV v u:=by
 cases o with
 | none=>exact(show False from r).elim
 | some u=>exact⟨u,rfl,r⟩
def LU(a8:hW P w H h)(e:H a=some (.ins C c fs)):∃b,QF h a c C b/\(∀f,tF (fs.lookup f) (b f))/\PySem.Within b (fs.map (·.1))/\fs.length<=1000/\H c=some (.own a):=by
 obtain⟨d,z,ne,ob,b,n,r,q⟩:=(show bY P w H h a (.ins C c fs) from a8 a _ e);exact⟨b,⟨ob,n,ne⟩,r,q,z,d⟩
structure VG(K:FR)(C:Addr):Prop where
 pg:PySem.W.plainGet K C Str.empty=true
 hd:PySem.W.hasDictIn K C=true
 po:PySem.W.plainOver K C=true
 sa:PySem.W.findIn K (.ref C) "__setattr__"=some (some (.builtin "object.__setattr__"))
def VG.get{K:FR}{C:Addr}(c:VG K C)(f:Str):PySem.W.plainGet K C f=true:=c.pg
inductive nB(K:FR)(H:Hp):V->Value->Prop where
 | bo:nB K H .bo (.type "NoneType")
 | bl (x:Bool):nB K H (.bl x) (.type "bool")
 | int (i:Int):nB K H (.int i) (.type "int")
 | str (x:Str):nB K H (.str x) (.type "str")
 | QQ (x:UInt64):nB K H (.QQ x) (.type "float")
 | lst {a:Addr} {xs:List V} (e:H a=some (.lst xs)):nB K H (.ref a) (.type "list")
 | DY {a:Addr} {o:Obj} {xs:List V} (e:H a=some (.DY o (.lst xs))):nB K H (.ref a) (.type "list")
 | tup {a:Addr} {xs:List V} (e:H a=some (.tup xs)):nB K H (.ref a) (.type "tuple")
 | dK {a:Addr} {kvs:List (Key×V)} (e:H a=some (.dK kvs)):nB K H (.ref a) (.type "dict")
 | dT {a:Addr} {kvs:List (List Key×V)} (e:H a=some (.dT kvs)):nB K H (.ref a) (.type "dict")
 | ins {a C dx:Addr} {fs:List (Str×V)} (e:H a=some (.ins C dx fs)) (cl:VG K C) (ha:PySem.W.findIn K (.ref C) "__class__"=some (some (.builtin "object.__class__")))
   (hn:PySem.W.specialIn K (.builtin "object.__class__") "__get__"=some (some (.builtin "getset_descriptor.__get__"))) (htk:PySem.W.takesIn K (.builtin "object.__class__")=some true)
   (hm:PySem.W.mroIn K C (.type "object")=some true):nB K H (.ref a) (.ref C)
def Fy(I:Inv X pins σ H s)(d:RelV x u)(ty:nB X.K H x t)(e:PySem.W.kitOne X.K t c=some b)(h:∀r,Q (.bool b) {s with toks:=r}):
  wpAny (model X.prog X.w) A (call (.builtin "isinstance") [u,c]) Q E s:=by
 cases ty with
 | bo=>cases(show u=Value.none from d);exact XN PySem.W.kitx_none I.vJ True.intro e (λz=>nomatch z) h
 | bl y=>cases(show u=Value.bool y from d);exact XN PySem.W.kitx_bool I.vJ True.intro e (λz=>nomatch z) h
 | int i=>obtain⟨t,q⟩:=(show ∃t,u=Value.int i t from d);cases q;exact XN PySem.W.kitx_int I.vJ True.intro e (λz=>nomatch z) h
 | str y=>obtain⟨t,q⟩:=(show ∃t,u=Value.str y t from d);cases q;exact XN PySem.W.kitx_str I.vJ True.intro e (λz=>nomatch z) h
 | QQ y=>obtain⟨t,q⟩:=(show ∃t,u=Value.float y t from d);cases q;exact XN PySem.W.kitx_float I.vJ True.intro e (λz=>nomatch z) h
 | @lst a k f=>
  cases(show u=Value.ref a from d);obtain⟨_,_,n,_,g⟩:=(show bY X.prog X.w H s.heap a (.lst k) from I.a8 a _ f);exact XN PySem.W.kitx_list I.vJ ⟨_,g,rfl⟩ e (λz=>nomatch z) h
 | @DY a ob k f=>
  cases(show u=Value.ref a from d);obtain⟨_,_,_,n,_,g⟩:=(show bY X.prog X.w H s.heap a (.DY ob (.lst k)) from I.a8 a _ f);exact XN PySem.W.kitx_list I.vJ ⟨_,g,rfl⟩ e (λz=>nomatch z) h
 | @tup a k f=>
  cases(show u=Value.ref a from d);obtain⟨_,_,_,p⟩:=(show bY X.prog X.w H s.heap a (.tup k) from I.a8 a _ f);obtain⟨o,g,l,_⟩:=p;exact XN PySem.W.kitx_tuple I.vJ ⟨o,g,l⟩ e (λz=>nomatch z) h
 | @dK a j f=>
  cases(show u=Value.ref a from d);obtain⟨_,_,L,_,p⟩:=(show bY X.prog X.w H s.heap a (.dK j) from I.a8 a _ f);obtain⟨o,F,G,g,l,_⟩:=p;exact XN PySem.W.kitx_dict I.vJ ⟨o,g,l.1⟩ e (λz=>nomatch z) h
 | @dT a j f=>
  cases(show u=Value.ref a from d);obtain⟨_,_,k,_,o,F,G,g,l,_⟩:=(show bY X.prog X.w H s.heap a (.dT j) from I.a8 a _ f);exact XN PySem.W.kitx_dict I.vJ ⟨o,g,l.1⟩ e (λz=>nomatch z) h
 | @ins a C P fs f cl v hn m hm=>
  cases(show u=Value.ref a from d);obtain⟨N,O,_⟩:=LU I.a8 f;obtain⟨M,J,_⟩:=O.look;exact XN (PySem.W.kitx_own (cl.get _) cl.hd v hn m hm) I.vJ J e (λz=>nomatch z) h
structure eF(k:Nat)(A:Around):Prop where
 hd:A.handled=none
 dp:A.depth+3*k+5 < recursionLimit
 un:A.units+16*k+200 < cLine
def MU{a k c d x L:Nat}(b:x<=c)(h:a+c*(k+1)+d < L):a+x+c*k+d < L:=by rw[Nat.mul_succ] at h;lia
def eF.mono(r:eF k A)(h:j<=k):eF j A:=⟨r.hd,Xk (Aab (Zm (Nat.mul_le_mul_left 3 h) _) 5) r.dp,Xk (Aab (Zm (Nat.mul_le_mul_left 16 h) _) 200) r.un⟩
theorem eF.deeper(r:eF (k+1) A)(env:Env):eF k (A.deeper env):=
 ⟨r.hd,MU (x:=1) (by decide) r.dp,MU (x:=3) (by decide) r.un⟩
theorem eF.depth(r:eF k A):A.depth < recursionLimit:=by have:=r.dp;lia
theorem eF.units(r:eF k A):A.units+64 < cLine:=Xk (WL (Zm (by decide:64<=200) _) (Aab (Xn _ _) 200)) r.un
def Ut:TA:=λ_ H Q=>Q [] H
def Rm(c:TE)(tr:TA):TA:=λa H Q=>c a H λx e=>tr a e λb d=>Q (x::b) d
def Ib:PA X [] Ut:=λ_ _ _ _ H Q I h=>AaV ⟨[],H,I,.nil,h⟩
def DD(l:PE X e d)(hr:PA X b t)(k:starEach (e::b) X.env=(false,eval e X.env)::starEach b X.env:=by rfl):PA X (e::b) (Rm d t):=by
 intro pos a s c H Q I h;rw[k];show wpAny _ _ (spliced ((false,eval e X.env)::backTo pos (starEach b X.env))) _ _ s;refine AaJ (b5 (l a s c H _ I h) λu s1 u9=>?_);obtain⟨x,H1,n,g,j⟩:=u9;exact b5 (hr pos a s1 c H1 _ n j) λus s2 ⟨xs,o,m,f,i⟩=>⟨x::xs,o,m,.cons g f,i⟩
def Uo(t:TA):TE:=λc H Q=>t c H λa b=>a.length<=sizeLine/\∀p,b p=none->Q (.ref p) (upd b p (.tup a))
def Uv(t:TA):TE:=λc H Q=>t c H λa b=>a.length<=sizeLine/\∀p,b p=none->Q (.ref p) (upd b p (.lst a))
def ON{f}(h:PA X j t):PE X (.Tuple j f pos) (Uo t):=by
 intro a s d H Q I g;refine wpAny_Tuple_spliced (b5 (h pos a s d H _ I g) λus s1 ⟨xs,H1,c,r,z,q⟩=>⟨by rw[<-r.length];exact z,?_⟩);have i:H1 s1.heap.objs.size=none:=c.a8.fresh (WB _);refine⟨.ref s1.heap.objs.size,upd H1 s1.heap.objs.size (.tup xs),c.laid (t':=s1.toks) (λb u e=>Wu _ e) (WB _) ?_,rfl,q _ i⟩;exact⟨z,us,r,⟨_,WK _ rfl,rfl,⟨_,rfl⟩,rfl⟩⟩
def OT(h:PA X i t):PE X (.List i pos) (Uv t):=by
 intro a s d H Q I f;refine wpAny_List_spliced (b5 (h pos a s d H _ I f) λus s1 ⟨xs,H1,c,r,z,q⟩=>⟨by rw[<-r.length];exact z,?_⟩);have g:H1 s1.heap.objs.size=none:=c.a8.fresh (WB _);refine⟨.ref s1.heap.objs.size,upd H1 s1.heap.objs.size (.lst xs),c.laid (t':=s1.toks) (λb u e=>Wu _ e) (WB _) ?_,rfl,q _ g⟩;exact⟨z,us,0,r,WK _ rfl⟩
abbrev Sp:=List V->Hp->VK->XK->Prop
abbrev MF:=List Env->Hp->Shared->XK->Value->Shared->Prop
structure MD(P:Program)(w:World)(K:FR)(mg:Str->Option Value)(base:Heap)(A:Around)(outer:List Env)(s:Shared)(H:Hp):Prop where
 frames:A.frames=some outer
 mod:Mod K mg base
 bs:∀b o,base.get? b=some o->s.heap.get? b=some o/\H b=none
 Nh:base.objs.size<=s.heap.objs.size
 sI:s.heap.FunFrames base outer
 QP:∀b∈Gg outer,H b=none
 a8:hW P w H s.heap
 bare:AllBare s.gens
def CE(outer:List Env)(P:Program)(w:World)(H:Hp)(s:Shared)(Q:VK)(u:Value)(a:Shared):Prop:=
 ∃v b,a.os=s.os/\AllBare a.gens/\Un (Gg outer) [] H b s.heap a.heap/\hW P w b a.heap/\RelV v u/\Q v b
def CR(b:MF)(outer:List Env)(P:Program)(w:World)(H:Hp)(s:Shared)(Q:VK)(E:XK)(r:Result)(a:Shared):Prop:=
 match r with
 | .ok (.ret u)=>CE outer P w H s Q u a
 | .ok _=>False
 | .error e=>b outer H s E e a
structure f9(P:Program)(w:World)(K:FR)(mg:Str->Option Value)(base:Heap)(CX:MF)(k:Nat)(f:Addr)(fd:FuncData)(ps:List Str)(sp:Sp):Prop where
 len:∀vs H Q E,sp vs H Q E->vs.length=ps.length
 run:∀(A:Around)(outer:List Env)(s:Shared)(H:Hp)(args:Args)(us:List Value)(vs:List V)(Q:VK)(E:XK),eF k A->MD P w K mg base A outer s H->BindsTo s fd args (ps.zip us)->Vals vs us->sp vs H Q E->
  codeAny (model P w) A (.call (.ref f) args) (CR CX outer P w H s Q E) s
def f9.imp{P:Program}{w:World}{K:FR}{mg:Str->Option Value}{base:Heap}{e:MF}{k:Nat}{f:Addr}{d:FuncData}{c:List Str}{sp b:Sp}(F:f9 P w K mg base e k f d c sp)
  (h:∀a H Q E,b a H Q E->sp a H Q E):f9 P w K mg base e k f d c b:=
 ⟨λa H Q E q=>F.len a H Q E (h _ _ _ _ q),λA outer s H args us a Q E hr j l g i=>F.run A outer s H args us a Q E hr j l g (h _ _ _ _ i)⟩
def Inv.Vo(I:Inv X pins σ H s):MD X.prog X.w X.K X.mg X.base X.A X.stack s H:=
 ⟨I.ok.frames,I.ok.mod,I.bs,WL I.ok.Nh I.sz,I.stack,I.CZ,I.a8,I.bare⟩
def Inv.after(I:Inv X pins σ H s)(h:CE X.stack X.prog X.w H s Q u c):EP X pins σ Q u c:=by
 obtain⟨v,e,os,bare,un,a8,r,q⟩:=h;obtain⟨hh,g,d,t,a⟩:=c;obtain rfl:a=s.os:=os;exact⟨v,e,I.call (h':=hh) (g':=g) (d':=d) (t':=t) (ch:=[]) un a8 bare (λb z=>absurd z (by simp)),r,q⟩
def Ro(sp:Sp)(a:List V)(E:XK)(t:TA):TE:=λb H Q=>t b H λc d=>sp (c++a) d Q E
def Binds(K:FR)(c:FuncData)(a:List Str)(b:List Value):Prop:=
 ∀(s:Shared)(us:List Value),K.In s.heap->(us++b).length=a.length->BindsTo s c ⟨us,[]⟩ (a.zip (us++b))
def Binds.all{K:FR}{b:FuncData}{a:List Str}(h:∀us:List Value,us.length=a.length->bindArgs b ⟨us,[]⟩=pure (a.zip us)):Binds K b a []:=λs us _ hl=>by
 rw[XW] at hl ⊢;exact .of_eq (h us hl)
def Passes(d:MF)(X:Cx)(E:XK):Prop:=∀(a:List (Addr×Obj)) (c:St) (H:Hp) (s:Shared) (e:Value) (b:Shared),Inv X a c H s->d X.stack H s E e b->X.xe e b
def Hf(F:f9 X.prog X.w X.K X.mg X.base m k f fd g sp)(hr:eF k X.A)(l:Binds X.K fd g ds)(hd:Vals a ds)(j:Passes m X E)(I:Inv X pins σ H s)(r:Vals c us)(h:sp (c++a) H Q E):wpAny (model X.prog X.w) X.A (call (.ref f) us) (EP X pins σ Q) X.xe s:=by
 have d:Vals (c++a) (us++ds):=r.append hd;have hl:(us++ds).length=g.length:=by rw[<-d.length];exact F.len _ _ _ _ h
 refine wpAny_call (ZG (F.run X.A X.stack s H ⟨us,[]⟩ (us++ds) (c++a) Q E hr I.Vo (l s us I.vJ hl) d h) λr i b=>?_);cases r with
 | error e=>exact j pins σ H s e i I b
 | ok fl=>
  cases fl with
  | ret u=>exact I.after b
  | next=>exact False.elim b
  | brk=>exact False.elim b
  | cont=>exact False.elim b
def Ll(F:f9 X.prog X.w X.K X.mg X.base z k f fd l sp)(hr:eF k X.A)(o:Gl X x)(hm:X.mg x=some (.ref f))(n:PySem.W.keepIn X.K (.ref f)=true)(v:Binds X.K fd l ds)(hd:Vals g ds)(m:Passes z X E)
  (y:PA X (e::b) t) (d:(x==("__debug__":Str))=false:=by decide) (u:starEach (e::b) X.env=(false,eval e X.env)::starEach b X.env:=by rfl) (c:(backTo pos (starEach b X.env)).any (·.1)=false:=by rfl):
  PE X (.Call (.Name x p) (e::b) [] pos) (Ro sp g E t):=by
 intro a s j H Q I h;refine Ym (xJ I o hm ?_ d);refine PySem.W.callWith_K (h₀:=X.base) I.ok.mod.T8 n (b5 (y pos a s j H _ I h) λus s1 ⟨C,H1,i,r,q⟩=>⟨i.vJ,?_⟩) u c;exact Hf F hr v hd m i r q
structure ao(N P:List Str)(sc:Scope):Prop where
 kind:sc.kind=.function
 co:sc.isCoroutine=false
 gen:sc.isGenerator=false
 nd:N.Nodup
 pre:N.take P.length=P
 par:∀x∈P,sc.names.lookup x=some .local\/sc.names.lookup x=some .cell
 Pd:∀y∈sc.names,y.2≠.free
theorem vW{a:Str->Option NameKind}{x:Str}:∀{binds:List (Str×Value)} {m:Str->Option Value},(∀v,(x,v)∉binds)->bindL a binds m x=m x
 | [],_,_=>rfl
 |(n,v)::r,m,h=>by
  unfold bindL;rw[vW λw b=>h w (Wz _ b)]
  split
  ·have:x≠n:=by rintro rfl;exact h v Wy
   simp[this]
  ·rfl
theorem vX{a:Str->Option NameKind}{x:Str}:∀{binds:List (Str×Value)} {m:Str->Option Value},(∀v,(x,v)∉binds)->bindC a binds m x=m x
 | [],_,_=>rfl
 |(n,v)::r,m,h=>by
  unfold bindC;rw[vX λw b=>h w (Wz _ b)]
  split
  ·rfl
  ·have:x≠n:=by rintro rfl;exact h v Wy
   simp[this]
def F6{a:Str->Option NameKind}{x:Str}{v:Value}:∀{P:List Str} {b:List Value} {i:Nat} {m:Str->Option Value},P.Nodup->P[i]?=some x->b[i]?=some v->a x=some .local->
  bindL a (P.zip b) m x=some v:=by
 intro P
 induction P with
 | nil=>intro b i m _ h;cases h
 | cons p P f=>
 intro b i m nd e c d;cases b with
 | nil=>cases c
 | cons w b=>
 cases i with
 | zero=>
  cases e;cases c;show bindL a ((x,v)::P.zip b) m x=_;unfold bindL;rw[vW λv g=>(YA.mp nd).1 (AaM g).1,WC d];simp
 | succ i=>
  show bindL a ((p,w)::P.zip b) m x=_;unfold bindL;exact f (i:=i) (YA.mp nd).2 e c d
def F7{a:Str->Option NameKind}{x:Str}{v:Value}:∀{P:List Str} {b:List Value} {i:Nat} {m:Str->Option Value},P.Nodup->P[i]?=some x->b[i]?=some v->a x≠some .local->
  bindC a (P.zip b) m x=some v:=by
 intro P
 induction P with
 | nil=>intro b i m _ h;cases h
 | cons p P f=>
 intro b i m nd e c d;cases b with
 | nil=>cases c
 | cons w b=>
 cases i with
 | zero=>
  cases e;cases c;show bindC a ((x,v)::P.zip b) m x=_;unfold bindC;rw[vX λv g=>(YA.mp nd).1 (AaM g).1,WE d];simp
 | succ i=>
  show bindC a ((p,w)::P.zip b) m x=_;unfold bindC;exact f (i:=i) (YA.mp nd).2 e c d
noncomputable def start(N:List Str)(a:List V):St:=a.map some++List.replicate (N.length-a.length) none
abbrev Am(CX:MF)(P:Program)(w:World)(K:FR)(mg:Str->Option Value)(base:Heap)(N:List Str)(qual:Str)(scope:Scope)(f:Addr)(cd:Value)(A:Around)(outer:List Env)(s:Shared)(H:Hp)(E:XK):Cx where
 prog:=P
 w:=w
 K:=K
 mg:=mg
 base:=base
 A:=A.deeper (envOfC qual scope s.heap.objs.size f cd)
 N:=N
 s₀:=s
 H₀:=H
 env:=envOfC qual scope s.heap.objs.size f cd
 outer:=outer
 stack:=envOfC qual scope s.heap.objs.size f cd::outer
 ex:=[]
 calm:=true
 fn:=λ_=>true
 pn:=[]
 xe:=λe s'=>wpAny (model P w) (A.deeper (envOfC qual scope s.heap.objs.size f cd)) (leaving (envOfC qual scope s.heap.objs.size f cd) e) (λ_ s''=>CX outer H s E e s'') (λe' s''=>CX outer H s E e' s'') s'
def Av{a:Scope}{n:Nat}{x:Str}(h:a.names.lookup x=some .cell):∃c,(cellsFrom n a.names []).lookup x=some c:=by
 have q:=Abk a.names n [] (.inl h);exact ZJ.mp q
def FA{Q:MF}{P:Program}{w:World}{K:FR}{mg:Str->Option Value}{base:Heap}{N o:List Str}{g:Str}{d:Scope}{f:Addr}{J:Value}{A:Around}{outer:List Env}{s L:Shared}{H:Hp}{E:XK}{us:List Value}{m:List V}
  (S:ao N o d) (hd:A.handled=none) (l:MD P w K mg base A outer s H) (hl:m.length=o.length) (r:Vals m us)
  (x:InCallC s s.heap.objs.size (bindL (envOfC g d s.heap.objs.size f J).kindOf (o.zip us) λ_=>none) (cellsFrom (s.heap.objs.size+1) d.names []) (bindC (envOfC g d s.heap.objs.size f J).kindOf (o.zip us) λ_=>none) L):
  Inv (Am Q P w K mg base N g d f J A outer s H E) [] (start N m) H L:=by
 have R:o.length<=N.length:=by have:=congrArg List.length S.pre;rw[W2] at this;lia
 obtain⟨I,U,rfl,O⟩:=x.done;have t:∀b:Addr,b∉(Am Q P w K mg base N g d f J A outer s H E).ex:=λb z=>absurd (show b∈([]:List Addr) from z) (by simp);refine⟨⟨l.mod,S.kind,rfl,rfl,WB _,λy z c I j=>?_,λy C=>?_,λy c _ h=>?_,λ_=>hd,Around.frames_deeper l.frames,.inr ⟨rfl,rfl⟩,λb z=>absurd z (t b),l.bs,l.Nh,λb _ _=>t b,λb z=>absurd z (t b),l.sI,l.QP⟩,
  rfl,l.bare,Un.kept O,⟨_,x.toInCall.ns,λi y v I j X=>?_⟩,λy c h=>⟨_,x.cell y c h⟩,l.a8.fresh (WB _),λy c h=>?_,λp hp=>absurd (show p∈([]:List (Addr×Obj)) from hp) (by simp),l.a8.kept O,?_⟩
 ·exact name_of_addr x.apart (X7 I) (X7 j)
 ·have C:d.names.lookup y=some .cell\/d.names.lookup y=some .free:=C;rcases C with C | C
  ·exact Av C
  ·exact absurd rfl (S.Pd _ (X7 C))
 ·exact XQ (x.above y c (X7 h))
 ·have G:i < m.length:=by
   unfold start at j
   by_cases G:i < m.length
   ·exact G
   ·rw[W5 (by simpa using G)] at j;rw[Abe] at j
    split at j <;> cases j
  have T:m[i]?=some v:=by
   unfold start at j;rw[WO (by simpa using G),WJ] at j;cases e:m[i]? with
   | none=>rw[e] at j;cases j
   | some a=>rw[e] at j;cases j;rfl
  obtain⟨u,M,rv⟩:=r.get T;have hp:o[i]?=some y:=by
   rw[<-S.pre,Xm (by lia)];exact I
  have F:o.Nodup:=by rw[<-S.pre];exact S.nd.sublist (Aay _ _)
  refine⟨u,rv,?_⟩;rcases S.par y (Wx hp) with k | k
  ·exact .inl ⟨k,F6 F hp M k⟩
  ·obtain⟨c,e⟩:=Av (n:=s.heap.objs.size+1) k;refine .inr ⟨.inl k,c,e,?_⟩;have q:=x.cell y c e;rw[F7 F hp M (by show d.names.lookup y≠_;rw[k];decide)] at q;exact q
 ·exact l.a8.fresh (XQ (x.above y c (X7 h)))
 ·unfold start;show _=N.length;rw[WQ,Ws,List.length_replicate]
  lia
def Sw{M:MF}{P:Program}{w:World}{K:FR}{mg:Str->Option Value}{base:Heap}{k:Nat}{f:Addr}{name c:Str}{params:Arguments}{g:List Stmt}{a:Scope}{Z kV G Y d ct oc:Value}{an od:Option Addr}
  {R:Array (Option Value)} {N L:List Str} {sp:Sp} (lk:K.lookup f=some ⟨oc,od,.func (PySem.W.fnOf name c params g a Z kV G Y an d ct),R⟩) (U:PySem.W.codeIn K d c=true) (S:ao N L a)
  (len:∀i H Q E,sp i H Q E->i.length=L.length)
  (m:∀(A:Around)(outer:List Env)(s:Shared)(H:Hp)(i:List V)(Q:VK)(E:XK),eF k (A.deeper (envOfC c a s.heap.objs.size f d))->sp i H Q E->
   ∃t,AK (Am M P w K mg base N c a f d A outer s H E) g t/\t {nx:=λ_ j=>Q .bo j,rt:=Q} (start N i) H):
  f9 P w K mg base M (k+1) f (PySem.W.fnOf name c params g a Z kV G Y an d ct) L sp:=by
 refine⟨len,λA outer s H args us i Q E hr F hb r z=>?_⟩;have hl:=len _ _ _ _ z;have KX:K.In s.heap:=F.mod.T8.keeps λb o e=>(F.bs b o e).1;have T:s.heap.NoLimit:=F.mod.nolimit.keeps λb o e=>(F.bs b o e).1;have l:∀y∈L.zip us,a.names.lookup y.1=some .local\/(a.names.lookup y.1=some .cell/\((cellsFrom (s.heap.objs.size+1) a.names []).lookup y.1).isSome=true):=λ⟨n,v⟩ hy=>by
  rcases S.par n (AaM hy).1 with q | q
  ·exact .inl q
  ·exact .inr ⟨q,Abk _ _ _ (.inl q)⟩
 refine codeAny_call_function hr.depth (KX _ _ lk) rfl S.co S.gen rfl (PySem.W.codeRec_of KX U) (hb _ _ _ _ ?_);refine wpAny_newFunctionEnv_cells S.kind l λenv he X x=>?_;subst he;refine⟨T.keeps x.toInCall.keep,codeAny_func ?_⟩;obtain⟨t,ht,hq⟩:=m A outer s H i Q E (hr.deeper _) z;have I:Inv (Am M P w K mg base N c a f d A outer s H E) [] (start N i) H X:=FA S hr.hd F hl r x;refine Xv (ht [] X (start N i) H _ I hq) (λfl O p=>?_) λe O p=>p;have C:∀{h:St} {j:Hp} {v:V} {u:Value},Inv (Am M P w K mg base N c a f d A outer s H E) [] h j O->RelV v u->Q v j->CE outer P w H s Q u O:=
  λ{h j v u} J rv q=>⟨v,j,J.os,J.bare,J.base,J.a8,rv,q⟩
 cases fl with
 | ret u=>
  obtain⟨v,h,j,J,rv,q⟩:=p;exact C J rv q
 | next=>
  obtain⟨h,j,J,q⟩:=p;exact C (v:=V.bo) (u:=Value.none) J rfl q
 | brk=>
  obtain⟨_,_,_,q⟩:=p;exact False.elim q
 | cont=>
  obtain⟨_,_,_,q⟩:=p;exact False.elim q
section
variable {X:Cx} {x:Str} {p pos:Pos} {e:Expr} {es:List Expr} {t:TA} {id T:String} {r:List V->Hp->VK->Prop}
def Ux(r:List V->Hp->VK->Prop)(t:TA):TE:=λa H Q=>t a H λb c=>r b c Q
def zr(l:eU X (.builtin id) r)(k:Gl X x)(hm:X.mg x=none)(j:bootBuiltins x=some (.builtin id))(m:PA X (e::es) t)(hn:x≠"__name__":=by decide)(c:(x==("__debug__":Str))=false:=by decide)
  (he:starEach (e::es) X.env=(false,eval e X.env)::starEach es X.env:=by rfl) (b:(backTo pos (starEach es X.env)).any (·.1)=false:=by rfl):PE X (.Call (.Name x p) (e::es) [] pos) (Ux r t):=by
 intro a s d H Q I h;refine Ym (fW I k hm j ?_ hn c);exact PyProof.Rows.callWith_builtin1 (b5 (m pos a s d H _ I h) λus s1 ⟨f,H1,n,g,i⟩=>l a s1 d H1 f us Q n g i) he b
def vh(l:eU X (.type T) r)(k:Gl X x)(hm:X.mg x=none)(j:bootBuiltins x=some (.type T))(m:PA X (e::es) t)(hn:x≠"__name__":=by decide)(c:(x==("__debug__":Str))=false:=by decide)
  (he:starEach (e::es) X.env=(false,eval e X.env)::starEach es X.env:=by rfl) (b:(backTo pos (starEach es X.env)).any (·.1)=false:=by rfl):PE X (.Call (.Name x p) (e::es) [] pos) (Ux r t):=by
 intro a s d H Q I h;refine Ym (fW I k hm j ?_ hn c);exact Xr (b5 (m pos a s d H _ I h) λus s1 ⟨f,H1,n,g,i⟩=>l a s1 d H1 f us Q n g i) he b
end
end L2
namespace HT
open PyProof.Rows
section
open PySem.SeqAt
open PySem.AutoSeq1 (wpAny_loadPart')
open PySem.MeetsSeq PySem.MeetsSeq2 PySem.MeetsSeq3
end
def Ml(ht:IsTup s.heap t c.toArray)(r:IsTup s.heap b ws.toArray)(o:c≠[])(v:ws=[]->Q (.ref t) s)(u:ws≠[]->Q (.ref s.heap.objs.size) {s with heap:=s.heap.push {cls:=.type "tuple",data:=.seq (c++ws).toArray}})(k:c.length+ws.length<=sizeLine):wpAny (model prog w) A (binaryOp .Add (.ref t) (.ref b)) Q E s:=by
 obtain⟨⟨cls,dd,data,m⟩,j,p,n,hd⟩:=id ht;obtain⟨⟨q,h,l,d⟩,a,g,n2,f⟩:=id r;simp only at p hd g f;subst p hd g f;have e:c.toArray++ws.toArray=(c++ws).toArray:=by simp
 by_cases i:ws=[]
 ·exact concat_meets ⟨_,j,rfl⟩ ⟨_,a,rfl⟩ Aa2 seq_tuple_add ZV ZQ (ZI _ _)
   (tuple_addW1 t b c.toArray ws.toArray n n2 dd h m d (by simpa using o) (by simp[i])) ⟨j,a,v i⟩
 ·refine concat_meets ⟨_,j,rfl⟩ ⟨_,a,rfl⟩ Aa2 seq_tuple_add ZV ZQ (ZI _ _)
   (tuple_addW2 t b c.toArray ws.toArray n n2 dd h m d (by simpa using o) (by simpa using i) (by rw[WT,WT];exact k)) ⟨j,a,?_⟩
  rw[e];exact u i
noncomputable def b8(n d:Nat):Option Int->Nat
 | none=>d
 | some v=>if v < 0 then(v+(n:Int)).toNat else min v.toNat n
def lQ(n d:Nat):b8 n d none=d:=rfl
def wR(n d k:Nat):b8 n d (some (k:Int))=min k n:=by
 show(if(k:Int) < 0 then((k:Int)+(n:Int)).toNat else min (k:Int).toNat n)=min k n;rw[WE (by simp),W7]
def N6(n d:Nat)(hd:d<=n)(o:Option Int):b8 n d o<=n:=by
 cases o with
 | none=>exact hd
 | some v=>
  show(if v < 0 then(v+(n:Int)).toNat else min v.toNat n)<=n
  by_cases a:v < 0
  ·rw[WC a];lia
  ·rw[WE a];exact Nat.min_le_right _ _
def D9(v:Int)(n d:Nat):(if v < 0 then max (v+(n:Int)) 0 else min v (n:Int))=((b8 n d (some v):Nat):Int):=by
 show(if v < 0 then max (v+(n:Int)) 0 else min v (n:Int))=(((if v < 0 then(v+(n:Int)).toNat else min v.toNat n):Nat):Int)
 by_cases a:v < 0
 ·simp only[WC a];simp
 ·simp only[WE a];lia
def CI(a b:Option Int)(n:Nat):Builtin.Slice.sliceAdjust a b 1 (n:Int)=(((b8 n 0 a:Nat):Int),((b8 n n b:Nat):Int)):=by
 have c:¬((1:Int) < 0):=by lia
 unfold Builtin.Slice.sliceAdjust;simp only[c,XB];refine Prod.ext ?_ ?_
 ·cases a with
  | none=>rfl
  | some v=>exact D9 v n 0
 ·cases b with
  | none=>rfl
  | some v=>exact D9 v n n
def BG(i j:Nat):Builtin.Slice.slicePlaces (i:Int) (j:Int) 1=j-i:=by
 unfold Builtin.Slice.slicePlaces;have a:(1:Int) > 0:=by exact Int.le_refl _
 simp only[a,Y4,Abu]
 split <;> lia
def qW(p:IsPart v o)(h:Q o s):wpAny (model prog w) A (Builtin.Slice.slicePartIndex v) Q E s:=by
 cases p with
 | none=>exact slicePart_none h
 | int i t=>exact slicePart_int h
def gQ{g:Addr}{f e:Value}{a c:Option Int}{n:Nat}{Q:Int×Int×Nat->Shared->Prop}(j:s.heap.IsSliceOf g f e .none)(pl:IsPart f a)(i:IsPart e c)
  (h:Q (((b8 n 0 a:Nat):Int),1,b8 n n c-b8 n 0 a) s):wpAny (model prog w) A (Builtin.Slice.sliceApplied (.ref g) (pure (n:Int))) Q E s:=by
 obtain⟨os,b,k,d⟩:=id j;unfold Builtin.Slice.sliceApplied Builtin.Slice.sliceFields;refine Wr (Wr (Xl b d (x:=f) rfl (Wr (Xl b d (x:=e) rfl (Wr (Xl b d (x:=.none) rfl (Wt ?_)))))));refine Wr (slicePart_none ?_);show wpAny _ _ (if((1:Int)==0)=true then _ else _) _ _ s;rw[WE (by decide)];refine Wr (qW pl (Wr (qW i (Wr (Wt ?_)))));show wpAny _ _ (match Builtin.Slice.sliceAdjust a c 1 (n:Int) with |(a,c)=>pure (a,(1:Int),Builtin.Slice.slicePlaces a c 1)) _ _ s;rw[CI a c n];show wpAny _ _ (pure (((b8 n 0 a:Nat):Int),(1:Int),Builtin.Slice.slicePlaces ((b8 n 0 a:Nat):Int) ((b8 n n c:Nat):Int) 1)) _ _ s;rw[BG];exact Wt h
def HP(a:Array Value)(i k:Nat):((List.range k).filterMap λ(m:Nat)=>a[((i:Int)+(m:Int)*1).toNat]?).toArray=((a.toList.drop i).take k).toArray:=by
 have e:(λ(m:Nat)=>a[((i:Int)+(m:Int)*1).toNat]?)=λm=>a[i+m]?:=by
  funext m
  have:((i:Int)+(m:Int)*1).toNat=i+m:=by lia
  rw[this]
 rw[e];have:=pick_run a i k;rw[Zu] at this;have b:((λx=>a[x]?)∘λx=>i+x)=λm=>a[i+m]?:=rfl;rw[b] at this;rw[this]
def mO{t e:Addr}{a:Array Value}{n l:Value}{c d:Option Int}{Q:Value->Shared->Prop}(ht:IsTup s.heap t a)(o:s.heap.IsSliceOf e n l .none)(pl:IsPart n c)(p:IsPart l d)
  (hw:¬(b8 a.size 0 c=0/\b8 a.size a.size d=a.size))
  (h:Q (.ref s.heap.objs.size) {s with heap:=s.heap.push {cls:=.type "tuple",data:=.seq ((a.toList.drop (b8 a.size 0 c)).take (b8 a.size a.size d-b8 a.size 0 c)).toArray}})
  (f:a.size<=sizeLine):wpAny (model prog w) A (getItem (.ref t) (.ref e)) Q E s:=by
 have b:sizeOk (.seq ((a.toList.drop (b8 a.size 0 c)).take (b8 a.size a.size d-b8 a.size 0 c)).toArray):=by
  show((a.toList.drop (b8 a.size 0 c)).take (b8 a.size a.size d-b8 a.size 0 c)).toArray.size<=sizeLine;rw[WT,W2,YM,X9]
  lia
 have hj:b8 a.size a.size d<=a.size:=N6 _ _ (WB _) d;obtain⟨os,g,j,r⟩:=id o;have k:s.TypeIs (.ref e) "slice":=⟨os,g,j⟩;unfold getItem
 try with_reducible refine Xj ?_
 first | refine Wr (Wt ?_) | skip
 refine Wr (wpAny_sequenceKey ht.typeIs (by decide) ?_);refine Wr (Xd (name:=Str.ofString "__getitem__") ht.typeIs XG
  (Xg XG ht.typeIs entry_tuple_getitem ?_ (args_tuple_getitem _ _)))
 show wpAny _ _ (Builtin.Tuple.tupleItemsOf (.ref t) >>=_) _ _ s;refine Wr (tupleItemsOf_ ht ?_);refine Wr (Y0 k ?_);rw[WC (by decide)];refine Wr (gQ o pl p ?_);have i:¬((((b8 a.size 0 c:Nat):Int)==0&&(1:Int)==1&&(b8 a.size a.size d-b8 a.size 0 c)==a.size)=true):=by
  intro q;rw[WS,WS] at q;have v:((b8 a.size 0 c:Nat):Int)=0:=eq_of_beq q.1.1;have u:b8 a.size a.size d-b8 a.size 0 c=a.size:=eq_of_beq q.2;exact hw ⟨by clear q;lia,by clear q hj f;lia⟩
 show wpAny _ _ (if(((b8 a.size 0 c:Nat):Int)==0&&(1:Int)==1&&(b8 a.size a.size d-b8 a.size 0 c)==a.size)=true then _ else _) _ _ s;rw[WE i,HP]
 first
  | exact Wr (m:=Builtin.Tuple.tupleExact _) (Xc (Wt ⟨_,rfl,Wt h⟩) b)
  | exact Wr (m:=Builtin.Tuple.tupleExact _) (Xc (Wr (Wt (Wt ⟨_,rfl,Wt h⟩))) b)
  | exact Wr (Wr (m:=Builtin.Tuple.tupleExact _) (Xc (Wt (Wt ⟨_,rfl,Wt h⟩)) b))
  | exact Wr (Wr (m:=Builtin.Tuple.tupleExact _) (Xc (Wt ⟨_,rfl,Wt h⟩) b))
end HT
namespace L2
open PyProof.Rows
abbrev TO:=St->Hp->(Option Int->Hp->Prop)->Prop
def PO(X:Cx)(e:Option Expr)(t:TO):Prop:=
 ∀(a:List (Addr×Obj)) (s:Shared) (b:St) (H:Hp) (Q:Option Int->Hp->Prop),Inv X a b H s->t b H Q->
  wpAny (model X.prog X.w) X.A (evalPart e X.env) (λu d=>∃o c,Inv X a b c d/\IsPart u o/\Q o c) X.xe s
noncomputable def Ko:TO:=λ_ H Q=>Q none H
def Rb(t:TE):TO:=λa H Q=>t a H λx b=>∃i,x=.int i/\Q (some i) b
def intsAre_of:∀{us:List Value},Vals (ns.map V.int) us->IntsAre us ns:=by
 induction ns with
 | nil=>intro us r;rw[Yk] at r;cases r;exact .nil
 | cons n ns c=>
  intro us r;rw[WG] at r;cases r with
  | cons b a=>
   obtain⟨t,e⟩:=b;subst e;exact .cons n t (c a)
section
variable {X:Cx} {e:Expr} {te:TE} {lo hi:Option Expr} {tl th:TO} {pos p2:Pos}
def K9:PO X none Ko:=by
 intro a s b H Q I h;rw[evalPart_none];exact Wt ⟨none,H,I,.none,h⟩
def K8(h:PE X e te):PO X (some e) (Rb te):=by
 intro a s b H Q I f;rw[evalPart_some];refine b5 (h a s b H _ I f) λu s1 u9=>?_;obtain⟨x,H1,g,c,d⟩:=u9;obtain⟨i,rfl,q⟩:=d;obtain⟨t,rfl⟩:=c;exact⟨some i,H1,g,.int i t,q⟩
def Qy(X:Cx)(r:V->Option Int->Option Int->Hp->VK->Prop):Prop:=
 ∀(a:List (Addr×Obj)) (s:Shared) (b:St) (H:Hp) (x:V) (v d c:Value) (lo hi:Option Int) (f:Addr) (Q:VK),Inv X a b H s->RelV x v->s.heap.IsSliceOf f d c .none->IsPart d lo->IsPart c hi->r x lo hi H Q->
  ∃T g,typeLookup (.type T) "__getitem__"=pure (some (.builtin g))/\s.TypeIs v T/\wpAny (model X.prog X.w) X.A (getItem v (.ref f)) (EP X a b Q) X.xe s
def V6(r:V->Option Int->Option Int->Hp->VK->Prop)(te:TE)(tl th:TO):TE:=λa H Q=>te a H λx d=>tl a d λl c=>th a c λu b=>r x l u b Q
def HV(hr:Qy X r)(p:PE X e te)(hl:PO X lo tl)(n:PO X hi th):PE X (.Subscript e (.Slice lo hi none p2) pos) (V6 r te tl th):=by
 intro a s c H Q I h;refine Subscript_ (b5 (p a s c H _ I h) λv s1 u9=>?_);obtain⟨x,H1,E,i,m⟩:=u9;refine wpAny_Slice (b5 (hl a s1 c H1 _ E m) λf s2 ⟨l,F,C,pl,k⟩=>b5 (n a s2 c F _ C k) λd s3 u9=>?_);obtain⟨u,g,z,pu,j⟩:=u9;rw[evalPart_none];refine Wt ?_;have y:Inv X a c g {s3 with heap:=s3.heap.push {cls:=.type "slice",data:=.fields #[f,d,.none]}}:=z.kept (t':=s3.toks) λb ob q=>Wu _ q;obtain⟨T,G,t,ht,o⟩:=hr a {s3 with heap:=s3.heap.push {cls:=.type "slice",data:=.fields #[f,d,.none]}} c g x v f d l u s3.heap.objs.size Q y i (Heap.IsSliceOf.new ..) pl pu j;show wpAny (model X.prog X.w) X.A (subscriptTail e (.Slice lo hi none p2) v (.ref s3.heap.objs.size)) (EP X a c Q) X.xe {s3 with heap:=s3.heap.push {cls:=.type "slice",data:=.fields #[f,d,.none]}};exact tail_any (ops:=[.ref s3.heap.objs.size,v]) ht t o (by with_unfolding_all rfl)
noncomputable def sU(a:List V)(lo hi:Option Int):List V:=(a.drop (HT.b8 a.length 0 lo)).take (HT.b8 a.length a.length hi-HT.b8 a.length 0 lo)
def pH(a:List V)(lo hi:Option Int):(sU a lo hi).length<=a.length:=by
 unfold sU;rw[W2,YM]
 lia
def UY(K:FR):V->Option Int->Option Int->Hp->VK->Prop:=λx lo hi H Q=>∃a b,x=.ref a/\iZ K H a b/\
 ¬(HT.b8 b.length 0 lo=0/\HT.b8 b.length b.length hi=b.length)/\∀p,H p=none->Q (.ref p) (upd H p (.tup (sU b lo hi)))
def NU:Qy X (UY X.K):=by
 intro g s p H x v u t lo hi w Q I j n pl k h;obtain⟨a,d,rfl,l,m,q⟩:=h;cases j;obtain⟨f,r,ht,i⟩:=I.tuple l;have c:f.toArray.size=d.length:=by rw[WT];exact r.length.symm
 refine⟨"tuple",_,XG.lookup,ht.typeIs,?_⟩;refine HT.mO ht n pl k (by rw[c];exact m) ?_ (by rw[c];exact i);rw[c];refine⟨.ref s.heap.objs.size,_,I.laid (t':=s.toks) (o:=.tup (sU d lo hi)) (λb ob q=>Wu _ q) (WB _) ?_,rfl,q _ (I.a8.fresh (WB _))⟩;exact⟨WL (pH d lo hi) i,_,(r.drop (HT.b8 d.length 0 lo)).take (HT.b8 d.length d.length hi-HT.b8 d.length 0 lo),yt.new _ _⟩
def RT(K:FR):R2:=λx y H Q=>∃a b d c,x=.ref a/\y=.ref b/\iZ K H a d/\iZ K H b c/\d≠[]/\d.length+c.length<=sizeLine/\
 (c=[]->Q (.ref a) H)/\(c≠[]->∀p,H p=none->Q (.ref p) (upd H p (.tup (d++c))))
def Vals.qC(r:Vals xs us):us=[]↔xs=[]:=by
 cases r with
 | nil=>simp
 | cons _ _=>simp
def Lq:lu X (binaryOp .Add) (RT X.K):=by
 intro f s F H x y v u Q I m l h;obtain⟨a,b,k,j,rfl,rfl,E,C,A,i,p,n⟩:=h;cases m;cases l;obtain⟨t,d,r,_⟩:=I.tuple E;obtain⟨g,c,p2,_⟩:=I.tuple C;refine HT.Ml r p2 (λz=>A (d.qC.mp z)) (λz=>⟨.ref a,H,I,rfl,p (c.qC.mp z)⟩) (λz=>?_) (by rw[<-d.length,<-c.length];exact i);refine⟨.ref s.heap.objs.size,_,I.laid (t':=s.toks) (o:=.tup (k++j)) (λb ob q=>Wu _ q) (WB _) ?_,rfl,n (λw=>z (c.qC.mpr w)) _ (I.a8.fresh (WB _))⟩;exact⟨by rw[WQ];exact i,_,d.append c,yt.new _ _⟩
end
noncomputable def ux(n:Nat)(i:Int):Option Nat:=if 0<=i then(if i < n then some i.toNat else none) else if -(n:Int)<=i then some (i+n).toNat else none
def gg{a:Type}(b:List a)(i:Int):Option a:=(ux b.length i).bind λj=>b[j]?
def DM(h:ux n i=some j):seqIndex? i n=some j/\j < n/\-(n:Int)<=i/\i < n:=by
 unfold ux at h
 by_cases b:0<=i
 ·rw[WC b] at h
  by_cases a:i < n
  ·rw[WC a] at h;have e:i.toNat=j:=Option.some.inj h;exact⟨by rw[seqIndex_of b a,e],by lia,by clear a;lia,a⟩
  ·rw[WE a] at h;cases h
 ·rw[WE b] at h
  by_cases a:-(n:Int)<=i
  ·rw[WC a] at h;have e:(i+n).toNat=j:=Option.some.inj h;exact⟨by rw[seqIndex_neg (by lia) a,e],by lia,a,by clear a;lia⟩
  ·rw[WE a] at h;cases h
def qK(h:gg xs i=some v):∃j,seqIndex? i xs.length=some j/\xs[j]?=some v/\j < xs.length/\-(xs.length:Int)<=i/\i < xs.length:=by
 unfold gg at h;cases e:ux xs.length i with
 | none=>rw[e] at h;cases h
 | some j=>
  rw[e] at h;obtain⟨d,c,b,a⟩:=DM e;exact⟨j,d,h,c,b,a⟩
def ny{b:Type}{a:List b}{j:Nat}{v:b}(h:a[j]?=some v):gg a (j:Int)=some v:=by
 have hj:j < a.length:=(Ww.mp h).1;have e:ux a.length (j:Int)=some j:=by
  unfold ux;rw[WC (by simp),WC (Y8.mpr hj)];simp
 unfold gg;rw[e];exact h
def tq(a:List α)(v:α):gg (a++[v]) (-1)=some v:=by
 have hl:(a++[v]).length=a.length+1:=by simp
 have e:ux (a++[v]).length (-1)=some a.length:=by
  unfold ux;rw[hl,WE (by decide),WC (by clear hl;lia)];congr 1
  lia
 unfold gg;rw[e];show(a++[v])[a.length]?=some v;simp
def iB(b:Expr):Prop:=∀o i,subscripted b false o i=operate [o,i] (getItem o i)
def QW(X:Cx)(r:R2):Prop:=
 ∀(c a:Expr)(b:List (Addr×Obj)) (s:Shared) (d:St) (H:Hp) (x y:V) (v u:Value) (Q:VK),Inv X b d H s->RelV x v->RelV y u->r x y H Q->
  subscripted a false v u=operate [v,u] (getItem v u)->wpAny (model X.prog X.w) X.A (subscriptTail c a v u) (EP X b d Q) X.xe s
def QV(X:Cx)(d:String)(r:V->List V->Hp->VK->Prop):Prop:=
 ∀(a:List (Addr×Obj)) (s:Shared) (b:St) (H:Hp) (x:V) (c:List V) (v:Value) (us:List Value) (Q:VK),Inv X a b H s->RelV x v->Vals c us->r x c H Q->
  wpAny (model X.prog X.w) X.A (call (.builtin d) (v::us)) (EP X a b Q) X.xe s
section
variable {X:Cx} {a b:Expr} {ta tb:TE} {pos:Pos}
def M3(hr:QW X r)(k:PE X a ta)(j:PE X b tb)(i:iB b):PE X (.Subscript a b pos) (Rg r ta tb):=by
 intro c s d H Q I h;exact Subscript_ (Qp k j I h λv u e x y m l g f q=>hr a b c e d m x y v u Q l g f q (i _ _))
def U7(K:FR):R2:=λx y H Q=>∃p c i v,x=.ref p/\y=.int i/\eV K H p c/\gg c i=some v/\Q v H
def U5(K:FR):R2:=λx y H Q=>∃p c i v,x=.ref p/\y=.int i/\iZ K H p c/\gg c i=some v/\Q v H
def U6:R2:=λx y H Q=>∃z i c,x=.str z/\y=.int i/\z.length<=sizeLine/\gg z.cps.toList i=some c/\Q (.str ⟨#[c]⟩) H
def LL:QW X (U7 X.K):=by
 intro f g c s m H x y v u Q I F E h n;obtain⟨p,O,i,z,rfl,rfl,G,J,q⟩:=h;cases F;obtain⟨t,rfl⟩:=E;obtain⟨l,r,pl,P⟩:=I.list G;obtain⟨j,e,N,R,M,L⟩:=qK J;obtain⟨w,A,k⟩:=r.get N;have hl:=r.length;have hn:=kX;have d:EP X c m Q w s:=⟨z,H,I,k,q⟩
 by_cases o:0<=i
 ·have hj:i.toNat=j:=by
   rw[seqIndex_of o L] at e;exact Option.some.inj e
  exact item_listR pl.isList o (by lia) (by rw[hj];simpa using A) d n
 ·have hj:(i+(l.toArray.size:Int)).toNat=j:=by
   rw[seqIndex_neg (by lia) M] at e;rw[WT,<-hl];exact Option.some.inj e
  exact subscriptTail_builtinR (x:=w) pl.isList.typeIs slot_list_getitem.lookup
   (wpAny_getItem_list_neg (Q:=λr C=>r=w/\EP X c m Q r C) pl.isList (by lia) (by rw[WT] <;> lia) (by lia) (by rw[hj];simpa using A) ⟨rfl,d⟩) n
def Pt:QW X (U5 X.K):=by
 intro d e c s k H x y v u Q I n m h A;obtain⟨p,L,i,z,rfl,rfl,C,E,q⟩:=h;cases n;obtain⟨t,rfl⟩:=m;obtain⟨o,r,pl,M⟩:=I.tuple C;obtain⟨j,G,F,P,O,N⟩:=qK E;obtain⟨w,J,f⟩:=r.get F;have hl:=r.length;have hn:=kX;have g:EP X c k Q w s:=⟨z,H,I,f,q⟩;exact subscriptTail_builtinR (x:=w) pl.typeIs XG.lookup
  (getItem_tuple (j:=j) (Q:=λr l=>r=w/\EP X c k Q r l) pl (by lia) (by lia) (by rw[WT,<-hl];exact G) (by simpa using J) ⟨rfl,g⟩) A
def Pu:QW X U6:=by
 intro d e f s C H x y v u Q I l k h m;obtain⟨z,i,c,rfl,rfl,F,n,q⟩:=h;obtain⟨t,rfl⟩:=l;obtain⟨E,rfl⟩:=k;obtain⟨j,g,r,G,p,o⟩:=qK n;have hl:z.cps.toList.length=z.length:=by simp[Str.length]
 rw[hl] at g p o;have hn:=kX;exact tail_any (typeIs_str s z t) slot_str_getitem.lookup (getItem_str (c:=c) (by
  have A:decide (i < -(2^63:Int))=false:=WW (by lia);have w:decide (i≥2^63)=false:=WW (by lia);rw[A,w,Aa7]) (by rw[g];simpa using r) ⟨.str ⟨#[c]⟩,H,I.tok _,⟨_,rfl⟩,q⟩) m
def BY(c:List Value)(n j:Nat)(u:Value):Obj.mapSeq (·.setIfInBounds j u) {cls:=.type "list",data:=.seq c.toArray n}={cls:=.type "list",data:=.seq (c.set j u).toArray n}:=by
 simp[Obj.mapSeq]
theorem Inv.lst(I:Inv X pins σ H s)(h:H p=some (.lst xs)):
  ∃(c:List Value)(n:Nat),Vals xs c/\s.heap.get? p=some {cls:=.type "list",data:=.seq c.toArray n}/\xs.length<=sizeLine:=by
 obtain⟨z,c,n,r,e⟩:=I.a8 p _ h;exact⟨c,n,r,e,z⟩
def Inv.Pj{d:List (Addr×Obj)}{k:St}{H:Hp}{s:Shared}{p:Addr}{m i:List V}{g c:List Value}{n j:Nat}{f:Obj->Obj}(I:Inv X d k H s)(h:H p=some (.lst m))
  (v:s.heap.get? p=some {cls:=.type "list",data:=.seq g.toArray n}) (l:f {cls:=.type "list",data:=.seq g.toArray n}={cls:=.type "list",data:=.seq c.toArray j}) (r:Vals i c) (o:i.length<=sizeLine) (t:Nat):
  Inv X d k (upd H p (.lst i)) {s with heap:=s.heap.update p f,toks:=t}:=by
 have e:(s.heap.update p f).get? p=some {cls:=.type "list",data:=.seq c.toArray j}:=by
  rw[X0 f v (by rw[l] <;> rfl),l]
 refine I.write (x:=p) (e:=p) (by rw[h];trivial) (.inl rfl) (λb u w q=>(Yw _ _ (XJ w)).trans q) ⟨_,e⟩ ?_;exact⟨o,c,j,r,e⟩
def RQ:V->V->V->Hp->(Hp->Prop)->Prop:=λo i v H Q=>∃p c k j,o=.ref p/\i=.int k/\H p=some (.lst c)/\ux c.length k=some j/\Q (upd H p (.lst (c.set j v)))
def set_list:Mz X RQ:=by
 intro c s y H o i v E F u Q I ro A rv h;obtain⟨p,z,k,j,rfl,rfl,hp,hj,q⟩:=h;cases ro;obtain⟨t,rfl⟩:=A;obtain⟨d,n,r,f,C⟩:=I.lst hp;obtain⟨e,G,m,l⟩:=DM hj;have hl:=r.length;have hn:=kX;have x:Inv X c y (upd H p (.lst (z.set j v))) {s with heap:=s.heap.update p (Obj.mapSeq (·.setIfInBounds j u))}:=
  I.Pj hp f (BY d n j u) (r.set rv j) (by rw[Yo];exact C) s.toks
 by_cases w:0<=k
 ·have g:k.toNat=j:=by
   rw[seqIndex_of w l] at e;exact Option.some.inj e
  exact PySem.W.ki_setAt f w (by lia) (by rw[WT,<-hl];exact l) (by rw[g];exact⟨_,x,q⟩)
 ·have g:(k+(d.toArray.size:Int)).toNat=j:=by
   rw[seqIndex_neg (by lia) m] at e;rw[WT,<-hl];exact Option.some.inj e
  exact PySem.W.ki_setBack f (by lia) (by rw[WT,<-hl];exact m) (by lia) (by rw[g];exact⟨_,x,q⟩)
def wH(c d:Option Int)(n:Nat):(sliceBounds c d none n).1=((HT.b8 n 0 c:Nat):Int)/\(sliceBounds c d none n).2.1=((HT.b8 n n d:Nat):Int)/\(sliceBounds c d none n).2.2=1:=by
 refine⟨?_,?_,rfl⟩
 ·cases c with
  | none=>simp[sliceBounds,HT.b8]
  | some i=>
   simp only[sliceBounds,HT.b8,Option.getD_none,show(1:Int) > 0 by decide,Y4]
   by_cases h:i < 0
   ·simp only[h,Y4] <;> lia
   ·simp only[h,XB] <;> lia
 ·cases d with
  | none=>simp[sliceBounds,HT.b8]
  | some i=>
   simp only[sliceBounds,HT.b8,Option.getD_none,show(1:Int) > 0 by decide,Y4]
   by_cases h:i < 0
   ·simp only[h,Y4] <;> lia
   ·simp only[h,XB] <;> lia
def tS(c:List Value)(d e:Option Int):slicePick c.toArray d e none=((c.drop (HT.b8 c.length 0 d)).take (HT.b8 c.length c.length e-HT.b8 c.length 0 d)).toArray:=by
 obtain⟨h,g,f⟩:=wH d e c.toArray.size;unfold slicePick;rw[h,g,f];simp only[sliceRange_one,pick_run,WT] <;> rfl
def U0(K:FR):V->Option Int->Option Int->Hp->VK->Prop:=λx d e H Q=>∃a c,x=.ref a/\eV K H a c/\∀p,H p=none->Q (.ref p) (upd H p (.lst (sU c d e)))
def Kw:Qy X (U0 X.K):=by
 intro g s p H x v u t e f w Q I i n pl j h;obtain⟨a,c,rfl,m,q⟩:=h;cases i;obtain⟨k,r,ht,l⟩:=I.list m;have d:=r.length;refine⟨"list",_,slot_list_getitem.lookup,ht.isList.typeIs,?_⟩;refine wpAny_getItem_list_slice ht.isList n pl j .none (by simp) ?_ (by rw[WT] <;> lia);rw[tS,<-d];refine⟨.ref s.heap.objs.size,_,I.laid (t':=s.toks) (o:=.lst (sU c e f)) (λb ob q=>Wu _ q) (WB _) ?_,rfl,q _ (I.a8.fresh (WB _))⟩;exact⟨WL (pH c e f) l,_,0,(r.drop (HT.b8 c.length 0 e)).take (HT.b8 c.length c.length f-HT.b8 c.length 0 e),WK _ rfl⟩
def yh:eU X (.builtin "len") (λi H Q=>∃p d,i=[.ref p]/\(eV X.K H p d\/iZ X.K H p d)/\Q (.int d.length) H):=by
 intro j s m H i us Q I r h;obtain⟨p,d,rfl,e,q⟩:=h;obtain⟨u,rfl,k⟩:=vals1 r;cases k;have hn:=kX;rcases e with e | e
 ·obtain⟨g,f,pl,l⟩:=I.list e;have c:=f.length;exact Calls.call_len_list pl.isList (by simp only[WT] <;> lia) ⟨.int d.length,H,I.tok _,⟨s.toks+1,by rw[WT,c]⟩,q⟩
 ·obtain⟨g,f,pl,l⟩:=I.tuple e;have c:=f.length;exact len_tuple pl (by simp only[WT] <;> lia) ⟨.int d.length,H,I.tok _,⟨s.toks+1,by rw[WT,c]⟩,q⟩
def yg:eU X (.builtin "len") (λc H Q=>∃z,c=[.str z]/\z.length<=sizeLine/\Q (.int z.length) H):=by
 intro d s e H c us Q I r h;obtain⟨z,rfl,f,q⟩:=h;obtain⟨u,rfl,t,rfl⟩:=vals1 r;have hn:=kX;exact len_str (by lia) ⟨.int z.length,H,I.tok _,⟨_,rfl⟩,q⟩
def yf:eU X (.type "list") (λz H Q=>∃p f,z=[.ref p]/\(eV X.K H p f\/iZ X.K H p f)/\∀l,H l=none->Q (.ref l) (upd H l (.lst f))):=by
 intro j s C H z us Q I r h;obtain⟨p,f,rfl,m,q⟩:=h;obtain⟨u,rfl,E⟩:=vals1 r;cases E;have v:∀(c:List Value),Vals f c->f.length<=sizeLine->∀(d:Heap)(i:Nat),(∀b A,s.heap.get? b=some A->d.get? b=some A)->
   d.get? s.heap.objs.size=some {cls:=.type "list",dict:=none,data:=.seq c.toArray i,slots:=#[]}->EP X j C Q (.ref s.heap.objs.size) {s with heap:=d}:=λc g k d i kp e=>
  ⟨.ref s.heap.objs.size,_,I.laid (t':=s.toks) kp (WB _) (show bY X.prog X.w _ d _ (.lst f) from⟨k,c,i,g,e⟩),rfl,q _ (I.a8.fresh (WB _))⟩
 rcases m with m | m
 ·obtain⟨c,g,pl,k⟩:=I.list m;have t:=g.length;obtain⟨o,x,y,n,hd⟩:=pl.isList;exact call_list_seq p (.inl rfl) x y hd (λd i kp e=>v c g k d i kp e) (by simp only[WT] <;> lia)
 ·obtain⟨c,g,pl,k⟩:=I.tuple m;have t:=g.length;obtain⟨o,x,y,n,hd⟩:=pl;exact call_list_seq p (.inr rfl) x y hd (λd i kp e=>v c g k d i kp e) (by simp only[WT] <;> lia)
def uD:eU X (.type "tuple") (λm H Q=>∃p f,m=[.ref p]/\((eV X.K H p f/\∀l,H l=none->Q (.ref l) (upd H l (.tup f)))\/(iZ X.K H p f/\Q (.ref p) H))):=by
 intro c s k H m us Q I r h;obtain⟨p,f,rfl,h⟩:=h;obtain⟨u,rfl,x⟩:=vals1 r;cases x;rcases h with⟨j,q⟩ |⟨j,q⟩
 ·obtain⟨d,i,pl,n⟩:=I.list j;have t:=i.length;refine call_tuple_list pl.isList (λg kp=>?_) (by simp only[WT] <;> lia);have v:Inv X c k H {s with heap:=g}:=I.kept (t':=s.toks) kp;have y:Inv X c k (upd H g.objs.size (.tup f)) {s with heap:=g.push {cls:=.type "tuple",data:=.seq d.toArray}}:=
   v.laid (t':=s.toks) (λb o e=>Wu _ e) (WB _) (show bY X.prog X.w _ _ _ (.tup f) from⟨n,d,i,yt.new _ _⟩)
  exact⟨.ref g.objs.size,_,y,rfl,q _ (v.a8.fresh (WB _))⟩
 ·obtain⟨d,i,pl,n⟩:=I.tuple j;exact call_tuple_same pl ⟨.ref p,H,I,rfl,q⟩
def QJ(K:FR)(T:String)(x:V)(H:Hp):Prop:=match x with
 | .str _=>T="str"
 | .int _=>T="int"
 | .ref p=>(T="list"/\∃e,eV K H p e)\/(T="tuple"/\∃o,K.lookup p=some o/\o.cls=.type "tuple"/\o.dict=none)\/
   (T="dict"/\((∃c,H p=some (.dK c))\/(∃c,H p=some (.dT c))\/∃d,H p=some (.Cg d)/\∀w h,d w h->∃o,h.get? p=some o/\o.ExactDict))\/(T="set"/\∃S n,H p=some (.set S n))
 | _=>False
def Gu(I:Inv X pins σ H s)(r:RelV x v)(ty:QJ X.K T x H):
  s.TypeIs v T/\∀a,v=.ref a->∃ob,s.heap.get? a=some ob/\ob.dict=none:=by
 cases x with
 | str z=>
  obtain⟨t,rfl⟩:=r;cases(show T="str" from ty);exact⟨typeIs_str s z t,λ_ e=>nomatch e⟩
 | int i=>
  obtain⟨t,rfl⟩:=r;cases(show T="int" from ty);exact⟨typeIs_int s i t,λ_ e=>nomatch e⟩
 | ref p=>
  cases r;rcases ty with⟨rfl,xs,k⟩ |⟨rfl,o,d,l,hd⟩ |⟨rfl,d⟩ |⟨rfl,S,n,d⟩
  ·obtain⟨j,_,pl,_⟩:=I.list k;refine⟨pl.isList.typeIs,λa e=>?_⟩;cases e;obtain⟨o,n,e,c,hd,_⟩:=pl;exact⟨o,e,hd⟩
  ·refine⟨⟨o,I.vJ p o d,l⟩,λa e=>?_⟩;cases e;exact⟨o,I.vJ _ o d,hd⟩
  ·have z:∃o,s.heap.get? p=some o/\o.ExactDict:=by
    rcases d with⟨f,d⟩ |⟨f,d⟩ |⟨m,d,g⟩
    ·obtain⟨_,_,_,_,o,_,_,e,ex,_⟩:=I.a8 p _ d;exact⟨o,e,ex⟩
    ·obtain⟨_,_,_,_,o,_,_,e,ex,_⟩:=I.a8 p _ d;exact⟨o,e,ex⟩
    ·obtain⟨q,_⟩:=I.a8 p _ d;exact g _ _ q
   obtain⟨o,e,ex⟩:=z;refine⟨⟨o,e,ex.1⟩,λa h=>?_⟩;cases h;exact⟨o,e,ex.2.1⟩
  ·obtain⟨o,_,_,_,e,ex,_⟩:=I.a8 p _ d;refine⟨⟨o,e,ex.1⟩,λa h=>?_⟩;cases h;exact⟨o,e,ex.2.1⟩
 | _=>exact False.elim ty
def Uy(K:FR)(T:String)(r:V->List V->Hp->VK->Prop)(e:TE):TE:=λd H Q=>e d H λx c=>QJ K T x c/\r x [] c Q
def Wc(K:FR)(T:String)(r:V->List V->Hp->VK->Prop)(f:TE)(t:TA):TE:=λc H Q=>f c H λx d=>QJ K T x d/\t c d λe g=>r x e g Q
variable {o e:Expr} {es:List Expr} {to:TE} {t:TA} {name:Str} {apos cpos:Pos} {T id:String} {r:V->List V->Hp->VK->Prop}
def OV(m:PlainAttrs T)(slot:Slot T name id)(g:typeOf (.builtin id)=pure (.type "method_descriptor"))(hm:QV X id r)(n:PE X o to)
  (f:attributeBase o name X.env (eval o X.env)=eval o X.env:=by rfl) (d:(apos.endLine==cpos.line)=true:=by rfl):PE X (.Call (.Attribute o name apos) [] [] cpos) (Uy X.K T r to):=by
 intro c s i H Q I h;refine wpAny_Call_method0_late f d (b5 (n c s i H _ I h) λv s1 u9=>?_);obtain⟨x,H1,k,j,ty,l⟩:=u9;obtain⟨q,p⟩:=Gu k j ty;exact⟨T,id,m,slot,g,q,p,Calls.callWith_builtin rfl (PySem.evalArgs_none (hm c s1 i H1 x [] v [] Q k j .nil l))⟩
def RY(y:PlainAttrs T)(slot:Slot T name id)(k:typeOf (.builtin id)=pure (.type "method_descriptor"))(hm:QV X id r)(A:PE X o to)(C:PA X (e::es) t)
  (g:attributeBase o name X.env (eval o X.env)=eval o X.env:=by rfl)
  (i:((backTo cpos (starEach (e::es) X.env)).all (λx=>!x.1)&&(backToKw cpos (keywordEach [] X.env)).all (λx=>x.1.isSome)
   &&decide ((e::es).length+([]:List Keyword).length+(if([]:List Keyword).isEmpty then 0 else 1) < 30))=true:=by rfl)
  (f:(apos.endLine==cpos.line)=true:=by rfl) (z:starEach (e::es) X.env=(false,eval e X.env)::starEach es X.env:=by rfl) (d:(backTo cpos (starEach es X.env)).any (·.1)=false:=by rfl):
  PE X (.Call (.Attribute o name apos) (e::es) [] cpos) (Wc X.K T r to t):=by
 intro c s j H Q I h;refine wpAny_Call_method_late g i f rfl (b5 (A c s j H _ I h) λv s1 u9=>?_);obtain⟨x,H1,n,l,ty,w⟩:=u9;obtain⟨F,E⟩:=Gu n l ty;refine⟨T,id,y,slot,k,F,E,?_⟩;have m:=C cpos c s1 j H1 _ n w;rw[z] at m ⊢;refine Calls.callWith_builtin (by show(false||(backTo cpos (starEach es X.env)).any (·.1))=false;rw[d] <;> rfl) (Calls.evalArgs_plain ?_);exact b5 m λus s2 ⟨p,J,G,q,u⟩=>hm c s2 j J x p v us Q G l q u
end
def VZ(X:Cx)(d:String)(r:V->List V->Hp->VK->Prop):Prop:=
 ∀(a:List (Addr×Obj)) (s:Shared) (b:St) (H:Hp) (x:V) (c:List V) (v:Value) (us:List Value) (Q:VK),Inv X a b H s->RelV x v->Vals c us->r x c H Q->
  wpAny (model X.prog X.w) X.A (call (.builtin d) (v::us)) (EP X a b Q) X.xe s
def Vals.one{x:V}{us:List Value}(h:Vals [x] us):∃u,us=[u]/\RelV x u:=by
 cases h with
 | cons r t=>cases t;exact⟨_,rfl,r⟩
def Vals.two{x y:V}{us:List Value}(h:Vals [x,y] us):∃u v,us=[u,v]/\RelV x u/\RelV y v:=by
 cases h with
 | cons r t=>cases t with
  | cons q z=>cases z;exact⟨_,_,rfl,r,q⟩
theorem Vals.zero:∀{us:List Value},Vals [] us->us=[]
 | _,.nil=>rfl
theorem Vals.dropLast(h:Vals xs us):Vals xs.dropLast us.dropLast:=by
 induction h with
 | nil=>exact .nil
 | cons r t a=>
  cases t with
  | nil=>exact .nil
  | cons q b=>exact .cons r a
theorem Vals.rep(h:Vals xs us):∀k:Nat,Vals (List.replicate k xs).flatten (List.replicate k us).flatten
 | 0=>.nil
 | k+1=>by
  rw[Yq,Yq,YZ,YZ];exact Vals.append h (Vals.rep h k)
def Cj(l:List α):l.eraseIdx (l.length-1)=l.dropLast:=by
 induction l with
 | nil=>rfl
 | cons a r c=>
  cases r with
  | nil=>rfl
  | cons b r=>
   have e:(a::b::r).length-1=((b::r).length-1)+1:=by
    have f:(a::b::r).length=r.length+2:=rfl;have d:(b::r).length=r.length+1:=rfl;exact d
   rw[e,List.eraseIdx_cons_succ,c]
   all_goals rfl
theorem foldl_rep(a:List Value):∀(k:Nat)(b:List Value),
  List.foldl (λd c=>d++c) b.toArray (List.replicate k a.toArray)=(b++(List.replicate k a).flatten).toArray
 | 0,b=>by simp
 | k+1,b=>by
  have e:b.toArray++a.toArray=(b++a).toArray:=by simp
  have f:(b++a)++(List.replicate k a).flatten=b++(List.replicate (k+1) a).flatten:=by
   rw[Yq,YZ,XM]
  rw[<-f,<-foldl_rep a k (b++a),<-e,Yq,AaO]
def Inv.Sh{a its':List Value}{n:Nat}{f:Array Value->Array Value}{c:Nat}(I:Inv X pins σ H s)(k:H l=some (.lst xs))
  (e:s.heap.get? l=some {cls:=.type "list",data:=.seq a.toArray n}) (i:f a.toArray=its'.toArray) (g:Vals b its') (d:b.length<=sizeLine):
  Inv X pins σ (upd H l (.lst b)) {s with heap:=s.heap.update l (Obj.mapSeq f),toks:=c}:=by
 have q:=PySem.IsL.update e f;rw[i] at q;refine I.write (x:=l) (e:=l) (by rw[k];exact trivial) (.inl rfl) (λm u j h=>(Yw s.heap (Obj.mapSeq f) (XJ j)).trans h) ⟨_,q⟩ ?_;exact⟨d,its',_,g,q⟩
def Inv.LA(I:Inv X pins σ H s)(b:Vals ys its)(a:ys.length<=sizeLine):
  Inv X pins σ (upd H s.heap.objs.size (.lst ys)) {s with heap:=s.heap.push {cls:=.type "list",data:=.seq its.toArray},toks:=t'}:=
 I.laid (λ_ _ q=>Wu _ q) (WB _) ⟨a,its,0,b,WK _ rfl⟩
theorem Inv.fresh(I:Inv X pins σ H s):H s.heap.objs.size=none:=I.a8.fresh (WB _)
def Inv.IC(I:Inv X pins σ H s)(b:H l=some (.lst xs)):xs.length<=sizeLine/\∃(a:List Value)(n:Nat),Vals xs a/\xs.length=a.length/\s.heap.get? l=some {cls:=.type "list",data:=.seq a.toArray n}:=by
 obtain⟨z,a,n,r,e⟩:=I.a8 l _ b;exact⟨z,a,n,r,r.length,e⟩
def Iw(h:n<=sizeLine):Builtin.List.listTooLong n=false:=by
 unfold Builtin.List.listTooLong;exact WW (AaW.mpr h)
def KS:V->List V->Hp->VK->Prop:=λx b H Q=>∃l a y,x=.ref l/\b=[y]/\H l=some (.lst a)/\a.length < sizeLine/\Q .bo (upd H l (.lst (a++[y])))
def oz:VZ X "list.append" KS:=by
 intro b s g H x j v us Q I d rv h;obtain⟨l,i,y,rfl,rfl,c,k,q⟩:=h;cases d;obtain⟨u,rfl,f⟩:=rv.one;obtain⟨z,a,n,r,hl,e⟩:=I.IC c;refine AaI Zf ⟨_,e,rfl⟩ F.entry_list_append (F.args_list_append_2 _ _) (PySem.list_append l a.toArray n u (by rw[WT];lia)) ⟨e,?_⟩;refine⟨.bo,_,I.Sh (its':=a++[u]) c e (by simp) (r.append (.cons f .nil)) ?_,rfl,q⟩;rw[WQ,Yv]
 lia
def U4:V->List V->Hp->VK->Prop:=λx b H Q=>∃l a y,x=.ref l/\b=[]/\H l=some (.lst a)/\a[a.length-1]?=some y/\Q y (upd H l (.lst a.dropLast))
def Pe:VZ X "list.pop" U4:=by
 intro d s m H x p v us Q I g rv h;obtain⟨l,o,y,rfl,rfl,f,j,q⟩:=h;cases g;have c:=rv.zero;subst c;obtain⟨z,a,n,r,hl,e⟩:=I.IC f;obtain⟨u,k,i⟩:=r.get j;have b:a.toArray[a.toArray.size-1]?=some u:=by
  show a.toArray[a.length-1]?=some u;rw[<-Yg,<-hl];exact k
 refine AaI F.slot_list_pop ⟨_,e,rfl⟩ F.entry_list_pop (F.args_list_pop_1 _) (MeetsSeq.list_pop_last l a.toArray n u b (by rw[WT];lia)) ⟨e,?_⟩;refine⟨y,_,I.Sh (its':=a.dropLast) f e ?_ r.dropLast ?_,i,q⟩
 ·show a.toArray.eraseIdxIfInBounds (a.toArray.size-1)=a.dropLast.toArray;rw[WT,List.eraseIdxIfInBounds_toArray,Cj]
 ·rw[Aae]
  lia
def U8:R2:=λx y H Q=>∃l b c a,x=.ref l/\y=.ref b/\H l=some (.lst c)/\H b=some (.lst a)/\c.length+a.length<=sizeLine/\∀p,H p=none->Q (.ref p) (upd H p (.lst (c++a)))
def Im:lu X (binaryOp .Add) U8:=by
 intro d s w H x y v u Q I g f h;obtain⟨l,b,E,A,rfl,rfl,m,o,j,q⟩:=h;cases g;cases f;obtain⟨z,c,n,r,hl,e⟩:=I.IC m;obtain⟨C,a,n2,i,k,t⟩:=I.IC o;refine PySem.P.add_list e t ?_ (by rw[WT,WT];lia);have p:c.toArray++a.toArray=(c++a).toArray:=by simp
 rw[p];exact⟨.ref _,_,I.LA (t':=s.toks) (r.append i) (by rw[WQ];exact j),rfl,q _ I.fresh⟩
def U3:R2:=λx y H Q=>∃l k a,x=.ref l/\y=.int k/\H l=some (.lst a)/\-(2^63)<=k/\k < 2^63/\a.length*k.toNat<=sizeLine/\
 ∀p,H p=none->Q (.ref p) (upd H p (.lst (List.replicate k.toNat a).flatten))
def len_rep(a:List α)(k:Nat):(List.replicate k a).flatten.length=k*a.length:=by
 induction k with
 | zero=>simp
 | succ k b=>rw[Yq,YZ,WQ,b,Nat.succ_mul,Nat.add_comm]
def O5:lu X (binaryOp .Mult) U3:=by
 intro p s M H x y v u Q I E C h;obtain⟨l,k,N,rfl,rfl,G,L,J,w,q⟩:=h;cases E;obtain⟨t,rfl⟩:=C;obtain⟨z,b,n,r,hl,e⟩:=I.IC G;have f:b.toArray.size*k.toNat<=sizeLine:=by rw[WT,<-hl];exact w
 have i:¬b.toArray.size*k.toNat > (2^63-1) / 8:=by
  have:(sizeLine:Nat)<=(2^63-1) / 8:=by decide
  lia
 have g:¬(!Builtin.List.listFitsIndex k)=true:=by
  rw[fitsIndex_both L J];exact W8
 have c:¬Builtin.List.listTooLong (b.toArray.size*k.toNat)=true:=by
  rw[Iw f];exact W8
 have d:List.foldl (λo j=>o++j) #[] (List.replicate (if b.toArray.isEmpty=true then 0 else k.toNat) b.toArray)=(List.replicate k.toNat b).flatten.toArray:=by
  have f0:∀m:Nat,List.foldl (λo j=>o++j) #[] (List.replicate m b.toArray)=(List.replicate m b).flatten.toArray:=λm=>by
   have:=foldl_rep b m [];rw[AaN] at this;exact this
  rw[f0];cases b with
  | nil=>simp
  | cons a O=>rw[WE (by simp)]
 refine wpAny_binaryOp_repeat_ref (T:="list") (U:="int") (by decide) ⟨_,e,rfl⟩ (λA=>typeIs_int A k t) noFill_list_mul F.fills_int_mul F.slot_int_rmul repeat_list F.slot_int_index.lookup
  (AaI F.slot_int_rmul (typeIs_int s k t) F.entry_int_rmul (F.args_int_rmul_2 _ _) (int___rmul___int_list k t l b.toArray n)
   ⟨e,rfl,⟨_,e,rfl⟩,AaI F.slot_list_mul ⟨_,e,rfl⟩ F.entry_list_mul (F.args_list_mul_2 _ _) (AutoListH.list___mul___list_int_3 l b.toArray n k t g i c) ⟨e,?_⟩⟩)
 rw[d];exact⟨.ref _,_,I.LA (t':=s.toks) (r.rep k.toNat) (by rw[len_rep,Nat.mul_comm];exact w),rfl,q _ I.fresh⟩
section
variable {κ:Type} [DecidableEq κ]
noncomputable def iT(a:List (κ×V))(k:κ):Option V:=(a.find? λb=>decide (b.1=k)).map (·.2)
noncomputable def putK(a:List (κ×V))(k:κ)(v:V):List (κ×V):=
 if(a.any λb=>decide (b.1=k))=true then a.map (λb=>if b.1=k then(b.1,v) else b) else a++[(k,v)]
def qO{p:κ×V}{r:List (κ×V)}{k:κ}(e:p.1=k):iT (p::r) k=some p.2:=by simp[iT,XI,e]
def lC{p:κ×V}{r:List (κ×V)}{k:κ}(e:¬p.1=k):iT (p::r) k=iT r k:=by simp[iT,XI,e]
theorem yF(k:κ):∀a:List (κ×V),(a.any λb=>decide (b.1=k))=(iT a k).isSome
 | []=>rfl
 | p::r=>by
  rw[YG]
  by_cases e:p.1=k
  ·simp only[qO e,W4 e,Bool.true_or,Option.isSome_some]
  ·rw[lC e,WW e,Aa8];exact yF k r
def gx(a:List (κ×V))(k:κ)(v:V):(putK a k v).length<=a.length+1:=by
 unfold putK
 split
 ·rw[Ws];exact YC _
 ·rw[WQ,WN,XO];exact YL _
def tF.gX(r:tF o u):o.isSome=u.isSome:=by
 cases o with
 | none=>cases u with
  | none=>rfl
  | some _=>exact(show False from r).elim
 | some _=>cases u with
  | none=>exact(show False from r).elim
  | some _=>rfl
def KV.val{a:List (κ×V)}{f:List (κ×Value)}(r:KV a f)(k:κ):tF (iT a k) (valueAt f k):=by
 unfold KV at r
 induction r with
 | nil=>exact True.intro
 | @cons p q l c h t i=>
  obtain⟨g,j⟩:=h
  by_cases e:p.1=k
  ·have d:q.1=k:=g.symm.trans e;have b:valueAt (q::c) k=some q.2:=by simp[valueAt,XI,d]
   rw[qO e,b];exact j
  ·have d:¬q.1=k:=λz=>e (g.trans z);have b:valueAt (q::c) k=valueAt c k:=by simp[valueAt,XI,d]
   rw[lC e,b];exact i
theorem KV.any(r:KV a c)(k:κ):(a.any λb=>decide (b.1=k))=c.any λb=>decide (b.1=k):=by
 unfold KV at r
 induction r with
 | nil=>rfl
 | cons h t d=>rw[YG,YG,d,h.1]
def KV.Og(r:KV c d)(k:κ)(f:RelV y u):
  KV (c.map λa=>if a.1=k then(a.1,y) else a) (d.map λa=>if a.1=k then(a.1,u) else a):=by
 unfold KV at r ⊢
 induction r with
 | nil=>exact .nil
 | @cons p q l j h t g=>
  rw[WG,WG];refine .cons ?_ g;obtain⟨b,i⟩:=h
  by_cases e:p.1=k
  ·rw[WC e,WC (b.symm.trans e)];exact⟨b,f⟩
  ·rw[WE e,WE (λz=>e (b.trans z))];exact⟨b,i⟩
def KV.put(r:KV kvs a)(k:κ)(b:RelV y u):KV (putK kvs k y) (stored a k u):=by
 unfold putK stored;rw[r.any k]
 by_cases e:(a.any λc=>decide (c.1=k))=true
 ·rw[WC e,WC e];exact r.Og k b
 ·rw[WE e,WE e];exact Paired.snoc r ⟨rfl,b⟩
theorem KV.length(r:KV a b):a.length=b.length:=Paired.length r
end
def mH(r:RelV (kV k) u):(bu P w).is k u=true:=by
 cases k with
 | inl i=>obtain⟨t,e⟩:=(show ∃t,u=Value.int i t from r);subst e;exact ju P w i t
 | inr x=>obtain⟨t,e⟩:=(show ∃t,u=Value.str x t from r);subst e;exact jt P w x t
theorem vK:∀{ks:List Key} {us:List Value},Vals (ks.map kV) us->ItemsAre (bu P w) ks us
 | [],_,r=>by rw[Yk] at r;cases r;exact .nil
 | k::ks,_,r=>by
  rw[WG] at r;cases r with
  | cons h t=>exact .cons (mH h) (vK t)
abbrev KT(H:Hp):List (List Key×V)->List (List Key×Addr×Value)->Prop:=Paired λp q=>p.1=q.1/\H q.2.1=some (.tup (p.1.map kV))/\RelV p.2 q.2.2
def KT.val{H:Hp}{a:List (List Key×V)}{f:List (List Key×Addr×Value)}(r:KT H a f)(k:List Key):tF (iT a k) ((atKey f k).map (·.2)):=by
 induction r with
 | nil=>exact True.intro
 | @cons p q l c h t i=>
  obtain⟨g,_,j⟩:=h
  by_cases e:p.1=k
  ·have d:q.1=k:=g.symm.trans e;have b:atKey (q::c) k=some q.2:=by simp[atKey,XI,d]
   rw[qO e,b];exact j
  ·have d:¬q.1=k:=λz=>e (g.trans z);have b:atKey (q::c) k=atKey c k:=by simp[atKey,XI,d]
   rw[lC e,b];exact i
def KT.Og(r:KT H b xs)(k:List Key)(f:RelV y u):
  KT H (b.map λc=>if c.1=k then(c.1,y) else c) (xs.map (putAt k u)):=by
 induction r with
 | nil=>exact .nil
 | @cons p q l j h t g=>
  rw[WG,WG];refine .cons ?_ g;obtain⟨a,d,i⟩:=h;unfold putAt
  by_cases e:p.1=k
  ·rw[WC e,WC (a.symm.trans e)];exact⟨a,d,f⟩
  ·rw[WE e,WE (λz=>e (a.trans z))];exact⟨a,d,i⟩
def KT.put(r:KT H kvs xs)(k:List Key)(d:H b=some (.tup (k.map kV)))(a:RelV y u):
  KT H (putK kvs k y) (storedH xs k b u):=by
 have e:(kvs.any λc=>decide (c.1=k))=(atKey xs k).isSome:=by
  rw[yF,(r.val k).gX,ZA]
 unfold putK storedH;rw[e]
 by_cases q:(atKey xs k).isSome=true
 ·rw[WC q,WC q];exact r.Og k a
 ·rw[WE q,WE q];exact Paired.snoc r ⟨rfl,d,a⟩
def KT.keeps(r:KT H a xs)(ht:∀b c,H b=some (.tup c)->d b=some (.tup c)):KT d a xs:=
 Paired.Pf r λ_ _ z=>⟨z.1,ht _ _ z.2.1,z.2.2⟩
def MW(ok:hW P w H h)(e:Rd H a u):bY P w H h a u:=e.ok ok
def vP(ok:hW P w H h)(e:Rd H a (.dK b)):b.length<=sizeLine/\(a==sysModules)=false/\∃c,KV b c/\h.DictOf (bu P w) a c:=
 show bY P w H h a (.dK b) from MW ok e
def vQ(ok:hW P w H h)(e:H a=some (.dK b)):b.length<=sizeLine/\(a==sysModules)=false/\∃c,KV b c/\h.DictOf (bu P w) a c:=vP ok (.inl e)
def sD(ok:hW P w H h)(e:H a=some (.tup (ks.map kV))):(tupleKind (bu P w)).is h ks a:=by
 obtain⟨_,b,r,o,f,d,⟨n,c⟩,_⟩:=(show bY P w H h a (.tup (ks.map kV)) from ok a _ e);exact⟨o,b.toArray,n,f,d,c,by simpa using vK r⟩
def Ak(ok:hW P w H h)(e:Rd H a (.dT b)):b.length<=sizeLine/\(a==sysModules)=false/\
  ∃d,KT H b d/\h.DictOfH (tupleKind (bu P w)) a d:=by
 obtain⟨z,y,d,r,o,u,v,s,n,k,j,i⟩:=(show bY P w H h a (.dT b) from MW ok e);refine⟨z,y,d,r,o,u,v,s,n,k,j,λx c=>?_,i⟩;have all:∀{l:List (List Key×V)} {m:List (List Key×Addr×Value)},KT H l m->∀x∈m,(tupleKind (bu P w)).is h x.1 x.2.1:=by
  intro l m q
  induction q with
  | nil=>intro x c;exact nomatch c
  | @cons p q C A f t g=>
   intro x c;rcases WI.mp c with e | c
   ·subst e;exact sD ok (by rw[<-f.1];exact f.2.1)
   ·exact g x c
 exact all r x c
def SF(ok:hW P w H h)(e:H a=some (.dT b)):b.length<=sizeLine/\(a==sysModules)=false/\
  ∃c,KT H b c/\h.DictOfH (tupleKind (bu P w)) a c:=Ak ok (.inl e)
def uG(H:Hp)(a:Addr)(y:V)(r:Option V):Prop:=
 (∃c k,Rd H a (.dK c)/\y=kV k/\r=iT c k)\/∃c k b,Rd H a (.dT c)/\y=.ref b/\H b=some (.tup (k.map kV))/\r=iT c k
def ME(H:Hp)(a:Addr)(y v:V)(d:Hp):Prop:=
 (∃c k,H a=some (.dK c)/\y=kV k/\c.length < sizeLine/\d=upd H a (.dK (putK c k v)))\/
 ∃c k b,H a=some (.dT c)/\y=.ref b/\H b=some (.tup (k.map kV))/\c.length < sizeLine/\d=upd H a (.dT (putK c k v))
theorem uG.k{H:Hp}{a:Addr}{b:List (Key×V)}{k:Key}(e:H a=some (.dK b)):uG H a (kV k) (iT b k):=.inl ⟨b,k,.inl e,rfl,rfl⟩
theorem ME.k{H:Hp}{a:Addr}{b:List (Key×V)}{k:Key}{v:V}(e:H a=some (.dK b))(hl:b.length < sizeLine):ME H a (kV k) v (upd H a (.dK (putK b k v))):=.inl ⟨b,k,e,rfl,hl,rfl⟩
def Inv.big(I:Inv X pins σ H s):sysModules < s.heap.objs.size:=by
 have h:mainGlobals < s.heap.objs.size:=(I.mod.glob.keeps I.bk).lt;exact Zq (by decide) h
def FX(C:A.units+1 < cLine)(I:Inv X pins σ H s)(g:uG H a y (some v))(r:RelV y u)(h:∀f q,Inv X pins σ H q->RelV v f->Q f q):
  wpAny (model X.prog X.w) A (getItem (.ref a) u) Q E s:=by
 rcases g with⟨i,k,e,n,l⟩ |⟨i,k,b,e,n,F,l⟩
 ·subst n;obtain⟨z,hd,x,d,dd⟩:=vP I.a8 e;obtain⟨f,j,c⟩:=tF.some_of (v:=v) (o:=valueAt x k) (by rw[l];exact d.val k);exact wpAny_getItem_of (mH r) dd.mapOf j (h f _ (I.tok _) c)
 ·subst n;cases(show u=Value.ref b from r);obtain⟨z,hd,t,d,dd⟩:=Ak I.a8 e;obtain⟨f,j,c⟩:=tF.some_of (v:=v) (o:=(atKey t k).map (·.2)) (by rw[l];exact d.val k);obtain⟨p,hp,m⟩:=W0.mp j;refine wpAny_getItem_heap (ZO C) (sD I.a8 F) dd hp ?_;rw[m];exact h f _ (I.tok _) c
def Vq(m:A.units+1 < cLine)(I:Inv X pins σ H s)(g:uG H a y o)(j:RelV y u)(h:∀i,Inv X pins σ H i->Q (.bool o.isSome) i):
  wpAny (model X.prog X.w) A (compareOp .In u (.ref a)) Q E s:=by
 rcases g with⟨d,k,e,f,l⟩ |⟨d,k,b,e,f,n,l⟩
 ·subst f;obtain⟨z,hd,r,c,dd⟩:=vP I.a8 e;refine wpAny_in_of (mH j) hd dd.mapOf ?_;rw[<-(c.val k).gX,<-l];exact h _ (I.tok _)
 ·subst f;cases(show u=Value.ref b from j);obtain⟨z,hd,p,c,dd⟩:=Ak I.a8 e;refine wpAny_in_heap (ZO m) (sD I.a8 n) hd dd ?_;have q:=(c.val k).gX;rw[ZA] at q;rw[<-q,<-l];exact h _ (I.tok _)
def Mc(m:A.units+1 < cLine)(I:Inv X pins σ H s)(g:uG H a y o)(j:RelV y u)(h:∀i,Inv X pins σ H i->Q (.bool (!o.isSome)) i):
  wpAny (model X.prog X.w) A (compareOp .NotIn u (.ref a)) Q E s:=by
 rcases g with⟨d,k,e,f,l⟩ |⟨d,k,b,e,f,n,l⟩
 ·subst f;obtain⟨z,hd,r,c,dd⟩:=vP I.a8 e;refine wpAny_notIn_of (mH j) hd dd.mapOf ?_;rw[<-(c.val k).gX,<-l];exact h _ (I.tok _)
 ·subst f;cases(show u=Value.ref b from j);obtain⟨z,hd,p,c,dd⟩:=Ak I.a8 e;refine wpAny_notIn_heap (ZO m) (sD I.a8 n) hd dd ?_;have q:=(c.val k).gX;rw[ZA] at q;rw[<-q,<-l];exact h _ (I.tok _)
def gB(I:Inv X pins σ H s)(d:TL (H a))(f:Heap.SameBut a s.heap c)(g:∃q,c.get? a=some q)(new:bY X.prog X.w (upd H a ob) c a ob):
  Inv X pins σ (upd H a ob) {s with heap:=c,toks:=t'}:=
 I.write (x:=a) (e:=a) d (.inl rfl) (λb q h z=>(f.2 b h).trans z) g new
def x3(z:b.length<=sizeLine)(hd:(a==sysModules)=false)(c:KV b d)(dd:e.DictOf (bu P w) a d):
  bY P w H' e a (.dK b):=⟨z,hd,d,c,dd⟩
def FW(M:A.units+1 < cLine)(I:Inv X pins σ H s)(g:ME H a y v Y)(x:RelV y u)(rv:RelV v r)(h:∀t,Inv X pins σ Y t->Q () t):
  wpAny (model X.prog X.w) A (setItem (.ref a) u r) Q E s:=by
 rcases g with⟨f,k,e,o,l,p⟩ |⟨f,k,b,e,o,G,l,p⟩
 ·subst o p;obtain⟨z,hd,L,d,dd⟩:=vQ I.a8 e;have m:L.length<=sizeLine:=by rw[<-d.length];exact z
  have hl:(putK f k v).length<=sizeLine:=by have:=gx f k v;lia
  refine wpAny_setItem_pairs (hsz:=m) (mH x) dd λC i n=>h _ ?_;have N:∃q,C.get? a=some q:=by obtain⟨q,_,_,j,_⟩:=i;exact⟨q,j⟩
  exact gB I (by rw[e];exact True.intro) n N (x3 hl hd (d.put k rv) i)
 ·subst o p;cases(show u=Value.ref b from x);obtain⟨z,hd,J,d,dd⟩:=SF I.a8 e;have m:J.length<=sizeLine:=by rw[<-Paired.length d];exact z
  have hl:(putK f k v).length<=sizeLine:=by have:=gx f k v;lia
  refine wpAny_setItem_heap (hsz:=m) (ZO M) (sD I.a8 G) dd λC i n=>h _ ?_;obtain⟨q,T,U,j,S,R,P,_,O⟩:=i;refine gB I (by rw[e];exact True.intro) n ⟨q,j⟩ ⟨hl,hd,_,(d.put k G rv).keeps λc Z F=>?_,q,T,U,j,S,R,P,O⟩;rw[aC (Se F e (λz=>nomatch z))];exact F
def SH(I:Inv X pins σ H s)(e:Rd H a (.dK c))(h:∀t d,Inv X pins σ H d->Q (.int c.length t) d):wpAny (model X.prog X.w) A (call (.builtin "len") [.ref a]) Q E s:=by
 obtain⟨z,hd,f,b,dd⟩:=vP I.a8 e;refine call_len_dict hd dd (by rw[<-b.length];rw[XR] at z;lia) ?_;rw[<-b.length];exact h _ _ (I.tok _)
def MA(i:Expr):Prop:=∀a b,subscripted i false a b=operate [a,b] (getItem a b)
def Kr{prog:Program}{w:World}{A:Around}{E:Value->Shared->Prop}{s:Shared}{env:Env}{b a:Expr}{pos:Pos}{T m:String}{Q:Value->Shared->Prop}
  (hl:typeLookup (.type T) "__getitem__"=pure (some (.builtin m))) (n:MA a)
  (h:wpAny (model prog w) A (eval b env) (λo f=>wpAny (model prog w) A (eval a env) (λi c=>c.TypeIs o T/\wpAny (model prog w) A (getItem o i) Q E c) E f) E s):
  wpAny (model prog w) A (eval (.Subscript b a pos) env) Q E s:=by
 refine Subscript_ (Xv h (λo f k=>Xv k (λi c d=>?_) λ_ _ x=>x) λ_ _ x=>x);obtain⟨l,d⟩:=d;unfold subscriptTail;refine Wr ?_;rw[getitemInPython_of_ne l.not_modules];refine Wr (YI l hl ?_);have g:wpAny (model prog w) A (subscripted a false o i) (λr e=>wpAny (model prog w) A (letTemporaryGo b o r >>=λ_=>pure r) Q E e) E c:=by
  rw[n o i];exact wpAny_operating (Xv d (λr e j=>Wr (wpAny_letTemporaryGo (Wt j))) λ_ _ x=>x)
 first
  | exact Wt (Wr g)
  | exact Wr (Wt (Wr g))
  | exact Wr g
def Al(I:Inv X pins σ H s)(g:uG H a y o):s.TypeIs (.ref a) "dict":=by
 rcases g with⟨c,k,e,_,_⟩ |⟨c,k,b,e,_,_,_⟩
 ·obtain⟨_,_,f,_,dd⟩:=vP I.a8 e;exact dd.typeIs
 ·obtain⟨_,_,d,_,dd⟩:=Ak I.a8 e;exact dd.typeIs
def ng(h:Heap)(a:sysModules < h.objs.size):bY P w H (h.push {cls:=.type "dict",data:=.dict #[]}) h.objs.size (.dK []):=
 ⟨Xe _,Zk.mpr (XJ (WZ a)),[],.nil,Heap.DictOf.new h⟩
def NL:TE:=λ_ H Q=>∀p,H p=none->Q (.ref p) (upd H p (.dK []))
def HY:PE X (.Dict [] [] pos) NL:=λb s c H Q I h=>
 wpAny_Dict_empty ⟨.ref s.heap.objs.size,_,I.laid (a:=s.heap.objs.size) (o:=.dK []) (t':=s.toks) (λ_ _ q=>Wu _ q) (WB _) (ng s.heap I.big),rfl,h _ (I.a8.fresh (WB _))⟩
def wA:List (TE×TE)->St->Hp->(List (V×V)->Hp->Prop)->Prop
 | [],_,H,Q=>Q [] H
 |(b,a)::r,σ,H,Q=>b σ H λx f=>a σ f λy e=>wA r σ e λc d=>Q ((x,y)::c) d
abbrev VV:List (V×V)->List (Value×Value)->Prop:=Paired λp q=>RelV p.1 q.1/\RelV p.2 q.2
def QU(X:Cx)(pos:Pos)(c:List (Option Expr))(a:List Expr)(e:List (TE×TE)):Prop:=
 ∀(b:List (Addr×Obj)) (s:Shared) (d:St) (H:Hp) (Q:List (V×V)->Hp->Prop),Inv X b d H s->wA e d H Q->
  wpAny (model X.prog X.w) X.A (evalPairs (pairTrees c a X.env pos)) (λh i=>∃f g,Inv X b d g i/\VV f h/\Q f g) X.xe s
def Dz:QU X pos [] [] []:=λa s b H Q I h=>pairTrees_nil_walk ⟨[],H,I,.nil,h⟩
def zq(p:PE X k f)(o:PE X v e)(hr:QU X pos ks d c):
  QU X pos (some k::ks) (v::d) ((f,e)::c):=λa s b H Q I h=>
 pairTrees_cons_walk (b5 (p a s b H _ I h) λu s1 ⟨x,H1,t,i,m⟩=>b5 (o a s1 b H1 _ t m) λA s2 ⟨y,z,r,g,l⟩=>
  b5 (hr a s2 b z _ r l) λws s3 ⟨n,w,q,rel,j⟩=>⟨(x,y)::n,w,q,.cons ⟨i,g⟩ rel,j⟩)
def bD(a more:List (Key×V)):List (Key×V):=more.foldl (λb c=>putK b c.1 c.2) a
def KV.merge:∀{more:List (Key×V)} {rs:List (Key×Value)} {a:List (Key×V)} {b:List (Key×Value)},KV more rs->KV a b->KV (bD a more) (merged b rs):=by
 intro more rs a b r;unfold KV at r
 induction r generalizing a b with
 | nil=>intro q;exact q
 | @cons p q g f h t d=>
  intro c;have e:KV (putK a p.1 p.2) (stored b q.1 q.2):=by
   have:=c.put p.1 h.2;rw[<-h.1];exact this
  exact d e
theorem gK:∀(more a:List (Key×V)),(bD a more).length<=a.length+more.length
 | [],a=>by show a.length<=a.length+0;exact WB _
 | p::r,a=>by
  have c:=gK r (putK a p.1 p.2);have b:=gx a p.1 p.2;show(bD (putK a p.1 p.2) r).length<=_;rw[WN];lia
theorem sZ:∀{d:List (Key×V)} {e:List (Value×Value)},VV (d.map λf=>(kV f.1,f.2)) e->∃rs,Carries (bu P w) e rs/\KV d rs
 | [],_,r=>by rw[Yk] at r;cases r;exact⟨[],True.intro,.nil⟩
 | p::d,_,r=>by
  rw[WG] at r;cases r with
  | @cons a b as bs h t=>
   obtain⟨rs,c,q⟩:=sZ (P:=P) (w:=w) t;obtain⟨i,g⟩:=b;exact⟨(p.1,g)::rs,⟨mH h.1,rfl,c⟩,.cons ⟨rfl,h.2⟩ q⟩
def MM(b:List (TE×TE)):TE:=λe H Q=>∀p,H p=none->wA b e (upd H p (.dK [])) λf d=>d p=some (.dK [])/\∃a:List (Key×V),f=a.map (λc=>(kV c.1,c.2))/\a.length<=15/\Q (.ref p) (upd d p (.dK (bD [] a)))
def Lj(h:QU X pos keys values i)(f:keys.all (·.isSome)=true)(hl:keys.length=values.length)(A:keys≠[])(j:keys.length<=15):PE X (.Dict keys values pos) (MM i):=by
 intro b s l H Q I q;have hn:=I.a8.fresh (WB s.heap.objs.size);have E:=I.laid (a:=s.heap.objs.size) (o:=.dK []) (h':=s.heap.push {cls:=.type "dict",data:=.dict #[]}) (t':=s.toks) (λ_ _ q=>Wu _ q) (WB _) (ng s.heap I.big);refine wpAny_Dict_walk (knd:=bu X.prog X.w) f hl A j (b5 (h b _ l _ _ E (q _ hn)) λws s2 u9=>?_);obtain⟨F,G,k,rel,e,d,C,lk,r⟩:=u9;subst C;obtain⟨rs,c,n⟩:=sZ (P:=X.prog) (w:=X.w) rel;obtain⟨z,hd,m,p,dd⟩:=vQ k.a8 e;cases p;refine⟨rs,c,dd,λh' g u=>⟨.ref s.heap.objs.size,_,?_,rfl,r⟩⟩;have t:(bD [] d).length<=sizeLine:=by
  have y:=gK d [];rw[XO] at y;rw[XR];lia
 have x:∃q,h'.get? s.heap.objs.size=some q:=by obtain⟨q,_,_,v,_⟩:=g;exact⟨q,v⟩
 exact gB k (by rw[e];exact True.intro) u x (x3 t hd (n.merge .nil) g)
end L2
namespace Att
open PySem.W PySem.Calls PyProof.Rows
def qf:∀(ns:List Int)(c:List Value),WellAll P h c (ns.map WData.int)->IntsAre c ns:=by
 intro ns
 induction ns with
 | nil=>
  intro c w;rw[Yk] at w;cases w;exact .nil
 | cons n ns d=>
  intro c w;rw[WG] at w;cases w with
  | cons a b=>
   cases a;exact .cons _ _ (d _ b)
def EK{l:OpenLaw}{n:Nat}(hn:l.most=some n){P:Params}{h:Heap}{args:List WData}{b:List Value}
  (c:l.row.toRowW.claim.pre args=true) (j:WellAll P h b args):
  ∃a m ns,b=[Value.ref a]/\args=[WData.list (ns.map WData.int)]/\h.get? a=some {cls:=.type "list",data:=.seq m.toArray}/\IntsAre m ns/\ns.length<=n:=by
 have k:WShape.hasAll [] args [.list .int]=true:=(pre_splitW c).1;have o:l.pre.holds [] {args:=args}=true:=(pre_splitW c).2;obtain⟨d,r,rfl,x,w⟩:=hasAllW_cons k;obtain rfl:=hasAllW_nil w;obtain⟨y,rfl,v⟩:=hasW_list x;obtain⟨ns,rfl⟩:=items_int v;have e:ns.length<=n:=by
  unfold OpenLaw.pre at o;have i:(WTm.not (.lt (.lit (.int (n:Int))) (.len (.arg 0)))).holds [] {args:=[.list (ns.map .int)]}=true:=by
   have i:=(holds_andW o).1;rw[hn] at i;exact i
  have g:=condW_of i (w_not (w_lt w_lit (w_len_list (w_arg rfl))));rw[Ws] at g;refine XC λq=>?_;have t:(n:Int) < ((ns.length:Nat):Int):=by exact Y8.mpr q
  first
   |(rw[W4 t] at g;exact absurd g (by decide))
   |(simp at g;lia)
 cases j with
 | cons s p=>
  cases p;cases s with
  | list u f=>exact⟨_,_,ns,rfl,rfl,u,qf ns _ f,e⟩
def E5(l:OpenLaw)(args:List WData):l.row.toRowW.claim.post args (.bool true) args=true:=
 postW_of (r:=l.row.toRowW) (X:=(true==true))
  (show WShape.has [] (.bool true) .bool=true by first | rfl | decide | simp[WShape.has,WShape.arms,WShape.armsAll])
  (show(WTm.eq .res (.lit (.bool true))).value [] {args:=args,res:=some (.bool true),after:=args}=some (.bool (true==true)) from w_eq_bool (w_res rfl) w_lit) rfl
def Ay{l:OpenLaw}{n:Nat}{q:Program}{c:List Str}{H:(Str->Option Value)->Heap->Prop}{F:World->Heap->Prop}{d:DefRec}
  (hn:l.most=some n) (y:d.params.defaults=[])
  (call:∀(w:World)(s₀ b:Shared)(mg u:Str->Option Value)(m:Addr)(o:Obj)(t s g:Value)(a:Addr)(h:List Value)(ns:List Int),
   Ground q c [] H w s₀ mg u b.heap->F w b.heap->
   b.heap.get? m=some o->o.data=.func (docDef d.name d.params d.body d.scope t s g)->b.heap.CodeRec s d.name->mg d.name=some (.ref m)->
   b.heap.get? a=some {cls:=.type "list",data:=.seq h.toArray}->IntsAre h ns->ns.length<=n->b.gens=#[]->
   codeAny (model l.prog w) callerA (.call (.ref m) ⟨[.ref a],[]⟩) (λr p=>r=.ok (.ret (.bool true))/\OldK b.heap p.heap/\p.os=b.os/\AllBare p.gens) b):
  WalkO q c H F l.row.toRowW d [] (λf h=>PySem.call f h):=by
 intro w s₀ b mg u G Y m o t s g R kV L hd z E x N args A S i C I v M;obtain rfl:R=.none:=Dflts.none E y;obtain rfl:kV=.none:=Dflts.noKw E;obtain⟨a,h,ns,rfl,rfl,j,e,k⟩:=EK hn i v;refine enter_call (ZG (call w s₀ b mg u m o t s g a h ns G Y L (fd_plain hd) z x j e k N) λr p J=>?_);obtain⟨rfl,Q,P,O⟩:=J;exact⟨.inl ⟨.bool true,.bool true,[],rfl,λ_=>rfl,.bool true,E5 l _,λ_=>⟨List.Pairwise.nil,λ_ hm=>(nomatch hm)⟩⟩,Q,P,O⟩
section
variable {prog:Program} {w:World} {A:Around} {E:Value->Shared->Prop} {s:Shared} {K:Frag}
end
end Att
namespace L2
open PyProof.Rows
def nW{b:List Value}{ns:List Int}(a:IntsAre b ns):Vals (ns.map V.int) b:=by
 induction a with
 | nil=>exact .nil
 | cons n t h c=>exact .cons ⟨t,rfl⟩ c
def TJ(H:Hp):Prop:=∀b,H b=none\/∃o a,H b=some (.DY o (.lst a))
def IG{P:Program}{w:World}{K:FR}{mg O:Str->Option Value}{CX:MF}{k:Nat}{U a:Addr}{fd:FuncData}{x:Str}{sp:Sp}{c:Shared}{p:List Value}{ns:List Int}
  (KX:K.In c.heap) (E:c.heap.Ns mainGlobals mg) (g:c.heap.Ns builtinsNs O) (S:∀x:Str,x≠"__name__"->O x=bootBuiltins x) (G:c.heap.NoLimit) (hg:c.gens=#[])
  (M:c.heap.get? a=some {cls:=.type "list",data:=.seq p.toArray}) (Y:IntsAre p ns) (hl:ns.length<=sizeLine) (hr:eF k callerA)
  (F:∀base:Heap,K.In base->base.Ns mainGlobals mg->f9 P w K mg base CX k U fd [x] sp) (t:∀(s:Shared)(u:Value),BindsTo s fd ⟨[u],[]⟩ [(x,u)])
  (Q:∀H:Hp,TJ H->eV K H a (ns.map V.int)->sp [.ref a] H (λv _=>v=.bl true) λ_ _ _=>False)
  (T:∀H e i,CX [] H c (λ_ _ _=>False) e i->False):
  codeAny (model P w) callerA (.call (.ref U) ⟨[.ref a],[]⟩) (λr i=>r=.ok (.ret (.bool true))/\OldK c.heap i.heap/\i.os=c.os/\AllBare i.gens) c:=by
 have rv:=nW Y;have A:=Y.length;have l:∀H:Hp,TJ H->eV K H a (ns.map V.int)->hW P w H c.heap->(∀b,H b≠none->b=a)->(H a≠none->K.lookup a=none)->
   codeAny (model P w) callerA (.call (.ref U) ⟨[.ref a],[]⟩) (λr i=>r=.ok (.ret (.bool true))/\OldK c.heap i.heap/\i.os=c.os/\AllBare i.gens) c:=by
  intro H Z hS a8 hA hK;have f:∀{b:Addr} {o:Obj},c.heap.get? b=some o->H b=none->(xP c.heap H).get? b=some o:=λe n=>IK e n;have N:∀{b:Addr} {o:Obj} {J:Array DictEntry} {L:Nat},c.heap.get? b=some o->o.data=.dict J L->H b=none:=λ{b o J L} e d=>by
   cases q:H b with
   | none=>rfl
   | some u=>
    have X:b=a:=hA b (by rw[q];simp);subst X;rw[M] at e;cases e;have d':Data.seq p.toArray _=Data.dict J L:=d;cases d'
  have j:∀{b:Addr} {m:Str->Option Value},c.heap.Ns b m->(xP c.heap H).Ns b m:=λ{b m} ⟨o,J,L,e,d,r⟩=>⟨o,J,L,f e (N e d),d,r⟩;have I:K.In (xP c.heap H):=λb o e=>f (KX b o e) (by
   cases q:H b with
   | none=>rfl
   | some u=>
    have X:b=a:=hA b (by rw[q];simp);subst X;rw[hK (by rw[q];simp)] at e;cases e)
  have hM:Mod K mg (xP c.heap H):=⟨I,j E,⟨O,j g,S⟩,let⟨mc,h1,h2⟩:=G;⟨mc,j h1,h2⟩⟩;have e0:MD P w K mg (xP c.heap H) callerA [] c H:=⟨rfl,hM,λb o e=>Lv e,Nat.le_of_eq (FG _ _),trivial,λb g=>absurd (show b∈([]:List Addr) from g) (by simp),a8,.of_eq hg⟩;refine ZG ((F _ I (j E)).run callerA [] c H ⟨[.ref a],[]⟩ [.ref a] [.ref a] _ _ hr e0 (t c (.ref a)) (.cons rfl .nil) (Q H Z hS)) λr i h=>?_;cases r with
  | error e=>exact(T H e i h).elim
  | ok fl=>
   cases fl with
   | next=>exact False.elim h
   | brk=>exact False.elim h
   | cont=>exact False.elim h
   | ret u=>
    obtain⟨v,H',os,bare,un,C,r',q⟩:=h;have q':v=.bl true:=q;subst q';obtain rfl:u=Value.bool true:=r';refine⟨rfl,OldK.of_keep λb o e=>?_,os,bare⟩;cases q:H b with
    | none=>exact un.keep b o e q (by intro z;exact absurd (show b∈([]:List Addr) from z) (by simp)) (by simp)
    | some u=>
     rcases Z b with z |⟨ob,xs,z⟩
     ·rw[q] at z;cases z
     ·have z2:=un.uz b ob _ z;obtain⟨e1,_⟩:=a8 b _ z;obtain⟨e2,_⟩:=C b _ z2;rw[e] at e1;cases e1;exact e2
 cases R:K.lookup a with
 | some o=>
  have e:=KX a o R;rw[M] at e;cases e;refine l (λ_=>none) (λ_=>.inl rfl) (.inr ⟨_,p.toArray,_,R,rfl,rfl,rfl,by rw[WT,A];exact hl,by simpa using rv⟩) (λb u z=>by have y:(none:Option HO)=some u:=z;cases y) (λb z=>absurd rfl z) λz=>absurd rfl z
 | none=>
  refine l (λb=>if b=a then some (.DY {cls:=.type "list",data:=.seq p.toArray} (.lst (ns.map V.int))) else none) (λb=>?_) (.inl (.inr ⟨{cls:=.type "list",data:=.seq p.toArray},WC rfl⟩)) (λb u z=>?_) (λb z=>?_) λ_=>R
  ·by_cases g:b=a
   ·exact .inr ⟨_,_,WC g⟩
   ·exact .inl (WE g)
  ·by_cases g:b=a
   ·have y:=(WC g).symm.trans z;cases y;subst g;exact⟨M,by rw[Ws];exact hl,p,_,rv,M⟩
   ·have y:=(WE g).symm.trans z;cases y
  ·by_cases g:b=a
   ·exact g
   ·exact absurd (WE g) z
noncomputable def ni(s:Stmt):Arguments:=match s with
 | .FunctionDef _ a _ _ _ _ _ _ _ _=>a
 | _=>{posonlyargs:=[],args:=[],vararg:=none,kwonlyargs:=[],kw_defaults:=[],kwarg:=none,defaults:=[]}
noncomputable def gA(s:Stmt):List Stmt:=match s with
 | .FunctionDef _ _ b _ _ _ _ _ _ _=>b
 | _=>[]
noncomputable def ag(s:Stmt):Scope:=match s with
 | .FunctionDef _ _ _ _ _ _ sc _ _ _=>sc
 | _=>{kind:=.function,names:=[],isGenerator:=false,isCoroutine:=false}
abbrev wm:MF:=λ_ _ _ _ _ _=>False
abbrev E0:XK:=λ_ _ _=>False
def M4:Passes wm X E0:=λ_ _ _ _ _ _ _ h=>h.elim
structure CO(K:FR)(x qual:Str)(st:Stmt)(f:Addr)(fd:FuncData):Prop where
 ex:∃(oc:Value)(od:Option Addr)(kV doc pm:Value)(an:Option Addr)(cdv ct:Value)(osl:Array (Option Value)),
  fd=PySem.W.fnOf x qual (ni st) (gA st) (ag st) .none kV doc pm an cdv ct/\K.lookup f=some ⟨oc,od,.func fd,osl⟩/\PySem.W.codeIn K cdv qual=true
 kp:PySem.W.keepIn K (.ref f)=true
section
variable {P:Program} {w:World} {K:FR} {mg:Str->Option Value} {base:Heap}
def CO.ok{x a:Str}{st:Stmt}{f:Addr}{j:FuncData}{N e:List Str}{k:Nat}{sp:Sp}(F:CO K x a st f j)(S:ao N e (ag st))(len:∀c H Q E,sp c H Q E->c.length=e.length)
  (d:∀(b:Value)(A:Around)(outer:List Env)(s:Shared)(H:Hp)(c:List V)(Q:VK)(E:XK),eF k (A.deeper (envOfC a (ag st) s.heap.objs.size f b))->sp c H Q E->
   ∃t,AK (Am wm P w K mg base N a (ag st) f b A outer s H E).QL (gA st) t/\t {nx:=λ_ n=>Q .bo n,rt:=Q} (start N c) H):f9 P w K mg base wm (k+1) f j e sp:=by
 obtain⟨r,p,kV,m,o,u,b,ct,l,rfl,lk,i⟩:=F.ex;refine Sw lk i S len λA outer s H c Q E hr g=>?_;obtain⟨t,h,q⟩:=d b A outer s H c Q E hr g;exact⟨t,h.QL,q⟩
def CO.binds{x a:Str}{st:Stmt}{f:Addr}{i:FuncData}{d:List Str}(F:CO K x a st f i)
  (h:∀(kV b e:Value)(g:Option Addr)(c ct:Value)(us:List Value),us.length=d.length->bindArgs (PySem.W.fnOf x a (ni st) (gA st) (ag st) .none kV b e g c ct) ⟨us,[]⟩=pure (d.zip us)):Binds K i d []:=by
 obtain⟨m,l,kV,b,e,g,c,ct,j,rfl,lk,k⟩:=F.ex;exact .all (h kV b e g c ct)
end
def F2:eU X (.builtin "len") (λc H Q=>∃a b,c=[V.ref a]/\H a=some (.dK b)/\Q (.int b.length) H):=by
 intro d s i H c us Q I r h;obtain⟨a,b,rfl,f,q⟩:=h;obtain⟨u,rfl,e⟩:=vals1 r;cases e;exact SH I (.inl f) λt j g=>⟨.int b.length,H,g,⟨t,rfl⟩,q⟩
def PB{A B:Prop}(h:B):if false=true then A else B:=by
 rw[WE W8];exact h
def Pz{A B:Prop}(h:A):if true=true then A else B:=by
 rw[WC rfl];exact h
section
variable {κ:Type} [DecidableEq κ]
end
def hW.off(ok:hW P w H h)(d:H C=none)(k:∀b u,b≠C->h.get? b=some u->f.get? b=some u):hW P w H f:=by
 intro a o e;have ne:a≠C:=by rintro rfl;rw[d] at e;cases e
 refine(ok a o e).wD (λb u c q=>k b u ?_ q) (λ_ x=>x) (λ_ _ x=>x);rcases c with rfl | c
 ·exact ne
 ·rintro rfl;rw[d] at c;cases c
noncomputable def gO(env:Env):List (Str×NameKind)->List (Str×Addr)->List (Str×Addr)
 | [],acc=>acc
 |(n,k)::r,acc=>if(k==NameKind.free)=true then gO env r ((n,(env.cells.lookup n).getD 0)::acc) else gO env r acc
def k7(h:∀y∈scope.names,y.2=.free->∃c,env.cells.lookup y.1=some c):closureFor scope env=pure (gO env scope.names []):=by
 have d:∀(names:List (Str×NameKind)) (b:List (Str×Addr)),(∀y∈names,y.2=.free->∃c,env.cells.lookup y.1=some c)->
   (forIn names b (λ(x:Str×NameKind)(r:List (Str×Addr))=>match x with
    |(name,kind)=>if(kind==NameKind.free)=true then do let a<-cellOf env name;pure (ForInStep.yield ((name,a)::r)) else pure (ForInStep.yield r)):Sem (List (Str×Addr)))=pure (gO env names b):=by
  intro names
  induction names with
  | nil=>intro b _;rfl
  | cons y r l=>
   intro b i;obtain⟨n,k⟩:=y;have hr:=λa=>l a λz m=>i z (Wz _ m);rw[Za];unfold gO
   by_cases g:(k==NameKind.free)=true
   ·have f:k=.free:=by simpa using g
    obtain⟨c,j⟩:=i (n,k) Wy f;have e:cellOf env n=pure c:=by unfold cellOf;rw[j]
    simp only[g,Y4,e,j,Option.getD_some];exact hr _
   ·simp only[g,XB];exact hr _
 have k:=d scope.names [] h;unfold closureFor;dsimp only;rw[k];rfl
def FZ:∀(names:List (Str×NameKind)) (a:List (Str×Addr)),(∀y∈names,y.2=.free->∃c,env.cells.lookup y.1=some c)->
  (∀d,a.lookup x=some d->env.cells.lookup x=some d)->(gO env names a).lookup x=some c->env.cells.lookup x=some c:=by
 intro r
 induction r with
 | nil=>
  intro a _ b h;exact b c h
 | cons o r j=>
  obtain⟨n,k⟩:=o;intro a l b h;unfold gO at h;have hr:=λz p=>l z (Wz _ p)
  by_cases i:(k==NameKind.free)=true
  ·rw[WC i] at h;refine j _ hr (λd hd=>?_) h;have g:k=.free:=by simpa using i
   obtain⟨q,m⟩:=l (n,k) Wy g;rw[Xs] at hd;cases f:x==n with
   | true=>
    rw[f] at hd;have e:x=n:=by simpa using f
    rw[e,m];rw[m] at hd;exact hd
   | false=>
    rw[f] at hd;exact b d hd
  ·rw[WE i] at h;exact j _ hr b h
theorem sX:∀(names:List (Str×NameKind)) (a:List (Str×Addr)),(∃c,a.lookup x=some c)->∃c,(gO env names a).lookup x=some c
 | [],_,h=>h
 |(n,k)::r,a,h=>by
  unfold gO
  by_cases b:(k==NameKind.free)=true
  ·rw[WC b];refine sX r _ ?_;rw[Xs];cases d:x==n with
   | true=>exact⟨_,rfl⟩
   | false=>exact h
  ·rw[WE b];exact sX r _ h
theorem nv:∀(names:List (Str×NameKind)) (a:List (Str×Addr)),(x,NameKind.free)∈names->∃c,(gO env names a).lookup x=some c
 | [],_,h=>by cases h
 |(n,k)::r,a,h=>by
  unfold gO;rcases WI.mp h with e | d
  ·injection e with g f
   subst g f;rw[WC (by rfl)];refine sX r _ ⟨(env.cells.lookup x).getD 0,?_⟩;rw[Xs,YK]
  ·by_cases b:(k==NameKind.free)=true
   ·rw[WC b];exact nv r _ d
   ·rw[WE b];exact nv r _ d
def wW{env:Env}:∀{names:List (Str×NameKind)} {x:Str} {j:NameKind},
  (names.map λ(n,k)=>if(k==NameKind.free&&env.scope.kind==.function&&env.kindOf n==some .cell) then(n,NameKind.cell) else(n,k)).lookup x=some j->
  ∃k,names.lookup x=some k/\(j=k\/(k=.free/\j=.cell)):=by
 intro r
 induction r with
 | nil=>
  intro _ _ h;simp at h
 | cons e r d=>
  obtain⟨n,k⟩:=e;intro x j h;have a:List.lookup x ((if(k==NameKind.free&&env.scope.kind==.function&&env.kindOf n==some .cell)=true then(n,NameKind.cell) else(n,k))::_)=some j:=h;rw[Xs];cases c:x==n with
  | true=>
   refine⟨k,rfl,?_⟩
   by_cases b:(k==NameKind.free&&env.scope.kind==.function&&env.kindOf n==some .cell)=true
   ·rw[WC b,Xs,c] at a;simp only[WS,Yt] at b;exact .inr ⟨b.1.1,(Option.some.inj a).symm⟩
   ·rw[WE b,Xs,c] at a;exact .inl (Option.some.inj a).symm
  | false=>
   by_cases b:(k==NameKind.free&&env.scope.kind==.function&&env.kindOf n==some .cell)=true
   ·rw[WC b,Xs,c] at a;exact d a
   ·rw[WE b,Xs,c] at a;exact d a
theorem ij{env:Env}:∀{names:List (Str×NameKind)} {x:Str},names.lookup x=some .free->
  (names.map λ(n,k)=>if(k==NameKind.free&&env.scope.kind==.function&&env.kindOf n==some .cell) then(n,NameKind.cell) else(n,k)).lookup x=some .cell\/
  (names.map λ(n,k)=>if(k==NameKind.free&&env.scope.kind==.function&&env.kindOf n==some .cell) then(n,NameKind.cell) else(n,k)).lookup x=some .free
 | [],_,h=>by simp at h
 |(n,k)::r,x,h=>by
  rw[WG];show List.lookup x ((if(k==NameKind.free&&env.scope.kind==.function&&env.kindOf n==some .cell)=true then(n,NameKind.cell) else(n,k))::_)=_\/List.lookup x ((if(k==NameKind.free&&env.scope.kind==.function&&env.kindOf n==some .cell)=true then(n,NameKind.cell) else(n,k))::_)=_;rw[Xs] at h;cases a:x==n with
  | true=>
   rw[a] at h;have c:k=.free:=Option.some.inj h
   by_cases b:(k==NameKind.free&&env.scope.kind==.function&&env.kindOf n==some .cell)=true
   ·rw[WC b,Xs,a];exact .inl rfl
   ·rw[WE b,Xs,a,c];exact .inr rfl
  | false=>
   rw[a] at h
   by_cases b:(k==NameKind.free&&env.scope.kind==.function&&env.kindOf n==some .cell)=true
   ·rw[WC b,Xs,a];exact ij h
   ·rw[WE b,Xs,a];exact ij h
abbrev eR(X:Cx)(N':List Str)(scope:Scope)(C:Addr)(s₃:Shared)(H₃:Hp)(fp:List Addr)(pl:List (Addr×Obj)):Cx:=
 {X with N:=N',s₀:=s₃,H₀:=H₃,env:=compEnvC scope (gO X.env scope.names []) C X.env,outer:=X.stack,ex:=fp,fn:=λ_=>false,calm:=true,pn:=X.pn++pl,xe:=λ_ _=>False}
structure ba(X:Cx)(N':List Str)(caps:List (Option Nat))(scope:Scope):Prop where
 kind:scope.kind=.function
 BW:∀y∈scope.names,y.2≠.cell
 names:∀y∈scope.names,y.2=.local->scope.names.lookup y.1=some .local
 Jq:∀y∈scope.names,y.2=.free->X.env.kindOf y.1=some .cell\/X.env.kindOf y.1=some .free
 len:caps.length=N'.length
 Wl:∀(j i:Nat)(x:Str),caps[j]?=some (some i)->N'[j]?=some x->X.N[i]?=some x/\scope.names.lookup x=some .free
 nd:N'.Nodup
noncomputable def oO(a:List (Option Nat))(b:St):St:=a.map λo=>o.bind λi=>(b[i]?).join
theorem ba.has(S:ba X d a scope)(ok:X.Ok):∀y∈scope.names,y.2=.free->∃c,X.env.cells.lookup y.1=some c:=λy b e=>ok.has y.1 (S.Jq y b e)
def ba.look(S:ba X b a scope)(ok:X.Ok)(h:(gO X.env scope.names []).lookup x=some c):X.env.cells.lookup x=some c:=
 FZ scope.names [] (S.has ok) (λ_ z=>by simp at z) h
def Inv.block(S:ba X N' f scope)(I:Inv X pins σ H a)(hc:X.calm=true)(R:∀b∈fp,eG X pins H b)(Z:∀b∈fp,b < a.heap.objs.size){g:Heap}{t₄:Nat}{t:Str->Option Value}
  (hn:g.Ns a.heap.objs.size t) (O:∀b o,a.heap.get? b=some o->g.get? b=some o):
  Inv (eR X N' scope a.heap.objs.size a H fp pins) [] (oO f σ) H {a with heap:=g,toks:=t₄}:=by
 have ok:=I.ok;have fresh:∀b o,a.heap.get? b=some o->b≠a.heap.objs.size:=λb o e=>WZ (WH e);have s:∀x c,(gO X.env scope.names []).lookup x=some c->∃v,a.heap.IsCell c v:=λx c e=>I.cell x c (S.look ok e);refine⟨⟨ok.mod,?_,ok.glob,ok.blt,WB _,?_,?_,?_,λ_=>ok.hd hc,ok.frames,.inl rfl,?_,I.bs,?_,?_,?_,I.stack,I.CZ⟩,rfl,I.bare,Un.kept O,?_,?_,I.a8.fresh (WB _),?_,?_,I.a8.kept O,?_⟩
 ·show(relabel scope X.env).kind=.function;exact S.kind
 ·intro x y c h1 h2;exact ok.inj x y c (S.look ok h1) (S.look ok h2)
 ·intro x hx;have T:(relabel scope X.env).names.lookup x=some .cell\/(relabel scope X.env).names.lookup x=some .free:=hx;have L:∀j,(relabel scope X.env).names.lookup x=some j->j=.cell\/j=.free->∃c,(gO X.env scope.names []).lookup x=some c:=by
   intro j hj hjk;obtain⟨k,hk1,hk2⟩:=wW hj;have hm:=X7 hk1;have hkf:k=.free:=by
    rcases hk2 with rfl |⟨e,_⟩
    ·rcases hjk with rfl | e
     ·exact absurd rfl (S.BW _ hm)
     ·exact e
    ·exact e
   subst hkf;exact nv scope.names [] hm
  rcases T with h | h
  ·exact L _ h (.inl rfl)
  ·exact L _ h (.inr rfl)
 ·intro x c h _;exact absurd (show false=true from h) (by decide)
 ·intro b J;refine⟨WZ (Z b J),λx c h=>(R b J).2.2.2.2.1 x c (S.look ok h)⟩
 ·exact WL ok.Nh I.sz
 ·intro b o e J;rcases(R b J).2.2.2.1 with z | z
  ·exact ok.Iy b o e z
  ·exact absurd (WM (WH e) ok.Nh) (AaW.mpr z)
 ·intro b J z;rcases WI.mp (I.nY b z) with e | e
  ·exact(R b J).2.1 e
  ·exact(R b J).2.2.1 e
 ·refine⟨t,hn,λj x v e1 e2 e3=>?_⟩;have l:(f.map λo=>o.bind λi=>(σ[i]?).join)[j]?=some (some v):=e2;rw[WJ] at l;cases F:f[j]? with
  | none=>rw[F] at l;cases l
  | some oi=>
   rw[F] at l;have C:(oi.bind λi=>(σ[i]?).join)=some v:=Option.some.inj l;cases oi with
   | none=>cases C
   | some i=>
    have r:(σ[i]?).join=some v:=C;have M:σ[i]?=some (some v):=by
     cases hs:σ[i]? with
     | none=>rw[hs] at r;cases r
     | some w=>rw[hs] at r;rw[show w=some v from r]
    obtain⟨hX,E⟩:=S.Wl j i x F e1;obtain⟨m,_,hl⟩:=I.loc;have A:=S.Jq _ (X7 E) rfl;have N:QT X.env.scope x:=by
     rcases A with z | z
     ·exact .inr (.inl z)
     ·exact .inr (.inr z)
    obtain⟨u,ru,lk⟩:=hl i x v hX M N;refine⟨u,ru,.inr ⟨?_,?_⟩⟩
    ·exact ij E
    ·obtain⟨c,P⟩:=nv (env:=X.env) scope.names [] (X7 E);refine⟨c,P,?_⟩;rcases lk with⟨z,_⟩ |⟨_,c',Q,G⟩
     ·have z':X.env.kindOf x=some .local:=z;rcases A with q | q
      ·rw[z'] at q;cases q
      ·rw[z'] at q;cases q
     ·have:=S.look I.ok P;rw[this] at Q;cases Q;obtain⟨o,Y,hd⟩:=G;exact⟨o,O _ _ Y,hd⟩
 ·intro x c h;obtain⟨v,o,Y,hd⟩:=s x c h;exact⟨v,o,O _ _ Y,hd⟩
 ·intro x c h;exact I.jy x c (S.look ok h)
 ·intro p hp;have U:p∈X.pn++pins:=by
   rcases Xi.mp hp with z | z
   ·exact z
   ·cases z
  obtain⟨e,n,ne,nf,d⟩:=I.pin p U;refine⟨O _ _ e,n,fresh _ _ e,λz=>?_,d⟩;rcases WI.mp (I.nY p.1 z) with q | q
  ·exact ne q
  ·exact nf q
 ·show(f.map _).length=N'.length;rw[Ws];exact S.len
def Inv.qr(S:ba X p j scope)(I:Inv X pins σ H a)(f:∀b∈h,eG X pins H b)(J:Inv (eR X p scope a.heap.objs.size a H h pins) [] r i s')(d:∀b u,b≠a.heap.objs.size->s'.heap.get? b=some u->h''.get? b=some u):Inv X pins σ i {s' with heap:=h''}:=by
 have m:i a.heap.objs.size=none:=J.free;have u:Un (Gg X.stack) h H i a.heap h'':=by
  have b:=J.base;have ne:∀x o,a.heap.get? x=some o->x≠a.heap.objs.size:=λx o e=>WZ (WH e);refine⟨λx o e n g c=>d _ _ (ne x o e) (b.keep x o e n g c),λx o e n g c=>?_,b.free,λx o e c=>?_,b.qS,b.uz,b.wz⟩
  ·obtain⟨k,q⟩:=b.slot x o e n g c;exact⟨k,d _ _ (ne x o e) q⟩
  ·obtain⟨l,q⟩:=b.there x o e c;exact⟨l,d _ _ (ne x o e) q⟩
 exact I.call' (s':={s' with heap:=h''}) (ch:=h) J.os u (J.a8.off m d) J.bare λb c=>⟨(f b c).2.2.2.1,(f b c).2.1,(f b c).2.2.2.2.1,(f b c).2.2.2.2.2⟩
def JV(X:Cx)(d:List Expr)(t:TT):Prop:=
 ∀(a:List (Addr×Obj)) (s:Shared) (b:St) (H:Hp) (Q:Bool->Hp->Prop),Inv X a b H s->t b H Q->
  wpAny (model X.prog X.w) X.A (forIn d true λc r=>if r=true then do let ok<-isTrue c X.env (eval c X.env);pure (ForInStep.yield ok) else pure (ForInStep.yield r)) (TP X a b Q) X.xe s
def cb:TT:=λ_ H Q=>Q true H
def Lf:JV X [] cb:=λa s b H Q I h=>wpAny_tests_nil ⟨H,I,h⟩
def Le(h:PT X c t):JV X [c] t:=λa s b H Q I q=>wpAny_tests_one (h a s b H Q I q)
def TN(J:It)(g:TG)(q:TT)(p:TE)(l:Addr)(Q:VK)(f:St)(s:Hp):Prop:=
 ∃W:Nat->Nat->St->Hp->Prop,(∃m,W 0 m f s)/\∀i m j d,W i m j d->
  (J.stop i d/\Q (.ref l) d)\/(J.go i d/\∃N:St->Hp->Prop,(∀c e,N c e->∃k,k < m/\W (i+1) k c e)/\∀x e,J.MI i d x e->g x j e λa r=>
   q a r λb o=>if b=true then p a o λy n=>∃h,n l=some (.lst h)/\h.length < sizeLine/\N a (upd n l (.lst (h++[y]))) else N a o)
def GB(a:List (Option Nat))(d:TI)(g:TG)(f:TT)(e:TE):TE:=λb H Q=>d b H λJ c=>∀l,c l=none->TN J g f e l Q (oO a b) (upd c l (.lst []))
def Q7(h:wpAny M A t Q (λ_ _=>False) s):wpAny M A t Q E s:=Xv h (λ_ _ q=>q) λ_ _ f=>f.elim
def FY(S:ba X H caps scope)(hc:X.calm=true)(hg:∀C k s h pl,PG (eR X H scope C k s h pl) tg g)(hif:∀C k s h pl,JV (eR X H scope C k s h pl) ifs tc)
  (he:∀C k s h pl,PE (eR X H scope C k s h pl) elt te) {a:List (Addr×Obj)} {σ:St} {t:Hp} {s3:Shared} {j:Heap} {M:Nat} {m₁:Str->Option Value} {it l:Addr} {h:List Addr} {tn:Nat->Heap->Prop} {J:It}
  (Z:Inv X a σ t s3) (T:Turn X.prog X.w X.K tg J h it tn) (st3:tn 0 j) (O:∀b∈h,eG X a t b) (hlt3:∀b∈h,b < s3.heap.objs.size) (Y:j.Ns s3.heap.objs.size m₁) (keep3:∀b o,s3.heap.get? b=some o->j.get? b=some o)
  {Q:VK} {RR:Value->Addr->Result->Shared->Prop} {W:Nat->Nat->St->Hp->Prop} {m0:Nat} (w0:W 0 m0 (oO caps σ) t) (turn:∀i m G H2,W i m G H2->
   (J.stop i H2/\Q (.ref l) H2)\/(J.go i H2/\∃N:St->Hp->Prop,(∀L f,N L f->∃m',m' < m/\W (i+1) m' L f)/\∀x f,J.MI i H2 x f->g x G f λR t=>
    tc R t λb H4=>if b=true then te R H4 λy H5=>∃U,H5 l=some (.lst U)/\U.length < sizeLine/\N R (upd H5 l (.lst (U++[y]))) else N R H4))
  (hRR:∀(l C:Addr)(f:Hp)(E:Shared),f C=none->C≠X.env.locals->X.s₀.heap.objs.size<=C->(∀x c,X.env.cells.lookup x=some c->c≠C)->(∀p∈X.pn++a,p.1≠C)->(∃m,E.heap.Ns C m)->Inv X a σ f E->
   (∀h'':Heap,(∀b u,b≠C->E.heap.get? b=some u->h''.get? b=some u)->Inv X a σ f {E with heap:=h''})->Q (.ref l) f->RR (.ref l) C (.ok .next) E):
  codeAny (model X.prog X.w) X.A (.compStart (.ListComp elt [⟨tg,iter,ifs,0⟩] scope pos) 0 (.ref it) (.ref l) (compEnvC scope (gO X.env scope.names []) s3.heap.objs.size X.env))
   (RR (.ref l) s3.heap.objs.size) {s3 with heap:=j,toks:=M}:=by
 have J0:Inv (eR X H scope s3.heap.objs.size s3 t h a) [] (oO caps σ) t {s3 with heap:=j,toks:=M}:=Inv.block S Z hc O hlt3 Y keep3;have fpB:∀{f:Hp},(∀b∈h,f b=none)->∀b∈h,eG (eR X H scope s3.heap.objs.size s3 t h a) [] f b:=λ{f} hn b P=>by
  obtain⟨f0,f1,f2,f3,f4,f5⟩:=O b P;refine⟨hn b P,WZ (hlt3 b P),λz=>?_,.inl P,λx c e=>f4 x c (S.look Z.ok e),λp hp=>?_⟩
  ·rcases WI.mp (Z.nY b z) with q | q
   ·exact f1 q
   ·exact f2 q
  ·rcases Xi.mp hp with q | q
   ·exact f5 p q
   ·cases q
 have fin:∀{G:St} {f:Hp} {E:Shared},Inv (eR X H scope s3.heap.objs.size s3 t h a) [] G f E->Q (.ref l) f->RR (.ref l) s3.heap.objs.size (.ok .next) E:=λ{G f E} J q=>by
  refine hRR _ _ f E J.free ?_ ?_ ?_ ?_ ?_ ?_ ?_ q
  ·exact(WZ Z.lt).symm
  ·exact Z.sz
  ·intro x c e z;obtain⟨v,o,ho,_⟩:=Z.cell x c e;exact WZ (WH ho) z
  ·intro p hp z;obtain⟨e,_⟩:=Z.pin p hp;exact WZ (WH e) z
  ·obtain⟨m,hm,_⟩:=J.loc;exact⟨m,hm⟩
  ·have:=Inv.qr S Z O J (h'':=E.heap) λb u _ e=>e;exact this
  ·exactλh'' hs=>Inv.qr S Z O J hs
 have loop:codeAny (model X.prog X.w) X.A (.compLoop (.ListComp elt [⟨tg,iter,ifs,0⟩] scope pos) 0 (.ref it) (.ref l) (compEnvC scope (gO X.env scope.names []) s3.heap.objs.size X.env))
   (RR (.ref l) s3.heap.objs.size) {s3 with heap:=j,toks:=M}:=by
  refine codeAny_loop rfl (λn E=>∃i G f,Inv (eR X H scope s3.heap.objs.size s3 t h a) [] G f E/\tn i E.heap/\(∀b∈h,f b=none)/\W i n G f) ?_ m0 ⟨0,_,_,J0,st3,λb P=>(O b P).1,w0⟩;rintro n s4 ⟨i,G,H4,J4,st4,fr4,w4⟩;show wpAny _ X.A ((compTurn (.ListComp elt [⟨tg,iter,ifs,0⟩] scope pos) 0 (.ref it) (.ref l) (compEnvC scope (gO X.env scope.names []) s3.heap.objs.size X.env)).onRaise (λx=>do noteFrame x (compEnvC scope (gO X.env scope.names []) s3.heap.objs.size X.env);theTreesLotGoes x)) _ _ s4;refine wpAny_noted ?_;rw[compTurn_list];rcases turn i n G H4 w4 with⟨stop,qn⟩ |⟨go,N,hN,step⟩
  ·refine Wr (Yb (Wr (Xv (T.done (eR X H scope s3.heap.objs.size s3 t h a) rfl rfl rfl rfl i [] s4 G H4 _ J4 (fpB fr4) st4 stop) (λr s5 h5=>?_) λ_ _ e=>e)));obtain⟨hr,J5⟩:=h5;subst hr;exact Wt (fin J5 qn)
  ·refine Wr (Yb (Wr (Xv (T.item (eR X H scope s3.heap.objs.size s3 t h a) rfl rfl rfl rfl i [] s4 G H4 _ J4 (fpB fr4) st4 go) (λr s5 h5=>?_) λ_ _ e=>e)));obtain⟨u,hr,h5⟩:=h5;subst hr;refine Wr (Xv h5 (λ_ s6 h6=>?_) λ_ _ e=>e);obtain⟨x,H6,J6,r6,y6,st6,fr6⟩:=h6;have J6':=J6.pinned (fpB fr6) (T.obj _ _ st6);refine Wr (Xv (Q7 (hg _ _ _ _ _ _ s6 G H6 x u _ J6' r6 (step x H6 y6))) (λ_ s7 h7=>?_) λ_ _ e=>e);obtain⟨F,H7,J7,q7⟩:=h7;have again:∀{I:St} {H8:Hp} {s8:Shared},Inv (eR X H scope s3.heap.objs.size s3 t h a) ([]++ow h s6.heap) I H8 s8->N I H8->
     ∃m,m < n/\∃i L f,Inv (eR X H scope s3.heap.objs.size s3 t h a) [] L f s8/\tn i s8.heap/\(∀b∈h,f b=none)/\W i m L f:=λ{I H8 s8} J8 n8=>by
    obtain⟨m',hm,w8⟩:=hN I H8 n8;refine⟨m',hm,i+1,I,H8,J8.i4,T.keep _ _ _ st6 λb P o e=>(J8.pin (b,o) (W9 _ (W9 _ (eB P e)))).1,λb P=>?_,w8⟩;obtain⟨o,e,d⟩:=T.obj _ _ st6 b P;exact(J8.pin (b,o) (W9 _ (W9 _ (eB P e)))).2.1
   refine Wr (Xv (Q7 (hif _ _ _ _ _ _ s7 F H7 _ J7 q7)) (λok s8 h8=>?_) λ_ _ e=>e);obtain⟨H8,J8,q8⟩:=h8;cases ok with
   | false=>exact Wt ⟨rfl,again J8 (by simpa using q8)⟩
   | true=>
    have q8':te F H8 λy H5=>∃U,H5 l=some (.lst U)/\U.length < sizeLine/\N F (upd H5 l (.lst (U++[y]))):=by simpa using q8
    refine Wr (Wr (Xv (Q7 (he _ _ _ _ _ _ s8 F H8 _ J8 q8')) (λy s9 h9=>?_) λ_ _ e=>e));obtain⟨yv,H9,J9,r9,U,hx,hz,n9⟩:=h9;refine Wr (Xv (Q7 (oz (X:=eR X H scope s3.heap.objs.size s3 t h a) _ s9 F H9 (.ref l) [yv] (.ref l) [y] (λ_ f=>N F f) J9 rfl (.cons r9 .nil) ⟨_,U,yv,rfl,rfl,hx,hz,n9⟩)) (λ_ s10 h10=>?_) λ_ _ e=>e);obtain⟨_,H10,J10,_,n10⟩:=h10;exact Wt (Wt ⟨rfl,again J10 n10⟩)
 exact codeAny_compStart_list loop (T.self X.A 0 _ _ _ st3 loop)
def sV(S:ba X N' Z scope)(hc:X.calm=true)(hg:∀C a f k pl,PG (eR X N' scope C a f k pl) tg g)(hif:∀C a f k pl,JV (eR X N' scope C a f k pl) ifs tc)
  (he:∀C a f k pl,PE (eR X N' scope C a f k pl) elt te) {d:List (Addr×Obj)} {M:St} {H:Hp} {s:Shared} {it:Addr} {k:List Addr} {tn:Nat->Heap->Prop} {J:It}
  (I:Inv X d M H s) (T:Turn X.prog X.w X.K tg J k it tn) (st:tn 0 s.heap) (hf:∀b∈k,eG X d H b) {Q:VK} {RR:Value->Addr->Result->Shared->Prop} {E:Value->Shared->Prop}
  (h:∀l,H l=none->∃W:Nat->Nat->St->Hp->Prop,(∃m,W 0 m (oO Z M) (upd H l (.lst [])))/\∀i m τ H2,W i m τ H2->
   (J.stop i H2/\Q (.ref l) H2)\/(J.go i H2/\∃N:St->Hp->Prop,(∀L n,N L n->∃m',m' < m/\W (i+1) m' L n)/\∀x n,J.MI i H2 x n->g x τ n λq H3=>
    tc q H3 λb H4=>if b=true then te q H4 λy H5=>∃xs,H5 l=some (.lst xs)/\xs.length < sizeLine/\N q (upd H5 l (.lst (xs++[y]))) else N q H4))
  (hRR:∀(l C:Addr)(n:Hp)(R:Shared),n C=none->C≠X.env.locals->X.s₀.heap.objs.size<=C->(∀x c,X.env.cells.lookup x=some c->c≠C)->(∀p∈X.pn++d,p.1≠C)->(∃m,R.heap.Ns C m)->Inv X d M n R->
   (∀Y:Heap,(∀b u,b≠C->R.heap.get? b=some u->Y.get? b=some u)->Inv X d M n {R with heap:=Y})->Q (.ref l) n->RR (.ref l) C (.ok .next) R):
  wpAny (model X.prog X.w) X.A (newList []) (λacc a=>wpAny (model X.prog X.w) X.A (newFunctionEnv scope X.env.globals (gO X.env scope.names []) [] X.env.qual none .none (some X.env)) (λG P=>
   codeAny (model X.prog X.w) X.A (.compStart (.ListComp elt [⟨tg,iter,ifs,0⟩] scope pos) 0 (.ref it) acc {G with scope:=relabel scope X.env}) (RR acc G.locals) P) E a) E s:=by
 obtain⟨W,⟨m0,w0⟩,O⟩:=h s.heap.objs.size I.fresh;refine Xc (wpAny_newFunctionEnv S.BW (by intro y hy;simp at hy) (λv t r=>?_) S.kind);have I3:Inv X d M (upd H s.heap.objs.size (.lst [])) {s with heap:=s.heap.push {cls:=.type "list",data:=.seq ([]:List Value).toArray}}:=I.LA (t':=s.toks) (its:=[]) (ys:=[]) .nil (Xe _);have z:∀b∈k,b < s.heap.objs.size:=λb F=>by
  obtain⟨o,e,_⟩:=T.obj 0 _ st b F;exact WH e
 have hf3:∀b∈k,eG X d (upd H s.heap.objs.size (.lst [])) b:=λb F=>⟨by rw[aC (WZ (z b F))];exact(hf b F).1,(hf b F).2⟩;have j:∀b o,(s.heap.push {cls:=.type "list",data:=.seq ([]:List Value).toArray}).get? b=some o->v.get? b=some o:=λb o e=>r.extBut b o (WZ (WH e)) (Wu _ e);have st3:tn 0 v:=T.keep 0 _ _ st λb F o e=>j b o (Wu _ e);have U:∀b∈k,b < (s.heap.push {cls:=.type "list",data:=.seq ([]:List Value).toArray}).objs.size:=λb F=>by
  have:=z b F;rw[XF];exact Nat.lt_succ_of_lt this
 exact FY (s3:={s with heap:=s.heap.push {cls:=.type "list",data:=.seq ([]:List Value).toArray}}) S hc hg hif he I3 T st3 hf3 U t j w0 O hRR
def HW(S:ba X r j scope)(M:X.calm=true)(G:PI X y iter z)(L:∀C a c f pl,PG (eR X r scope C a c f pl) y g)(n:∀C a c f pl,JV (eR X r scope C a c f pl) ifs tc)
  (he:∀C a c f pl,PE (eR X r scope C a c f pl) elt te) (F:∀x,foldedSetIterable iter X.env x=pure x:=by intro _;rfl):PE X (.ListComp elt [⟨y,iter,ifs,0⟩] scope pos) (GB j z g tc te):=by
 intro d s t H Q I h;rw[eval_ListComp];refine Z4 (use:=none) rfl F (k7 (S.has I.ok)) S.kind S.names (b5 (G d s t H _ I h) λv s1 U=>b5 U λE s2 R=>?_);obtain⟨it,f,tn,J,H2,e,Z,T,k,Y,O⟩:=R;subst e;refine sV (RR:=λp C=>compPost (model X.prog X.w) X.A X.xe none (EP X d t Q) p C) S M L n he Z T k Y O ?_;intro l C H' s' _ _ _ _ _ hm _ P q;obtain⟨m,hm⟩:=hm;exact⟨m,hm,λo i=>⟨.ref l,H',P o λb u N e=>i.extBut b u N e,rfl,q⟩⟩
def HL(hN:X.N.Nodup)(O:X.N[i]?=some y)(hy:X.env.scope.names.lookup y=some .local)(S:ba X N' u scope)(hc:X.calm=true)(hi:PI X E iter wi)(hg:∀C c d k pl,PG (eR X N' scope C c d k pl) E g)(M:∀C c d k pl,JV (eR X N' scope C c d k pl) ifs tc)(he:∀C c d k pl,PE (eR X N' scope C c d k pl) elt te)(G:swapsWith (.ListComp elt [⟨E,iter,ifs,0⟩] scope pos) (some (.Name y py)) n.line X.env=pure true:=by rfl)(hs:∀x,foldedSetIterable iter X.env x=pure x:=by intro _;rfl):
  PS X (.Assign [.Name y py] (.ListComp elt [⟨E,iter,ifs,0⟩] scope pos) n) (Kq (GB u wi g tc te) (z7 i)):=by
 intro f s σ H D I h;rw[exec_Assign_Name_used _ _ _ _ G];refine Wr (Yb (Wr ?_));show wpAny _ X.A (do let _<-comprehension (.ListComp elt [⟨E,iter,ifs,0⟩] scope pos) scope X.env _ (newList []) false (eval iter X.env) (some (assign (.Name y py) X.env))) _ _ s;refine Wr (Xv (Z4 (use:=some (assign (.Name y py) X.env)) (Q:=λ_ j=>SP X f D .next j) rfl hs (k7 (S.has I.ok)) S.kind S.names
  (b5 (hi f s σ H _ I h) λv s1 h1=>b5 h1 λitv s2 h2=>?_)) (λ_ j hq=>Wt (Wt hq)) λ_ _ e=>e)
 obtain⟨it,k,tn,J,H2,e,I2,T,F,f2,hQ⟩:=h2;subst e;refine sV (Q:=λx H1=>z7 i x σ H1 D.nx) (RR:=λacc C=>compPost (model X.prog X.w) X.A X.xe (some (assign (.Name y py) X.env)) (λ_ j=>SP X f D .next j) acc C) S hc hg M he I2 T F f2 hQ ?_;intro l C H' j hC t Z r U hm R hI q;obtain⟨m,hm⟩:=hm;show wpAny _ X.A (assign (.Name y py) X.env (.ref l)) _ _ j;refine wpAny_assign_Name (uN (v:=.ref l) R hN O (.inl hy) rfl (λs5 I5 P=>?_) (.inr hy));obtain⟨a,L,ha⟩:=P;have Y:C≠a:=by
  rcases ha with z | z
  ·rw[z];exact t
  ·exact(r _ _ z).symm
 refine⟨m,hm.sameBut L Y,λh'' p=>?_⟩;have I6:=I5.turned (t':=s5.toks) (h':=h'') (it:=C) (λb o hb e=>p.extBut b o hb e) hC t (.inr Z) r U;exact⟨_,H',I6,q⟩
def TQ(_ j:Int):Prop:=0 < j/\j<=10^40
def log2_small(h:n<=10^40):n.log2 < 9000:=by
 by_cases a:n=0
 ·rw[a];decide
 ·refine(Nat.log2_lt a).mpr (Xk h ?_);exact WM (show 10^40 < 2^200 by decide) (AbC (by decide) (by decide))
def Ik:lu X (binaryOp .FloorDiv) (rI TQ λi j=>.int (i / j)):=TZ λi j _ _ _ _ _ a q=>by
 have c:(0:Int) < j:=a.1;have b:j<=10^40:=a.2;exact floordiv_int (by lia) (by rw[Int.fdiv_eq_ediv_of_nonneg i (by lia)];exact q) (.inl (PyProof.noPylong_of_log2 (log2_small (by lia))))
mutual
inductive CN(K:FR)(H:Hp):V->PyData->Prop where
 | bo:CN K H .bo .none
 | bl (b:Bool):CN K H (.bl b) (.bool b)
 | int (i:Int):CN K H (.int i) (.int i)
 | str (x:Str):CN K H (.str x) (.str x)
 | tup {a:Addr} {xs:List V} {ds:List PyData}:iZ K H a xs->tG K H xs ds->CN K H (.ref a) (.tuple ds)
 | lst {a:Addr} {xs:List V} {ds:List PyData}:eV K H a xs->tG K H xs ds->CN K H (.ref a) (.list ds)
inductive tG(K:FR)(H:Hp):List V->List PyData->Prop where
 | nil:tG K H [] []
 | cons {x:V} {xs:List V} {d:PyData} {ds:List PyData}:CN K H x d->tG K H xs ds->tG K H (x::xs) (d::ds)
end
mutual
theorem CN.reads(I:Inv X pins σ H s){x:V}{u:Value}{d:PyData}(z:CN X.K H x d)(r:RelV x u):∃j,Reads s.heap u d j:=by
 cases z with
 | bo=>cases(show _=Value.none from r);exact⟨_,.none⟩
 | bl b=>cases(show _=Value.bool b from r);exact⟨_,.bool b⟩
 | int i=>obtain⟨t,e⟩:=(show ∃t,_=Value.int i t from r);cases e;exact⟨_,.int i t⟩
 | str x=>obtain⟨t,e⟩:=(show ∃t,_=Value.str x t from r);cases e;exact⟨_,.str x t⟩
 | tup c hl=>
  cases(show _=Value.ref _ from r);obtain⟨a,rv,⟨o,h,g,n,f⟩,_⟩:=I.tuple c;obtain⟨j,q⟩:=tG.reads I hl rv;exact⟨_,.tuple h g f (by simpa using q)⟩
 | lst c hl=>
  cases(show _=Value.ref _ from r);obtain⟨a,rv,pl,_⟩:=I.list c;obtain⟨o,h,g,n,f⟩:=pl.isList;obtain⟨j,q⟩:=tG.reads I hl rv;exact⟨_,.list h g f (by simpa using q)⟩
theorem tG.reads(I:Inv X pins σ H s){a:List V}{us:List Value}{b:List PyData}(z:tG X.K H a b)(v:Vals a us):∃c,ReadsAll s.heap us b c:=by
 cases z with
 | nil=>cases v;exact⟨_,.nil⟩
 | cons h t=>
  cases v with
  | cons r q=>
   obtain⟨c,p⟩:=CN.reads I h r;obtain⟨bs,d⟩:=tG.reads I t q;exact⟨_,.cons p d⟩
end
def UZ:V->Option Int->Option Int->Hp->VK->Prop:=λx a b H Q=>∃z,x=.str z/\z.length<=sizeLine/\Q (.str (Txt.slice z a b)) H
def NV:Qy X UZ:=by
 intro b s w H x v G E p r J Q I y C pl n h;obtain⟨z,rfl,A,q⟩:=h;obtain⟨t,rfl⟩:=(show ∃t,v=Value.str z t from y);refine⟨"str",_,F.slot_str_getitem.lookup,typeIs_str _ _ _,?_⟩;obtain⟨o,e,d,c⟩:=C;have a:(Txt.slice z p r).length<=sizeLine/\∀g k,EP X b w Q (.str (Txt.slice z p r) g) {s with toks:=k}:=⟨WL (Txt.slice_le z _ _) A,λg k=>⟨.str _,H,I.tok k,⟨g,rfl⟩,q⟩⟩;cases pl with
 | none=>
  cases n with
  | none=>exact Zh (l:=none) (u:=none) (st:=none) ⟨o,e,d,c⟩ rfl (Aal a)
  | int j f=>exact Zh (l:=none) (u:=some (j,f)) (st:=none) ⟨o,e,d,c⟩ rfl (Aal a)
 | int i m=>
  cases n with
  | none=>exact Zh (l:=some (i,m)) (u:=none) (st:=none) ⟨o,e,d,c⟩ rfl (Aal a)
  | int j f=>exact Zh (l:=some (i,m)) (u:=some (j,f)) (st:=none) ⟨o,e,d,c⟩ rfl (Aal a)
def Js:eU X (.builtin "isinstance") (λc H Q=>∃x n t b,c=[x,.ty n]/\nB X.K H x t/\PySem.W.kitOne X.K t (.type n)=some b/\Q (.bl b) H):=by
 intro d s j H c us Q I r h;obtain⟨x,n,t,b,rfl,ty,e,q⟩:=h;obtain⟨u,f,rfl,i,a⟩:=vals2 r;cases(show f=Value.type n from a);exact Fy I i ty e λg=>⟨.bl b,H,I.tok g,rfl,q⟩
def iQ:entryFor table "dict.update.loop"=some Builtin.«dict.update.loop»:=Aa3 (by ac_nf)
def df:plainId "dict.update.loop"=true:=by decide+kernel
def zN(a more:List (Key×V))(p:Key×V):bD a (more++[p])=putK (bD a more) p.1 p.2:=by
 unfold bD;rw[List.foldl_append];rfl
noncomputable def zR(out:List (Str×NameKind))(N c:List Str)(b:List (Option Nat))(a:Scope):Bool:=
 decide (a.kind=.function)&&a.names.all (λy=>decide (y.2≠.cell))&&a.names.all (λy=>!decide (y.2=.local)||decide (a.names.lookup y.1=some .local))&&
 a.names.all (λy=>!decide (y.2=.free)||decide (out.lookup y.1=some .cell)||decide (out.lookup y.1=some .free))&&decide (b.length=c.length)&&
 (List.range b.length).all (λj=>match b[j]?,c[j]? with
  | some (some i),some x=>decide (N[i]?=some x)&&decide (a.names.lookup x=some .free)
  | _,_=>true)&&decide c.Nodup
def a9(h:zR X.env.scope.names X.N p a scope=true):ba X p a scope:=by
 unfold zR at h;simp only[WS,Xo,Yi,Yp,Bool.not_eq_true',Aa9] at h;obtain⟨⟨⟨⟨⟨⟨o,n⟩,m⟩,l⟩,k⟩,g⟩,f⟩:=h;refine⟨o,n,λy b e=>?_,λy b e=>?_,k,λj i x hj d=>?_,f⟩
 ·rcases m y b with z | z
  ·exact absurd e z
  ·exact z
 ·rcases l y b with(z | z) | z
  ·exact absurd e z
  ·exact .inl z
  ·exact .inr z
 ·have c:j < a.length:=(Ww.mp hj).1;have:=g j (Xx.mpr c);rw[hj,d] at this;simp only[WS,Xo] at this;exact this
end L2
namespace L2
end L2
namespace L2
open PyProof.Rows
def jM:PyData.strOk x=true↔∀c∈x.cps,c < 0x110000:=by
 unfold PyData.strOk;rw[Array.all_eq_true_iff_forall_mem];simp
def ED(g:PyData.strOk a=true)(f:PyData.strOk b=true):PyData.strOk (a++b)=true:=by
 rw[jM] at*;intro c e;have d:c∈a.cps++b.cps:=e;rcases Array.mem_append.mp d with z | z
 ·exact g c z
 ·exact f c z
def yM(l u:Option Int)(h:PyData.strOk x=true):PyData.strOk (Txt.slice x l u)=true:=by
 unfold Txt.slice
 split
 ·exact h
 ·rw[jM] at*;intro c b;have a:c∈(List.filterMap (x.cps[·]?) (Builtin.Str.strSliceIndices l u 1 x.length)).toArray:=b;rw[List.mem_toArray] at a;obtain⟨i,_,e⟩:=Zt.mp a;exact h c (Z6 e)
def EC(h:PyData.strOk z=true)(a:gg z.cps.toList i=some c):PyData.strOk (⟨#[c]⟩:Str)=true:=by
 rw[jM] at*;intro d hd;have e:d=c:=by simpa using hd
 subst e;obtain⟨j,_,hj,_⟩:=qK a;exact h d (by have:=Wx hj;simpa using this)
def entry_all_loop:entryFor table "all.loop"=some Builtin.«all.loop»:=Aa3 (by ac_nf)
def plain_all_loop:plainId "all.loop"=true:=by decide+kernel
def JM{A:Around}{a:List (Addr×Obj)}{σ:St}{H:Hp}{p it:Addr}{bs:List Bool}{R:Result->Shared->Prop}(F:A.handled=none)(hp:eV X.K H p (bs.map V.bl))
  (hit:it≠X.env.locals/\(it∈X.ex\/X.s₀.heap.objs.size<=it)/\(∀x c,X.env.cells.lookup x=some c->c≠it)/\∀q∈X.pn++a,q.1≠it) (g:H it=none)
  (h:∀t,Inv X a σ H t->R (.ok (.ret (.bool (bs.all id)))) t):∀(n i:Nat)(s:Shared),bs.length-i=n->i<=bs.length->(bs.take i).all id=true->s.heap.IsListIter it p i->Inv X a σ H s->
   codeAny (model X.prog X.w) A (.builtin "all.loop" ⟨[.ref it],[]⟩) R s:=by
 intro n
 induction n with
 | zero=>
  intro i s hn E ht st I;have G:i=bs.length:=by lia
  refine XS entry_all_loop ?_;rw[Xw plain_all_loop _];obtain⟨l,rv,pl,z⟩:=I.list hp;have r:=rv.length;rw[Ws] at r;show wpAny _ _ (pyNext (.ref it) >>=_) _ _ s;refine Wr (Aan F st pl.isList (by simp;lia) λh' J=>?_);have j:=I.turned (t':=s.toks) (h':=h') (it:=it) (λb o f e=>J b o f e) g hit.1 hit.2.1 hit.2.2.1 hit.2.2.2;refine Wr (X2 (Wt ?_));rw[G,X1] at ht;have:=h _ j;rw[ht] at this;exact this
 | succ n y=>
  intro i s hn E ht st I;have d:i < bs.length:=by lia
  refine XS entry_all_loop ?_;rw[Xw plain_all_loop _];obtain⟨l,rv,pl,z⟩:=I.list hp;have m:(bs.map V.bl)[i]?=some (.bl bs[i]):=by rw[WJ,WA d];rfl
  obtain⟨u,C,v⟩:=rv.get m;cases(show u=Value.bool bs[i] from v);show wpAny _ _ (pyNext (.ref it) >>=_) _ _ s;refine Wr (Aah st pl.isList (x:=.bool bs[i]) (by simpa using C) λh' k sb=>?_);have j:=I.turned (t':=s.toks) (h':=h') (it:=it) (λb o f e=>(sb.2 b f).trans e) g hit.1 hit.2.1 hit.2.2.1 hit.2.2.2;dsimp only;refine Wr (Xj (Yr ?_));refine Wr (Zr ?_)
  by_cases f:bs[i]=true
  ·rw[WC f];refine Wt ⟨Yy plain_all_loop _,y (i+1) _ (by lia) d ?_ k j⟩;rw[Zs,WA d,List.all_append,ht,f];rfl
  ·rw[WE f];refine Wr (X2 (Wt ?_));have:=h _ j;have e:bs.all id=false:=by
    rw[List.all_eq_false];exact⟨bs[i],YN d,by simpa using f⟩
   rw[e] at this;exact this
def Ju(g:X.calm=true):eU X (.builtin "all") (λc H Q=>∃(p:Addr)(bs:List Bool),c=[.ref p]/\eV X.K H p (bs.map V.bl)/\Q (.bl (bs.all id)) H):=by
 intro a s σ H c us Q I r h;obtain⟨p,bs,rfl,hp,q⟩:=h;obtain⟨u,rfl,d⟩:=vals1 r;cases(show u=Value.ref p from d);have i:X.A.handled=none:=I.ok.hd g;obtain⟨f,rv,pl,w⟩:=I.list hp;refine call_function_tree F.kind_all F.plain_all F.entry_all (F.args_all1 _) ?_;unfold Builtin.«all»;show wpAny _ _ (pyIter (.ref p) >>=_) _ _ s;refine Wr (ZX pl.isList ?_);have n:Inv X a σ H {s with heap:=s.heap.push {cls:=.type "list_iterator",data:=.fields #[.ref p,.int 0 0]}}:=I.kept (t':=s.toks) λb o e=>Wu _ e;obtain⟨f0,m,x,l,k,j⟩:=I.uA (b:=s.heap.objs.size) (H':=H) (WB _) (I.a8.fresh (WB _));refine Wt ⟨Yy plain_all_loop _,?_⟩;exact JM (X:=X) (σ:=σ) (H:=H) (by exact i) hp ⟨m,l,k,j⟩ f0 (λv t=>⟨.bl _,H,t,rfl,q⟩) bs.length 0 _ (by simp) (Xe _) rfl ⟨_,WK _ rfl,rfl,rfl⟩ n
def entry_any_loop:entryFor table "any.loop"=some Builtin.«any.loop»:=Aa3 (by ac_nf)
def plain_any_loop:plainId "any.loop"=true:=by decide+kernel
def JK{A:Around}{a:List (Addr×Obj)}{σ:St}{H:Hp}{p it:Addr}{bs:List Bool}{R:Result->Shared->Prop}(G:A.handled=none)(hp:eV X.K H p (bs.map V.bl))
  (hit:it≠X.env.locals/\(it∈X.ex\/X.s₀.heap.objs.size<=it)/\(∀x c,X.env.cells.lookup x=some c->c≠it)/\∀q∈X.pn++a,q.1≠it) (g:H it=none)
  (h:∀v,Inv X a σ H v->R (.ok (.ret (.bool (bs.any id)))) v):∀(n i:Nat)(s:Shared),bs.length-i=n->i<=bs.length->(bs.take i).any id=false->s.heap.IsListIter it p i->Inv X a σ H s->
   codeAny (model X.prog X.w) A (.builtin "any.loop" ⟨[.ref it],[]⟩) R s:=by
 intro n
 induction n with
 | zero=>
  intro i s hn F ht st I;have J:i=bs.length:=by lia
  refine XS entry_any_loop ?_;rw[Xw plain_any_loop _];obtain⟨l,rv,pl,C⟩:=I.list hp;have r:=rv.length;rw[Ws] at r;show wpAny _ _ (pyNext (.ref it) >>=_) _ _ s;refine Wr (Aan G st pl.isList (by simp;lia) λh' L=>?_);have j:=I.turned (t':=s.toks) (h':=h') (it:=it) (λb o f e=>L b o f e) g hit.1 hit.2.1 hit.2.2.1 hit.2.2.2;refine Wr (X2 (Wt ?_));rw[J,X1] at ht;have:=h _ j;rw[ht] at this;exact this
 | succ n z=>
  intro i s hn F ht st I;have d:i < bs.length:=by lia
  refine XS entry_any_loop ?_;rw[Xw plain_any_loop _];obtain⟨l,rv,pl,C⟩:=I.list hp;have m:(bs.map V.bl)[i]?=some (.bl bs[i]):=by rw[WJ,WA d];rfl
  obtain⟨u,E,y⟩:=rv.get m;cases(show u=Value.bool bs[i] from y);show wpAny _ _ (pyNext (.ref it) >>=_) _ _ s;refine Wr (Aah st pl.isList (x:=.bool bs[i]) (by simpa using E) λh' k sb=>?_);have j:=I.turned (t':=s.toks) (h':=h') (it:=it) (λb o f e=>(sb.2 b f).trans e) g hit.1 hit.2.1 hit.2.2.1 hit.2.2.2;dsimp only;refine Wr (Xj (Yr ?_));refine Wr (Zr ?_)
  by_cases f:bs[i]=true
  ·rw[WC f];refine Wr (X2 (Wt ?_));have:=h _ j;have e:bs.any id=true:=by
    rw[Y7];exact⟨bs[i],YN d,f⟩
   rw[e] at this;exact this
  ·rw[WE f];refine Wt ⟨Yy plain_any_loop _,z (i+1) _ (by lia) d ?_ k j⟩;rw[Zs,WA d,List.any_append,ht];have t:bs[i]=false:=by simpa using f
   rw[t];rfl
def Jt(g:X.calm=true):eU X (.builtin "any") (λc H Q=>∃(p:Addr)(bs:List Bool),c=[.ref p]/\eV X.K H p (bs.map V.bl)/\Q (.bl (bs.any id)) H):=by
 intro a s σ H c us Q I r h;obtain⟨p,bs,rfl,hp,q⟩:=h;obtain⟨u,rfl,d⟩:=vals1 r;cases(show u=Value.ref p from d);have i:X.A.handled=none:=I.ok.hd g;obtain⟨f,rv,pl,w⟩:=I.list hp;refine call_function_tree F.kind_any F.plain_any F.entry_any (F.args_any1 _) ?_;unfold Builtin.«any»;show wpAny _ _ (pyIter (.ref p) >>=_) _ _ s;refine Wr (ZX pl.isList ?_);have n:Inv X a σ H {s with heap:=s.heap.push {cls:=.type "list_iterator",data:=.fields #[.ref p,.int 0 0]}}:=I.kept (t':=s.toks) λb o e=>Wu _ e;obtain⟨f0,m,x,l,k,j⟩:=I.uA (b:=s.heap.objs.size) (H':=H) (WB _) (I.a8.fresh (WB _));refine Wt ⟨Yy plain_any_loop _,?_⟩;exact JK (X:=X) (σ:=σ) (H:=H) (by exact i) hp ⟨m,l,k,j⟩ f0 (λv t=>⟨.bl _,H,t,rfl,q⟩) bs.length 0 _ (by simp) (Xe _) rfl ⟨_,WK _ rfl,rfl,rfl⟩ n
end L2
namespace L2
open PyProof.Rows PySem.SeqAt
noncomputable def bG:Nat->PyData->Bool
 | _,.int _=>true
 | _,.str x=>PyData.strOk x
 | n+1,.tuple xs=>xs.all (bG n)
 | _,_=>false
def c7(w:World):Nat->PyData->Int
 | _,.int i=>Pr w (.inl i)
 | _,.str x=>Pr w (.inr x)
 | n+1,.tuple xs=>reduceHash (Builtin.Tuple.tupleHashOf (xs.map (c7 w n)))
 | _,_=>0
noncomputable def QO(K:FR)(x:Str):Option Value:=match K.lookup mainGlobals with
 | some o=>match o.data with
  | .dict a _=>(a.toList.find? (λe=>Value.isStrOf x e.key)).map (·.val)
  | _=>none
 | none=>none
def ia(a:Addr)(us:List (Addr×V))(c:List PyData):World->Heap->Prop:=λw h=>us.length<=sizeLine/\(a==sysModules)=false/\c.all (bG 8)=true/\c.Nodup/\
 ∃b:List (PyData×Addr×Value),Paired (λ(u:Addr×V)(y:PyData×Addr×Value)=>u.1=y.2.1/\RelV u.2 y.2.2) us b/\b.map (·.1)=c/\
 ∃o d e,h.get? a=some o/\o.ExactDict/\o.data=.dict d e/\d.toList=b.map λy=>⟨c7 w 8 y.1,.ref y.2.1,y.2.2⟩
end L2
namespace Sm
open L2
inductive D where
 | bo | bl (b:Bool) | int (i:Int) | str (x:Str) | ty (n:String) | fn (n:Str)
 | tup (xs:List D) | lv (xs:List D) | ro (xs:List D) | dv (kvs:List (Key×D)) | ob (n:Nat)
inductive MO where
 | lst (xs:List D) | dct (kvs:List (Key×D)) | dcH (kvs:List (D×D))
abbrev MH:=List MO
mutual
noncomputable def kA:D->Option PyData
 | .bo=>some .none
 | .bl b=>some (.bool b)
 | .int i=>some (.int i)
 | .str x=>some (.str x)
 | .tup xs=>(i0 xs).map .tuple
 | .lv xs=>(i0 xs).map .list
 | .ro xs=>(i0 xs).map .list
 | _=>none
noncomputable def i0:List D->Option (List PyData)
 | []=>some []
 | x::r=>(kA x).bind λa=>(i0 r).map λb=>a::b
end
abbrev DS:=List (Option D)
abbrev VN:Hp:=λ_=>none
structure Ad where
 ob:List Addr
 rs:List Addr
def Ad.has(b:Ad)(a:Addr):Prop:=a∈b.ob\/a∈b.rs
def TupAt(K:FR)(c:Ad)(H:Hp)(a:Addr)(b:List V):Prop:=(Rd H a (.tup b)/\¬c.has a)\/iZ K VN a b
def QC(K:FR)(c:Ad)(H:Hp)(a:Addr)(b:List V):Prop:=(Rd H a (.lst b)/\¬c.has a)\/eV K VN a b
mutual
inductive Rep(K:FR)(ρ:Ad)(H:Hp):V->D->Prop where
 | bo:Rep K ρ H .bo .bo
 | bl (b:Bool):Rep K ρ H (.bl b) (.bl b)
 | int (i:Int):Rep K ρ H (.int i) (.int i)
 | str {x:Str} (h:PyData.strOk x=true):Rep K ρ H (.str x) (.str x)
 | ty (n:String):Rep K ρ H (.ty n) (.ty n)
 | fn {f:Addr} {n:Str} (h:QO K n=some (.ref f)):Rep K ρ H (.ref f) (.fn n)
 | tup {a:Addr} {vs:List V} {ds:List D}:TupAt K ρ H a vs->aA K ρ H vs ds->Rep K ρ H (.ref a) (.tup ds)
 | lv {a:Addr} {vs:List V} {ds:List D}:H a=some (.lst vs)->¬ρ.has a->aA K ρ H vs ds->Rep K ρ H (.ref a) (.lv ds)
 | ro {a:Addr} {vs:List V} {ds:List D}:QC K ρ H a vs->aA K ρ H vs ds->Rep K ρ H (.ref a) (.ro ds)
 | dv {a:Addr} {us:List (Key×V)} {kvs:List (Key×D)}:H a=some (.dK us)->¬ρ.has a->bt K ρ H us kvs->Rep K ρ H (.ref a) (.dv kvs)
 | ob {a:Addr} {n:Nat}:ρ.ob[n]?=some a->Rep K ρ H (.ref a) (.ob n)
inductive aA(K:FR)(ρ:Ad)(H:Hp):List V->List D->Prop where
 | nil:aA K ρ H [] []
 | cons {v:V} {vs:List V} {d:D} {ds:List D}:Rep K ρ H v d->aA K ρ H vs ds->aA K ρ H (v::vs) (d::ds)
inductive bt(K:FR)(ρ:Ad)(H:Hp):List (Key×V)->List (Key×D)->Prop where
 | nil:bt K ρ H [] []
 | cons {k:Key} {v:V} {vs:List (Key×V)} {d:D} {ds:List (Key×D)}:Rep K ρ H v d->bt K ρ H vs ds->bt K ρ H ((k,v)::vs) ((k,d)::ds)
end
structure Ch(ρ:Ad)(H:Hp)(ρ':Ad)(H':Hp):Prop where
 pre:∀(n:Nat) a,ρ.ob[n]?=some a->ρ'.ob[n]?=some a
 old:∀b o,¬ρ.has b->H b=some o->¬ρ'.has b/\H' b=some o
def Ch.refl(a:Ad)(H:Hp):Ch a H a H:=⟨λ_ _ e=>e,λ_ _ n e=>⟨n,e⟩⟩
def Ch.trans(a:Ch f H d H1)(b:Ch d H1 c i):Ch f H c i:=
 ⟨λn x e=>b.pre n x (a.pre n x e),λx o n e=>let⟨g,h⟩:=a.old x o n e;b.old x o g h⟩
structure cA(ρ:Ad)(H:Hp)(ρ':Ad)(H':Hp):Prop extends Ch ρ H ρ' H' where
 rs:ρ'.rs=ρ.rs
 res:∀b∈ρ.rs,H' b=H b
theorem cA.refl(a:Ad)(H:Hp):cA a H a H:=⟨.refl _ _,rfl,λ_ _=>rfl⟩
theorem cA.trans(a:cA f H d H1)(b:cA d H1 c g):cA f H c g:=
 ⟨a.toCh.trans b.toCh,b.rs.trans a.rs,λx e=>(b.res x (by rw[a.rs];exact e)).trans (a.res x e)⟩
instance {ρ ρ':Ad} {H H':Hp}:CoeOut (cA ρ H ρ' H') (Ch ρ H ρ' H'):=⟨cA.toCh⟩
def Ch.rd(S:Ch c H b d)(h:Rd H a u)(n:¬c.has a):Rd d a u/\¬b.has a:=by
 rcases h with h |⟨o,h⟩
 ·obtain⟨q,e⟩:=S.old a _ n h;exact⟨.inl e,q⟩
 ·obtain⟨q,e⟩:=S.old a _ n h;exact⟨.inr ⟨o,e⟩,q⟩
mutual
theorem Rep.mono(S:Ch j H c k){v:V}{d:D}(r:Rep K j H v d):Rep K c k v d:=by
 cases r with
 | bo=>exact .bo
 | bl b=>exact .bl b
 | int i=>exact .int i
 | str x=>exact .str x
 | ty n=>exact .ty n
 | fn h=>exact .fn h
 | tup h l=>exact .tup (h.elim (λ⟨a,n⟩=>.inl (S.rd a n)) .inr) (aA.mono S l)
 | lv h n l=>have ⟨f,g⟩:=S.old _ _ n h;exact .lv g f (aA.mono S l)
 | ro h l=>exact .ro (h.elim (λ⟨a,n⟩=>.inl (S.rd a n)) .inr) (aA.mono S l)
 | dv h n l=>have ⟨f,g⟩:=S.old _ _ n h;exact .dv g f (bt.mono S l)
 | ob e=>exact .ob (S.pre _ _ e)
theorem aA.mono(S:Ch d H a e){b:List V}{c:List D}(r:aA K d H b c):aA K a e b c:=by
 cases r with
 | nil=>exact .nil
 | cons h t=>exact .cons (Rep.mono S h) (aA.mono S t)
theorem bt.mono(S:Ch d H a e){b:List (Key×V)}{c:List (Key×D)}(r:bt K d H b c):bt K a e b c:=by
 cases r with
 | nil=>exact .nil
 | cons h t=>exact .cons (Rep.mono S h) (bt.mono S t)
end
theorem aA.length:∀{b:List V} {c:List D},aA K e H b c->b.length=c.length:=by
 intro b
 induction b with
 | nil=>intro c a;cases a;rfl
 | cons v b d=>intro c a;cases a with | cons _ t=>rw[WN,WN,d t]
def aA.got:∀{a:List V} {b:List D} {i:Nat} {d:D},aA K c H a b->b[i]?=some d->∃v,a[i]?=some v/\Rep K c H v d
 :=by
 intro a
 induction a with
 | nil=>intro b i d r e;cases r;cases e
 | cons v a f=>
  intro b i d r e;cases r with | cons r t=>
  cases i with
  | zero=>cases e;exact⟨_,rfl,r⟩
  | succ i=>exact f t (i:=i) e
def aA.append:∀{b e:List V} {d c:List D},aA K f H b d->aA K f H e c->aA K f H (b++e) (d++c):=by
 intro b e
 induction b with
 | nil=>intro d c a s;cases a;exact s
 | cons v b g=>intro d c a s;cases a with | cons r t=>exact .cons r (g t s)
theorem aA.take:∀{a:List V} {b:List D} (n:Nat),aA K c H a b->aA K c H (a.take n) (b.take n)
 :=by
 intro a
 induction a with
 | nil=>intro b n q;cases q;cases n <;> exact .nil
 | cons u a d=>
  intro b n q;cases q with | cons r t=>
  cases n with
  | zero=>exact .nil
  | succ n=>exact .cons r (d n t)
theorem aA.drop:∀{a:List V} {b:List D} (n:Nat),aA K c H a b->aA K c H (a.drop n) (b.drop n)
 | _,_,0,r=>r
 | _,_,_+1,.nil=>.nil
 | _,_,n+1,.cons _ t=>aA.drop n t
theorem aA.set(r:Rep K c H v d):∀{a:List V} {b:List D} (i:Nat),aA K c H a b->aA K c H (a.set i v) (b.set i d)
 :=by
 intro a
 induction a with
 | nil=>intro b i q;cases q;exact .nil
 | cons u a e=>
  intro b i q;cases q with | cons q t=>
  cases i with
  | zero=>exact .cons r t
  | succ i=>exact .cons q (e i t)
def aA.snoc(t:aA K a H b ds)(r:Rep K a H v d):aA K a H (b++[v]) (ds++[d]):=t.append (.cons r .nil)
theorem aA.dropLast:∀{b:List V} {c:List D},aA K d H b c->aA K d H b.dropLast c.dropLast:=by
 intro b
 induction b with
 | nil=>intro c a;cases a;exact .nil
 | cons v b e=>intro c a;cases a with | cons r t=>cases t with
  | nil=>exact .nil
  | cons q t=>exact .cons r (e (.cons q t))
theorem aA.isEmpty(t:aA K b H a ds):a.isEmpty=ds.isEmpty:=by cases t <;> rfl
def TupAt.sq(h:TupAt K c H a b):iZ K H a b:=by
 rcases h with⟨h,_⟩ | h
 ·exact .inl h
 ·rcases h with(h |⟨o,h⟩) | h
  ·cases h
  ·cases h
  ·exact .inr h
def QC.sq(h:QC K c H a b):eV K H a b:=by
 rcases h with⟨h,_⟩ | h
 ·exact .inl h
 ·rcases h with(h |⟨o,h⟩) | h
  ·cases h
  ·cases h
  ·exact .inr h
def AR(K:FR)(c:Ad)(H:Hp)(a:Addr):MO->Prop
 | .lst ds=>∃d,H a=some (.lst d)/\aA K c H d ds
 | .dct b=>∃us,H a=some (.dK us)/\bt K c H us b
 | .dcH b=>∃us e,H a=some (.Cg (ia a us e))/\aA K c H (us.map λu=>V.ref u.1) (b.map (·.1))/\aA K c H (us.map (·.2)) (b.map (·.2))/\i0 (b.map (·.1))=some e
structure bC(K:FR)(ρ:Ad)(h:MH)(H:Hp):Prop where
 len:ρ.ob.length=h.length
 nd:ρ.ob.Nodup
 at_:∀(n:Nat) a o,ρ.ob[n]?=some a->h[n]?=some o->AR K ρ H a o
 uY:∀b∈ρ.rs,(∃o,H b=some o)/\b∉ρ.ob
def AR.has(x:AR K c H a o):∃u,H a=some u:=by
 cases o with
 | lst ds=>obtain⟨b,e,_⟩:=x;exact⟨_,e⟩
 | dct ds=>obtain⟨b,e,_⟩:=x;exact⟨_,e⟩
 | dcH ds=>obtain⟨b,_,e,_⟩:=x;exact⟨_,e⟩
theorem AR.mono(x:AR K f H a o)(T:Ch f H b d)(e:d a=H a):AR K b d a o:=by
 cases o with
 | lst ds=>obtain⟨c,x,r⟩:=x;exact⟨c,e.trans x,r.mono T⟩
 | dct ds=>obtain⟨c,x,r⟩:=x;exact⟨c,e.trans x,r.mono T⟩
 | dcH ds=>obtain⟨us,h,x,r,g,p⟩:=x;exact⟨us,h,e.trans x,r.mono T,g.mono T,p⟩
def bC.mem(S:bC K c h H)(f:a∈c.ob):∃(n:Nat)(o:MO),c.ob[n]?=some a/\h[n]?=some o/\AR K c H a o:=by
 obtain⟨n,hn,e⟩:=List.mem_iff_getElem.mp f;have b:n < h.length:=by rw[<-S.len];exact hn
 have d:c.ob[n]?=some a:=by rw[WA hn,e]
 exact⟨n,h[n],d,WA b,S.at_ n a _ d (WA b)⟩
theorem bC.has(S:bC K c h H)(b:c.has a):∃u,H a=some u:=by
 rcases b with b | b
 ·obtain⟨_,_,_,_,x⟩:=S.mem b;exact x.has
 ·exact(S.uY a b).1
def bC.fresh(S:bC K a h H)(hp:H p=none):¬a.has p:=λm=>by
 obtain⟨u,e⟩:=S.has m;rw[hp] at e;cases e
def cA.laid(S:bC K a h H)(hp:H p=none):cA a H a (upd H p o):=
 ⟨⟨λ_ _ e=>e,λb u n e=>⟨n,by rw[aC (aR e hp)];exact e⟩⟩,rfl,λb c=>by
  obtain⟨u,e⟩:=(S.uY b c).1;rw[aC (aR e hp)]⟩
def bC.same(S:bC K c h H)(T:cA c H c f)(k:∀a∈c.ob,f a=H a):bC K c h f:=
 ⟨S.len,S.nd,λn a o e g=>(S.at_ n a o e g).mono T.toCh (k a (Wx e)),λb d=>⟨by rw[T.res b d];exact(S.uY b d).1,(S.uY b d).2⟩⟩
theorem bC.laid(S:bC K b h H)(hp:H p=none):bC K b h (upd H p o):=
 S.same (cA.laid S hp) λa c=>by
  obtain⟨u,e⟩:=S.has (.inl c);rw[aC (aR e hp)]
abbrev Ad.more(ρ:Ad)(p:Addr):Ad:=⟨ρ.ob++[p],ρ.rs⟩
def cA.made(S:bC K c h H)(hp:H p=none):cA c H (c.more p) (upd H p o):=by
 refine⟨⟨λn a e=>?_,λb u n e=>?_⟩,rfl,(cA.laid S hp).res⟩
 ·show(c.ob++[p])[n]?=_;rw[WO (Ww.mp e).1];exact e
 ·refine⟨λm=>?_,by rw[aC (aR e hp)];exact e⟩;rcases m with m | m
  ·rcases Xi.mp m with m | m
   ·exact n (.inl m)
   ·exact aR e hp (WD.mp m)
  ·exact n (.inr m)
theorem bC.made(S:bC K d h H)(hp:H p=none)(k:AR K (d.more p) (upd H p u) p o):bC K (d.more p) (h++[o]) (upd H p u):=by
 refine⟨by simp[S.len],?_,λn a x c f=>?_,λb i=>?_⟩
 ·show(d.ob++[p]).Nodup;rw[ZE];refine⟨S.nd,by simp,λa l b i z=>?_⟩;rw[WD.mp i] at z;exact S.fresh hp (.inl (z ▸ l))
 ·by_cases hn:n < d.ob.length
  ·have c:(d.ob++[p])[n]?=some a:=c;rw[WO hn] at c;rw[WO (by rw[<-S.len];exact hn)] at f;have q:=S.at_ n a x c f;obtain⟨w,r⟩:=q.has;exact q.mono (cA.made S hp).toCh (aC (aR r hp))
  ·have j:=(Ww.mp c).1;simp at j;have g:n=d.ob.length:=by lia
   subst g;have c:(d.ob++[p])[d.ob.length]?=some a:=c;rw[W5 (WB _)] at c;rw[W5 (by rw[S.len];exact WB _)] at f;simp at c;rw[S.len] at f;simp at f;subst c;subst f;exact k
 ·obtain⟨⟨v,e⟩,n⟩:=S.uY b i;have z:=aR e hp;refine⟨⟨v,by rw[aC z];exact e⟩,λm=>?_⟩;rcases Xi.mp m with m | m
  ·exact n m
  ·exact z (WD.mp m)
def cA.wrote(S:bC K c h H)(d:a∈c.ob):cA c H c (upd H a o):=
 ⟨⟨λ_ _ e=>e,λb u n e=>⟨n,by rw[aC (λ(z:b=a)=>n (.inl (by rw[z];exact d)))];exact e⟩⟩,rfl,λb f=>aC λ(z:b=a)=>(S.uY b f).2 (by rw[z];exact d)⟩
theorem bC.wrote(S:bC K c h H)(e:c.ob[n]?=some a)(j:AR K c (upd H a u) a o):bC K c (h.set n o) (upd H a u):=by
 have k:=Wx e;have T:cA c H c (upd H a u):=cA.wrote S k;refine⟨by rw[Yo];exact S.len,S.nd,λm b x g f=>?_,λb d=>⟨by rw[T.res b d];exact(S.uY b d).1,(S.uY b d).2⟩⟩
 by_cases hm:n=m
 ·subst hm;have i:n < h.length:=by rw[<-S.len];exact(Ww.mp e).1
  rw[e] at g;cases g;rw[XH i] at f;cases f;exact j
 ·rw[Xy hm] at f;have q:=S.at_ m b x g f;have d:b≠a:=by
   intro z;subst z;exact hm ((Aaz (Ww.mp e).1 S.nd).mp (e.trans g.symm))
  exact q.mono T.toCh (aC d)
abbrev Ad.keep(ρ:Ad)(l:Addr):Ad:=⟨ρ.ob,l::ρ.rs⟩
theorem Ch.keep(hl:H l=none):Ch c H (c.keep l) (upd H l o):=by
 refine⟨λn a e=>e,λb u n e=>⟨λm=>?_,by rw[aC (aR e hl)];exact e⟩⟩;rcases m with m | m
 ·exact n (.inl m)
 ·rcases WI.mp m with m | m
  ·exact aR e hl m
  ·exact n (.inr m)
theorem bC.keep(S:bC K d h H)(hl:H l=none):bC K (d.keep l) h (upd H l o):=by
 refine⟨S.len,S.nd,λn a x i g=>?_,λb c=>?_⟩
 ·have q:=S.at_ n a x i g;obtain⟨w,f⟩:=q.has;exact q.mono (Ch.keep hl) (aC (aR f hl))
 ·rcases WI.mp c with rfl | c
  ·exact⟨⟨_,aO⟩,λm=>S.fresh hl (.inl m)⟩
  ·obtain⟨⟨v,e⟩,n⟩:=S.uY b c;exact⟨⟨v,by rw[aC (aR e hl)];exact e⟩,n⟩
def Ch.put(hl:l∈c.rs):Ch c H c (upd H l o):=⟨λn a e=>e,λb u n e=>⟨n,by rw[aC (λ(z:b=l)=>n (.inr (by rw[z];exact hl)))];exact e⟩⟩
theorem bC.put(S:bC K c h H)(hl:l∈c.rs):bC K c h (upd H l o):=by
 refine⟨S.len,S.nd,λn a x e f=>(S.at_ n a x e f).mono (Ch.put hl) (aC λ(z:a=l)=>(S.uY l hl).2 (by rw[<-z];exact Wx e)),λb d=>⟨?_,(S.uY b d).2⟩⟩
 by_cases z:b=l
 ·subst z;exact⟨_,aO⟩
 ·rw[aC z];exact(S.uY b d).1
def Ch.free{os rs c:List Addr}{H:Hp}(d:∀b∈c,b∈rs):Ch ⟨os,rs⟩ H ⟨os,c⟩ H:=⟨λn a e=>e,λb u n e=>⟨λm=>n (m.elim .inl λm=>.inr (d b m)),e⟩⟩
theorem bC.free{os rs c:List Addr}{H:Hp}(S:bC K ⟨os,rs⟩ h H)(d:∀b∈c,b∈rs):bC K ⟨os,c⟩ h H:=
 ⟨S.len,S.nd,λn a x g f=>(S.at_ n a x g f).mono (Ch.free d) rfl,λb e=>S.uY b (d b e)⟩
structure b7(K:FR)(ρ:Ad)(H:Hp)(σ:St)(δ:DS):Prop where
 len:σ.length=δ.length
 at_:∀(i:Nat) d,δ[i]?=some (some d)->∃v,σ[i]?=some (some v)/\Rep K ρ H v d
theorem b7.mono(R:b7 K f H σ g)(S:Ch f H c h):b7 K c h σ g:=⟨R.len,λi d e=>let⟨v,a,b⟩:=R.at_ i d e;⟨v,a,b.mono S⟩⟩
theorem b7.set(R:b7 K c H σ f)(r:Rep K c H v d)(i:Nat):b7 K c H (σ.set i (some v)) (f.set i (some d)):=by
 refine⟨by rw[Yo,Yo];exact R.len,λj e b=>?_⟩
 by_cases a:i=j
 ·subst a;have hl:i < f.length:=by
   have:=(Ww.mp b).1;rw[Yo] at this;exact this
  rw[XH hl] at b;cases b;exact⟨v,by rw[XH (by rw[R.len];exact hl)],r⟩
 ·rw[Xy a] at b ⊢;exact R.at_ j e b
abbrev EM:=DS->MH->Option (D×MH)
abbrev TM:=DS->MH->Option (Bool×MH)
abbrev AM:=DS->MH->Option (List D×MH)
inductive Fl where
 | nx | bk | ct | rt (d:D)
abbrev SM:=DS->MH->Option (Fl×DS×MH)
abbrev GM:=D->DS->MH->Option (DS×MH)
abbrev Fn:=List D->MH->Option (D×MH)
inductive Nq(K:FR)(ρ:Ad)(H:Hp)(h':MH)(d:D)(v:V)(H':Hp):Prop where
 | mk (ρ'):cA ρ H ρ' H'->bC K ρ' h' H'->Rep K ρ' H' v d->Nq K ρ H h' d v H'
noncomputable def dw(K:FR)(a:Ad)(H:Hp)(b:MH)(d:D):VK:=λv c=>Nq K a H b d v c
inductive VS(K:FR)(m:EM)(σ:L2.St)(H:Hp)(Q:VK):Prop where
 | mk (ρ δ h d h'):b7 K ρ H σ δ->bC K ρ h H->(m δ h=some (d,h'))->(∀v H',dw K ρ H h' d v H'->Q v H')->VS K m σ H Q
def tM(K:FR)(m:EM):TE:=λa H Q=>VS K m a H Q
inductive Tn(K:FR)(m:TM)(σ:L2.St)(H:Hp)(Q:Bool->Hp->Prop):Prop where
 | mk (ρ δ h b h'):b7 K ρ H σ δ->bC K ρ h H->(m δ h=some (b,h'))->(∀ρ' H',cA ρ H ρ' H'->bC K ρ' h' H'->Q b H')->Tn K m σ H Q
def yK(K:FR)(m:TM):TT:=λa H Q=>Tn K m a H Q
inductive Tv(K:FR)(m:AM)(σ:L2.St)(H:Hp)(Q:List V->Hp->Prop):Prop where
 | mk (ρ δ h ds h'):b7 K ρ H σ δ->bC K ρ h H->(m δ h=some (ds,h'))->(∀vs ρ' H',cA ρ H ρ' H'->bC K ρ' h' H'->aA K ρ' H' vs ds->Q vs H')->Tv K m σ H Q
def VM(K:FR)(m:AM):TA:=λa H Q=>Tv K m a H Q
inductive To(K:FR)(m:SM)(E:Ends)(σ:L2.St)(H:Hp):Prop where
 | mk (ρ δ h fl δ' h'):b7 K ρ H σ δ->bC K ρ h H->(m δ h=some (fl,δ',h'))->(∀ρ' H',cA ρ H ρ' H'->bC K ρ' h' H'->
 match fl with
 | .nx=>∀σ',b7 K ρ' H' σ' δ'->E.nx σ' H'
 | .bk=>∀σ',b7 K ρ' H' σ' δ'->E.bk σ' H'
 | .ct=>∀σ',b7 K ρ' H' σ' δ'->E.ct σ' H'
 | .rt d=>∀v,Rep K ρ' H' v d->E.rt v H')->To K m E σ H
def J3(K:FR)(m:SM):TS:=λE a H=>To K m E a H
inductive Tu(K:FR)(m:GM)(v:V)(σ:L2.St)(H:Hp)(Q:L2.St->Hp->Prop):Prop where
 | mk (ρ δ h d δ' h'):b7 K ρ H σ δ->bC K ρ h H->Rep K ρ H v d->(m d δ h=some (δ',h'))->(∀ρ' H' σ',cA ρ H ρ' H'->bC K ρ' h' H'->b7 K ρ' H' σ' δ'->Q σ' H')->Tu K m v σ H Q
def Bb(K:FR)(m:GM):TG:=λv a H Q=>Tu K m v a H Q
def SE(X:Cx)(e:Expr)(m:EM):Prop:=PE X e (tM X.K m)
def ST(X:Cx)(e:Expr)(m:TM):Prop:=PT X e (yK X.K m)
def SW(X:Cx)(e:Expr)(m:TM):Prop:=PW X e (yK X.K m)
def SA(X:Cx)(a:List Expr)(m:AM):Prop:=PA X a (VM X.K m)
def SS(X:Cx)(s:Stmt)(m:SM):Prop:=PS X s (J3 X.K m)
def Kf(X:Cx)(s:List Stmt)(m:SM):Prop:=AK X s (J3 X.K m)
def SG(X:Cx)(e:Expr)(m:GM):Prop:=PG X e (Bb X.K m)
def _root_.L2.PE.imp(h:PE X e t)(i:∀a H Q,c a H Q->t a H Q):PE X e c:=λb s a H Q I q=>h b s a H Q I (i a H Q q)
def _root_.L2.PT.imp(h:PT X e t)(i:∀a H Q,c a H Q->t a H Q):PT X e c:=λb s a H Q I q=>h b s a H Q I (i a H Q q)
def _root_.L2.PW.imp(h:PW X e t)(i:∀a H Q,d a H Q->t a H Q):PW X e d:=λc b s a H Q I q=>h c b s a H Q I (i a H Q q)
def _root_.L2.PA.imp(h:PA X e t)(i:∀a H Q,c a H Q->t a H Q):PA X e c:=λpos b s a H Q I q=>h pos b s a H Q I (i a H Q q)
def _root_.L2.PS.imp(h:PS X e t)(i:∀E a H,c E a H->t E a H):PS X e c:=λb s a H E I q=>h b s a H E I (i E a H q)
def _root_.L2.AK.imp(h:AK X e t)(i:∀E a H,c E a H->t E a H):AK X e c:=λb s a H E I q=>h b s a H E I (i E a H q)
def _root_.L2.PG.imp(h:PG X e t)(i:∀v a H Q,c v a H Q->t v a H Q):PG X e c:=λb s a H v u Q I r q=>h b s a H v u Q I r (i v a H Q q)
def aZ(h:o.bind f=some b):∃a,o=some a/\f a=some b:=ZR.mp h
def eg(h:o.map f=some b):∃a,o=some a/\f a=b:=W0.mp h
def Eg{x:D}{a:Type}{g:Bool->Option a}{z:a}(e:(match x with | .bl c=>g c | _=>none)=some z):∃c,x=.bl c/\g c=some z:=by
 cases x <;> first | exact absurd e (by intro z;cases z) | exact⟨_,rfl,e⟩
def dw.here(S:bC K a h H)(r:Rep K a H v d):dw K a H h d v H:=⟨a,.refl _ _,S,r⟩
def dw.step(T:cA c H b H1)(p:dw K b H1 f d v i):dw K c H f d v i:=let⟨a,g,h,e⟩:=p;⟨a,T.trans g,h,e⟩
theorem dw.tup(S:bC K a h H)(r:aA K a H b ds)(hp:H p=none):dw K a H h (.tup ds) (.ref p) (upd H p (.tup b)):=
 ⟨a,cA.laid S hp,S.laid hp,.tup (.inl ⟨.inl aO,S.fresh hp⟩) (r.mono (cA.laid S hp).toCh)⟩
theorem dw.lv(S:bC K a h H)(r:aA K a H b ds)(hp:H p=none):dw K a H h (.lv ds) (.ref p) (upd H p (.lst b)):=
 ⟨a,cA.laid S hp,S.laid hp,.lv aO (S.fresh hp) (r.mono (cA.laid S hp).toCh)⟩
theorem dw.dv(S:bC K a h H)(r:bt K a H us ds)(hp:H p=none):dw K a H h (.dv ds) (.ref p) (upd H p (.dK us)):=
 ⟨a,cA.laid S hp,S.laid hp,.dv aO (S.fresh hp) (r.mono (cA.laid S hp).toCh)⟩
noncomputable def aD(i:Nat):EM:=λa h=>(a[i]?).join.map λd=>(d,h)
noncomputable def eK(d:D):EM:=λ_ h=>some (d,h)
noncomputable def ai(f:D->D->MH->Option (D×MH))(a b:EM):EM:=λc h=>(a c h).bind λp=>(b c p.2).bind λq=>f p.1 q.1 q.2
noncomputable def kG(f:D->MH->Option (D×MH))(a:EM):EM:=λb h=>(a b h).bind λp=>f p.1 p.2
noncomputable def aT:AM:=λ_ h=>some ([],h)
noncomputable def af(a:EM)(r:AM):AM:=λb h=>(a b h).bind λp=>(r b p.2).bind λq=>some (p.1::q.1,q.2)
noncomputable def aj(f:Fn)(a:AM):EM:=λb h=>(a b h).bind λp=>f p.1 p.2
noncomputable def Aj(t:TM)(a b:EM):EM:=λc h=>(t c h).bind λp=>if p.1 then a c p.2 else b c p.2
noncomputable def ax(a:EM):TM:=λc h=>(a c h).bind λp=>match p.1 with
 | .bl b=>some (b,p.2)
 | _=>none
noncomputable def pP(t:TM):TM:=λa h=>(t a h).map λp=>(!p.1,p.2)
noncomputable def iU(a b:TM):TM:=λc h=>(a c h).bind λp=>if p.1 then b c p.2 else some (false,p.2)
noncomputable def Gz(a b:TM):TM:=λc h=>(a c h).bind λp=>if p.1 then some (true,p.2) else b c p.2
noncomputable def oM(a b:EM):EM:=λd h=>(a d h).bind λp=>match p.1 with
 | .bl c=>if c then b d p.2 else some (.bl false,p.2)
 | _=>none
noncomputable def Vp(a b:EM):EM:=λd h=>(a d h).bind λp=>match p.1 with
 | .bl c=>if c then some (.bl true,p.2) else b d p.2
 | _=>none
noncomputable def aH:Fn:=λa h=>some (.tup a,h)
inductive VW(K:FR)(f:D->D->MH->Option (D×MH))(x y:V)(H:Hp)(Q:VK):Prop where
 | mk (ρ h d e z h'):bC K ρ h H->Rep K ρ H x d->Rep K ρ H y e->(f d e h=some (z,h'))->(∀v H',dw K ρ H h' z v H'->Q v H')->VW K f x y H Q
def rS(K:FR)(f:D->D->MH->Option (D×MH)):R2:=λx y H Q=>VW K f x y H Q
def nM(X:Cx)(g:Value->Value->Sem Value)(f:D->D->MH->Option (D×MH)):Prop:=lu X g (rS X.K f)
inductive VU(K:FR)(f:D->MH->Option (D×MH))(x:V)(H:Hp)(Q:VK):Prop where
 | mk (ρ h d z h'):bC K ρ h H->Rep K ρ H x d->(f d h=some (z,h'))->(∀v H',dw K ρ H h' z v H'->Q v H')->VU K f x H Q
def rU(K:FR)(f:D->MH->Option (D×MH)):V->Hp->VK->Prop:=λx H Q=>VU K f x H Q
inductive VY(K:FR)(f:Fn)(vs:List V)(H:Hp)(Q:VK):Prop where
 | mk (ρ h ds z h'):bC K ρ h H->aA K ρ H vs ds->(f ds h=some (z,h'))->(∀v H',dw K ρ H h' z v H'->Q v H')->VY K f vs H Q
def rF(K:FR)(f:Fn):List V->Hp->VK->Prop:=λa H Q=>VY K f a H Q
def eT(X:Cx)(g:Value)(f:Fn):Prop:=eU X g (rF X.K f)
section
variable {X:Cx} {a b c e:Expr} {es:List Expr} {pos:Pos} {ma mb mc:EM} {mt mu:TM} {m:AM} {f:D->D->MH->Option (D×MH)}
def NY(l:X.N[i]?=some x)(j:QT X.env.scope x)(hd:(x==("__debug__":Str))=false:=by ac_nf)(g:(x==("__classdict__":Str))=false:=by ac_nf):SE X (.Name x pos) (aD i):=
 (HU l j hd g).imp λσ H Q u9=>by
  obtain⟨q,s,h,d,t,R,S,e,k⟩:=u9;obtain⟨u,p,o⟩:=eg e;cases o;obtain⟨v,n,r⟩:=R.at_ i _ (Zd.mp p);exact⟨v,n,k v H (.here S r)⟩
def Bg(hp:PE X e (tC v))(hr:∀g H,Rep X.K g H v d):SE X e (eK d):=hp.imp λσ H Q u9=>by
 obtain⟨g,j,h,n,l,R,S,i,k⟩:=u9;cases i;exact k v H (.here S (hr _ _))
def bc{i j}:SE X (.Constant (.int i) j pos) (eK (.int i)):=Bg OU λ_ _=>.int i
def MS{b j}:SE X (.Constant (.bool b) j pos) (eK (.bl b)):=Bg RZ λ_ _=>.bl b
def wK{j}:SE X (.Constant .none j pos) (eK .bo):=Bg OS λ_ _=>.bo
def cy{x j}(h:PyData.strOk x=true:=by decide+kernel):SE X (.Constant (.str x) j pos) (eK (.str x)):=Bg OP λ_ _=>.str h
def Rv(g:Gl X x)(hm:X.mg x=none)(d:bootBuiltins x=some (.type n))(hn:x≠"__name__":=by decide)(hd:(x==("__debug__":Str))=false:=by ac_nf):SE X (.Name x pos) (eK (.ty n)):=
 Bg (Lm (v:=.ty n) g hm d rfl hn hd) λ_ _=>.ty n
def zj(h:tM X.K (ai f ma mb) σ H Q):Rg (rS X.K f) (tM X.K ma) (tM X.K mb) σ H Q:=by
 obtain⟨r,j,h,d,z,R,S,e,k⟩:=h;obtain⟨⟨x,n⟩,E,e⟩:=aZ e;obtain⟨⟨y,l⟩,C,A⟩:=aZ e;refine⟨r,j,h,x,n,R,S,E,λv H1 u9=>?_⟩;obtain⟨i,q,G,t⟩:=u9;refine⟨i,j,n,y,l,R.mono q,G,C,λu J u9=>?_⟩;obtain⟨g,o,F,s⟩:=u9;exact⟨g,l,x,y,d,z,F,t.mono o,s,A,λw I p=>k w I (p.step (q.trans o))⟩
def bN(d:nM X (binaryOp op) f)(h:SE X a ma)(g:SE X b mb):SE X (.BinOp a op b pos) (ai f ma mb):=(M1 d h g).imp λ_ _ _=>zj
def GZ(d:nM X (compareOp op) f)(h:SE X a ma)(g:SE X b mb)(hm:behindInMarks op b=false):SE X (.Compare a [op] [b] pos) (ai f ma mb):=(Lk d h g hm).imp λ_ _ _=>zj
def nZ{g:CmpOp}(n:nM X (compareOp g) f)(p:SE X a ma)(o:SE X b mb)(hm:behindInMarks g b=false):ST X (.Compare a [g] [b] pos) (ax (ai f ma mb)):=
 (KW n p o hm).imp λσ H Q u9=>by
  obtain⟨j,l,h,c,w,R,S,e,k⟩:=u9;obtain⟨⟨x,q⟩,s,i⟩:=aZ e;obtain⟨y,rfl,i⟩:=Eg i;cases i;refine zj ⟨j,l,h,.bl c,q,R,S,s,λv u u9=>?_⟩;obtain⟨d,T,t,r⟩:=u9;cases r;exact⟨c,rfl,k d u T t⟩
def MR{i:UnaryOp}{f:D->MH->Option (D×MH)}(q:Th X (unaryOp i) (rU X.K f))(r:SE X a ma):SE X (.UnaryOp i a pos) (kG f ma):=(RW q r).imp λσ H Q u9=>by
 obtain⟨l,n,h,d,s,R,S,e,k⟩:=u9;obtain⟨⟨x,j⟩,t,e⟩:=aZ e;exact⟨l,n,h,x,j,R,S,t,λv H1 ⟨g,u,y,o⟩=>⟨g,j,x,d,s,y,o,e,λw z p=>k w z (p.step u)⟩⟩
def ak:SA X [] aT:=Ib.imp λσ H Q u9=>by
 obtain⟨g,i,h,d,j,R,S,e,k⟩:=u9;cases e;exact k [] g H (.refl _ _) S .nil
def aa(t:SE X e ma)(hr:SA X es m)(s:starEach (e::es) X.env=(false,eval e X.env)::starEach es X.env:=by ac_nf):SA X (e::es) (af ma m):=
 (DD t hr s).imp λσ H Q u9=>by
  obtain⟨p,j,h,d,G,R,S,e,k⟩:=u9;obtain⟨⟨x,l⟩,z,e⟩:=aZ e;obtain⟨⟨q,u⟩,y,w⟩:=aZ e;cases w;refine⟨p,j,h,x,l,R,S,z,λv H1 u9=>?_⟩;obtain⟨i,o,C,r⟩:=u9;exact⟨i,j,l,q,u,R.mono o,C,y,λF g E n A rs=>k _ g E (o.trans n) A (.cons (r.mono n) rs)⟩
def jK(m:AM)(n:Nat):Prop:=∀g h d i,m g h=some (d,i)->d.length=n
def aB:jK aT 0:=λd h i g e=>by cases e;rfl
def ae(hr:jK m n):jK (af ma m) (n+1):=λi h q o e=>by
 obtain⟨⟨x,l⟩,p,e⟩:=aZ e;obtain⟨⟨j,k⟩,g,d⟩:=aZ e;cases d;rw[WN,hr _ _ _ _ g]
def cw{q}(h:SA X es m)(hl:jK m n)(hn:n<=sizeLine:=by decide):SE X (.Tuple es q pos) (aj aH m):=(ON h).imp λσ H Q u9=>by
 obtain⟨l,o,h,d,v,R,S,e,k⟩:=u9;obtain⟨⟨x,r⟩,i,e⟩:=aZ e;cases e;refine⟨l,o,h,x,r,R,S,i,λu j w s t g=>⟨by rw[g.length,hl _ _ _ _ i];exact hn,λp hp=>k _ _ (dw.step s (.tup t g hp))⟩⟩
inductive Tw(K:FR)(m:AM)(σ:L2.St)(H:Hp)(Q:VK):Prop where
 | mk (ρ δ h ds h'):b7 K ρ H σ δ->bC K ρ h H->(m δ h=some (ds,h'))->(∀ρ1 H1 p vs,cA ρ H ρ1 H1->bC K ρ1 h' H1->H1 p=none->aA K ρ1 H1 vs ds->Q (.ref p) (upd H1 p (.lst vs)))->Tw K m σ H Q
def Wa(K:FR)(m:AM):TE:=λd H Q=>Tw K m d H Q
def qo(X:Cx)(e:Expr)(m:AM):Prop:=PE X e (Wa X.K m)
noncomputable def iq(m:AM):EM:=λd h=>(m d h).map λp=>(.lv p.1,p.2)
noncomputable def D4(m:AM):EM:=λd h=>(m d h).map λp=>(.ob p.2.length,p.2++[.lst p.1])
theorem dw.ob(S:bC K d h H)(r:aA K d H g ds)(hp:H p=none):dw K d H (h++[.lst ds]) (.ob h.length) (.ref p) (upd H p (.lst g)):=
 ⟨d.more p,cA.made S hp,S.made hp ⟨g,aO,r.mono (cA.made S hp).toCh⟩,.ob (show(d.ob++[p])[h.length]?=_ by rw[<-S.len,W5 (WB _)];simp)⟩
theorem qo.lv(h:qo X e m):SE X e (iq m):=h.imp λσ H Q u9=>by
 obtain⟨i,j,h,d,u,R,S,e,k⟩:=u9;obtain⟨⟨q,l⟩,o,n⟩:=eg e;cases n;exact⟨i,j,h,q,l,R,S,o,λg v p t T s hp r=>k _ _ (dw.step T (.lv s r hp))⟩
theorem qo.ob(h:qo X e m):SE X e (D4 m):=h.imp λσ H Q u9=>by
 obtain⟨i,j,h,d,u,R,S,e,k⟩:=u9;obtain⟨⟨q,l⟩,o,n⟩:=eg e;cases n;exact⟨i,j,h,q,l,R,S,o,λg v p t T s hp r=>k _ _ (dw.step T (.ob s r hp))⟩
def fR(h:SA X es m)(hl:jK m n)(hn:n<=sizeLine:=by decide):qo X (.List es pos) m:=(OT h).imp λσ H Q ⟨i,j,h,ds,o,R,S,e,k⟩=>
 ⟨i,j,h,ds,o,R,S,e,λl d s q r g=>⟨by rw[g.length,hl _ _ _ _ e];exact hn,λp hp=>k d s p l q r hp g⟩⟩
noncomputable def Wk:EM:=λ_ h=>some (.dv [],h)
def RA:SE X (.Dict [] [] pos) Wk:=HY.imp λσ H Q ⟨g,i,h,d,j,R,S,e,k⟩ p hp=>by
 cases e;exact k _ _ (.dv S .nil hp)
def GI(h:ST X a mt):ST X (.UnaryOp .Not a pos) (pP mt):=(OC h).imp λσ H Q u9=>by
 obtain⟨g,i,h,c,q,R,S,e,k⟩:=u9;obtain⟨⟨x,j⟩,n,l⟩:=eg e;cases l;exact⟨g,i,h,x,j,R,S,n,λd p T o=>k d p T o⟩
def CW(h:ST X a mt):SW X (.BoolOp .And [a] pos) mt:=KU h
def NO(h:ST X a mt):SW X (.BoolOp .Or [a] pos) mt:=OA h
def GD{d:List Expr}(r:ST X a mt)(q:SW X (.BoolOp .And (b::d) pos) mu):SW X (.BoolOp .And (a::b::d) pos) (iU mt mu):=(OB r q).imp λσ H Q u9=>by
 obtain⟨p,l,h,c,s,R,S,e,k⟩:=u9;obtain⟨⟨x,n⟩,t,i⟩:=aZ e;refine⟨p,l,h,x,n,R,S,t,λg y T o=>?_⟩;cases x with
 | true=>rw[WC rfl] at i ⊢;exact⟨g,l,n,c,s,R.mono T,o,i,λj w u v=>k j w (T.trans u) v⟩
 | false=>rw[WE (by simp)] at i ⊢;cases i;exact k g y T o
def MN{d:List Expr}(r:ST X a mt)(q:SW X (.BoolOp .Or (b::d) pos) mu):SW X (.BoolOp .Or (a::b::d) pos) (Gz mt mu):=(RU r q).imp λσ H Q u9=>by
 obtain⟨p,l,h,c,s,R,S,e,k⟩:=u9;obtain⟨⟨x,n⟩,t,i⟩:=aZ e;refine⟨p,l,h,x,n,R,S,t,λg y T o=>?_⟩;cases x with
 | false=>rw[WE (by simp)] at i ⊢;exact⟨g,l,n,c,s,R.mono T,o,i,λj w u v=>k j w (T.trans u) v⟩
 | true=>rw[WC rfl] at i ⊢;cases i;exact k g y T o
def SW.st(h:SW X a mt):ST X a mt:=PW.pt h
def fS{op}(h:SE X a ma):SE X (.BoolOp op [a] pos) ma:=OQ h
def fT{g:List Expr}(t:SE X a ma)(s:SE X (.BoolOp .And (b::g) pos) mb):SE X (.BoolOp .And (a::b::g) pos) (oM ma mb):=(OW t s).imp λσ H Q u9=>by
 obtain⟨q,l,h,d,u,R,S,e,k⟩:=u9;obtain⟨⟨x,n⟩,w,i⟩:=aZ e;obtain⟨c,rfl,i⟩:=Eg i;refine⟨q,l,h,.bl c,n,R,S,w,λv z u9=>?_⟩;obtain⟨j,T,o,r⟩:=u9;cases r;refine⟨c,rfl,?_⟩;cases c with
 | true=>rw[WC rfl] at i ⊢;exact⟨j,l,n,d,u,R.mono T,o,i,λv y p=>k v y (p.step T)⟩
 | false=>rw[WE (by simp)] at i ⊢;cases i;exact k _ _ ⟨j,T,o,.bl _⟩
def Rx{g:List Expr}(t:SE X a ma)(s:SE X (.BoolOp .Or (b::g) pos) mb):SE X (.BoolOp .Or (a::b::g) pos) (Vp ma mb):=(RX t s).imp λσ H Q u9=>by
 obtain⟨q,l,h,d,u,R,S,e,k⟩:=u9;obtain⟨⟨x,n⟩,w,i⟩:=aZ e;obtain⟨c,rfl,i⟩:=Eg i;refine⟨q,l,h,.bl c,n,R,S,w,λv z u9=>?_⟩;obtain⟨j,T,o,r⟩:=u9;cases r;refine⟨c,rfl,?_⟩;cases c with
 | false=>rw[WE (by simp)] at i ⊢;exact⟨j,l,n,d,u,R.mono T,o,i,λv y p=>k v y (p.step T)⟩
 | true=>rw[WC rfl] at i ⊢;cases i;exact k _ _ ⟨j,T,o,.bl _⟩
noncomputable def Ma(a:EM):EM:=λd h=>(a d h).bind λp=>match p.1 with
 | .bl c=>some (.bl (!c),p.2)
 | _=>none
def GU(n:SE X a ma):SE X (.UnaryOp .Not a pos) (Ma ma):=(OR n).imp λσ H Q u9=>by
 obtain⟨j,l,h,d,s,R,S,e,k⟩:=u9;obtain⟨⟨x,o⟩,p,i⟩:=aZ e;obtain⟨c,rfl,i⟩:=Eg i;cases i;refine⟨j,l,h,.bl c,o,R,S,p,λv t u9=>?_⟩;obtain⟨g,T,q,r⟩:=u9;cases r;exact⟨c,rfl,k _ _ ⟨g,T,q,.bl _⟩⟩
def GV(s:ST X c mt)(u:SE X a ma)(t:SE X b mb):SE X (.IfExp c a b pos) (Aj mt ma mb):=(HX s u t).imp λσ H Q u9=>by
 obtain⟨r,j,h,d,o,R,S,e,k⟩:=u9;obtain⟨⟨x,l⟩,w,i⟩:=aZ e;refine⟨r,j,h,x,l,R,S,w,λg y T q=>?_⟩;cases x with
 | true=>rw[WC rfl] at i ⊢;exact⟨g,j,l,d,o,R.mono T,q,i,λv n p=>k v n (p.step T)⟩
 | false=>rw[WE (by simp)] at i ⊢;exact⟨g,j,l,d,o,R.mono T,q,i,λv n p=>k v n (p.step T)⟩
noncomputable def yI(d:D)(h:MH):Option Bool:=match d with
 | .bo=>some false
 | .bl b=>some b
 | .int i=>some (i !=0)
 | .str x=>if x.length<=sizeLine then some ((x.length:Int) !=0) else none
 | .tup xs=>some (!xs.isEmpty)
 | .dv g=>some (!g.isEmpty)
 | .ob n=>match h[n]? with
  | some (.lst xs)=>some (!xs.isEmpty)
  | some (.dct g)=>some (!g.isEmpty)
  | _=>none
 | .lv xs=>some (!xs.isEmpty)
 | .ro xs=>some (!xs.isEmpty)
 | .ty _=>none
 | .fn _=>none
def fN(a:EM):TM:=λd h=>(a d h).bind λp=>(yI p.1 p.2).map λc=>(c,p.2)
theorem bt.isEmpty(t:bt K d H us ds):us.isEmpty=ds.isEmpty:=by cases t <;> rfl
def Km{K:FR}{j:Ad}{H:Hp}{h:MH}{v:V}{d:D}{c:Bool}(S:bC K j h H)(r:Rep K j H v d)(e:yI d h=some c):Qv K v H c:=by
 cases r with
 | bo=>cases e;exact rfl
 | bl b=>cases e;exact rfl
 | int i=>cases e;exact rfl
 | str p=>
  unfold yI at e
  by_cases z:‹Str›.length<=sizeLine
  ·simp only[WC z] at e;cases e;exact⟨z,rfl⟩
  ·simp only[WE z] at e;cases e
 | ty n=>exact cf e
 | fn n=>exact cf e
 | tup ht l=>cases e;exact .inr (.inl ⟨_,ht.sq,by rw[l.isEmpty]⟩)
 | lv ht n l=>cases e;exact .inl ⟨_,eV.of ht,by rw[l.isEmpty]⟩
 | ro ht l=>cases e;exact .inl ⟨_,ht.sq,by rw[l.isEmpty]⟩
 | dv ht n l=>cases e;exact .inr (.inr ⟨_,ht,by rw[l.isEmpty]⟩)
 | ob hn=>
  unfold yI at e;rename_i a n;cases q:h[n]? with
  | none=>simp only[q] at e;cases e
  | some o=>
   have x:=S.at_ n a o hn q;cases o with
   | lst ds=>simp only[q] at e;cases e;obtain⟨k,g,l⟩:=x;exact .inl ⟨_,eV.of g,by rw[l.isEmpty]⟩
   | dct ds=>simp only[q] at e;cases e;obtain⟨k,g,l⟩:=x;exact .inr (.inr ⟨_,g,by rw[l.isEmpty]⟩)
   | dcH ds=>simp only[q] at e;cases e
def kM(o:SE X a ma)(n:∀d,isTrue a X.env d=(do let v<-d;standAt a.pos;holding [v] (truthy v)):=by intro _;ac_nf):ST X a (fN ma):=(HG o n).imp λσ H Q u9=>by
 obtain⟨j,l,h,c,y,R,S,e,k⟩:=u9;obtain⟨⟨x,p⟩,u,t⟩:=aZ e;obtain⟨z,s,q⟩:=eg t;cases q;exact⟨j,l,h,x,p,R,S,u,λv w ⟨g,T,i,r⟩=>⟨c,Km i r s,k g w T i⟩⟩
end
mutual
noncomputable def Ms:D->D->Bool
 | .bo,.bo=>true
 | .bl a,.bl b=>a==b
 | .int a,.int b=>a==b
 | .str a,.str b=>decide (a=b)
 | .ty a,.ty b=>a==b
 | .fn a,.fn b=>decide (a=b)
 | .tup a,.tup b=>ym a b
 | .lv a,.lv b=>ym a b
 | .ro a,.ro b=>ym a b
 | .dv a,.dv b=>JC a b
 | .ob a,.ob b=>a==b
 | _,_=>false
noncomputable def ym:List D->List D->Bool
 | [],[]=>true
 | a::r,b::s=>Ms a b&&ym r s
 | _,_=>false
noncomputable def JC:List (Key×D)->List (Key×D)->Bool
 | [],[]=>true
 |(k,a)::r,(j,b)::s=>decide (k=j)&&Ms a b&&JC r s
 | _,_=>false
end
mutual
theorem Ej:∀(a b:D),Ms a b=true->a=b
 | .bo,b,h=>by cases b <;> first | rfl |(cases h;done)
 | .bl x,b,h=>by cases b <;> first | exact congrArg _ (eq_of_beq h) |(cases h;done)
 | .int x,b,h=>by cases b <;> first | exact congrArg _ (eq_of_beq h) |(cases h;done)
 | .str x,b,h=>by cases b <;> first | exact congrArg _ (Xa h) |(cases h;done)
 | .ty x,b,h=>by cases b <;> first | exact congrArg _ (eq_of_beq h) |(cases h;done)
 | .fn x,b,h=>by cases b <;> first | exact congrArg _ (Xa h) |(cases h;done)
 | .ob x,b,h=>by cases b <;> first | exact congrArg _ (eq_of_beq h) |(cases h;done)
 | .tup x,b,h=>by cases b <;> first | exact congrArg _ (iw _ _ h) |(cases h;done)
 | .lv x,b,h=>by cases b <;> first | exact congrArg _ (iw _ _ h) |(cases h;done)
 | .ro x,b,h=>by cases b <;> first | exact congrArg _ (iw _ _ h) |(cases h;done)
 | .dv x,b,h=>by cases b <;> first | exact congrArg _ (yn _ _ h) |(cases h;done)
theorem iw:∀(a b:List D),ym a b=true->a=b
 | [],b,h=>by cases b <;> first | rfl |(cases h;done)
 | x::r,b,h=>by
  cases b with
  | nil=>cases h
  | cons y s=>have h:=W3.mp h;rw[Ej _ _ h.1,iw _ _ h.2]
theorem yn:∀(a b:List (Key×D)),JC a b=true->a=b
 | [],b,h=>by cases b <;> first | rfl |(cases h;done)
 |(k,x)::r,b,h=>by
  cases b with
  | nil=>cases h
  | cons y s=>
   obtain⟨j,y⟩:=y;have h:=W3.mp h;have g:=W3.mp h.1;rw[Xa g.1,Ej _ _ g.2,yn _ _ h.2]
end
mutual
theorem vZ:∀(a:D),Ms a a=true
 | .bo=>rfl
 | .bl x=>YK x
 | .int x=>YK x
 | .str x=>W4 rfl
 | .ty x=>YK x
 | .fn x=>W4 rfl
 | .ob x=>YK x
 | .tup x=>eD x
 | .lv x=>eD x
 | .ro x=>eD x
 | .dv x=>oP x
theorem eD:∀(a:List D),ym a a=true
 | []=>rfl
 | x::r=>W3.mpr ⟨vZ x,eD r⟩
theorem oP:∀(a:List (Key×D)),JC a a=true
 | []=>rfl
 |(k,x)::r=>W3.mpr ⟨W3.mpr ⟨W4 rfl,vZ x⟩,oP r⟩
end
def JB:MO->MO->Bool
 | .lst a,.lst b=>ym a b
 | .dct a,.dct b=>JC a b
 | .dcH a,.dcH b=>ym (a.map (·.1)) (b.map (·.1))&&ym (a.map (·.2)) (b.map (·.2))
 | _,_=>false
theorem zt:∀{a b:List (D×D)},a.map (·.1)=b.map (·.1)->a.map (·.2)=b.map (·.2)->a=b
 | [],[],_,_=>rfl
 | [],_::_,h,_=>by cases h
 | _::_,[],h,_=>by cases h
 |(x,y)::a,(u,v)::b,h,g=>by
  obtain⟨c,d⟩:=List.cons.inj h;obtain⟨g1,g2⟩:=List.cons.inj g;dsimp only at c g1;rw[c,g1,zt d g2]
def Eh(h:JB a b=true):a=b:=by
 cases a <;> cases b <;> first |(cases h;done) | skip
 ·rw[iw _ _ h]
 ·rw[yn _ _ h]
 ·have h:=W3.mp h;rw[zt (iw _ _ h.1) (iw _ _ h.2)]
def vY(a:MO):JB a a=true:=by
 cases a with
 | lst x=>exact eD x
 | dct x=>exact oP x
 | dcH x=>exact W3.mpr ⟨eD _,eD _⟩
def yo:MH->MH->Bool
 | [],[]=>true
 | a::r,b::s=>JB a b&&yo r s
 | _,_=>false
theorem Ei:∀{a b:MH},yo a b=true->a=b
 | [],b,h=>by cases b <;> first | rfl | simp[yo] at h
 | x::r,b,h=>by
  cases b with
  | nil=>simp[yo] at h
  | cons y s=>simp[yo] at h;rw[Eh h.1,Ei h.2]
noncomputable def bz:SM:=λa h=>some (.nx,a,h)
noncomputable def N7:SM:=λa h=>some (.bk,a,h)
noncomputable def Hb:SM:=λ_ _=>none
noncomputable def ah(a b:SM):SM:=λc h=>(a c h).bind λr=>match r.1 with
 | .nx=>b r.2.1 r.2.2
 | _=>some r
noncomputable def aL(i:Nat)(e:EM):SM:=λa h=>(e a h).bind λp=>some (.nx,a.set i (some p.1),p.2)
noncomputable def en(e:EM)(g:GM):SM:=λa h=>(e a h).bind λp=>(g p.1 a p.2).bind λq=>some (.nx,q.1,q.2)
noncomputable def gp(e:EM):SM:=λa h=>(e a h).bind λp=>some (.nx,a,p.2)
noncomputable def aJ(e:EM):SM:=λa h=>(e a h).bind λp=>some (.rt p.1,a,p.2)
noncomputable def et(t:TM)(a b:SM):SM:=λc h=>(t c h).bind λp=>if p.1 then a c p.2 else b c p.2
noncomputable def N8(i:Nat)(f:D->D->MH->Option (D×MH))(e:EM):SM:=λa h=>((a[i]?).join).bind λx=>(e a h).bind λp=>(f x p.1 p.2).bind λq=>some (.nx,a.set i (some q.1),q.2)
noncomputable def gN(i:Nat):GM:=λd a h=>some (a.set i (some d),h)
abbrev Kh:=List D->DS->MH->Option (DS×MH)
noncomputable def bU:Kh:=λb a h=>match b with
 | []=>some (a,h)
 | _=>none
noncomputable def av(g:GM)(u:Kh):Kh:=λb a h=>match b with
 | []=>none
 | d::r=>(g d a h).bind λp=>u r p.1 p.2
noncomputable def gT(n:Nat)(u:Kh):GM:=λd a h=>match d with
 | .tup xs=>if xs.length=n then u xs a h else none
 | _=>none
abbrev W:=List (Nat×MO)
abbrev IM:=DS->MH->Option (List D×W×MH)
def ir:W->MH->Bool
 | [],_=>true
 |(n,o)::r,h=>(match h[n]? with | some u=>JB u o | none=>false)&&ir r h
def mT(a:W)(g:GM)(b:SM):List D->SM
 | [],c,h=>if ir a h then some (.nx,c,h) else none
 | x::r,c,h=>if ir a h then(g x c h).bind λq=>(b q.1 q.2).bind λz=>match z.1 with
  | .nx=>mT a g b r z.2.1 z.2.2
  | .ct=>mT a g b r z.2.1 z.2.2
  | .bk=>some (.nx,z.2.1,z.2.2)
  | .rt d=>some (.rt d,z.2.1,z.2.2)
  else none
def j9(i:IM)(g:GM)(b:SM):SM:=λa h=>(i a h).bind λp=>mT p.2.1 g b p.1 a p.2.2
noncomputable def eW(c:TM)(b:SM):Nat->SM
 | 0,_,_=>none
 | n+1,a,h=>(c a h).bind λp=>if p.1 then(b a p.2).bind λz=>match z.1 with
   | .nx=>eW c b n z.2.1 z.2.2
   | .ct=>eW c b n z.2.1 z.2.2
   | .bk=>some (.nx,z.2.1,z.2.2)
   | .rt d=>some (.rt d,z.2.1,z.2.2)
  else some (.nx,a,p.2)
section
variable {X:Cx} {a b c e tg iter:Expr} {es:List Expr} {st:Stmt} {sts rest:List Stmt} {pos:Pos} {ma mb:EM} {mt:TM} {ms mu:SM} {m:AM} {g:GM} {gs:Kh}
def bM:Kf X [] bz:=K0.imp λE σ H u9=>by
 obtain⟨d,i,h,fl,f,j,R,S,e,k⟩:=u9;cases e;exact k d H (.refl _ _) S σ R
def NR:SS X (.Break pos) N7:=HM.imp λE σ H u9=>by
 obtain⟨d,i,h,fl,f,j,R,S,e,k⟩:=u9;cases e;exact k d H (.refl _ _) S σ R
def GJ:SS X st Hb:=HK.imp λE σ H u9=>by obtain⟨f,i,h,fl,d,j,R,S,e,k⟩:=u9;cases e
def Oh(hh:J3 X.K (ah ms mu) E σ H):Ra (J3 X.K ms) (J3 X.K mu) E σ H:=by
 obtain⟨o,p,h,fl,t,w,R,S,e,k⟩:=hh;obtain⟨⟨x,n,u⟩,r,q⟩:=aZ e;cases x with
 | nx=>exact⟨o,p,h,.nx,n,u,R,S,r,λf l i j v A=>⟨f,n,u,fl,t,w,A,j,q,λs C y z=>k s C (i.trans y) z⟩⟩
 | bk=>cases q;exact⟨o,p,h,.bk,_,_,R,S,r,λf l i j=>k f l i j⟩
 | ct=>cases q;exact⟨o,p,h,.ct,_,_,R,S,r,λf l i j=>k f l i j⟩
 | rt d=>cases q;exact⟨o,p,h,.rt d,_,_,R,S,r,λf l i j=>k f l i j⟩
def ab(f:SS X st ms)(d:Kf X rest mu):Kf X (st::rest) (ah ms mu):=(HH f d).imp λ_ _ _=>Oh
def aE(d:SS X st ms):Kf X [st] ms:=KZ d
def Hn(hh:J3 X.K (aL i ma) E σ H):Kq (tM X.K ma) (z7 i) E σ H:=by
 obtain⟨j,n,h,fl,l,t,R,S,e,k⟩:=hh;obtain⟨⟨x,p⟩,r,q⟩:=aZ e;cases q;exact⟨j,n,h,x,p,R,S,r,λv H1 ⟨d,f,s,o⟩=>k d H1 f s _ ((R.mono f).set o i)⟩
def NQ(l:X.N.Nodup)(h:X.N[i]?=some x)(d:Loc X.env.scope x)(k:SE X e ma)(f:swapsWith e (some (.Name x pos')) pos.line X.env=pure false:=by ac_nf)(j:X.fn x=true\/X.env.scope.names.lookup x=some .local:=by first | exact .inl rfl | exact .inr rfl | assumption):SS X (.Assign [.Name x pos'] e pos) (aL i ma):=(OD l h d k f j).imp λ_ _ _=>Hn
def Ky(p:X.N.Nodup)(n:X.N[i]?=some x)(l:Loc X.env.scope x)(o:X.fn x=true\/X.env.scope.names.lookup x=some .local:=by first | exact .inl rfl | exact .inr rfl | assumption):SG X (.Name x pos) (gN i):=
 (Li p n l o).imp λv σ H Q u9=>by
  obtain⟨f,q,h,d,j,s,R,S,r,e,k⟩:=u9;cases e;exact k f H _ (.refl _ _) S (R.set r i)
inductive Nl(K:FR)(m:Kh)(vs:List V)(σ:L2.St)(H:Hp)(Q:L2.St->Hp->Prop):Prop where
 | mk (ρ δ h ds δ' h'):b7 K ρ H σ δ->bC K ρ h H->aA K ρ H vs ds->(m ds δ h=some (δ',h'))->(∀ρ' H' σ',cA ρ H ρ' H'->bC K ρ' h' H'->b7 K ρ' H' σ' δ'->Q σ' H')->Nl K m vs σ H Q
noncomputable def Uu(K:FR)(m:Kh):Qx:=λf d H Q=>Nl K m f d H Q
def Uc(X:Cx)(es:List Expr)(m:Kh):Prop:=Nr X es (Uu X.K m)
def _root_.L2.Nr.imp{X:Cx}{e:List Expr}{t j:Qx}(h:Nr X e t)(i:∀v d H Q,j v d H Q->t v d H Q):Nr X e j:=λf s d H v u Q I r q=>h f s d H v u Q I r (i v d H Q q)
def qw:Uc X [] bU:=Lh.imp λv σ H Q u9=>by
 obtain⟨f,j,h,d,i,l,R,S,r,e,k⟩:=u9;cases r with
 | nil=>cases e;exact⟨rfl,k f H σ (.refl _ _) S R⟩
 | cons _ _=>cases e
def fQ(i:SG X e g)(w:Uc X es gs)(u:(assignEach (e::es) X.env).map (·.2)=assign e X.env::(assignEach es X.env).map (·.2):=by ac_nf):Uc X (e::es) (av g gs):=(HQ i w u).imp λv σ H Q u9=>by
 obtain⟨s,t,h,d,o,x,R,S,r,e,k⟩:=u9;cases r with
 | nil=>cases e
 | cons r rs=>
  obtain⟨⟨f,i⟩,z,y⟩:=aZ e;exact⟨_,_,rfl,s,t,h,_,f,i,R,S,r,z,λn I q p E F=>⟨n,f,i,_,o,x,F,E,rs.mono p,y,λl G j A C R2=>k l G j (p.trans A) C R2⟩⟩
def wJ(s:X.calm=true)(h:Uc X es gs)(hn:(assignEach es X.env).length=n:=by ac_nf)(i:(assignEach es X.env).findIdx? (·.1)=none:=by ac_nf):SG X (.Tuple es u pos) (gT n gs):=
 (OM s h hn i).imp λv σ H Q ⟨o,p,h,d,f,t,R,S,r,e,k⟩=>by
  cases r <;> first |(exact absurd e (by intro z;cases z)) | skip
  rename_i a q j ht l _;unfold gT at e;dsimp only at e
  by_cases z:j.length=n
  ·rw[WC z] at e;exact⟨a,q,rfl,ht.sq,by rw[l.length];exact z,o,p,h,j,f,t,R,S,l,e,k⟩
  ·rw[WE z] at e;cases e
def fO(w:SE X e ma)(u:SG X tg g)(t:swapsWithSole [tg] e pos.line X.env=pure false:=by ac_nf)(s:swappedStores [tg] e X.env=pure none:=by ac_nf)
  (d:(assignEach [tg] X.env).map (·.2)=[assign tg X.env]:=by ac_nf):SS X (.Assign [tg] e pos) (en ma g):=(OH w u t s d).imp λE σ H u9=>by
 obtain⟨o,l,h,fl,q,M,R,S,e,k⟩:=u9;obtain⟨⟨x,d⟩,C,A⟩:=aZ e;obtain⟨⟨p,L⟩,y,z⟩:=aZ A;cases z;exact⟨o,l,h,x,d,R,S,C,λv H1 ⟨j,n,I,r⟩=>⟨j,l,d,x,_,_,R.mono n,I,r,y,λi J f F G R2=>k i J (n.trans F) G f R2⟩⟩
def qu(o:SE X e ma)(n:swapsWith e none pos.line X.env=pure false:=by ac_nf):SS X (.Expr e pos) (gp ma):=(K3 o n).imp λE σ H u9=>by
 obtain⟨i,l,h,fl,j,u,R,S,e,k⟩:=u9;obtain⟨⟨x,p⟩,r,q⟩:=aZ e;cases q;exact⟨i,l,h,x,p,R,S,r,λv H1 ⟨d,f,s,t⟩=>k d H1 f s σ (R.mono f)⟩
def aY(n:SE X e ma):SS X (.Return (some e) pos) (aJ ma):=(OE n).imp λE σ H u9=>by
 obtain⟨f,j,h,fl,i,t,R,S,e,k⟩:=u9;obtain⟨⟨x,o⟩,q,p⟩:=aZ e;cases p;exact⟨f,j,h,x,o,R,S,q,λv H1 ⟨d,r,s,l⟩=>k d H1 r s v l⟩
def cE(v:ST X c mt)(y:Kf X sa ms)(w:Kf X sb mu):SS X (.If c sa sb pos) (et mt ms mu):=(RV v y w).imp λE σ H u9=>by
 obtain⟨u,n,h,fl,i,s,R,S,e,k⟩:=u9;obtain⟨⟨x,o⟩,z,j⟩:=aZ e;refine⟨u,n,h,x,o,R,S,z,λf A l t=>?_⟩;cases x with
 | true=>rw[WC rfl] at j ⊢;exact⟨f,n,o,fl,i,s,R.mono l,t,j,λd r p q=>k d r (l.trans p) q⟩
 | false=>rw[WE (by simp)] at j ⊢;exact⟨f,n,o,fl,i,s,R.mono l,t,j,λd r p q=>k d r (l.trans p) q⟩
structure QH(K:FR)(J:It)(ρ:Ad)(H:Hp)(ws:W)(xs:List D):Prop where
 run:∀ρ1 H1 h1,Ch ρ H ρ1 H1->bC K ρ1 h1 H1->ir ws h1=true->∀i:Nat,(xs.length<=i->J.stop i H1)/\∀x,xs[i]?=some x->J.go i H1/\∀v H2,J.MI i H1 v H2->cA ρ1 H1 ρ1 H2/\bC K ρ1 h1 H2/\Rep K ρ1 H2 v x
inductive Tt(K:FR)(m:IM)(σ:L2.St)(H:Hp)(R:It->Hp->Prop):Prop where
 | mk (ρ δ h xs ws h'):b7 K ρ H σ δ->bC K ρ h H->(m δ h=some (xs,ws,h'))->(∀J ρ1 H1,cA ρ H ρ1 H1->bC K ρ1 h' H1->QH K J ρ1 H1 ws xs->R J H1)->Tt K m σ H R
def Kp(K:FR)(m:IM):TI:=λd H R=>Tt K m d H R
def SI(X:Cx)(tg iter:Expr)(m:IM):Prop:=PI X tg iter (Kp X.K m)
def _root_.L2.PI.imp(h:PI X tg e t)(i:∀d H Q,j d H Q->t d H Q):PI X tg e j:=λf s d H R I q=>h f s d H R I (i d H R q)
def Oi(hh:J3 X.K (j9 mi g ms) E σ H):Rk (Kp X.K mi) (Bb X.K g) (J3 X.K ms) E σ H:=by
 obtain⟨ρ,δ,h,fl,z,U,R,S,e,k⟩:=hh;obtain⟨⟨s,L,h1⟩,e1,e2⟩:=aZ e;refine⟨ρ,δ,h,s,L,h1,R,S,e1,λJ I H1 Z S1 It=>?_⟩;refine⟨λi m F y=>∃j p w,m=s.length-i/\i<=s.length/\cA I H1 j y/\b7 X.K j y F p/\bC X.K j w y/\mT L g ms (s.drop i) p w=some (fl,z,U),⟨_,I,δ,h1,rfl,Xe _,.refl _ _,R.mono Z,S1,e2⟩,?_⟩;rintro i m F y ⟨j,p,w,rfl,hi,O,R2,S2,u⟩;cases q:s.drop i with
 | nil=>
  rw[q] at u;unfold mT at u
  by_cases M:ir L w=true
  ·rw[WC M] at u;cases u;have hl:s.length<=i:=by have:=congrArg List.length q;rw[YM,XO] at this;lia
   exact .inl ⟨(It.run j y _ O S2 M i).1 hl,k j y (Z.trans O) S2 F R2⟩
  ·rw[WE M] at u;cases u
 | cons x r=>
  rw[q] at u;unfold mT at u
  by_cases M:ir L w=true
  ·rw[WC M] at u;have hx:s[i]?=some x:=by
    have:=congrArg (λl=>l[0]?) q
    simpa using this
   have hlt:i < s.length:=(Ww.mp hx).1;have hr:s.drop (i+1)=r:=by
    have:=congrArg List.tail q
    simpa using this
   obtain⟨⟨P,h3⟩,e4,e5⟩:=aZ u;obtain⟨⟨f4,t,N⟩,e6,Y⟩:=aZ e5;obtain⟨hgo,hy⟩:=(It.run j y w O S2 M i).2 x hx;have NN:∀f n o,cA j y f n->bC X.K f N n->b7 X.K f n o t->mT L g ms r t N=some (fl,z,U)->
     ∃m',m' < s.length-i/\(∃j p w,m'=s.length-(i+1)/\i+1<=s.length/\cA I H1 j n/\b7 X.K j n o p/\bC X.K j w n/\mT L g ms (s.drop (i+1)) p w=some (fl,z,U)):=
    λf n o Q C R5 e8=>⟨s.length-(i+1),by lia,f,t,N,rfl,hlt,O.trans Q,R5,C,by rw[hr];exact e8⟩
   refine .inr ⟨hgo,λo n=>∃f,cA j y f n/\bC X.K f N n/\b7 X.K f n o t/\mT L g ms r t N=some (fl,z,U),λo n ⟨f,Q,C,R5,e8⟩=>NN f n o Q C R5 e8,λv H3 y3=>?_⟩;obtain⟨T3,S3,r3⟩:=hy v H3 y3;refine⟨j,p,w,x,P,h3,R2.mono T3,S3,r3,e4,λρ4 H4 σ4 T4 S4 R4=>?_⟩;refine⟨ρ4,P,h3,f4,t,N,R4,S4,e6,λf n Q C=>?_⟩;have A:cA j y f n:=T3.trans (T4.trans Q);cases f4 with
   | nx=>exactλG T=>⟨f,A,C,T,Y⟩
   | ct=>exactλG T=>⟨f,A,C,T,Y⟩
   | bk=>cases Y;exactλG T=>k f n (Z.trans (O.trans A)) C G T
   | rt d=>cases Y;exactλv r=>k f n (Z.trans (O.trans A)) C v r
  ·rw[WE M] at u;cases u
def eX(hp:PassesOwn (model X.prog X.w) X.A X.env X.xe)(j:X.calm=true)(h:SI X tg iter d)(i:SG X tg g)(k:Kf X body ms)(f:∀x,foldedSetIterable iter X.env x=pure x:=by intro _;ac_nf):SS X (.For tg iter body [] pos) (j9 d g ms):=
 (OF hp j h i k f).imp λ_ _ _=>Oi
def Hl(hh:J3 X.K (eW mt ms n) E σ H):Gy (yK X.K mt) (J3 X.K ms) E σ H:=by
 obtain⟨M,Y,h,fl,z,O,R,S,e,k⟩:=hh;refine⟨λm o L=>∃i j F,cA M H i L/\b7 X.K i L o j/\bC X.K i F L/\eW mt ms m j F=some (fl,z,O),⟨n,M,Y,h,.refl _ _,R,S,e⟩,?_⟩;rintro m o L ⟨i,j,F,J,R2,S2,Q⟩;cases m with
 | zero=>cases Q
 | succ m=>
  obtain⟨⟨x,N⟩,e3,I⟩:=aZ Q;refine⟨i,j,F,x,N,R2,S2,e3,λq U u T=>?_⟩;cases x with
  | false=>rw[WE (by simp)] at I ⊢;cases I;exact k q U (J.trans u) T o (R2.mono u)
  | true=>
   rw[WC rfl] at I ⊢;obtain⟨⟨P,l,C⟩,e5,G⟩:=aZ I;refine⟨λy s=>∃f,cA q U f s/\bC X.K f C s/\b7 X.K f s y l/\eW mt ms m l C=some (fl,z,O),λy s ⟨f,t,w,R5,Z⟩=>⟨m,YL m,f,l,C,J.trans (u.trans t),R5,w,Z⟩,?_⟩;refine⟨q,j,N,P,l,C,R2.mono u,T,e5,λf s t w=>?_⟩;cases P with
   | nx=>exactλp A=>⟨f,t,w,A,G⟩
   | ct=>exactλp A=>⟨f,t,w,A,G⟩
   | bk=>cases G;exactλp A=>k f s (J.trans (u.trans t)) w p A
   | rt d=>cases G;exactλv r=>k f s (J.trans (u.trans t)) w v r
def lE(hp:PassesOwn (model X.prog X.w) X.A X.env X.xe)(d:ST X c mt)(f:Kf X body ms):SS X (.While c body [] pos) (eW mt ms n):=(HJ hp d f).imp λ_ _ _=>Hl
end
end Sm
namespace L2
open PyProof.Rows
def OL(hl:PE X l r):PI X w l (λj H R=>r j H λx d=>∃a,x=.ref a/\(((∃f,eV X.K d a f)/\R (VF X.K a) d)\/((∃f,iZ X.K d a f)/\R (VE X.K a) d))):=by
 intro g s j H R I h;refine b5 (hl g s j H _ I h) λv s1 u9=>?_;obtain⟨x,d,c,t,k⟩:=u9;obtain⟨a,e,k⟩:=k;subst e;cases t;rcases k with⟨⟨f,m⟩,q⟩ |⟨⟨f,m⟩,q⟩
 ·obtain⟨i,rv,p,u⟩:=c.list m;refine ZX p.isList ?_;refine⟨s1.heap.objs.size,[s1.heap.objs.size],_,_,d,rfl,c.kept (t':=s1.toks) λb o e=>Wu _ e,Eu a _,⟨_,WK _ rfl,rfl,rfl⟩,λb n=>?_,q⟩;have e:b=s1.heap.objs.size:=by simpa using n
  subst e;exact c.uA (WB _) (c.a8.fresh (WB _))
 ·obtain⟨i,rv,p,u⟩:=c.tuple m;refine Zg (show s1.heap.IsTuple a i.toArray from p) ?_;refine⟨s1.heap.objs.size,[s1.heap.objs.size],_,_,d,rfl,c.kept (t':=s1.toks) λb o e=>Wu _ e,AX a _,⟨_,WK _ rfl,rfl,rfl⟩,λb n=>?_,q⟩;have e:b=s1.heap.objs.size:=by simpa using n
  subst e;exact c.uA (WB _) (c.a8.fresh (WB _))
end L2
namespace Sm
open L2
noncomputable def cp(d:D)(h:MH):Option (List D×W):=match d with
 | .lv xs=>some (xs,[])
 | .ro xs=>some (xs,[])
 | .tup xs=>some (xs,[])
 | .ob n=>match h[n]? with
  | some (.lst xs)=>some (xs,[(n,.lst xs)])
  | _=>none
 | _=>none
def gY(e:EM):IM:=λa h=>(e a h).bind λp=>(cp p.1 p.2).map λq=>(q.1,q.2,p.2)
noncomputable def mJ(m:AM):IM:=λa h=>(m a h).bind λp=>match p.1 with
 | [.int j]=>if -(2^62)<=j/\j < 2^62 then some ((List.range j.toNat).map λ(k:Nat)=>D.int (k:Int),[],p.2) else none
 | [.int i,.int j]=>if -(2^62)<=i/\i < 2^62/\-(2^62)<=j/\j < 2^62 then some ((List.range (j-i).toNat).map λ(k:Nat)=>D.int (i+(k:Int)),[],p.2) else none
 | _=>none
def xN(hl:∀a b d,Ch f H a b->bC K a d b->ir ws d=true->∃c,aA K a b c xs/\(∀i:Nat,c.length<=i->J.stop i b)/\∀(i:Nat) v,c[i]?=some v->J.go i b/\∀u e,J.MI i b u e->e=b/\u=v):QH K J f H ws xs:=by
 refine⟨λa b d T S p i=>?_⟩;obtain⟨c,l,k,j⟩:=hl a b d T S p;refine⟨λo=>k i (by rw[l.length];exact o),λx m=>?_⟩;obtain⟨v,n,r⟩:=l.got m;obtain⟨g,y⟩:=j i v n;refine⟨g,λu e h=>?_⟩;obtain⟨rfl,rfl⟩:=y u e h;exact⟨.refl _ _,S,r⟩
def Py(hl:∀b d f,Ch h H b d->bC K b f d->ir ws f=true->∃c,aA K b d c xs/\eV K d a c):QH K (VF K a) h H ws xs:=
 xN λb d f T S k=>by
  obtain⟨c,l,q⟩:=hl b d f T S k;refine⟨c,l,λi j=>⟨c,q,j⟩,λi v g=>⟨⟨c,v,q,g⟩,λu m ⟨e,y⟩=>⟨e,?_⟩⟩⟩;have:=y c q;rw[g] at this;exact(Option.some.inj this).symm
def Pw(hl:∀b d f,Ch h H b d->bC K b f d->ir ws f=true->∃c,aA K b d c xs/\iZ K d a c):QH K (VE K a) h H ws xs:=
 xN λb d f T S k=>by
  obtain⟨c,l,q⟩:=hl b d f T S k;refine⟨c,l,λi j=>⟨c,q,j⟩,λi v g=>⟨⟨c,v,q,g⟩,λu m ⟨e,y⟩=>⟨e,?_⟩⟩⟩;have:=y c q;rw[g] at this;exact(Option.some.inj this).symm
def Mk(a:ir [(n,o)] h=true):h[n]?=some o:=by
 unfold ir at a;cases q:h[n]? with
 | none=>rw[q] at a;cases a
 | some u=>
  rw[q] at a;simp[ir] at a;rw[Eh a]
inductive SeqAt(K:FR)(H:Hp)(a:Addr)(vs:List V):Bool->Prop where
 | l:eV K H a vs->SeqAt K H a vs true
 | t:iZ K H a vs->SeqAt K H a vs false
noncomputable def sE:D->Bool
 | .tup _=>false
 | _=>true
def ie(S:bC K p h H)(r:Rep K p H v d)(e:cp d h=some (xs,ws)):∃a,v=.ref a/\(∃j,SeqAt K H a j (sE d)/\aA K p H j xs)/\
  ∀c g f,Ch p H c g->bC K c f g->ir ws f=true->∃j,aA K c g j xs/\SeqAt K g a j (sE d):=by
 cases r with
 | tup ht l=>
  cases e;refine⟨_,rfl,⟨_,.t ht.sq,l⟩,λc g f T m _=>?_⟩;cases(Rep.tup ht l).mono T with
  | tup f k=>exact⟨_,k,.t f.sq⟩
 | lv ht n l=>
  cases e;refine⟨_,rfl,⟨_,.l (eV.of ht),l⟩,λc g f T m _=>?_⟩;cases(Rep.lv ht n l).mono T with
  | lv f _ k=>exact⟨_,k,.l (eV.of f)⟩
 | ro ht l=>
  cases e;refine⟨_,rfl,⟨_,.l ht.sq,l⟩,λc g f T m _=>?_⟩;cases(Rep.ro ht l).mono T with
  | ro f k=>exact⟨_,k,.l f.sq⟩
 | @ob a n hn=>
  unfold cp at e;dsimp only at e;cases q:h[n]? with
  | none=>rw[q] at e;cases e
  | some o=>
   rw[q] at e;cases o with
   | dct _=>exact cf e
   | dcH _=>exact cf e
   | lst z=>
    cases e;obtain⟨j,y,l⟩:=S.at_ n a _ hn q;refine⟨a,rfl,⟨j,.l (eV.of y),l⟩,λc g f T m u=>?_⟩;obtain⟨us,w,s⟩:=m.at_ n a _ (T.pre n a hn) (Mk u);exact⟨us,s,.l (eV.of w)⟩
 | bo=>exact cf e
 | bl b=>exact cf e
 | int i=>exact cf e
 | str x=>exact cf e
 | ty x=>exact cf e
 | fn x=>exact cf e
 | dv _ _ _=>exact cf e
section
variable {X:Cx} {a b c e tg iter:Expr} {es:List Expr} {pos:Pos} {ma mb:EM} {mt:TM} {ms mu:SM} {m:AM} {g:GM} {gs:Kh}
def fP(h:SE X e ma):SI X tg e (gY ma):=(OL h).imp λσ H Q u9=>by
 obtain⟨A,C,h,xs,ws,N,R,S,e,k⟩:=u9;obtain⟨⟨x,F⟩,L,J⟩:=aZ e;obtain⟨⟨M,w⟩,I,G⟩:=eg J;cases G;refine⟨A,C,h,x,F,R,S,L,λv H1 u9=>?_⟩;obtain⟨i,z,s,E⟩:=u9;obtain⟨a,rfl,⟨y,q,l⟩,st⟩:=ie s E I;refine⟨a,rfl,?_⟩;generalize sE x=b at q st;cases q with
 | l q=>exact .inl ⟨⟨y,q⟩,k _ i H1 z s (Py λd u o p r n=>by obtain⟨us,j,f⟩:=st d u o p r n;cases f with | l f=>exact⟨us,j,f⟩)⟩
 | t q=>exact .inr ⟨⟨y,q⟩,k _ i H1 z s (Pw λd u o p r n=>by obtain⟨us,j,f⟩:=st d u o p r n;cases f with | t f=>exact⟨us,j,f⟩)⟩
theorem jP:∀(ns:List Int),aA K ρ H (ns.map V.int) (ns.map D.int)
 | []=>.nil
 | _::r=>.cons (.int _) (jP r)
def Px(f:Int)(n:Nat):QH K (Ud f n) ρ H [] ((List.range n).map λ(k:Nat)=>D.int (f+(k:Int))):=by
 refine xN λh w y T S x=>⟨(List.range n).map λ(k:Nat)=>V.int (f+(k:Int)),?_,λi o=>?_,λi v l=>?_⟩
 ·have:=jP (K:=K) (ρ:=h) (H:=w) ((List.range n).map λ(k:Nat)=>f+(k:Int));rw[YD,YD] at this;exact this
 ·rw[Ws,WX] at o;exact o
 ·rw[WJ] at l;obtain⟨j,t,s⟩:=eg l;obtain⟨d,r⟩:=Ww.mp t;rw[WX] at d;rw[Aas] at r;subst r;subst s;exact⟨d,λu z ⟨p,q⟩=>⟨p,q⟩⟩
def EU(l:aA K f H d [.int j]):d=[.int j]:=by
 cases l with
 | cons r l=>cases l;cases r;rfl
def cC(t:Gl X "range")(hm:X.mg "range"=none)(u:SA X [a] m)(s:starEach [a] X.env=[(false,eval a X.env)]:=by ac_nf)(hl:jK m 1):SI X tg (.Call (.Name "range" p) [a] [] pos) (mJ m):=
 (E9 t hm u s).imp λA H Q q=>by
  obtain⟨ρ,o,h,C,E,G,R,S,e,k⟩:=q;obtain⟨⟨x,v⟩,l,f⟩:=aZ e;refine⟨ρ,o,h,x,v,R,S,l,λF i n w y r=>?_⟩;obtain⟨d,rfl⟩:=YU.mp (hl _ _ _ _ l);cases d <;> first | exact absurd f (by intro z;cases z) | skip
  rename_i j;dsimp only at f
  by_cases z:-(2^62)<=j/\j < 2^62
  ·rw[WC z] at f;cases f;refine⟨j,EU r,z.1,z.2,k _ i n w y ?_⟩;have:=Px (K:=X.K) (ρ:=i) (H:=n) 0 j.toNat
   simpa using this
  ·rw[WE z] at f;cases f
noncomputable def kH(d:List (Option Nat))(f:DS):DS:=d.map λo=>o.bind λi=>(f[i]?).join
noncomputable def cb:TM:=λ_ h=>some (true,h)
def br(d:W)(g:GM)(c:TM)(e:EM):List D->DS->MH->Option (List D×MH)
 | [],_,h=>if ir d h then some ([],h) else none
 | x::r,f,h=>if ir d h then(g x f h).bind λq=>(c q.1 q.2).bind λt=>if t.1 then(e q.1 t.2).bind λy=>(br d g c e r q.1 y.2).map λz=>(y.1::z.1,z.2) else br d g c e r q.1 t.2 else none
def dR(d:List (Option Nat))(i:IM)(g:GM)(c:TM)(e:EM):AM:=λf h=>(i f h).bind λp=>(br p.2.1 g c e p.1 (kH d f) p.2.2).bind λq=>if q.1.length<=sizeLine then some q else none
theorem b7.oO(R:b7 K l H σ h)(f:List (Option Nat)):b7 K l H (oO f σ) (kH f h):=by
 refine⟨by simp[L2.oO,kH],λi d hd=>?_⟩;unfold kH at hd;rw[WJ] at hd;obtain⟨o,q,k⟩:=eg hd;cases o with
 | none=>exact cf k
 | some j=>
  have p:h[j]?=some (some d):=Zd.mp k;obtain⟨v,n,r⟩:=R.at_ j d p;refine⟨v,?_,r⟩;unfold L2.oO;rw[WJ,q];simp[n]
def My(X:Cx)(d:List Expr)(m:TM):Prop:=JV X d (yK X.K m)
def cv:My X [] cb:=λd s f H Q I hh=>by
 obtain⟨i,j,h,b,l,R,S,e,k⟩:=hh;cases e;exact Lf d s f H Q I (k i H (.refl _ _) S)
def qv(h:ST X c mt):My X [c] mt:=Le h
def Ds(hh:tM X.K (iq (dR F mi g mt ma)) σ H Q):GB F (Kp X.K mi) (Bb X.K g) (yK X.K mt) (tM X.K ma) σ H Q:=by
 obtain⟨ρ,δ,h,d,h',R,S,ee,k⟩:=hh;obtain⟨⟨out,h0⟩,ea,e0⟩:=eg ee;cases e0;obtain⟨⟨I,ws,h1⟩,e1,eb⟩:=aZ ea;obtain⟨⟨ys,E⟩,e2,o⟩:=aZ eb;dsimp only at e2 o
 by_cases hz:ys.length<=sizeLine
 ·rw[WC hz] at o;cases o;refine⟨ρ,δ,h,I,ws,h1,R,S,e1,λJ f H1 T1 S1 It l hl=>?_⟩;have nl:¬f.has l:=S1.fresh hl;have Tl:Ch f H1 (f.keep l) (upd H1 l (.lst [])):=Ch.keep hl;refine⟨λi m τ2 p=>∃(j:List Addr)(M:DS)(E:MH)(C:List V)(P bs:List D),m=I.length-i/\i<=I.length/\Ch f H1 ⟨j,l::f.rs⟩ p/\(∀b∈f.rs,p b=H1 b)/\b7 X.K ⟨j,l::f.rs⟩ p τ2 M/\bC X.K ⟨j,l::f.rs⟩ E p/\
    p l=some (.lst C)/\aA X.K ⟨j,l::f.rs⟩ p C P/\out=P++bs/\br ws g mt ma (I.drop i) M E=some (bs,h0),
   ⟨_,f.ob,kH F δ,h1,[],[],out,rfl,Xe _,Tl,λb L=>aC λz=>nl (.inr (z ▸ L)),((R.mono T1).oO F).mono Tl,S1.keep hl,aO,.nil,rfl,e2⟩,?_⟩
  rintro i m τ2 p ⟨j,M,E,C,P,bs,rfl,hi,T2,U,R2,S2,Y,l2,eo,o⟩;have s:∀b∈f.rs,b∈l::f.rs:=λb L=>Wz _ L;have C2:Ch ⟨j,l::f.rs⟩ p ⟨j,f.rs⟩ p:=Ch.free s;have T2':cA f H1 ⟨j,f.rs⟩ p:=⟨T2.trans C2,rfl,U⟩;have S2':bC X.K ⟨j,f.rs⟩ E p:=S2.free s;cases q:I.drop i with
  | nil=>
   rw[q] at o;unfold br at o
   by_cases Z:ir ws E=true
   ·rw[WC Z] at o;cases o;rw[XW] at eo;subst eo;have hle:I.length<=i:=by have:=congrArg List.length q;rw[YM,XO] at this;lia
    refine .inl ⟨(It.run _ p _ T2 S2 Z i).1 hle,k _ _ ⟨_,T1.trans T2',S2',.lv Y (λz=>?_) (l2.mono C2)⟩⟩;rcases z with z | z
    ·exact(S2.uY l Wy).2 z
    ·exact nl (.inr z)
   ·rw[WE Z] at o;cases o
  | cons x r=>
   rw[q] at o;unfold br at o
   by_cases Z:ir ws E=true
   ·rw[WC Z] at o;have hx:I[i]?=some x:=by
     have:=congrArg (λl=>l[0]?) q
     simpa using this
    have hlt:i < I.length:=(Ww.mp hx).1;have hr:I.drop (i+1)=r:=by
     have:=congrArg List.tail q
     simpa using this
    obtain⟨⟨w,h3⟩,e4,e5⟩:=aZ o;obtain⟨⟨t,h4⟩,e6,e7⟩:=aZ e5;dsimp only at e4 e5 e6 e7;obtain⟨hgo,hy⟩:=(It.run _ p E T2 S2 Z i).2 x hx;refine .inr ⟨hgo,λτ5 O=>∃(n:List Addr)(h5:MH)(C:List V)(P bs:List D),Ch f H1 ⟨n,l::f.rs⟩ O/\(∀b∈f.rs,O b=H1 b)/\b7 X.K ⟨n,l::f.rs⟩ O τ5 w/\bC X.K ⟨n,l::f.rs⟩ h5 O/\
     O l=some (.lst C)/\aA X.K ⟨n,l::f.rs⟩ O C P/\out=P++bs/\br ws g mt ma r w h5=some (bs,h0),?_,?_⟩
    ·rintro τ5 O ⟨n,h5,vs5,as5,bs5,T5,T,R5,S5,hl5,l5,eo5,e5⟩;exact⟨I.length-(i+1),by lia,n,w,h5,vs5,as5,bs5,rfl,hlt,T5,T,R5,S5,hl5,l5,eo5,by rw[hr];exact e5⟩
    ·intro v H3 y3;obtain⟨T3,S3,r3⟩:=hy v H3 y3;refine⟨⟨j,l::f.rs⟩,M,E,x,w,h3,R2.mono T3,S3,r3,e4,λρ4 H4 τ4 T4 S4 R4=>?_⟩;refine⟨ρ4,w,h3,t,h4,R4,S4,e6,λρ5 O T5 S5=>?_⟩;have A:cA ⟨j,l::f.rs⟩ p ρ5 O:=T3.trans (T4.trans T5);obtain⟨n,T⟩:=ρ5;have ers:T=l::f.rs:=A.rs;subst ers;cases t with
     | false=>
      rw[WE (by simp)] at e7;refine PB ?_;exact⟨n,h4,C,P,bs,T2.trans A.toCh,λb L=>(A.res b (s b L)).trans (U b L),R4.mono T5,S5,(A.res l Wy).trans Y,l2.mono A.toCh,eo,e7⟩
     | true=>
      rw[WC rfl] at e7;refine Pz ?_;obtain⟨⟨y,h6⟩,e8,e9⟩:=aZ e7;obtain⟨⟨zs,h7⟩,e10,e11⟩:=eg e9;cases e11;refine⟨⟨n,l::f.rs⟩,w,h4,y,h6,R4.mono T5,S5,e8,λu H6 u9=>?_⟩;obtain⟨ρ6,T6,S6,r6⟩:=u9;have G:cA ⟨j,l::f.rs⟩ p ρ6 H6:=A.trans T6;obtain⟨N,rs6⟩:=ρ6;have ers:rs6=l::f.rs:=G.rs;subst ers;have hl6:H6 l=some (.lst C):=(G.res l Wy).trans Y;have hml:l∈(⟨N,l::f.rs⟩:Ad).rs:=Wy;have hlen:C.length < sizeLine:=by
       have h1:=l2.length;have E:=congrArg List.length eo;rw[WQ,WN] at E
       lia
      have Cp:Ch ⟨N,l::f.rs⟩ H6 ⟨N,l::f.rs⟩ (upd H6 l (.lst (C++[u]))):=Ch.put hml;refine⟨C,hl6,hlen,N,h6,C++[u],P++[y],zs,(T2.trans G.toCh).trans Cp,λb L=>?_,((R4.mono T5.toCh).mono T6.toCh).mono Cp,S6.put hml,aO,((l2.mono G.toCh).snoc r6).mono Cp,by rw[eo];simp,e10⟩;rw[aC (λ(z:b=l)=>nl (.inr (z ▸ L)))];exact(G.res b (s b L)).trans (U b L)
   ·rw[WE Z] at o;cases o
 ·rw[WE hz] at o;cases o
end
end Sm
namespace Sm
open L2 PyProof.Rows
section
variable {X:Cx} {a b c e tg iter elt:Expr} {es:List Expr} {pos:Pos} {ma mb:EM} {mt:TM} {ms mu:SM} {m:AM} {g:GM} {gs:Kh}
def fv(C:ba X N' caps scope)(p:X.calm=true)(l:SI X tg iter j)(n:∀C d f h pl,SG (eR X N' scope C d f h pl) tg g)(i:∀C d f h pl,My (eR X N' scope C d f h pl) ifs mt)(o:∀C d f h pl,SE (eR X N' scope C d f h pl) elt ma)(k:∀x,foldedSetIterable iter X.env x=pure x:=by intro _;ac_nf):
  SE X (.ListComp elt [⟨tg,iter,ifs,0⟩] scope pos) (iq (dR caps j g mt ma)):=(HW (g:=Bb X.K g) (tc:=yK X.K mt) (te:=tM X.K ma) C p l n i o k).imp λ_ _ _=>Ds
def jN(w:X.N.Nodup)(n:X.N[i]?=some y)(p:X.env.scope.names.lookup y=some .local)(C:ba X N' caps scope)(v:X.calm=true)(s:SI X tg iter o)(t:∀C d f j pl,SG (eR X N' scope C d f j pl) tg g)(l:∀C d f j pl,My (eR X N' scope C d f j pl) ifs mt)(u:∀C d f j pl,SE (eR X N' scope C d f j pl) elt ma)(k:swapsWith (.ListComp elt [⟨tg,iter,ifs,0⟩] scope pos) (some (.Name y py)) h.line X.env=pure true:=by ac_nf)(r:∀x,foldedSetIterable iter X.env x=pure x:=by intro _;ac_nf):
  SS X (.Assign [.Name y py] (.ListComp elt [⟨tg,iter,ifs,0⟩] scope pos) h) (aL i (iq (dR caps o g mt ma))):=
 (HL (g:=Bb X.K g) (tc:=yK X.K mt) (te:=tM X.K ma) w n p C v s t l u k r).imp λE z H hh=>by
  have q:=Hn hh;exact Ds q
end
inductive Tx(K:FR)(n:Nat)(F:Fn)(vs:List V)(H:Hp)(Q:VK):Prop where
 | mk (ρ h ds d h'):bC K ρ h H->aA K ρ H vs ds->(ds.length=n)->(F ds h=some (d,h'))->(∀v H',dw K ρ H h' d v H'->Q v H')->Tx K n F vs H Q
def EE(K:FR)(n:Nat)(F:Fn):Sp:=λa H Q _=>Tx K n F a H Q
def KD(G:f9 X.prog X.w X.K X.mg X.base wm k f fd u (EE X.K n F))(hr:eF k X.A)(z:Gl X x)(hm:X.mg x=some (.ref f))(y:PySem.W.keepIn X.K (.ref f)=true)(I:Binds X.K fd u [])
  (J:SA X (e::a) m) (hl:jK m n) (g:(x==("__debug__":Str))=false:=by ac_nf) (C:starEach (e::a) X.env=(false,eval e X.env)::starEach a X.env:=by ac_nf) (c:(backTo pos (starEach a X.env)).any (·.1)=false:=by ac_nf):
  SE X (.Call (.Name x p) (e::a) [] pos) (aj F m):=(Ll (E:=E0) G hr z hm y I .nil M4 J g C c).imp λσ H Q u9=>by
 obtain⟨o,r,h,d,L,R,S,e,q⟩:=u9;obtain⟨⟨l,i⟩,j,M⟩:=aZ e;refine⟨o,r,h,l,i,R,S,j,λs b T N O t=>?_⟩;show EE X.K n F (s++[]) T Q E0;rw[XW];exact⟨b,i,l,d,L,O,t,hl _ _ _ _ j,M,λv U P=>q v U (P.step N)⟩
noncomputable def KI(r:Fl×DS×MH):Option (D×MH):=match r.1 with
 | .rt d=>some (d,r.2.2)
 | .nx=>some (.bo,r.2.2)
 | _=>none
noncomputable def entry(len:Nat)(a:List D):DS:=a.map some++List.replicate (len-a.length) none
def fq(len:Nat)(a:SM):Fn:=λb h=>(a (entry len b) h).bind KI
theorem b7.entry{K:FR}{c:Ad}{H:Hp}{e:List V}{b:List D}(N:List Str)(l:aA K c H e b):b7 K c H (L2.start N e) (Sm.entry N.length b):=by
 refine⟨by simp[L2.start,Sm.entry,l.length],λi d hd=>?_⟩;unfold Sm.entry at hd;unfold L2.start
 by_cases a:i < b.length
 ·rw[WO (by simpa using a),WJ] at hd;obtain⟨j,h,g⟩:=eg hd;cases g;obtain⟨v,f,r⟩:=l.got h;refine⟨v,?_,r⟩;rw[WO (by rw[Ws,l.length];exact a),WJ,f];rfl
 ·rw[W5 (by simpa using a),Abe] at hd
  split at hd <;> cases hd
section
variable {P:Program} {w:World} {K:FR} {mg:Str->Option Value} {base:Heap} {x qual:Str} {st:Stmt} {f:Addr} {fd:FuncData} {N ps:List Str} {k:Nat}
def PK(F:CO K x qual st f fd)(z:ao N ps (ag st))(p:∀(a:Value)(A:Around)(outer:List Env)(s:Shared)(H:Hp)(E:XK),eF k (A.deeper (envOfC qual (ag st) s.heap.objs.size f a))->Kf (Am wm P w K mg base N qual (ag st) f a A outer s H E).QL (gA st) body):
  f9 P w K mg base wm (k+1) f fd ps (EE K ps.length (fq N.length body)):=by
 refine F.ok z (λo H Q E h=>?_) (λa A outer s H o Q E hr h=>?_)
 ·obtain⟨i,h,j,d,u,S,r,hl,_⟩:=h;rw[r.length];exact hl
 ·obtain⟨i,h,j,d,u,S,r,hl,e,q⟩:=h;refine⟨_,p a A outer s H E hr,?_⟩;obtain⟨⟨fl,g,t⟩,y,c⟩:=aZ e;refine⟨i,entry N.length j,h,fl,g,t,b7.entry N r,S,y,λb G l m=>?_⟩;cases fl with
  | nx=>cases c;exactλn C=>q _ _ ⟨b,l,m,.bo⟩
  | rt d=>cases c;exactλv r=>q _ _ ⟨b,l,m,r⟩
  | bk=>cases c
  | ct=>cases c
end
mutual
noncomputable def fB(n:Nat):D->Bool
 | .tup xs=>cY n xs
 | .lv xs=>cY n xs
 | .ro xs=>cY n xs
 | .dv a=>Mj n a
 | .ob m=>decide (m < n)
 | _=>true
noncomputable def cY(n:Nat):List D->Bool
 | []=>true
 | x::r=>fB n x&&cY n r
noncomputable def Mj(n:Nat):List (Key×D)->Bool
 | []=>true
 |(_,x)::r=>fB n x&&Mj n r
end
def AQ(n:Nat):MO->Bool
 | .lst xs=>cY n xs
 | .dct a=>Mj n a
 | .dcH a=>cY n (a.map (·.1))&&cY n (a.map (·.2))
abbrev Ad.cut(ρ:Ad)(n:Nat):Ad:=⟨ρ.ob.take n,ρ.rs⟩
def Ad.nu{b:Ad}{n:Nat}{a:Addr}(h:(b.cut n).has a):b.has a:=h.elim (λm=>.inl (Aac m)) .inr
mutual
theorem Rep.cut{K:FR}{f:Ad}{H:Hp}{n:Nat}{v:V}{d:D}(r:Rep K f H v d)(c:fB n d=true):Rep K (f.cut n) H v d:=by
 cases r with
 | bo=>exact .bo
 | bl b=>exact .bl b
 | int i=>exact .int i
 | str x=>exact .str x
 | ty n=>exact .ty n
 | fn h=>exact .fn h
 | tup h l=>exact .tup (h.elim (λ⟨a,n⟩=>.inl ⟨a,λm=>n (Ad.nu m)⟩) .inr) (aA.cut l c)
 | lv h n l=>exact .lv h (λm=>n (Ad.nu m)) (aA.cut l c)
 | ro h l=>exact .ro (h.elim (λ⟨a,n⟩=>.inl ⟨a,λm=>n (Ad.nu m)⟩) .inr) (aA.cut l c)
 | dv h n l=>exact .dv h (λm=>n (Ad.nu m)) (bt.cut l c)
 | ob e=>exact .ob ((Xm (Xa c)).trans e)
theorem aA.cut{K:FR}{a:Ad}{H:Hp}{n:Nat}{v:List V}{d:List D}(r:aA K a H v d)(c:cY n d=true):aA K (a.cut n) H v d:=by
 cases r with
 | nil=>exact .nil
 | cons r l=>have c:=W3.mp c;exact .cons (Rep.cut r c.1) (aA.cut l c.2)
theorem bt.cut{K:FR}{a:Ad}{H:Hp}{n:Nat}{v:List (Key×V)}{d:List (Key×D)}(r:bt K a H v d)(c:Mj n d=true):bt K (a.cut n) H v d:=by
 cases r with
 | nil=>exact .nil
 | cons r l=>have c:=W3.mp c;exact .cons (Rep.cut r c.1) (bt.cut l c.2)
end
mutual
theorem Rep.clean{K:FR}{a:Ad}{H:Hp}{v:V}{d:D}(r:Rep K a H v d):fB a.ob.length d=true:=by
 cases r with
 | tup h l=>exact aA.clean l
 | lv h n l=>exact aA.clean l
 | ro h l=>exact aA.clean l
 | dv h n l=>exact bt.clean l
 | ob e=>exact W4 (Ww.mp e).1
 | _=>rfl
theorem aA.clean{K:FR}{a:Ad}{H:Hp}{v:List V}{d:List D}(r:aA K a H v d):cY a.ob.length d=true:=by
 cases r with
 | nil=>rfl
 | cons r l=>exact W3.mpr ⟨Rep.clean r,aA.clean l⟩
theorem bt.clean{K:FR}{a:Ad}{H:Hp}{v:List (Key×V)}{d:List (Key×D)}(r:bt K a H v d):Mj a.ob.length d=true:=by
 cases r with
 | nil=>rfl
 | cons r l=>exact W3.mpr ⟨Rep.clean r,bt.clean l⟩
end
theorem AR.cut{K:FR}{d:Ad}{H:Hp}{n:Nat}{a:Addr}{o:MO}(x:AR K d H a o)(c:AQ n o=true):AR K (d.cut n) H a o:=by
 cases o with
 | lst ds=>obtain⟨b,e,l⟩:=x;exact⟨b,e,l.cut c⟩
 | dct ds=>obtain⟨b,e,l⟩:=x;exact⟨b,e,l.cut c⟩
 | dcH ds=>obtain⟨us,f,e,l,g,p⟩:=x;have c:=W3.mp c;exact⟨us,f,e,l.cut c.1,g.cut c.2,p⟩
theorem AR.clean{K:FR}{b:Ad}{H:Hp}{a:Addr}{o:MO}(x:AR K b H a o):AQ b.ob.length o=true:=by
 cases o with
 | lst ds=>obtain⟨c,e,l⟩:=x;exact l.clean
 | dct ds=>obtain⟨c,e,l⟩:=x;exact l.clean
 | dcH ds=>obtain⟨us,f,e,l,d,p⟩:=x;exact W3.mpr ⟨l.clean,d.clean⟩
noncomputable def Ey(n:Nat)(h:MH)(d:D):D:=match d with
 | .ob m=>if m < n then .ob m else match h[m]? with
  | some (.lst xs)=>.lv xs
  | some (.dct a)=>.dv a
  | _=>.ob m
 | d=>d
def leave(h:MH)(d:D)(a:MH):Option (D×MH):=
 if fB h.length (Ey h.length a d)&&(yo (a.take h.length) h||(a.take h.length).all (AQ h.length)) then some (Ey h.length a d,a.take h.length) else none
def Kc(len:Nat)(a:SM):Fn:=λb h=>((a (entry len b) h).bind KI).bind λp=>leave h p.1 p.2
theorem dw.leave{K:FR}{t:Ad}{H F:Hp}{h i L:MH}{d M:D}{v:V}(S:bC K t h H)(p:dw K t H i d v F)(e:Sm.leave h d i=some (M,L)):dw K t H L M v F:=by
 obtain⟨c,T,k,r⟩:=p;unfold Sm.leave at e
 by_cases y:(fB h.length (Ey h.length i d)&&(yo (i.take h.length) h||(i.take h.length).all (AQ h.length)))=true
 ·rw[WC y] at e;cases e;rw[WS] at y;obtain⟨g,s⟩:=y;have O:h.length<=i.length:=by
   rw[<-S.len,<-k.len];refine XC λC=>?_;have f:t.ob[c.ob.length]?=some t.ob[c.ob.length]:=WA C;have:=(Ww.mp (T.pre _ _ f)).1
   lia
  have w:∀(m:Nat) o,m < h.length->i[m]?=some o->AQ h.length o=true:=by
   intro m o hm I;rw[Yp] at s;rcases s with s | s
   ·have f:=Ei s;have u:h[m]?=some o:=by rw[<-f,Xm hm];exact I
    have A:m < t.ob.length:=by rw[S.len];exact hm
    have:=(S.at_ m _ o (WA A) u).clean;rw[S.len] at this;exact this
   ·rw[Yi] at s;exact s o (Wx (show(i.take h.length)[m]?=some o by rw[Xm hm];exact I))
  have P:bC K (c.cut h.length) (i.take h.length) F:=by
   refine⟨by simp[k.len],k.nd.sublist (Aay _ _),λn a o f u=>?_,λb J=>⟨(k.uY b J).1,λm=>(k.uY b J).2 (Aac m)⟩⟩;have hn:n < h.length:=by
    have:=(Ww.mp u).1;rw[W2] at this
    lia
   have f:(c.ob.take h.length)[n]?=some a:=f;rw[Xm hn] at f u;exact(k.at_ n a o f u).cut (w n o hn u)
  refine⟨c.cut h.length,⟨⟨λn a e=>?_,λb o n e=>?_⟩,T.rs,T.res⟩,P,?_⟩
  ·have hn:n < h.length:=by rw[<-S.len];exact(Ww.mp e).1
   show(c.ob.take h.length)[n]?=some a;rw[Xm hn];exact T.pre n a e
  ·obtain⟨n1,f⟩:=T.old b o n e;exact⟨λm=>n1 (Ad.nu m),f⟩
  ·cases d with
   | ob m=>
    unfold Ey at g ⊢;dsimp only at g ⊢
    by_cases hm:m < h.length
    ·rw[WC hm] at g ⊢;exact r.cut g
    ·rw[WE hm] at g ⊢;cases r with
     | ob hn=>
      rename_i a;have G:¬(c.cut h.length).has a:=by
       intro z;rcases z with z | z
       ·obtain⟨j,hj⟩:=List.getElem?_of_mem z;have E:j < h.length:=by
         have:=(Ww.mp hj).1;rw[W2] at this
         lia
        rw[Xm E] at hj;have:=(Aaz (Ww.mp hj).1 k.nd).mp (hj.trans hn.symm)
        lia
       ·exact(k.uY a z).2 (Wx hn)
      cases q:i[m]? with
      | none=>rw[q] at g;exact absurd g (by simp[fB];lia)
      | some o=>
       have x:=k.at_ m a o hn q;cases o with
       | lst xs=>
        rw[q] at g;obtain⟨N,f,l⟩:=x;exact .lv f G (l.cut (by simpa [fB] using g))
       | dct xs=>
        rw[q] at g;obtain⟨N,f,l⟩:=x;exact .dv f G (l.cut (by simpa [fB] using g))
       | dcH xs=>rw[q] at g;exact absurd g (by simp[fB];lia)
   | _=>exact r.cut g
 ·rw[WE y] at e;cases e
section
variable {P:Program} {w:World} {K:FR} {mg:Str->Option Value} {base:Heap} {x qual:Str} {st:Stmt} {f:Addr} {fd:FuncData} {N ps:List Str} {k:Nat}
def eQ(G:f9 P w K mg base wm k f fd ps (EE K ps.length (fq N.length body))):f9 P w K mg base wm k f fd ps (EE K ps.length (Kc N.length body)):=by
 refine G.imp λl H Q E hh=>?_;obtain⟨a,h,i,d,m,S,r,hl,e,q⟩:=hh;obtain⟨⟨d1,b⟩,g,c⟩:=aZ e;exact⟨a,h,i,d1,b,S,r,hl,g,λv j p=>q v j (p.leave S c)⟩
end
def spT(K:FR):Sp:=λb H Q _=>∃(a:Addr)(ns:List Int),b=[.ref a]/\eV K H a (ns.map V.int)/\ns.length<=63/\∀c,Q (.bl true) c
def LI{P:Program}{w:World}{K:FR}{mg:Str->Option Value}{base:Heap}{k:Nat}{f:Addr}{h:FuncData}{g:List Str}{F:Fn}(G:f9 P w K mg base wm k f h g (EE K 1 F))
  (l:∀ns:List Int,ns.length<=63->∃d,F [.ro (ns.map D.int)] []=some (.bl true,d)):f9 P w K mg base wm k f h g (spT K):=by
 refine G.imp λp H Q E hh=>?_;obtain⟨a,ns,rfl,c,hl,q⟩:=hh;obtain⟨d,e⟩:=l ns hl;refine⟨⟨[],[]⟩,[],[.ro (ns.map D.int)],.bl true,d,⟨rfl,List.nodup_nil,λn a o e=>by simp at e,λb j=>absurd j (by simp)⟩,.cons (.ro ?_ (jP ns)) .nil,rfl,e,λv m ⟨i,T,S,r⟩=>?_⟩
 ·rcases c with c | c
  ·exact .inl ⟨c,λz=>z.elim (λz=>absurd z (by simp)) λz=>absurd z (by simp)⟩
  ·exact .inr (.inr c)
 ·cases r;exact q m
def Ge(h:MH)(d:D):Option PyData:=match d with
 | .ob n=>match h[n]? with
  | some (.lst xs)=>(i0 xs).map .list
  | _=>none
 | d=>kA d
mutual
theorem Rep.rR{K:FR}{f:Ad}{H:Hp}{v:V}{d:D}{p:PyData}(r:Rep K f H v d)(e:kA d=some p):CN K H v p/\p.canLay0=true:=by
 cases r with
 | bo=>cases e;exact⟨.bo,rfl⟩
 | bl b=>cases e;exact⟨.bl b,rfl⟩
 | int i=>cases e;exact⟨.int i,rfl⟩
 | str g=>cases e;exact⟨.str _,by simpa [PyData.canLay0] using g⟩
 | tup h l=>obtain⟨q,c,rfl⟩:=eg e;obtain⟨a,b⟩:=aA.rR l c;exact⟨.tup h.sq a,by simpa [PyData.canLay0] using b⟩
 | lv h n l=>obtain⟨q,c,rfl⟩:=eg e;obtain⟨a,b⟩:=aA.rR l c;exact⟨.lst (eV.of h) a,by simpa [PyData.canLay0] using b⟩
 | ro h l=>obtain⟨q,c,rfl⟩:=eg e;obtain⟨a,b⟩:=aA.rR l c;exact⟨.lst h.sq a,by simpa [PyData.canLay0] using b⟩
 | _=>exact cf e
theorem aA.rR{K:FR}{c:Ad}{H:Hp}{v:List V}{d:List D}{p:List PyData}(r:aA K c H v d)(e:i0 d=some p):tG K H v p/\PyData.canLayAll0 p=true:=by
 cases r with
 | nil=>cases e;exact⟨.nil,rfl⟩
 | cons r l=>
  obtain⟨a,h,g⟩:=aZ e;obtain⟨b,f,rfl⟩:=eg g;obtain⟨a1,a2⟩:=Rep.rR r h;obtain⟨j,i⟩:=aA.rR l f;exact⟨.cons a1 j,by simp[PyData.canLayAll0,a2,i]⟩
end
section
variable {K:FR} {ρ:Ad} {H:Hp} {h:MH} {v:V} {d:D}
def xc(S:bC K ρ h H)(r:Rep K ρ H v d)(e:Ge h d=some p):CN K H v p/\p.canLay0=true:=by
 cases r with
 | @ob a n hn=>
  unfold Ge at e;dsimp only at e;cases q:h[n]? with
  | none=>rw[q] at e;cases e
  | some o=>
   rw[q] at e;cases o with
   | dct _=>exact cf e
   | dcH _=>exact cf e
   | lst xs=>
    obtain⟨m,g,l⟩:=S.at_ n a _ hn q;obtain⟨b,f,c⟩:=eg e;subst c;obtain⟨k,j⟩:=l.rR f;exact⟨.lst (eV.of g) k,by simpa [PyData.canLay0] using j⟩
 | bo=>exact Rep.rR (Rep.bo (ρ:=ρ)) e
 | bl b=>exact Rep.rR (Rep.bl (ρ:=ρ) b) e
 | int i=>exact Rep.rR (Rep.int (ρ:=ρ) i) e
 | str x=>exact Rep.rR (Rep.str (ρ:=ρ) x) e
 | ty n=>exact Rep.rR (Rep.ty (ρ:=ρ) n) e
 | fn h=>exact Rep.rR (Rep.fn (ρ:=ρ) h) e
 | tup h l=>exact Rep.rR (.tup h l) e
 | lv h n l=>exact Rep.rR (.lv h n l) e
 | ro h l=>exact Rep.rR (.ro h l) e
 | dv h n l=>exact Rep.rR (.dv h n l) e
noncomputable def fV(d:D)(h:MH):Option (List D):=match d with
 | .lv xs=>some xs
 | .ob n=>match h[n]? with
  | some (.lst xs)=>some xs
  | _=>none
 | _=>none
def eL(S:bC K ρ h H)(r:Rep K ρ H v d)(e:fV d h=some xs):∃a b,v=.ref a/\H a=some (.lst b)/\aA K ρ H b xs:=by
 cases r with
 | @ob a n hn=>
  unfold fV at e;dsimp only at e;cases q:h[n]? with
  | none=>rw[q] at e;cases e
  | some o=>
   rw[q] at e;cases o with
   | dct _=>exact cf e
   | dcH _=>exact cf e
   | lst f=>
    cases e;obtain⟨b,c,l⟩:=S.at_ n a _ hn q;exact⟨a,b,rfl,c,l⟩
 | lv h n l=>cases e;exact⟨_,_,rfl,h,l⟩
 | _=>exact cf e
noncomputable def c9(d:D)(h:MH):Option (List (Key×D)):=match d with
 | .dv a=>some a
 | .ob n=>match h[n]? with
  | some (.dct a)=>some a
  | _=>none
 | _=>none
def nq(S:bC K ρ h H)(r:Rep K ρ H v d)(e:c9 d h=some xs):∃a b,v=.ref a/\H a=some (.dK b)/\bt K ρ H b xs:=by
 cases r with
 | @ob a n hn=>
  unfold c9 at e;dsimp only at e;cases q:h[n]? with
  | none=>rw[q] at e;cases e
  | some o=>
   rw[q] at e;cases o with
   | lst _=>exact cf e
   | dcH _=>exact cf e
   | dct f=>
    cases e;obtain⟨b,c,l⟩:=S.at_ n a _ hn q;exact⟨a,b,rfl,c,l⟩
 | dv h n l=>cases e;exact⟨_,_,rfl,h,l⟩
 | _=>exact cf e
def qx(S:bC K ρ h H)(r:Rep K ρ H v d)(e:cp d h=some (xs,ws)):∃a c,v=.ref a/\(eV K H a c\/iZ K H a c)/\aA K ρ H c xs:=by
 obtain⟨a,f,⟨c,q,l⟩,_⟩:=ie S r e;refine⟨a,c,f,?_,l⟩;generalize sE d=b at q;cases q with
 | l q=>exact .inl q
 | t q=>exact .inr q
noncomputable def qc:D->Option Key
 | .int i=>some (.inl i)
 | .str x=>some (.inr x)
 | _=>none
noncomputable def dm(a:List (Key×D))(k:Key):Option D:=(a.find? λb=>decide (b.1=k)).map (·.2)
noncomputable def putD(a:List (Key×D))(k:Key)(v:D):List (Key×D):=
 if(a.any λb=>decide (b.1=k))=true then a.map (λb=>if b.1=k then(b.1,v) else b) else a++[(k,v)]
def jW(r:Rep K ρ H v d)(e:qc d=some k):v=kV k:=by
 cases r with
 | int i=>cases e;rfl
 | str x=>cases e;rfl
 | _=>exact cf e
def bt.val:∀{us:List (Key×V)} {b:List (Key×D)} (k:Key),bt K ρ H us b->(dm b k=none/\iT us k=none)\/∃d v,dm b k=some d/\iT us k=some v/\Rep K ρ H v d:=by
 intro us
 induction us with
 | nil=>intro b k a;cases a;exact .inl ⟨rfl,rfl⟩
 | cons u us c=>
  intro b k a;cases a with | @cons j v _ d ds r l=>
  by_cases z:j=k
  ·exact .inr ⟨d,v,by simp[dm,z],by simp[iT,z],r⟩
  ·have f:dm ((j,d)::ds) k=dm ds k:=by simp only[dm,XI,z,decide_false]
   have e:iT ((j,v)::us) k=iT us k:=lC z;rw[f,e];exact c k l
theorem bt.length:∀{us:List (Key×V)} {b:List (Key×D)},bt K ρ H us b->us.length=b.length:=by
 intro us
 induction us with
 | nil=>intro b a;cases a;rfl
 | cons u us c=>intro b a;cases a with | cons _ l=>rw[WN,WN,c l]
theorem bt.any(k:Key):∀{us:List (Key×V)} {c:List (Key×D)},bt K ρ H us c->(us.any λe=>decide (e.1=k))=(c.any λe=>decide (e.1=k)):=by
 intro us
 induction us with
 | nil=>intro b a;cases a;rfl
 | cons u us f=>intro b a;cases a with | cons _ l=>rw[YG,YG,f l]
theorem bt.map(r:Rep K ρ H v d):∀{us:List (Key×V)} {e:List (Key×D)},bt K ρ H us e->bt K ρ H (us.map λc=>if c.1=k then(c.1,v) else c) (e.map λc=>if c.1=k then(c.1,d) else c):=by
 intro us
 induction us with
 | nil=>intro b a;cases a;exact .nil
 | cons u us f=>
  intro b a;cases a with | @cons j _ _ _ _ q l=>
  rw[WG,WG]
  by_cases z:j=k
  ·rw[WC z,WC z];exact .cons r (f l)
  ·rw[WE z,WE z];exact .cons q (f l)
def bt.append:∀{us c:List (Key×V)} {ks b:List (Key×D)},bt K ρ H us ks->bt K ρ H c b->bt K ρ H (us++c) (ks++b):=by
 intro us c
 induction us with
 | nil=>intro ks b a t;cases a;exact t
 | cons u us e=>intro ks b a t;cases a with | cons r l=>exact .cons r (e l t)
def bt.put(l:bt K ρ H us kvs)(r:Rep K ρ H v d):bt K ρ H (putK us k v) (putD kvs k d):=by
 unfold putK putD;rw[l.any k]
 by_cases z:(kvs.any λa=>decide (a.1=k))=true
 ·rw[WC z,WC z];exact l.map r
 ·rw[WE z,WE z];exact l.append (.cons r .nil)
end
def Cf(d e:D)(h:MH):Option (D×MH):=match d,e with
 | .int i,.int j=>some (.int (i+j),h)
 | .str a,.str b=>if a.length+b.length<=sizeLine then some (.str (a++b),h) else none
 | .tup [],.tup _=>none
 | .tup (x::f),.tup c=>if f.length+1+c.length<=sizeLine then some (.tup (x::f++c),h) else none
 | d,e=>(fV d h).bind λf=>(fV e h).bind λc=>if f.length+c.length<=sizeLine then some (.lv (f++c),h) else none
noncomputable def uB(d e:D)(h:MH):Option (D×MH):=match d,e with
 | .int i,.int j=>some (.int (i-j),h)
 | _,_=>none
noncomputable def mE(i j:Int):Bool:=(decide (-(2^64) < i)&&decide (i < 2^64))||(decide (-(2^64) < j)&&decide (j < 2^64))
def PN(d e:D)(h:MH):Option (D×MH):=match d,e with
 | .int i,.int j=>if mE i j then some (.int (i*j),h) else none
 | _,_=>none
noncomputable def sN(d e:D)(h:MH):Option (D×MH):=match d,e with
 | .int i,.int j=>if 0 < j then some (.int (i % j),h) else none
 | _,_=>none
noncomputable def Jb(d e:D)(h:MH):Option (D×MH):=match d,e with
 | .int i,.int j=>if 0 < j/\j<=10^40 then some (.int (i / j),h) else none
 | _,_=>none
noncomputable def IX(d e:D)(h:MH):Option (D×MH):=match d,e with
 | .int i,.int j=>if 0<=j/\j<=1000000/\i.natAbs < 2^64 then some (.int (i^j.toNat),h) else none
 | _,_=>none
noncomputable def Jo(f:Int->Int->Bool)(d e:D)(h:MH):Option (D×MH):=match d,e with
 | .int i,.int j=>some (.bl (f i j),h)
 | _,_=>none
def FP:=Jo λi j=>decide (i < j)
def L4:=Jo λi j=>decide (i<=j)
def Gh:=Jo λi j=>decide (j < i)
def Sz:=Jo λi j=>decide (j<=i)
def Nc(d e:D)(h:MH):Option Bool:=(Ge h d).bind λa=>(Ge h e).bind λb=>if a.depth<=64/\b.depth<=64 then some (PyData.eqv a b) else none
noncomputable def Vh:D->Bool
 | .bo=>true
 | _=>false
def qi(d e:D)(h:MH):Option (D×MH):=match e with
 | .bo=>some (.bl (Vh d),h)
 | _=>none
def mW(d e:D)(h:MH):Option (D×MH):=match e with
 | .bo=>some (.bl (!Vh d),h)
 | _=>none
noncomputable def dB(d:D)(h:MH):Option (D×MH):=match d with
 | .int i=>some (.int (-i),h)
 | _=>none
def inD(d e:D)(h:MH):Option Bool:=match c9 e h with
 | some c=>(qc d).map λk=>(dm c k).isSome
 | none=>match d,e with
  | .str x,.str y=>some (!(Builtin.Str.occurrences y x 0 y.length 1).isEmpty)
  | d,e=>(cp e h).bind λp=>(Ge h d).bind λa=>(i0 p.1).bind λbs=>if a.depth<=60/\PyData.depthAll bs<=60 then some (bs.any λb=>PyData.eqv b a) else none
def yz(d e:D)(h:MH):Option (D×MH):=(inD d e h).map λc=>(.bl c,h)
def oI(d e:D)(h:MH):Option (D×MH):=(inD d e h).map λc=>(.bl (!c),h)
def aG(d e:D)(h:MH):Option (D×MH):=match c9 d h with
 | some a=>(qc e).bind λk=>(dm a k).map λz=>(z,h)
 | none=>match d,e with
  | .str z,.int i=>if z.length<=sizeLine then(gg z.cps.toList i).map λc=>(.str ⟨#[c]⟩,h) else none
  | d,.int i=>(cp d h).bind λp=>(gg p.1 i).map λz=>(z,h)
  | _,_=>none
def jg{K:FR}{a:Ad}{H:Hp}{x:V}{i:Int}(r:Rep K a H x (.int i)):x=.int i:=by cases r;rfl
def Bt{K:FR}{a:Ad}{H:Hp}{x:V}{i:Str}(r:Rep K a H x (.str i)):x=.str i/\PyData.strOk i=true:=by cases r with | str h=>exact⟨rfl,h⟩
def Hj{K:FR}{b:Ad}{H:Hp}{x:V}{d:List D}(r:Rep K b H x (.tup d)):∃a c,x=.ref a/\TupAt K b H a c/\aA K b H c d:=by cases r with | tup h l=>exact⟨_,_,rfl,h,l⟩
def xq(t:lu X g (rI C q))(w:∀d e h z b,f d e h=some (z,b)->∃i j,d=.int i/\e=.int j/\C i j/\b=h/\∀l H,Rep X.K l H (q i j) z):nM X g f:=by
 intro a s m H x y v u Q I p o hh;obtain⟨l,h,d,e,z,b,S,rd,r,A,k⟩:=hh;obtain⟨i,j,rfl,rfl,c,rfl,n⟩:=w _ _ _ _ _ A;obtain rfl:=jg rd;obtain rfl:=jg r;exact t a s m H _ _ v u Q I p o ⟨i,j,rfl,rfl,c,k _ _ (.here S (n _ _))⟩
def jR(r:lu X g (HB q))(t:∀d e h z b,f d e h=some (z,b)->∃i j,d=.int i/\e=.int j/\b=h/\∀c H,Rep X.K c H (q i j) z):nM X g f:=by
 intro a s l H x y v u Q I o n hh;obtain⟨c,h,d,e,z,b,S,rd,p,w,k⟩:=hh;obtain⟨i,j,rfl,rfl,rfl,m⟩:=t _ _ _ _ _ w;obtain rfl:=jg rd;obtain rfl:=jg p;exact r a s l H _ _ v u Q I o n ⟨i,j,rfl,rfl,k _ _ (.here S (m _ _))⟩
def Ie:nM X (binaryOp .Sub) uB:=jR O4 λd e h z b a=>by
 cases d <;> first |(exact cf a) | skip
 cases e <;> first |(exact cf a) | skip
 cases a;exact⟨_,_,rfl,rfl,rfl,λ_ _=>.int _⟩
def OY:nM X (binaryOp .Mult) PN:=xq O7 λd e h z b a=>by
 cases d <;> first |(exact cf a) | skip
 cases e <;> first |(exact cf a) | skip
 rename_i i j;unfold PN at a;dsimp only at a
 by_cases c:mE i j=true
 ·rw[WC c] at a;cases a;refine⟨i,j,rfl,rfl,?_,rfl,λ_ _=>.int _⟩;unfold mE at c;simp only[Yp,WS,Xo] at c;exact c
 ·rw[WE c] at a;cases a
def sj:nM X (binaryOp .Mod) sN:=xq O8 λd e h z b a=>by
 cases d <;> first |(exact cf a) | skip
 cases e <;> first |(exact cf a) | skip
 rename_i i j;unfold sN at a;dsimp only at a
 by_cases c:0 < j
 ·rw[WC c] at a;cases a;exact⟨i,j,rfl,rfl,c,rfl,λ_ _=>.int _⟩
 ·rw[WE c] at a;cases a
def O1:nM X (binaryOp .FloorDiv) Jb:=xq Ik λd e h z b a=>by
 cases d <;> first |(exact cf a) | skip
 cases e <;> first |(exact cf a) | skip
 rename_i i j;unfold Jb at a;dsimp only at a
 by_cases c:0 < j/\j<=10^40
 ·rw[WC c] at a;cases a;exact⟨i,j,rfl,rfl,c,rfl,λ_ _=>.int _⟩
 ·rw[WE c] at a;cases a
def BK:nM X (binaryOp .Pow) IX:=xq O6 λd e h z b a=>by
 cases d <;> first |(exact cf a) | skip
 cases e <;> first |(exact cf a) | skip
 rename_i i j;unfold IX at a;dsimp only at a
 by_cases c:0<=j/\j<=1000000/\i.natAbs < 2^64
 ·rw[WC c] at a;cases a;exact⟨i,j,rfl,rfl,c,rfl,λ_ _=>.int _⟩
 ·rw[WE c] at a;cases a
def D8(a:Jo f d e h=some (z,b)):∃i j,d=.int i/\e=.int j/\b=h/\z=.bl (f i j):=by
 cases d <;> first |(exact cf a) | skip
 cases e <;> first |(exact cf a) | skip
 cases a;exact⟨_,_,rfl,rfl,rfl,rfl⟩
def M6:nM X (compareOp .Lt) FP:=jR R8 λd e h z b a=>by
 obtain⟨i,j,rfl,rfl,rfl,rfl⟩:=D8 a;exact⟨i,j,rfl,rfl,rfl,λ_ _=>.bl _⟩
def Ij:nM X (compareOp .LtE) L4:=jR R9 λd e h z b a=>by
 obtain⟨i,j,rfl,rfl,rfl,rfl⟩:=D8 a;exact⟨i,j,rfl,rfl,rfl,λ_ _=>.bl _⟩
def R6:nM X (compareOp .Gt) Gh:=jR Sa λd e h z b a=>by
 obtain⟨i,j,rfl,rfl,rfl,rfl⟩:=D8 a;exact⟨i,j,rfl,rfl,rfl,λ_ _=>.bl _⟩
def M8:nM X (compareOp .GtE) Sz:=jR Sd λd e h z b a=>by
 obtain⟨i,j,rfl,rfl,rfl,rfl⟩:=D8 a;exact⟨i,j,rfl,rfl,rfl,λ_ _=>.bl _⟩
def Gs:Th X (unaryOp .USub) (rU X.K dB):=by
 intro a s c H x v Q I e hh;obtain⟨f,h,d,z,g,S,rd,b,k⟩:=hh;cases rd <;> first |(exact cf b) | skip
 cases b;exact Nz a s c H _ v Q I e ⟨_,rfl,k _ _ (.here S (.int _))⟩
def Qd(d e:D)(h:MH):Option (D×MH):=(fV d h).bind λb=>(fV e h).bind λa=>if b.length+a.length<=sizeLine then some (D.lv (b++a),h) else none
def TR(d e:D)(h:MH)(p:D×MH):Prop:=(∃i j,d=.int i/\e=.int j)\/(∃a b,d=.str a/\e=.str b)\/(∃x f c,d=.tup (x::f)/\e=.tup c)\/Qd d e h=some p
def yr{d e:D}{h:MH}{p:D×MH}(z:Qd d e h=some p):TR d e h p:=.inr (.inr (.inr z))
def Jd{d e:D}{h:MH}{p:D×MH}(c:Cf d e h=some p):TR d e h p:=by
 cases d with
 | int i=>cases e with
  | int j=>exact .inl ⟨i,j,rfl,rfl⟩
  | _=>exact yr c
 | str a=>cases e with
  | str b=>exact .inr (.inl ⟨a,b,rfl,rfl⟩)
  | _=>exact yr c
 | tup xs=>cases e with
  | tup f=>cases xs with
   | nil=>exact cf c
   | cons x xs=>exact .inr (.inr (.inl ⟨x,xs,f,rfl,rfl⟩))
  | _=>cases xs <;> exact yr c
 | _=>exact yr c
def O2:nM X (binaryOp .Add) Cf:=by
 intro f s o H x y v u Q I t r hh;obtain⟨Z,h,d,e,z,O,S,rd,C,g,k⟩:=hh;have n:((fV d h).bind λm=>(fV e h).bind λl=>if m.length+l.length<=sizeLine then some (D.lv (m++l),h) else none)=some (z,O)->wpAny (model X.prog X.w) X.A (binaryOp .Add v u) (EP X f o Q) X.xe s:=by
  intro g;obtain⟨m,Y,T⟩:=aZ g;obtain⟨l,U,G⟩:=aZ T
  by_cases c:m.length+l.length<=sizeLine
  ·rw[WC c] at G;cases G;obtain⟨a,J,rfl,R,N⟩:=eL S rd Y;obtain⟨b,us,rfl,P,M⟩:=eL S C U;exact Im f s o H _ _ v u Q I t r ⟨a,b,J,us,rfl,rfl,R,P,by rw[N.length,M.length];exact c,λp hp=>k _ _ (.lv S (N.append M) hp)⟩
  ·rw[WE c] at G;cases G
 rcases(Jd g:(∃i j,d=.int i/\e=.int j)\/(∃a b,d=.str a/\e=.str b)\/(∃x m l,d=.tup (x::m)/\e=.tup l)\/Qd d e h=some (z,O)) with⟨i,j,rfl,rfl⟩ |⟨a,b,rfl,rfl⟩ |⟨x0,m,l,rfl,rfl⟩ | z
 ·cases g;obtain rfl:=jg rd;obtain rfl:=jg C;exact Pa f s o H _ _ v u Q I t r ⟨_,_,rfl,rfl,k _ _ (.here S (.int _))⟩
 ·unfold Cf at g;dsimp only at g
  by_cases c:a.length+b.length<=sizeLine
  ·rw[WC c] at g;cases g;obtain⟨rfl,F⟩:=Bt rd;obtain⟨rfl,L⟩:=Bt C;exact BL f s o H _ _ v u Q I t r ⟨a,b,rfl,rfl,c,k _ _ (.here S (.str (ED F L)))⟩
  ·rw[WE c] at g;cases g
 ·unfold Cf at g;dsimp only at g
  by_cases c:m.length+1+l.length<=sizeLine
  ·rw[WC c] at g;cases g;obtain⟨a,J,rfl,F,q⟩:=Hj rd;obtain⟨b,us,rfl,L,E⟩:=Hj C;refine Lq f s o H _ _ v u Q I t r ⟨a,b,J,us,rfl,rfl,F.sq,L.sq,?_,?_,λz=>?_,λ_ p hp=>k _ _ (.tup S (q.append E) hp)⟩
   ·intro z;rw[z] at q;cases q
   ·rw[q.length,E.length];exact c
   ·rw[z] at E;cases E;rw[XW] at k;exact k _ _ (.here S (.tup F q))
  ·rw[WE c] at g;cases g
 ·exact n z
def jY(b:p.canLay0=true)(a:p.depth<=64):SeqAt.shaped p=true:=by
 unfold PySem.SeqAt.shaped;rw[b,W4 a];rfl
def Dn{K:FR}{a:Ad}{H:Hp}{v:V}{d:D}(r:Rep K a H v d):decide (v=V.bo)=Vh d:=by
 cases r <;> rfl
def OZ:nM X (compareOp .Is) qi:=by
 intro a s c H x y v u Q I g f hh;obtain⟨j,h,d,e,z,l,S,rd,i,b,k⟩:=hh;cases e <;> first |(exact cf b) | skip
 cases b;cases i;refine O9 a s c H _ _ v u Q I g f ⟨rfl,?_⟩;rw[Dn rd];exact k _ _ (.here S (.bl _))
def Lo:nM X (compareOp .IsNot) mW:=by
 intro a s c H x y v u Q I g f hh;obtain⟨j,h,d,e,z,l,S,rd,i,b,k⟩:=hh;cases e <;> first |(exact cf b) | skip
 cases b;cases i;refine Lp a s c H _ _ v u Q I g f ⟨rfl,?_⟩;rw[Dn rd];exact k _ _ (.here S (.bl _))
theorem wa{us:List Value}{c:List PyData}{a:List Addr}(H:ReadsAll h us c a)(e:∀u d a,u∈us->Reads h u d a->d∈c->f u=PyData.eqv d p):us.any f=c.any λb=>PyData.eqv b p:=by
 cases H with
 | nil=>rfl
 | cons r l=>rw[YG,YG,e _ _ _ Wy r Wy,wa l λu d a g hr hd=>e u d a (Wz _ g) hr (Wz _ hd)]
open Classical in
noncomputable def Nb(h:Heap)(p:PyData)(u:Value):Bool:=if q:∃d a,Reads h u d a/\d.canLay0=true then PyData.eqv q.choose p else false
def Jg(r:Reads h u d a)(c:d.canLay0=true):Nb h p u=PyData.eqv d p:=by
 have q:∃d a,Reads h u d a/\d.canLay0=true:=⟨d,a,r,c⟩;unfold Nb;rw[dif_pos q];obtain⟨f,b,e⟩:=q.choose_spec;rw[PySem.SeqAt.Reads.unique _ _ _ _ _ e b r]
theorem iu:∀{a:List PyData} {d:PyData},PyData.canLayAll0 a=true->d∈a->d.canLay0=true
 | x::r,d,c,m=>by
  simp only[PyData.canLayAll0,WS] at c;rcases WI.mp m with rfl | m
  ·exact c.1
  ·exact iu c.2 m
theorem vS:∀{a:List PyData} {d:PyData},d∈a->d.depth<=PyData.depthAll a
 | x::r,d,m=>by
  simp only[PyData.depthAll];rcases WI.mp m with rfl | m
  ·lia
  ·have:=vS m;lia
theorem vb{us:List Value}{c:List PyData}{a:List Addr}(H:ReadsAll h us c a)(y:Value)(b:y∈us):∃d a,Reads h y d a/\d∈c:=by
 cases H with
 | nil=>cases b
 | cons r l=>
  rcases WI.mp b with rfl | b
  ·exact⟨_,_,r,Wy⟩
  ·obtain⟨d,a,a1,a2⟩:=vb l y b;exact⟨d,a,a1,Wz _ a2⟩
def in_of(hu:X.A.units+64 < cLine)(I:L2.Inv X pins σ H s)(F:L2.RelV x v)(M:L2.RelV y u)(S:bC X.K ρ h H)(rd:Rep X.K ρ H x d)(N:Rep X.K ρ H y e){c:Bool}(o:inD d e h=some c){Q:Bool->Shared->Prop}(q:∀i,L2.Inv X pins σ H i->Q c i):
  wpAny (model X.prog X.w) X.A (compareOp .In v u) (λr i=>∃c,r=.bool c/\Q c i) X.xe s/\wpAny (model X.prog X.w) X.A (compareOp .NotIn v u) (λr i=>∃c,r=.bool (!c)/\Q c i) X.xe s:=by
 unfold inD at o;cases O:c9 e h with
 | some kvs=>
  rw[O] at o;obtain⟨k,U,T⟩:=eg o;obtain⟨a,us,rfl,ha,l⟩:=nq S N O;obtain rfl:u=Value.ref a:=M;have ek:=jW rd U;subst ek;have g:uG H a (kV k) (iT us k):=uG.k ha;have ec:(iT us k).isSome=c:=by
   rw[<-T];rcases l.val k with⟨J,G⟩ |⟨d,v,J,G,_⟩
   ·rw[J,G];rfl
   ·rw[J,G];rfl
  refine⟨Vq (by lia) I g F λi I'=>⟨c,by rw[ec],q i I'⟩,Mc (by lia) I g F λi I'=>⟨c,by rw[ec],q i I'⟩⟩
 | none=>
  rw[O] at o;dsimp only at o;have z:((cp e h).bind λp=>(Ge h d).bind λa=>(i0 p.1).bind λbs=>if a.depth<=60/\PyData.depthAll bs<=60 then some (bs.any λb=>PyData.eqv b a) else none)=some c->
    wpAny (model X.prog X.w) X.A (compareOp .In v u) (λr i=>∃c,r=.bool c/\Q c i) X.xe s/\wpAny (model X.prog X.w) X.A (compareOp .NotIn v u) (λr i=>∃c,r=.bool (!c)/\Q c i) X.xe s:=by
   intro o;obtain⟨⟨xs,ws⟩,U,T⟩:=aZ o;obtain⟨p,e3,e4⟩:=aZ T;obtain⟨bs,e5,L⟩:=aZ e4
   by_cases w:p.depth<=60/\PyData.depthAll bs<=60
   ·rw[WC w] at L;cases L;obtain⟨a,vs,rfl,n,l⟩:=qx S N U;obtain rfl:u=Value.ref a:=M;obtain⟨r1,c1⟩:=xc S rd e3;obtain⟨r2,Y⟩:=l.rR e5;obtain⟨as,ra⟩:=r1.reads I F;have C:∀f:List Value,Vals vs f->(∀y,y∈f->PySem.SeqAt.EqAt X.A.in1 s y v (Nb s.heap p y))/\f.any (Nb s.heap p)=bs.any λb=>PyData.eqv b p:=by
     intro f rv;obtain⟨bs',rb⟩:=r2.reads I rv;refine⟨λy E=>?_,wa rb λu d as _ hr hd=>Jg hr (iu Y hd)⟩;obtain⟨d,Z,hr,hd⟩:=vb rb y E;rw[Jg hr (iu Y hd)];refine Abl d p _ s y v Z as hr ra (iu Y hd) c1 ?_;have J:=vS hd;have G:min d.depth p.depth<=d.depth:=AaK _ _;show X.A.units+1+min d.depth p.depth < cLine;have h3:=w.2
     lia
    rcases n with n | n
    ·obtain⟨f,rv,pl,_⟩:=I.list n;obtain⟨R,P⟩:=C f rv;have m:∀y,y∈f.toArray->PySem.SeqAt.EqAt X.A.in1 s y v (Nb s.heap p y):=λy E=>R y (by simpa using E);have j:f.toArray.any (Nb s.heap p)=bs.any λb=>PyData.eqv b p:=by rw[<-P];simp
     exact⟨PySem.SeqAt.in_listAt _ pl.isList m ⟨_,rfl,by rw[j];exact q s I⟩,PySem.SeqAt.notIn_listAt _ pl.isList m ⟨_,rfl,by rw[j];exact q s I⟩⟩
    ·obtain⟨f,rv,pl,_⟩:=I.tuple n;obtain⟨R,P⟩:=C f rv;have m:∀y,y∈f.toArray->PySem.SeqAt.EqAt X.A.in1 s y v (Nb s.heap p y):=λy E=>R y (by simpa using E);have j:f.toArray.any (Nb s.heap p)=bs.any λb=>PyData.eqv b p:=by rw[<-P];simp
     exact⟨PySem.SeqAt.in_tupleAt _ pl m ⟨_,rfl,by rw[j];exact q s I⟩,PySem.SeqAt.notIn_tupleAt _ pl m ⟨_,rfl,by rw[j];exact q s I⟩⟩
   ·rw[WE w] at L;cases L
  split at o
  ·cases o;cases rd;cases N;obtain⟨t,rfl⟩:=F;obtain⟨t',rfl⟩:=M;exact⟨in_str ⟨_,rfl,q s I⟩,notIn_str ⟨_,rfl,q s I⟩⟩
  ·exact z o
def M7(n:X.A.units+64 < cLine):nM X (compareOp .In) yz:=by
 intro a s i H x y v u Q I l j hh;obtain⟨w,h,d,e,z,C,S,rd,m,p,k⟩:=hh;obtain⟨c,t,q⟩:=eg p;cases q;refine b5 (in_of n I l j S rd m t (Q:=λg b=>g=c/\L2.Inv X a i H b) λb f=>⟨rfl,f⟩).1 λr b u9=>?_;obtain⟨g,hr,o,f⟩:=u9;subst hr;subst o;exact⟨.bl _,H,f,rfl,k _ _ (.here S (.bl _))⟩
def Ih(n:X.A.units+64 < cLine):nM X (compareOp .NotIn) oI:=by
 intro a s i H x y v u Q I l j hh;obtain⟨w,h,d,e,z,C,S,rd,m,p,k⟩:=hh;obtain⟨c,t,q⟩:=eg p;cases q;refine b5 (in_of n I l j S rd m t (Q:=λg b=>g=c/\L2.Inv X a i H b) λb f=>⟨rfl,f⟩).2 λr b u9=>?_;obtain⟨g,hr,o,f⟩:=u9;subst hr;subst o;exact⟨.bl _,H,f,rfl,k _ _ (.here S (.bl _))⟩
def Mu{K:FR}{a:Ad}{H:Hp}{b:List V}{c:List D}{i:Int}{d:D}(l:aA K a H b c)(e:gg c i=some d):∃v,gg b i=some v/\Rep K a H v d:=by
 unfold gg at e;obtain⟨j,h,g⟩:=aZ e;obtain⟨v,f,r⟩:=l.got g;exact⟨v,by unfold gg;rw[l.length,h];exact f,r⟩
def FQ{d e z:D}{h o:MH}(a:aG d e h=some (z,o)):o=h/\((∃b k,c9 d h=some b/\qc e=some k/\dm b k=some z)\/(∃x i c,d=.str x/\e=.int i/\x.length<=sizeLine/\gg x.cps.toList i=some c/\z=.str ⟨#[c]⟩)\/∃i j l,e=.int i/\cp d h=some (j,l)/\gg j i=some z):=by
 unfold aG at a
 split at a
 ·obtain⟨q,n,m⟩:=aZ a;obtain⟨p,g,f⟩:=eg m;cases f;exact⟨rfl,.inl ⟨_,q,‹_›,n,g⟩⟩
 ·split at a
  ·split at a
   ·obtain⟨c,g,f⟩:=eg a;cases f;exact⟨rfl,.inr (.inl ⟨_,_,c,rfl,rfl,‹_›,g,rfl⟩)⟩
   ·cases a
  ·obtain⟨⟨j,l⟩,n,m⟩:=aZ a;obtain⟨p,g,f⟩:=eg m;cases f;exact⟨rfl,.inr (.inr ⟨_,j,l,rfl,n,g⟩)⟩
  ·cases a
def Sk(hu:X.A.units+64 < cLine):QW X (rS X.K aG):=by
 intro b f j s t H x y v u Q I p o hh q;obtain⟨ρ,h,d,e,z,h',S,rd,E,Z,k⟩:=hh;obtain⟨rfl,T⟩:=FQ Z;rcases T with⟨R,M,P,J,n⟩ |⟨x0,i,ch,rfl,rfl,c,n,rfl⟩ |⟨i,xs,ws,rfl,J,n⟩
 ·obtain⟨a,us,rfl,U,l⟩:=nq S rd P;obtain rfl:v=Value.ref a:=p;have Y:=jW E J;subst Y;rcases l.val M with⟨G,N⟩ |⟨d',w,G,N,r⟩
  ·rw[G] at n;cases n
  ·rw[G] at n;cases n;have g:uG H a (kV M) (some w):=by rw[<-N];exact uG.k U
   exact tail_any (Al I g) Zw.lookup (FX (by lia) I g o λw' s3 I3 C=>⟨w,H,I3,C,k _ _ (.here S r)⟩) q
 ·obtain⟨rfl,F⟩:=Bt rd;obtain rfl:=jg E;exact Pu b f j s t H _ _ v u Q I p o ⟨x0,i,ch,rfl,rfl,c,n,k _ _ (.here S (.str (EC F n)))⟩ q
 ·obtain⟨a,L,rfl,m,l⟩:=qx S rd J;obtain⟨w,O,r⟩:=Mu l n;obtain rfl:=jg E;rcases m with m | m
  ·exact LL b f j s t H _ _ v u Q I p o ⟨a,L,i,w,rfl,rfl,m,O,k _ _ (.here S r)⟩ q
  ·exact Pt b f j s t H _ _ v u Q I p o ⟨a,L,i,w,rfl,rfl,m,O,k _ _ (.here S r)⟩ q
def Rz(e:X.A.units+64 < cLine)(h:SE X a d)(g:SE X b c)(f:iB b:=by unfold iB;intro _ _;ac_nf):SE X (.Subscript a b pos) (ai aG d c):=(M3 (Sk e) h g f).imp λ_ _ _=>zj
abbrev PM:=DS->MH->Option (Option Int×MH)
noncomputable def AN:PM:=λ_ h=>some (none,h)
noncomputable def AO(e:EM):PM:=λa h=>(e a h).bind λp=>match p.1 with
 | .int i=>some (some i,p.2)
 | _=>none
inductive Tr(K:FR)(m:PM)(σ:L2.St)(H:Hp)(Q:Option Int->Hp->Prop):Prop where
 | mk (ρ δ h b h'):b7 K ρ H σ δ->bC K ρ h H->(m δ h=some (b,h'))->(∀ρ' H',cA ρ H ρ' H'->bC K ρ' h' H'->Q b H')->Tr K m σ H Q
noncomputable def V8(K:FR)(m:PM):TO:=λa H Q=>Tr K m a H Q
def SP'(X:Cx)(e:Option Expr)(m:PM):Prop:=PO X e (V8 X.K m)
def Dc:SP' X none AN:=λa s c H Q I hh=>by
 obtain⟨d,f,h,b,g,R,S,e,k⟩:=hh;cases e;exact K9 a s c H Q I (k d H (.refl _ _) S)
def C8(l:SE X e j):SP' X (some e) (AO j):=λa s f H Q I hh=>by
 obtain⟨g,i,h,b,q,R,S,e,k⟩:=hh;obtain⟨⟨x,p⟩,m,d⟩:=aZ e;cases x <;> first |(cases d;done) | skip
 cases d;refine K8 l a s f H Q I ⟨g,i,h,_,_,R,S,m,λv o u9=>?_⟩;obtain⟨c,T,n,r⟩:=u9;cases r;exact⟨_,rfl,k c o T n⟩
noncomputable def cutD(a:List D)(b c:Option Int):List D:=(a.drop (HT.b8 a.length 0 b)).take (HT.b8 a.length a.length c-HT.b8 a.length 0 b)
def Sy(d:D)(a b:Option Int)(h:MH):Option (D×MH):=match d with
 | .str z=>if z.length<=sizeLine then some (.str (Txt.slice z a b),h) else none
 | .tup xs=>if HT.b8 xs.length 0 a=0/\HT.b8 xs.length xs.length b=xs.length then none else some (.tup (cutD xs a b),h)
 | d=>(cp d h).map λp=>(.lv (cutD p.1 a b),h)
inductive TF(K:FR)(x:V)(lo hi:Option Int)(H:Hp)(Q:VK):Prop where
 | mk (ρ h d z h'):bC K ρ h H->Rep K ρ H x d->(Sy d lo hi h=some (z,h'))->(∀v H',dw K ρ H h' z v H'->Q v H')->TF K x lo hi H Q
def We(K:FR):V->Option Int->Option Int->Hp->VK->Prop:=λx a b H Q=>TF K x a b H Q
theorem aA.sU{K:FR}{a:Ad}{H:Hp}{b:List V}{e:List D}(l:aA K a H b e)(c d:Option Int):aA K a H (L2.sU b c d) (cutD e c d):=by
 unfold L2.sU cutD;rw[l.length];exact(l.drop _).take _
def MQ:Qy X (We X.K):=by
 intro b s m H x v r o f i n Q I t C pl u hh;obtain⟨O,h,d,z,M,S,rd,e,k⟩:=hh;have g:sE d=true->((cp d h).map λp=>(D.lv (cutD p.1 f i),h))=some (z,M)->∃T L,typeLookup (.type T) "__getitem__"=pure (some (.builtin L))/\s.TypeIs v T/\wpAny (model X.prog X.w) X.A (getItem v (.ref n)) (EP X b m Q) X.xe s:=by
  intro J E;obtain⟨⟨j,P⟩,N,E⟩:=eg E;cases E;obtain⟨a,rfl,⟨G,q,l⟩,_⟩:=ie S rd N;rw[J] at q;cases q with
  | l q=>exact Kw b s m H _ v r o f i n Q I t C pl u ⟨a,G,rfl,q,λp hp=>k _ _ (.lv S (l.sU f i) hp)⟩
 cases d with
 | str x0=>
  unfold Sy at e;dsimp only at e
  by_cases c:x0.length<=sizeLine
  ·rw[WC c] at e;cases e;cases rd with | str y=>
   exact NV b s m H _ v r o f i n Q I t C pl u ⟨x0,rfl,c,k _ _ (.here S (.str (yM _ _ y)))⟩
  ·rw[WE c] at e;cases e
 | tup j=>
  unfold Sy at e;dsimp only at e
  by_cases c:HT.b8 j.length 0 f=0/\HT.b8 j.length j.length i=j.length
  ·rw[WC c] at e;cases e
  ·rw[WE c] at e;cases e;cases rd with | tup h0 F=>
   exact NU b s m H _ v r o f i n Q I t C pl u ⟨_,_,rfl,h0.sq,by rw[F.length];exact c,λp hp=>k _ _ (.tup S (F.sU f i) hp)⟩
 | _=>exact g rfl e
def G3{x:Str}{i:String}{p pos:Pos}{e:Expr}{a:List Expr}{f:Fn}{m:AM}(t:eT X (.builtin i) f)(s:Gl X x)(hm:X.mg x=none)(r:bootBuiltins x=some (.builtin i))(u:SA X (e::a) m)(hn:x≠"__name__":=by decide)(g:(x==("__debug__":Str))=false:=by ac_nf)
  (he:starEach (e::a) X.env=(false,eval e X.env)::starEach a X.env:=by ac_nf) (c:(backTo pos (starEach a X.env)).any (·.1)=false:=by ac_nf):SE X (.Call (.Name x p) (e::a) [] pos) (aj f m):=
 (zr t s hm r u hn g he c).imp λσ H Q u9=>by
  obtain⟨n,o,h,d,w,R,S,e,k⟩:=u9;obtain⟨⟨l,j⟩,z,y⟩:=aZ e;exact⟨n,o,h,l,j,R,S,z,λF b G A C q=>⟨b,j,l,d,w,C,q,y,λv E P=>k v E (P.step A)⟩⟩
def G2{x:Str}{i:String}{p pos:Pos}{e:Expr}{a:List Expr}{f:Fn}{m:AM}(t:eT X (.type i) f)(s:Gl X x)(hm:X.mg x=none)(r:bootBuiltins x=some (.type i))(u:SA X (e::a) m)(hn:x≠"__name__":=by decide)(g:(x==("__debug__":Str))=false:=by ac_nf)
  (he:starEach (e::a) X.env=(false,eval e X.env)::starEach a X.env:=by ac_nf) (c:(backTo pos (starEach a X.env)).any (·.1)=false:=by ac_nf):SE X (.Call (.Name x p) (e::a) [] pos) (aj f m):=
 (vh t s hm r u hn g he c).imp λσ H Q u9=>by
  obtain⟨n,o,h,d,w,R,S,e,k⟩:=u9;obtain⟨⟨l,j⟩,z,y⟩:=aZ e;exact⟨n,o,h,l,j,R,S,z,λF b G A C q=>⟨b,j,l,d,w,C,q,y,λv E P=>k v E (P.step A)⟩⟩
def bR:Fn:=λb h=>match b with
 | [.str z]=>if z.length<=sizeLine then some (.int z.length,h) else none
 | [d]=>match c9 d h with
  | some a=>some (.int a.length,h)
  | none=>(cp d h).map λp=>(.int p.1.length,h)
 | _=>none
noncomputable def PU:Fn:=λa h=>match a with
 | [.int i]=>some (.int (if i < 0 then -i else i),h)
 | _=>none
noncomputable def TV(d:D)(h:MH):Option String:=match d with
 | .bo=>some "NoneType"
 | .bl _=>some "bool"
 | .int _=>some "int"
 | .str _=>some "str"
 | .tup _=>some "tuple"
 | .lv _=>some "list"
 | .dv _=>some "dict"
 | .ob n=>match h[n]? with
  | some (.lst _)=>some "list"
  | some (.dct _)=>some "dict"
  | _=>none
 | _=>none
noncomputable def CY(t n:String):Bool:=t==n||(t=="bool"&&n=="int")
def mZ:Fn:=λa h=>match a with
 | [d,.ty n]=>if n∈["int","str","bool","tuple","list","dict"] then(TV d h).map λt=>(.bl (CY t n),h) else none
 | _=>none
def bH:Fn:=λa h=>match a with
 | [d]=>(cp d h).map λp=>(.tup p.1,h)
 | _=>none
noncomputable def uF:List D->Option (List Bool)
 | []=>some []
 | .bl b::r=>(uF r).map λbs=>b::bs
 | _=>none
def PR:Fn:=λb h=>match b with
 | [d]=>(fV d h).bind λa=>(uF a).map λbs=>(.bl (bs.all id),h)
 | _=>none
def PQ:Fn:=λb h=>match b with
 | [d]=>(fV d h).bind λa=>(uF a).map λbs=>(.bl (bs.any id),h)
 | _=>none
def rep1{K:FR}{a:Ad}{H:Hp}{b:List V}{d:D}(l:aA K a H b [d]):∃v,b=[v]/\Rep K a H v d:=by
 cases l with
 | cons r l=>cases l;exact⟨_,rfl,r⟩
def rep2{K:FR}{a:Ad}{H:Hp}{b:List V}{d e:D}(l:aA K a H b [d,e]):∃v u,b=[v,u]/\Rep K a H v d/\Rep K a H u e:=by
 cases l with
 | cons r l=>cases l with
  | cons c l=>cases l;exact⟨_,_,rfl,r,c⟩
def P0:eT X (.builtin "len") bR:=by
 intro e s g H G us Q I r hh;obtain⟨E,h,C,z,u,S,l,b,k⟩:=hh
 match C,l,b with
 | [],_,b=>cases b
 | _::_::_,_,b=>exact absurd b (by unfold bR;split <;> simp_all)
 | [d],l,b=>
  obtain⟨v,rfl,rd⟩:=rep1 l;have i:(match c9 d h with | some f=>some (D.int f.length,h) | none=>(cp d h).map λp=>(D.int p.1.length,h))=some (z,u)->wpAny (model X.prog X.w) X.A (call (.builtin "len") us) (EP X e g Q) X.xe s:=by
   intro b;cases q:c9 d h with
   | some f=>
    rw[q] at b;cases b;obtain⟨a,j,rfl,t,lk⟩:=nq S rd q;refine F2 e s g H _ us Q I r ⟨a,j,rfl,t,k _ _ ?_⟩;rw[lk.length];exact .here S (.int _)
   | none=>
    rw[q] at b;obtain⟨⟨F,w⟩,y,x⟩:=eg b;cases x;obtain⟨a,m,rfl,o,n⟩:=qx S rd y;refine yh e s g H _ us Q I r ⟨a,m,rfl,o,k _ _ ?_⟩;rw[n.length];exact .here S (.int _)
  cases d with
  | str x0=>
   unfold bR at b;dsimp only at b
   by_cases c:x0.length<=sizeLine
   ·rw[WC c] at b;cases b;cases rd;exact yg e s g H _ us Q I r ⟨x0,rfl,c,k _ _ (.here S (.int _))⟩
   ·rw[WE c] at b;cases b
  | _=>exact i b
def P5:eT X (.builtin "abs") PU:=by
 intro b s c H g us Q I r hh;obtain⟨f,h,e,z,i,S,l,a,k⟩:=hh
 match e,l,a with
 | [],_,a=>cases a
 | d::_::_,_,a=>cases d <;> exact cf a
 | [d],l,a=>
  obtain⟨v,rfl,rd⟩:=rep1 l;cases rd <;> first |(exact cf a) | skip
  cases a;exact Jv b s c H _ us Q I r ⟨_,rfl,k _ _ (.here S (.int _))⟩
def fX:eT X (.type "tuple") bH:=by
 intro e s g H y us Q I r hh;obtain⟨u,h,o,z,A,S,l,c,k⟩:=hh
 match o,l,c with
 | [],_,c=>cases c
 | _::_::_,_,c=>cases c
 | [d],l,c=>
  obtain⟨v,rfl,rd⟩:=rep1 l;obtain⟨⟨x,w⟩,f,n⟩:=eg c;cases n;obtain⟨a,rfl,⟨i,q,j⟩,_⟩:=ie S rd f;refine uD e s g H _ us Q I r ⟨a,i,rfl,?_⟩;generalize m:sE d=b at q;cases q with
  | l q=>exact .inl ⟨q,λp hp=>k _ _ (.tup S j hp)⟩
  | t q=>
   refine .inr ⟨q,k _ _ ?_⟩;cases rd <;> first |(cases m;done) | skip
   cases f;exact .here S (.tup ‹_› ‹_›)
def JA{K:FR}{d:Ad}{H:Hp}:∀{b:List V} {c:List D} {bs:List Bool},aA K d H b c->uF c=some bs->b=bs.map V.bl:=by
 intro b
 induction b with
 | nil=>intro c bs a e;cases a;cases e;rfl
 | cons v b f=>
  intro c bs a e;cases a with | cons r l=>
  cases r <;> first |(cases e;done) | skip
  obtain⟨i,h,g⟩:=eg e;cases g;rw[f l h];rfl
def P4(i:X.calm=true):eT X (.builtin "all") PR:=by
 intro c s f H u us Q I r hh;obtain⟨q,h,p,z,x,S,l,b,k⟩:=hh
 match p,l,b with
 | [],_,b=>cases b
 | _::_::_,_,b=>cases b
 | [d],l,b=>
  obtain⟨v,rfl,rd⟩:=rep1 l;obtain⟨t,o,n⟩:=aZ b;obtain⟨bs,m,j⟩:=eg n;cases j;obtain⟨a,w,rfl,e,g⟩:=eL S rd o;rw[JA g m] at e;exact Ju i c s f H _ us Q I r ⟨a,bs,rfl,eV.of e,k _ _ (.here S (.bl _))⟩
def P2(i:X.calm=true):eT X (.builtin "any") PQ:=by
 intro c s f H u us Q I r hh;obtain⟨q,h,p,z,x,S,l,b,k⟩:=hh
 match p,l,b with
 | [],_,b=>cases b
 | _::_::_,_,b=>cases b
 | [d],l,b=>
  obtain⟨v,rfl,rd⟩:=rep1 l;obtain⟨t,o,n⟩:=aZ b;obtain⟨bs,m,j⟩:=eg n;cases j;obtain⟨a,w,rfl,e,g⟩:=eL S rd o;rw[JA g m] at e;exact Jt i c s f H _ us Q I r ⟨a,bs,rfl,eV.of e,k _ _ (.here S (.bl _))⟩
def DL{K:FR}{t n:String}(ht:t∈["NoneType","bool","int","str","tuple","list","dict"])(hn:n∈["int","str","bool","tuple","list","dict"]):PySem.W.kitOne K (.type t) (.type n)=some (CY t n):=by
 simp only[WI,List.mem_nil_iff,or_false] at ht hn;rcases ht with rfl | rfl | rfl | rfl | rfl | rfl | rfl <;> rcases hn with rfl | rfl | rfl | rfl | rfl | rfl <;> rfl
def Ce{c:List D}{z:D}{h b:MH}(a:mZ c h=some (z,b)):∃d n t,c=[d,.ty n]/\n∈["int","str","bool","tuple","list","dict"]/\TV d h=some t/\z=.bl (CY t n)/\b=h:=by
 unfold mZ at a
 split at a
 ·split at a
  ·obtain⟨t,f,e⟩:=eg a;cases e;exact⟨_,_,t,rfl,‹_›,f,rfl,rfl⟩
  ·cases a
 ·cases a
def NA{K:FR}{g:Ad}{H:Hp}{h:MH}{v:V}{d:D}{t:String}(S:bC K g h H)(rd:Rep K g H v d)(c:TV d h=some t):t∈["NoneType","bool","int","str","tuple","list","dict"]/\(nB K H v (.type t)\/t="tuple"/\∃a e,v=.ref a/\iZ K H a e):=by
 cases rd with
 | bo=>cases c;exact⟨by decide,.inl .bo⟩
 | bl b=>cases c;exact⟨by decide,.inl (.bl b)⟩
 | int i=>cases c;exact⟨by decide,.inl (.int i)⟩
 | str h0=>cases c;exact⟨by decide,.inl (.str _)⟩
 | ty _=>exact cf c
 | fn _=>exact cf c
 | ro _ _=>exact cf c
 | lv h0 _ _=>cases c;exact⟨by decide,.inl (.lst h0)⟩
 | dv h0 _ _=>cases c;exact⟨by decide,.inl (.dK h0)⟩
 | tup h0 j=>cases c;exact⟨by decide,.inr ⟨rfl,_,_,rfl,h0.sq⟩⟩
 | @ob a m hm=>
  unfold TV at c;dsimp only at c;cases q:h[m]? with
  | none=>rw[q] at c;cases c
  | some o=>
   rw[q] at c;have x:=S.at_ m a o hm q;cases o with
   | lst _=>cases c;obtain⟨e,f,_⟩:=x;exact⟨by decide,.inl (.lst f)⟩
   | dct _=>cases c;obtain⟨e,f,_⟩:=x;exact⟨by decide,.inl (.dK f)⟩
   | dcH _=>exact cf c
def fY:eT X (.builtin "isinstance") mZ:=by
 intro b s f H E us Q I r hh;obtain⟨C,h,J,z,G,S,l,y,k⟩:=hh;obtain⟨d,n,t,rfl,hn,A,rfl,rfl⟩:=Ce y;obtain⟨v,u,rfl,rd,i⟩:=rep2 l;cases i;have c:=k (.bl (CY t n)) H (.here S (.bl _));obtain⟨hm,e |⟨rfl,a,F,rfl,q⟩⟩:=NA S rd A
 ·exact Js b s f H _ us Q I r ⟨v,n,_,_,rfl,e,DL hm hn,c⟩
 ·obtain⟨u1,u2,rfl,m,j⟩:=Vals.two r;obtain rfl:u1=Value.ref a:=m;obtain rfl:u2=Value.type n:=j;obtain⟨p,_,⟨o,x,w,_⟩,_⟩:=I.tuple q;exact XN PySem.W.kitx_tuple I.vJ ⟨o,x,w⟩ (DL (t:="tuple") (by decide) hn) (λz=>nomatch z) λg=>⟨.bl _,H,I.tok g,rfl,c⟩
def Ek(m:AM):AM:=λa h=>(m a h).bind λp=>match p.1 with
 | [d]=>(cp d p.2).map λq=>(q.1,p.2)
 | _=>none
def Dh(y:Gl X x)(hm:X.mg x=none)(t:bootBuiltins x=some (.type "list"))(A:SA X [e] m)(hl:jK m 1)(hn:x≠"__name__":=by decide)(f:(x==("__debug__":Str))=false:=by ac_nf)(z:starEach [e] X.env=(false,eval e X.env)::starEach [] X.env:=by ac_nf)(c:(backTo pos (starEach [] X.env)).any (·.1)=false:=by ac_nf):qo X (.Call (.Name x p) [e] [] pos) (Ek m):=
 (vh yf y hm t A hn f z c).imp λM H Q q=>by
  obtain⟨n,o,h,d,P,R,S,e,k⟩:=q;obtain⟨⟨I,C⟩,i,G⟩:=aZ e;refine⟨n,o,h,I,C,R,S,i,λO b L J j r=>?_⟩;obtain⟨d,rfl⟩:=YU.mp (hl _ _ _ _ i);obtain⟨⟨N,w⟩,F,E⟩:=eg G;cases E;obtain⟨v,rfl,rd⟩:=rep1 r;obtain⟨a,g,rfl,u,s⟩:=qx j rd F;exact⟨a,g,rfl,u,λl hl=>k b L l g J j hl s⟩
def uC(o i v:D)(h:MH):Option MH:=match o with
 | .ob n=>match h[n]? with
  | some (.lst xs)=>match i with
   | .int j=>(ux xs.length j).map λp=>h.set n (.lst (xs.set p v))
   | _=>none
  | some (.dct a)=>(qc i).bind λk=>if a.length < sizeLine then some (h.set n (.dct (putD a k v))) else none
  | _=>none
 | _=>none
def uy(o i:EM):GM:=λv a h=>(o a h).bind λp=>(i a p.2).bind λq=>(uC p.1 q.1 v q.2).map λb=>(a,b)
inductive Np(K:FR)(o i v:V)(H:Hp)(Q:Hp->Prop):Prop where
 | mk (ρ h a b c h'):bC K ρ h H->Rep K ρ H o a->Rep K ρ H i b->Rep K ρ H v c->(uC a b c h=some h')->(∀ρ' H',cA ρ H ρ' H'->bC K ρ' h' H'->Q H')->Np K o i v H Q
def U2(K:FR):V->V->V->Hp->(Hp->Prop)->Prop:=λo i v H Q=>Np K o i v H Q
def K1(Y:X.A.units+64 < cLine):Mz X (U2 X.K):=by
 intro g s L H o i v G O u Q I ro C rv hh;obtain⟨e,h,a,b,c,Z,S,M,F,E,d,k⟩:=hh;cases M <;> first |(exact cf d) | skip
 rename_i a n hn;unfold uC at d;dsimp only at d;cases q:h[n]? with
 | none=>rw[q] at d;cases d
 | some w=>
  rw[q] at d;have x:=S.at_ n a w hn q;have J:=Wx hn;cases w with
  | lst xs=>
   dsimp only at d;cases F <;> first |(exact cf d) | skip
   rename_i j;obtain⟨p,t,f⟩:=eg d;cases f;obtain⟨y,r,l⟩:=x;have T:cA e H e (upd H a (.lst (y.set p v))):=cA.wrote S J;exact set_list g s L H _ _ v G O u Q I ro C rv ⟨a,y,j,p,rfl,rfl,r,by rw[l.length];exact t,k e _ T (S.wrote hn ⟨_,aO,(l.set E p).mono T.toCh⟩)⟩
  | dct m=>
   dsimp only at d;obtain⟨N,t,f⟩:=aZ d
   by_cases z:m.length < sizeLine
   ·rw[WC z] at f;cases f;obtain⟨us,r,l⟩:=x;have P:=jW F t;subst P;obtain rfl:G=Value.ref a:=ro;have T:cA e H e (upd H a (.dK (putK us N v))):=cA.wrote S J;exact FW (by lia) I (ME.k r (by rw[l.length];exact z)) C rv λU R=>⟨_,R,k e _ T (S.wrote hn ⟨_,aO,(l.put E).mono T.toCh⟩)⟩
   ·rw[WE z] at f;cases f
  | dcH _=>exact cf d
def n5 (C:X.A.units+64 < cLine) (E:SE X o mo) (F:SE X i z) (G:∀v,assign (.Subscript o i pos) X.env v=(do
   let a<-holding [v] (eval o X.env);let b<-holding [v,a] (eval i X.env)
   standAt pos
   holding [v,a,b] (setItem a b v)
   release [v,a,b] []):=by intro _;ac_nf):SG X (.Subscript o i pos) (uy mo z):=
 (HR E F (K1 C) G).imp λv σ H Q u9=>by
  obtain⟨s,m,h,d,t,h',R,S,r,e,k⟩:=u9;obtain⟨⟨x,p⟩,O,N⟩:=aZ e;obtain⟨⟨y,n⟩,M,L⟩:=aZ N;obtain⟨Z,J,I⟩:=eg L;cases I;exact⟨s,m,h,x,p,R,S,O,λa H1 ⟨l,f,U,w⟩=>⟨l,m,p,y,n,R.mono f,U,M,λb H2 ⟨j,c,T,u⟩=>
   ⟨j,n,x,y,d,_,T,w.mono c,u,r.mono (f.trans c).toCh,J,λg Y q P=>k g Y σ (f.trans (c.trans q)) P (R.mono (f.trans (c.trans q)).toCh)⟩⟩⟩
abbrev Nt:=D->List D->MH->Option (D×MH)
inductive VX(K:FR)(f:Nt)(x:V)(vs:List V)(H:Hp)(Q:VK):Prop where
 | mk (ρ h d ds z h'):bC K ρ h H->Rep K ρ H x d->aA K ρ H vs ds->(f d ds h=some (z,h'))->(∀v H',dw K ρ H h' z v H'->Q v H')->VX K f x vs H Q
def rM(K:FR)(f:Nt):V->List V->Hp->VK->Prop:=λx a H Q=>VX K f x a H Q
noncomputable def eM(a:D->MH->Bool)(f:Nt)(o:EM)(m:AM):EM:=λb h=>(o b h).bind λp=>if a p.1 p.2 then(m b p.2).bind λq=>f p.1 q.1 q.2 else none
def dN(d:D)(h:MH):Bool:=(fV d h).isSome
noncomputable def b9:Nt:=λd a h=>match d,a with
 | .ob n,[y]=>match h[n]? with
  | some (.lst xs)=>if xs.length < sizeLine then some (.bo,h.set n (.lst (xs++[y]))) else none
  | _=>none
 | _,_=>none
noncomputable def Fp:Nt:=λd a h=>match d,a with
 | .ob n,[]=>match h[n]? with
  | some (.lst xs)=>(xs[xs.length-1]?).map λy=>(y,h.set n (.lst xs.dropLast))
  | _=>none
 | _,_=>none
def qQ{K:FR}{b:Ad}{H:Hp}{h:MH}{v:V}{d:D}(S:bC K b h H)(r:Rep K b H v d)(e:dN d h=true):QJ K "list" v H:=by
 obtain⟨i,g⟩:=ZJ.mp e;obtain⟨a,c,rfl,f,_⟩:=eL S r g;exact .inl ⟨rfl,c,eV.of f⟩
def KC{T u:String}{name:Str}{o e:Expr}{l:List Expr}{g a:Pos}{f:Nt}{E:EM}{m:AM}{isT:D->MH->Bool}(Y:∀{K:FR} {r:Ad} {H:Hp} {h:MH} {v:V} {d:D},bC K r h H->Rep K r H v d->isT d h=true->QJ K T v H)
  (N:PlainAttrs T) (slot:Slot T name u) (y:typeOf (.builtin u)=pure (.type "method_descriptor")) (hm:QV X u (rM X.K f)) (P:SE X o E) (U:SA X (e::l) m)
  (j:attributeBase o name X.env (eval o X.env)=eval o X.env:=by ac_nf)
  (n:((backTo a (starEach (e::l) X.env)).all (λx=>!x.1)&&(backToKw a (keywordEach [] X.env)).all (λx=>x.1.isSome)
   &&decide ((e::l).length+([]:List Keyword).length+(if([]:List Keyword).isEmpty then 0 else 1) < 30))=true:=by ac_nf)
  (i:(g.endLine==a.line)=true:=by ac_nf) (O:starEach (e::l) X.env=(false,eval e X.env)::starEach l X.env:=by ac_nf) (b:(backTo a (starEach l X.env)).any (·.1)=false:=by ac_nf):
  SE X (.Call (.Attribute o name g) (e::l) [] a) (eM isT f E m):=(RY N slot y hm P U j n i O b).imp λσ H Q u9=>by
 obtain⟨r,A,h,d,Z,R,S,e,k⟩:=u9;obtain⟨⟨x,z⟩,e1,q⟩:=aZ e;dsimp only at q
 by_cases c:isT x z=true
 ·rw[WC c] at q;obtain⟨⟨G,F⟩,e3,e4⟩:=aZ q;exact⟨r,A,h,x,z,R,S,e1,λv H1 ⟨t,J,L,C⟩=>⟨Y L C c,t,A,z,G,F,R.mono J,L,e3,λvs s H2 I S2 M=>⟨s,F,x,G,d,Z,S2,C.mono I,M,e4,λw H3 p=>k w H3 (p.step (J.trans I))⟩⟩⟩
 ·rw[WE c] at q;cases q
def Ry{T q:String}{name:Str}{o:Expr}{b a:Pos}{f:Nt}{u:EM}{g:D->MH->Bool}(E:∀{K:FR} {m:Ad} {H:Hp} {h:MH} {v:V} {d:D},bC K m h H->Rep K m H v d->g d h=true->QJ K T v H)
  (A:PlainAttrs T) (slot:Slot T name q) (r:typeOf (.builtin q)=pure (.type "method_descriptor")) (hm:QV X q (rM X.K f)) (C:SE X o u)
  (j:attributeBase o name X.env (eval o X.env)=eval o X.env:=by ac_nf) (i:(b.endLine==a.line)=true:=by ac_nf):
  SE X (.Call (.Attribute o name b) [] [] a) (eM g f u aT):=(OV A slot r hm C j i).imp λσ H Q u9=>by
 obtain⟨m,z,h,d,F,R,S,e,k⟩:=u9;obtain⟨⟨x,s⟩,G,l⟩:=aZ e;dsimp only at l
 by_cases c:g x s=true
 ·rw[WC c] at l;exact⟨m,z,h,x,s,R,S,G,λv H1 ⟨n,I,y,t⟩=>⟨E y t c,n,s,x,[],d,F,y,t,.nil,l,λw J p=>k w J (p.step I)⟩⟩
 ·rw[WE c] at l;cases l
def Iu{K:FR}{b:Ad}{H:Hp}{h:MH}{n:Nat}{d:List D}{v:V}(S:bC K b h H)(r:Rep K b H v (.ob n))(q:h[n]?=some (.lst d)):∃a c,v=.ref a/\b.ob[n]?=some a/\H a=some (.lst c)/\aA K b H c d:=by
 cases r with
 | ob hn=>obtain⟨c,e,l⟩:=S.at_ n _ _ hn q;exact⟨_,c,rfl,hn,e,l⟩
def jT:QV X "list.append" (rM X.K b9):=by
 intro e s j H x A v us Q I o rs hh;obtain⟨f,h,d,t,z,C,S,rd,l,b,k⟩:=hh;cases d <;> first |(exact cf b) | skip
 rename_i n
 match t,l,b with
 | [],_,b=>exact cf b
 | _::_::_,_,b=>exact cf b
 | [y],l,b=>
  unfold b9 at b;dsimp only at b;cases q:h[n]? with
  | none=>rw[q] at b;cases b
  | some w=>
   rw[q] at b;cases w with
   | dct _=>exact cf b
   | dcH _=>exact cf b
   | lst m=>
    dsimp only at b
    by_cases c:m.length < sizeLine
    ·rw[WC c] at b;cases b;obtain⟨a,g,rfl,hn,r,i⟩:=Iu S rd q;obtain⟨u,rfl,p⟩:=rep1 l;have T:cA f H f (upd H a (.lst (g++[u]))):=cA.wrote S (Wx hn);exact oz e s j H _ _ v us Q I o rs ⟨a,g,u,rfl,rfl,r,by rw[i.length];exact c,k _ _ ⟨f,T,S.wrote hn ⟨_,aO,(i.snoc p).mono T.toCh⟩,.bo⟩⟩
    ·rw[WE c] at b;cases b
def Ph:QV X "list.pop" (rM X.K Fp):=by
 intro c s i H x E v us Q I j rs hh;obtain⟨e,h,d,A,z,F,S,rd,l,b,k⟩:=hh;cases d <;> first |(exact cf b) | skip
 rename_i n
 match A,l,b with
 | _::_,_,b=>exact cf b
 | [],l,b=>
  unfold Fp at b;dsimp only at b;cases q:h[n]? with
  | none=>rw[q] at b;cases b
  | some w=>
   rw[q] at b;cases w with
   | dct _=>exact cf b
   | dcH _=>exact cf b
   | lst C=>
    dsimp only at b;obtain⟨y,r,p⟩:=eg b;cases p;obtain⟨a,g,rfl,hn,t,f⟩:=Iu S rd q;cases l;obtain⟨u,o,m⟩:=f.got r;have T:cA e H e (upd H a (.lst g.dropLast)):=cA.wrote S (Wx hn);exact Pe c s i H _ _ v us Q I j rs ⟨a,g,u,rfl,rfl,t,by rw[f.length];exact o,k _ _ ⟨e,T,S.wrote hn ⟨_,aO,f.dropLast.mono T.toCh⟩,m.mono T.toCh⟩⟩
end Sm
namespace Sb
open L2 PyProof.Rows
open Builtin.SmallTypes (nextOf ownedTupleIsFree ownedTupleHandOut)
noncomputable def kn:Bool->String
 | true=>"list_iterator"
 | false=>"tuple_iterator"
def At(b:Bool)(h:Heap)(j l:Addr)(i:Nat):Prop:=∃o,h.get? j=some o/\o.cls=.type (kn b)/\o.data=.fields #[.ref l,.int i 0]
def Of(b:Bool)(h:Heap)(l:Addr)(a:Array Value):Prop:=match b with
 | true=>h.IsList l a
 | false=>h.IsTuple l a
def At.up(x:At b h j l i)(k:∀o,h.get? j=some o->a.get? j=some o):At b a j l i:=let⟨o,e,r⟩:=x;⟨o,k o e,r⟩
def At.lt(x:At b h j l i):j < h.objs.size:=let⟨_,e,_⟩:=x;WH e
theorem Of.data(x:Of b h l items):∃o n,h.get? l=some o/\o.data=.seq items n:=by
 cases b with
 | true=>obtain⟨o,e,_,n,d⟩:=(show h.IsList l items from x);exact⟨o,n,e,d⟩
 | false=>obtain⟨o,e,_,n,d⟩:=(show h.IsTuple l items from x);exact⟨o,n,e,d⟩
def Of.up(x:Of b h l items)(k:∀o,h.get? l=some o->a.get? l=some o):Of b a l items:=by
 cases b with
 | true=>obtain⟨o,e,r⟩:=(show h.IsList l items from x);exact⟨o,k o e,r⟩
 | false=>obtain⟨o,e,r⟩:=(show h.IsTuple l items from x);exact⟨o,k o e,r⟩
def sy(hj:At b s.heap j l i)(hl:Of b s.heap l items)(h:items[i]?=some x)(k:∀e,At b e j l (i+1)->Heap.SameBut j s.heap e->Q x {s with heap:=e}):wpAny (model P w) A (nextOf (.ref j)) Q E s:=by
 cases b with
 | true=>exact wpAny_nextOf_list_item (show s.heap.IsListIter j l i from hj) (show s.heap.IsList l items from hl) h k
 | false=>
  have d:s.heap.IsTupleIter j l i:=hj;obtain⟨o,a,g,c⟩:=d;obtain⟨n,m,_,p,f⟩:=(show s.heap.IsTuple l items from hl);unfold nextOf;refine Wr (Xd (name:=Str.ofString "__next__") (show s.TypeIs (.ref j) "tuple_iterator" from⟨o,a,g⟩) Y9
   (Xg Y9 (show s.TypeIs (.ref j) "tuple_iterator" from⟨o,a,g⟩) Abv ?_ (Abm _)))
  show wpAny _ _ (field (.ref j) 0 >>=_) _ _ s;refine Wr (Xl a c (x:=.ref l) rfl ?_);show wpAny _ _ (if(Value.ref l==Value.none)=true then _ else _) _ _ s;rw[WE (show ¬((Value.ref l==Value.none)=true) by exact W8)];show wpAny _ _ (field (.ref j) 1 >>=_) _ _ s;refine Wr (Xl a c (x:=.int i 0) rfl ?_);show wpAny _ _ (seqItems? (.ref l) >>=_) _ _ s;refine Wr (XA m f ?_);simp only[W7,h];refine Wr (ZM a c (by simp) (Wt ⟨x,rfl,Wt (k _ ?_ (Ze ..))⟩));exact⟨_,X0 _ a (Aaq (Y1 c _)),(AaU ..).trans g,by rw[Y1 c];simp[rawInt]⟩
def zL(hh:A.handled=none)(hj:At b s.heap j l i)(hl:Of b s.heap l items)(n:items[i]?=none)(k:∀f e,Heap.ExtBut j s.heap f->(∃o,f.get? e=some o/\o.cls=.type "StopIteration")->E (.ref e) {s with heap:=f}):wpAny (model P w) A (nextOf (.ref j)) Q E s:=by
 cases b with
 | true=>exact wpAny_nextOf_list_end hh (show s.heap.IsListIter j l i from hj) (show s.heap.IsList l items from hl) n k
 | false=>
  have d:s.heap.IsTupleIter j l i:=hj;obtain⟨o,c,p,h⟩:=d;obtain⟨r,q,_,t,g⟩:=(show s.heap.IsTuple l items from hl);unfold nextOf;refine Wr (Xd (name:=Str.ofString "__next__") (show s.TypeIs (.ref j) "tuple_iterator" from⟨o,c,p⟩) Y9
   (Xg Y9 (show s.TypeIs (.ref j) "tuple_iterator" from⟨o,c,p⟩) Abv ?_ (Abm _)))
  show wpAny _ _ (field (.ref j) 0 >>=_) _ _ s;refine Wr (Xl c h (x:=.ref l) rfl ?_);show wpAny _ _ (if(Value.ref l==Value.none)=true then _ else _) _ _ s;rw[WE (show ¬((Value.ref l==Value.none)=true) by exact W8)];show wpAny _ _ (field (.ref j) 1 >>=_) _ _ s;refine Wr (Xl c h (x:=.int i 0) rfl ?_);show wpAny _ _ (seqItems? (.ref l) >>=_) _ _ s;refine Wr (XA q g ?_);simp only[W7,n];refine Wr (X2 (Wr (ZM c h (by simp) ?_)));show wpAny _ _ (newExc (.type "StopIteration") [] >>=_) _ _ _;refine Wr ?_;simp only[newExc,newTuple];refine Wr (Xc ?_ (by size_fits));refine Wr (m:=firstArgMember _ _) (Aba (a:=Value.none) (by first |(simp only[firstArgMember];rfl) | rfl) ?_);refine Xc ?_ (by size_fits);simp only[raiseNew];refine Wr (wpAny_handled ?_)
  first | rw[hh] | rw[show A.in1.handled=none from hh]
  refine Wr (Wt (wpAny_throw (k _ _ (((Ze ..).extBut.push _).push _) ⟨_,WK _ rfl,rfl⟩)))
open Builtin.SmallTypes (nextOf ownedTupleIsFree ownedTupleHandOut)
variable {P:Program} {w:World} {A:Around} {E:Value->Shared->Prop} {s:Shared} {b c:Bool}
def II(x:Of b s.heap l items)(k:Q (.ref s.heap.objs.size) {s with heap:=s.heap.push {cls:=.type (kn b),data:=.fields #[.ref l,.int 0 0]}}):wpAny (model P w) A (pyIter (.ref l)) Q E s:=by
 cases b with
 | true=>exact ZX (show s.heap.IsList l items from x) k
 | false=>exact Zg (show s.heap.IsTuple l items from x) k
def FU{e j l:Addr}{i:Nat}{R:Array Value}{x old:Value}{Q:Option Value->Shared->Prop}(hE:IsEnum s.heap e j i old)(hj:At b s.heap j l i)(hl:Of b s.heap l R)(hx:R[i]?=some x)(ne:e≠j)
  (k:∀h',IsEnumOut h' e j ((i:Int)+1) x s.heap.objs.size->At b h' j l (i+1)->h'.get? s.heap.objs.size=some {cls:=.type "tuple",data:=.seq #[.int i s.toks,x]}->h'.objs.size=s.heap.objs.size+1->
   (∀a o,a≠e->a≠j->s.heap.get? a=some o->h'.get? a=some o)->Q (some (.ref s.heap.objs.size)) {s with heap:=h',toks:=s.toks+1}):wpAny (model P w) A (pyNext (.ref e)) Q E s:=by
 have hT:s.TypeIs (.ref e) "enumerate":=⟨_,hE,rfl⟩;unfold pyNext;refine Wr (Yx (Xd (name:=Str.ofString "__next__") hT Y5 (Xg Y5 hT F.entry_enumerate_next ?_ (F.args_enumerate_next_1 _))));obtain⟨hp,g,d,N,os⟩:=s;show wpAny _ _ (field (.ref e) 2 >>=_) _ _ _;refine Wr (Xl hE rfl (x:=.ref j) rfl (Wr (sy hj hl hx λf X t=>?_)));replace t:Heap.SameBut j hp f:=t;have M:IsEnum f e j i old:=(t.2 e ne).trans hE;show wpAny _ _ (field (.ref e) 3 >>=_) _ _ ⟨f,g,d,N,os⟩;refine Wr (Xl M rfl (x:=rawInt i) rfl ?_);show wpAny _ _ (field (.ref e) 4 >>=_) _ _ ⟨f,g,d,N,os⟩;refine Wr (Xl M rfl (x:=.none) rfl ?_);show wpAny _ _ (mkInt i >>=_) _ _ ⟨f,g,d,N,os⟩;refine Wr (wpAny_mkInt ?_);show wpAny _ _ (setField (.ref e) 3 (rawInt ((i:Int)+1)) >>=_) _ _ ⟨f,g,d,N+1,os⟩;refine Wr (wpAny_setField_rec M (by simp) λu L r=>?_);replace r:Heap.SameBut e f u:=r;replace L:IsEnum u e j ((i:Int)+1) old:=L;show wpAny _ _ (setField (.ref e) 4 .none >>=_) _ _ ⟨u,g,d,N+1,os⟩;refine Wr (wpAny_setField_rec L (by simp) λm J p=>?_);replace p:Heap.SameBut e u m:=p;replace J:IsEnum m e j ((i:Int)+1) old:=J;show wpAny _ _ (newTuple [.int i N,x] >>=_) _ _ ⟨m,g,d,N+1,os⟩;refine Wr (ZN ?_);have I:IsEnum (m.push {cls:=.type "tuple",data:=.seq #[.int i N,x]}) e j ((i:Int)+1) old:=Wu _ J;generalize n:m.push {cls:=.type "tuple",data:=.seq #[.int i N,x]}=h at I;have sz:m.objs.size=hp.objs.size:=by rw[p.1,r.1,t.1]
 have lte:e < hp.objs.size:=WH hE;have tp:h.get? hp.objs.size=some {cls:=.type "tuple",data:=.seq #[.int i N,x]}:=by rw[<-n,<-sz];exact WK _ rfl
 have Z:h.objs.size=hp.objs.size+1:=by rw[<-n,XF,sz]
 have Y:∀a o,a≠e->a≠j->hp.get? a=some o->h.get? a=some o:=λa o z1 z2 q=>by
  rw[<-n];exact Wu _ (p.extBut a o z1 (r.extBut a o z1 (t.extBut a o z2 q)))
 have j₄:At b h j l (i+1):=X.up λo q=>by rw[<-n];exact Wu _ (p.extBut j o (XJ ne) (r.extBut j o (XJ ne) q))
 show wpAny _ _ (ownedTupleIsFree (.ref e) >>=_) _ _ ⟨h,g,d,N+1,os⟩;rw[sz];clear n J p L r M t X sz m u f;refine Wr ?_;unfold ownedTupleIsFree;refine Wr (Xl I rfl (x:=.none) rfl (Wt ?_));simp only[Y4];refine Wr (X2 (Wr (Xl I rfl (x:=old) rfl (Wr (wpAny_setField_rec I (by simp) λH U C=>?_)))));replace C:Heap.SameBut e h H:=C;replace U:IsEnum H e j ((i:Int)+1) x:=U;show wpAny _ _ (ownedTupleHandOut (.ref e) (.ref hp.objs.size) >>=_) _ _ ⟨H,g,d,N+1,os⟩;refine Wr ?_;unfold ownedTupleHandOut;refine Wr (wpAny_setField_rec U (by simp) λO T y=>?_);replace y:Heap.SameBut e H O:=y;replace T:IsEnumOut O e j ((i:Int)+1) x hp.objs.size:=T;refine wpAny_setField_rec T (by simp) λG S v=>?_;replace v:Heap.SameBut e O G:=v;replace S:IsEnumOut G e j ((i:Int)+1) x hp.objs.size:=S;have up:∀a o,a≠e->h.get? a=some o->G.get? a=some o:=λa o z q=>v.extBut a o z (y.extBut a o z (C.extBut a o z q));refine Wr (Zr (Wt ⟨_,rfl,Wt (k G S (j₄.up λo q=>up j o (XJ ne) q) (up _ _ (YQ lte) tp) ?_ λa o z1 z2 q=>up a o z1 (Y a o z1 z2 q))⟩));rw[v.1,y.1,C.1,Z]
def Ji{e j l:Addr}{i:Nat}{a:Array Value}{old:Value}{Q:Option Value->Shared->Prop}(hh:A.handled=none)(h:IsEnum s.heap e j i old)(hj:At b s.heap j l i)(hl:Of b s.heap l a)(m:a[i]?=none)
  (k:∀f,Heap.ExtBut j s.heap f->Q none {s with heap:=f}):wpAny (model P w) A (pyNext (.ref e)) Q E s:=by
 have g:s.TypeIs (.ref e) "enumerate":=⟨_,h,rfl⟩;unfold pyNext;refine Wr (Yx (Xd (name:=Str.ofString "__next__") g Y5 (Xg Y5 g F.entry_enumerate_next ?_ (F.args_enumerate_next_1 _))));show wpAny _ _ (field (.ref e) 2 >>=_) _ _ _;refine Wr (Xl h rfl (x:=.ref j) rfl (Wr (zL hh hj hl m λf y d u9=>?_)));obtain⟨o,n,p⟩:=u9;exact Wr (X4 (T:="StopIteration") (b:=true) ⟨o,n,p⟩ YX (Wt (k _ d)))
def FT(x:Of b s.heap l items)(k:∀e,IsEnum e (s.heap.objs.size+1) s.heap.objs.size 0 .none->At b e s.heap.objs.size l 0->e.objs.size=s.heap.objs.size+2->(∀a o,s.heap.get? a=some o->e.get? a=some o)->Q (.ref (s.heap.objs.size+1)) {s with heap:=e}):
  wpAny (model P w) A (call (.type "enumerate") [.ref l]) Q E s:=by
 cases b with
 | true=>exact call_enumerate_list (show s.heap.IsList l items from x) k
 | false=>
  have p:PySem.Meets (Builtin.«enumerate.__new__» ⟨[.type "enumerate",.ref l],[]⟩) (λ_ R s=>s.heap.IsTuple l items/\
    R (.ok (.ret (.ref (s.heap.push {cls:=.type "tuple_iterator",data:=.fields #[.ref l,.int 0 0]}).objs.size)))
     {s with heap:=(s.heap.push {cls:=.type "tuple_iterator",data:=.fields #[.ref l,.int 0 0]}).push {cls:=.type "enumerate",data:=.fields #[.none,.bool false,.ref s.heap.objs.size,rawInt 0,.none,.none]}}):=
   .of_wp λprog w A R s h=>by
    obtain⟨hp,g,d,m,os⟩:=s;obtain⟨hl,h⟩:=h;have n:=sub_enumerate;have f:Heap.IsTuple (Shared.heap ⟨hp,g,d,m,os⟩) l items:=hl;obtain⟨o0,t,v,r,u⟩:=id f
    wp_walk
    refine wpAny_stack_any λst=>Wt ?_
    split
    ·rename_i c _ _ _ _ _;cases(c==Value.type "enumerate")
     ·wp_walk using Zg f
      exact⟨_,rfl,h⟩
     ·wp_walk using Zg f
      exact⟨_,rfl,h⟩
    ·wp_walk using Zg f
     exact⟨_,rfl,h⟩
  refine callType_new F.called_enumerate (by decide) (F.typeCall_enumerate_1 _) (F.newCall_enumerate_1 _) (λobj=>F.args_object_init_2 obj _) F.entry_enumerate_new p ⟨x,?_⟩;have i:(s.heap.push {cls:=.type "tuple_iterator",data:=.fields #[.ref l,.int 0 0]}).objs.size=s.heap.objs.size+1:=XF ..;show _/\_;rw[i];have j:IsEnum ((s.heap.push {cls:=.type "tuple_iterator",data:=.fields #[.ref l,.int 0 0]}).push
    {cls:=.type "enumerate",data:=.fields #[.none,.bool false,.ref s.heap.objs.size,rawInt 0,.none,.none]}) (s.heap.objs.size+1) s.heap.objs.size 0 .none:=by
   have q:=WK (s.heap.push {cls:=.type "tuple_iterator",data:=.fields #[.ref l,.int 0 0]}) (o:={cls:=.type "enumerate",data:=.fields #[.none,.bool false,.ref s.heap.objs.size,rawInt 0,.none,.none]}) rfl;rw[i] at q;exact q
  refine⟨⟨_,j,rfl⟩,k _ j ⟨_,Wu _ (WK _ rfl),rfl,rfl⟩ (by rw[XF,i]) λa o q=>Wu _ (Wu _ q)⟩
end Sb
namespace Sb
open L2 PyProof.Rows
open Builtin.SmallTypes (nextOf ownedTupleIsFree ownedTupleHandOut)
structure Zp(z T U p q l m:Addr):Prop where
 Tz:T≠z
 Uz:U≠z
 pz:p≠z
 qz:q≠z
 TU:T≠U
 Tp:T≠p
 Tq:T≠q
 Up:U≠p
 Uq:U≠q
 pq:p≠q
 lz:l≠z
 lU:l≠U
 lp:l≠p
 lq:l≠q
 mz:m≠z
 mU:m≠U
 mp:m≠p
 mq:m≠q
def yC (D:Zp z T U p q l m) (X:IsZip s.heap z T U .none) (hT:IsPair s.heap T (.ref p) (.ref q)) (hU:IsPair s.heap U u v) (h1:At b s.heap p l i) (h2:At c s.heap q m i) (hl:Of b s.heap l xs) (hm:Of c s.heap m ys) (hx:xs[i]?=some x) (hy:ys[i]?=some y) (k:∀M,IsZip M z T U (rawInt s.heap.objs.size)->IsPair M U x y->At b M p l (i+1)->At c M q m (i+1)->IsPair M s.heap.objs.size x y->M.objs.size=s.heap.objs.size+1->
   (∀a o,a≠z->a≠U->a≠p->a≠q->s.heap.get? a=some o->M.get? a=some o)->Q (some (.ref s.heap.objs.size)) {s with heap:=M}):wpAny (model P w) A (pyNext (.ref z)) Q E s:=by
 have ty:s.TypeIs (.ref z) "zip":=⟨_,X,rfl⟩;unfold pyNext;refine Wr (Yx (Xd (name:=Str.ofString "__next__") ty YJ (Xg YJ ty Z9 ?_ (Z1 _))));show wpAny _ _ (field (.ref z) 2 >>=_) _ _ _;refine Wr (Xl X rfl (x:=.bool false) rfl ?_);show wpAny _ _ (field (.ref z) 3 >>=_) _ _ _;refine Wr (Xl X rfl (x:=.ref T) rfl (Wr (XA hT rfl ?_)));show wpAny _ _ (ownedTupleIsFree (.ref z) >>=_) _ _ _;refine Wr ?_;unfold ownedTupleIsFree;refine Wr (Xl X rfl (x:=.none) rfl (Wt ?_));simp only[Y4];refine Wr (X2 (Wr (Xl X rfl (x:=.ref U) rfl (Wr (wpAny_setField_rec X (by simp) λk₁ G f=>?_)))));replace G:IsZip k₁ z T U .ellipsis:=G;refine Wr ?_;simp only[List.zipIdx_cons,List.zipIdx_nil,Za,Aaf];refine Wr (Wr (AaE ?_));show wpAny _ _ (nextOf (.ref p) >>=_) _ _ _;refine Wr (sy (h1.up λo e=>f.extBut _ o D.pz e) (hl.up λo e=>f.extBut _ o D.lz e) hx λk₂ p₂ h=>Wt ?_);have O:IsPair k₂ U u v:=h.extBut _ _ D.Up (f.extBut _ _ D.Uz hU);refine Wr (XA O rfl (Wr (Aau O λk₃ J g=>Wr (Zr (Wt ?_)))));replace J:IsPair k₃ U x v:=J;refine Wr (Wr (AaE ?_));show wpAny _ _ (nextOf (.ref q) >>=_) _ _ _;refine Wr (sy (h2.up λo e=>g.extBut _ o D.Uq.symm (h.extBut _ o D.pq.symm (f.extBut _ o D.qz e))) (hm.up λo e=>g.extBut _ o D.mU (h.extBut _ o D.mp (f.extBut _ o D.mz e))) hy λk₄ q₄ n=>Wt ?_);have N:IsPair k₄ U x v:=n.extBut _ _ D.Uq J;refine Wr (XA N rfl (Wr (Aau N λd C j=>Wr (Zr (Wt (Wt ?_))))));replace C:IsPair d U x y:=C;refine Wr (XA C rfl (Wr (ZN ?_)));have sz:d.objs.size=s.heap.objs.size:=by rw[j.1,n.1,g.1,h.1,f.1]
 have L:IsZip d z T U .ellipsis:=j.extBut _ _ D.Uz.symm (n.extBut _ _ D.qz.symm (g.extBut _ _ D.Uz.symm (h.extBut _ _ D.pz.symm G)));have S:∀a o,a≠z->a≠U->a≠p->a≠q->s.heap.get? a=some o->d.get? a=some o:=λa o a1 a2 a3 a4 e=>j.extBut _ _ a2 (n.extBut _ _ a4 (g.extBut _ _ a2 (h.extBut _ _ a3 (f.extBut _ _ a1 e))));have p₅:At b d p l (i+1):=p₂.up λo e=>j.extBut _ o D.Up.symm (n.extBut _ o D.pq (g.extBut _ o D.Up.symm e));have q₅:At c d q m (i+1):=q₄.up λo e=>j.extBut _ o D.Uq.symm e;have Z:z < d.objs.size:=WH L;show wpAny _ _ (ownedTupleHandOut (.ref z) (.ref d.objs.size) >>=_) _ _ _;refine Wr ?_;unfold ownedTupleHandOut;have Y:IsZip (d.push {cls:=.type "tuple",data:=.seq #[x,y]}) z T U .ellipsis:=Wu _ L;refine Wr (wpAny_setField_rec Y (by simp) λk₇ F I=>?_);replace F:IsZip k₇ z T U (rawInt d.objs.size):=F;refine wpAny_setField_rec F (by simp) λr t H=>?_;replace t:IsZip r z T U (rawInt d.objs.size):=t;have up:∀a o,a≠z->d.get? a=some o->r.get? a=some o:=λa o a1 e=>H.extBut _ _ a1 (I.extBut _ _ a1 (Wu _ e));have R:IsPair r d.objs.size x y:=H.extBut _ _ (YQ Z) (I.extBut _ _ (YQ Z) (WK _ rfl));have s8:r.objs.size=d.objs.size+1:=by rw[H.1,I.1,XF]
 rw[sz] at t R s8;refine Wt ⟨_,rfl,Wt ?_⟩;show Q (some (.ref d.objs.size)) _;rw[sz];exact k r t (up _ _ D.Uz C) (p₅.up λo e=>up _ o D.pz e) (q₅.up λo e=>up _ o D.qz e) R s8 λa o a1 a2 a3 a4 e=>up a o a1 (S a o a1 a2 a3 a4 e)
def CP(hh:A.handled=none)(D:Zp z T U p q l m)(J:IsZip s.heap z T U .none)(hT:IsPair s.heap T (.ref p) (.ref q))(hU:IsPair s.heap U u v)(h1:At b s.heap p l i)(h2:At c s.heap q m i)(hl:Of b s.heap l xs)(hm:Of c s.heap m X)(he:xs[i]?=none\/X[i]?=none)(k:∀H,(∀a o,a≠z->a≠U->a≠p->a≠q->s.heap.get? a=some o->H.get? a=some o)->Q none {s with heap:=H}):wpAny (model P w) A (pyNext (.ref z)) Q E s:=by
 have ty:s.TypeIs (.ref z) "zip":=⟨_,J,rfl⟩;unfold pyNext;refine Wr (Yx (Xd (name:=Str.ofString "__next__") ty YJ (Xg YJ ty Z9 ?_ (Z1 _))));have fin:∀H e,(∀a o,a≠z->a≠U->a≠p->a≠q->s.heap.get? a=some o->H.get? a=some o)->(∃o,H.get? e=some o/\o.cls=.type "StopIteration")->
   (λe s'=>wpAny (model P w) A (isInstance e (.type "StopIteration")) (λr L=>(if r=true then Q none L else E e L)) E s') (.ref e) {s with heap:=H}:=λH e up ⟨o,ho,hc⟩=>
  X4 (T:="StopIteration") (b:=true) ⟨o,ho,hc⟩ YX (by rw[WC rfl];exact k H up)
 show wpAny _ _ (field (.ref z) 2 >>=_) _ _ _;refine Wr (Xl J rfl (x:=.bool false) rfl ?_);show wpAny _ _ (field (.ref z) 3 >>=_) _ _ _;refine Wr (Xl J rfl (x:=.ref T) rfl (Wr (XA hT rfl ?_)));show wpAny _ _ (ownedTupleIsFree (.ref z) >>=_) _ _ _;refine Wr ?_;unfold ownedTupleIsFree;refine Wr (Xl J rfl (x:=.none) rfl (Wt ?_));simp only[Y4];refine Wr (X2 (Wr (Xl J rfl (x:=.ref U) rfl (Wr (wpAny_setField_rec J (by simp) λO j d=>?_)))));replace j:IsZip O z T U .ellipsis:=j;refine Wr ?_;simp only[List.zipIdx_cons,List.zipIdx_nil,Za,Aaf];refine Wr (Wr (AaE ?_));show wpAny _ _ (nextOf (.ref p) >>=_) _ _ _;cases ex:xs[i]? with
 | none=>
  refine Wr (zL hh (h1.up λo e=>d.extBut _ o D.pz e) (hl.up λo e=>d.extBut _ o D.lz e) ex λn e f u9=>?_);obtain⟨R,h,t⟩:=u9;have C:IsZip n z T U .ellipsis:=f _ _ D.pz.symm j;have S:e≠z:=λr=>by subst r;rw[C] at h;cases h;simp at t
  refine wpAny_setField_rec C (by simp) λN _ g=>?_;refine Wr (X4 (T:="StopIteration") (b:=true) ⟨R,g.extBut _ _ S h,t⟩ YX (Wt (k _ λa o a1 _ a3 _ r=>g.extBut _ _ a1 (f _ _ a3 (d.extBut _ _ a1 r)))))
 | some x=>
  have ey:X[i]?=none:=by rcases he with r | r;rw[ex] at r;cases r;exact r
  refine Wr (sy (h1.up λo e=>d.extBut _ o D.pz e) (hl.up λo e=>d.extBut _ o D.lz e) ex λn Y f=>Wt ?_);have I:IsPair n U u v:=f.extBut _ _ D.Up (d.extBut _ _ D.Uz hU);refine Wr (XA I rfl (Wr (Aau I λN U₃ g=>Wr (Zr (Wt ?_)))));refine Wr (Wr (AaE ?_));show wpAny _ _ (nextOf (.ref q) >>=_) _ _ _;refine Wr (zL hh (h2.up λo e=>g.extBut _ o D.Uq.symm (f.extBut _ o D.pq.symm (d.extBut _ o D.qz e))) (hm.up λo e=>g.extBut _ o D.mU (f.extBut _ o D.mp (d.extBut _ o D.mz e))) ey λM e G u9=>?_);obtain⟨R,h,t⟩:=u9;have y:IsZip M z T U .ellipsis:=G _ _ D.qz.symm (g.extBut _ _ D.Uz.symm (f.extBut _ _ D.pz.symm j));have S:e≠z:=λr=>by subst r;rw[y] at h;cases h;simp at t
  refine wpAny_setField_rec y (by simp) λZ _ F=>?_;refine Wr (X4 (T:="StopIteration") (b:=true) ⟨R,F.extBut _ _ S h,t⟩ YX (Wt (k _ λa o a1 a2 a3 a4 r=>F.extBut _ _ a1 (G _ _ a4 (g.extBut _ _ a2 (f.extBut _ _ a3 (d.extBut _ _ a1 r)))))))
abbrev g1(b:Bool)(h:Heap)(l:Addr):Heap:=h.push {cls:=.type (kn b),data:=.fields #[.ref l,.int 0 0]}
abbrev g2(b c:Bool)(h:Heap)(l m:Addr):Heap:=(g1 b h l).push {cls:=.type (kn c),data:=.fields #[.ref m,.int 0 0]}
abbrev g3(b c:Bool)(h:Heap)(l m:Addr):Heap:=(g2 b c h l m).push {cls:=.type "tuple",data:=.seq #[.ref h.objs.size,.ref (g1 b h l).objs.size]}
abbrev g4(b c:Bool)(h:Heap)(l m:Addr):Heap:=(g3 b c h l m).push {cls:=.type "tuple",data:=.seq #[.none,.none]}
abbrev g5(b c:Bool)(h:Heap)(l m:Addr):Heap:=(g4 b c h l m).push {cls:=.type "zip",data:=.fields #[.none,.bool false,.bool false,.ref (g2 b c h l m).objs.size,.ref (g3 b c h l m).objs.size]}
def Kj(b c:Bool)(l m:Addr)(f a:Array Value):PySem.Meets (Builtin.«zip.__new__» ⟨[.type "zip",.ref l,.ref m],[]⟩) (λ_ R s=>Of b s.heap l f/\Of c s.heap m a/\R (.ok (.ret (.ref (g4 b c s.heap l m).objs.size))) {s with heap:=g5 b c s.heap l m}):=
 .of_wp λprog w A R s h=>by
  obtain⟨hp,g,d,i,os⟩:=s;obtain⟨hl,hm,h⟩:=h;have j:=sub_zip;have k:Of b (Shared.heap ⟨hp,g,d,i,os⟩) l f:=hl;have L2:Of c (Shared.heap ⟨hp.push {cls:=.type (kn b),data:=.fields #[.ref l,.int 0 0]},g,d,i,os⟩) m a:=hm.up λo e=>Wu _ e
  wp_walk using II k,II L2
  exact⟨_,rfl,h⟩
def yB (hl:Of b s.heap l xs) (hm:Of c s.heap m r) (k:∀d,IsZip d (s.heap.objs.size+4) (s.heap.objs.size+2) (s.heap.objs.size+3) .none->IsPair d (s.heap.objs.size+2) (.ref s.heap.objs.size) (.ref (s.heap.objs.size+1))->IsPair d (s.heap.objs.size+3) .none .none->
   At b d s.heap.objs.size l 0->At c d (s.heap.objs.size+1) m 0->d.objs.size=s.heap.objs.size+5->(∀a o,s.heap.get? a=some o->d.get? a=some o)->Q (.ref (s.heap.objs.size+4)) {s with heap:=d}):
  wpAny (model P w) A (call (.type "zip") [.ref l,.ref m]) Q E s:=by
 refine callType_new F.called_zip (by decide) (F.typeCall_zip_2 _ _) (F.newCall_zip_2 _ _) (λobj=>F.args_object_init_3 obj _ _) F.entry_zip_new (Kj b c l m xs r) ⟨hl,hm,?_⟩;have h:(g1 b s.heap l).objs.size=s.heap.objs.size+1:=XF ..;have g:(g2 b c s.heap l m).objs.size=s.heap.objs.size+2:=by rw[XF,h]
 have f:(g3 b c s.heap l m).objs.size=s.heap.objs.size+3:=by rw[XF,g]
 have e:(g4 b c s.heap l m).objs.size=s.heap.objs.size+4:=by rw[XF,f]
 have q:(g5 b c s.heap l m).objs.size=s.heap.objs.size+5:=by rw[XF,e]
 have i:(g5 b c s.heap l m).get? (g4 b c s.heap l m).objs.size=some _:=WK _ rfl;have j:(g5 b c s.heap l m).get? (g3 b c s.heap l m).objs.size=some _:=Wu _ (WK _ rfl);have n:(g5 b c s.heap l m).get? (g2 b c s.heap l m).objs.size=some _:=Wu _ (Wu _ (WK _ rfl));have p:(g5 b c s.heap l m).get? (g1 b s.heap l).objs.size=some _:=Wu _ (Wu _ (Wu _ (WK _ rfl)));have t:(g5 b c s.heap l m).get? s.heap.objs.size=some _:=Wu _ (Wu _ (Wu _ (Wu _ (WK _ rfl))));show _/\_;rw[g,f,e] at i;rw[h,g] at n;rw[f] at j;rw[h] at p;rw[e];exact⟨⟨_,i,rfl⟩,k _ i n j ⟨_,t,rfl,rfl⟩ ⟨_,p,rfl,rfl⟩ q λa o x=>Wu _ (Wu _ (Wu _ (Wu _ (Wu _ x))))⟩
section
variable {X:Cx} {pins:List (Addr×Obj)} {σ:L2.St} {H:Hp} {s:Shared} {h':Heap} {fp:List Addr}
def qt(I:L2.Inv X pins σ H s)(k:∀b o,b∉fp->s.heap.get? b=some o->h'.get? b=some o)(f:∀b∈fp,eG X pins H b):L2.Inv X pins σ H {s with heap:=h',toks:=t'}:=by
 have d:∀b u,H b=some u->b∉fp:=λb u e z=>by rw[(f b z).1] at e;cases e
 have g:X.env.locals∉fp:=λz=>(f _ z).2.1 rfl;refine I.step (g':=s.gens) (d':=s.drawn) (ch:=fp) (λb i=>?_) (λb o _ _ a e _=>k b o a e) (λb o _ _ a e _=>⟨o.slots,k b o a e⟩) (λ_ _ _ _ n=>n)
  (λb o a e=>⟨o,k b o a e⟩) (λ_ _ e=>e) (λ_ _ _ e=>e) (λb y e=>⟨#[],by rw[e];simp⟩) (λm hm=>?_) (λb u e=>?_) I.bare
 ·obtain⟨f0,t,A,p,l,j⟩:=f b i;exact⟨p,t,l,j⟩
 ·obtain⟨o,w,x,h,r⟩:=hm;exact⟨o,w,x,k _ o g h,r⟩
 ·refine(I.a8 b u e).wD (λc v a q=>k c v ?_ q) (λ_ q=>q) λ_ _ q=>q;rcases a with z | z
  ·rw[z];exact d b u e
  ·exact d c _ z
def CT(I:L2.Inv X pins σ H s)(k:∀b o,b∉fp->s.heap.get? b=some o->h'.get? b=some o)(g:∀b∈fp,eG X pins H b)(l:∀b∈fp,b < s.heap.objs.size)(ht:h'.get? s.heap.objs.size=some {cls:=.type "tuple",data:=.seq us.toArray n})(r:Vals vs us)(i:vs.length<=sizeLine):L2.Inv X pins σ (upd H s.heap.objs.size (.tup vs)) {s with heap:=h',toks:=t'}:=by
 have d:∀b u,H b=some u->b∉fp:=λb u e z=>by rw[(g b z).1] at e;cases e
 have h:X.env.locals∉fp:=λz=>(g _ z).2.1 rfl;have hp:H s.heap.objs.size=none:=I.a8.fresh (WB _);have np:∀b o,s.heap.get? b=some o->b≠s.heap.objs.size:=λb o e=>WZ (WH e);have f:∀b u,H b=some u->b≠s.heap.objs.size:=λb u e=>aR e hp;refine I.step (g':=s.gens) (d':=s.drawn) (ch:=fp) (λb p=>?_) (λb o _ _ a e _=>k b o a e) (λb o _ _ a e _=>⟨o.slots,k b o a e⟩) (λb o _ e n=>by rw[aC (np b o e)];exact n)
  (λb o a e=>⟨o,k b o a e⟩) (λb _ e=>by rw[aC (f b _ e)];exact e) (λb _ _ e=>by rw[aC (f b _ e)];exact e) (λb F e=>⟨#[],by rw[aC (f b _ e),e];simp⟩) (λm hm=>?_) (λb u e=>?_) I.bare
 ·obtain⟨f0,A,G,x,w,t⟩:=g b p;exact⟨x,A,w,t⟩
 ·obtain⟨o,C,E,j,q⟩:=hm;exact⟨o,C,E,k _ o h j,q⟩
 ·by_cases z:b=s.heap.objs.size
  ·subst z;rw[aO] at e;cases e;exact⟨i,us,r,⟨_,ht,rfl,⟨n,rfl⟩,rfl⟩⟩
  ·rw[aC z] at e;refine(I.a8 b u e).wD (λc v a q=>k c v ?_ q) (λc q=>?_) λc u q=>?_
   ·rcases a with y | y
    ·rw[y];exact d b u e
    ·exact d c _ y
   ·rw[aC (f _ _ q)];exact q
   ·rw[aC (f _ _ q)];exact q
end
def kh(b:Bool)(K:FR)(H:Hp)(l:Addr)(a:List V):Prop:=match b with
 | true=>eV K H l a
 | false=>iZ K H l a
def kh.of(I:L2.Inv X pins σ H s)(q:kh b X.K H l xs):∃a:List Value,Vals xs a/\Of b s.heap l a.toArray:=by
 cases b with
 | true=>obtain⟨a,r,p,_⟩:=I.list (show eV X.K H l xs from q);exact⟨a,r,p.isList⟩
 | false=>obtain⟨a,r,p,_⟩:=I.tuple (show iZ X.K H l xs from q);exact⟨a,r,p⟩
def kh.inj(I:L2.Inv X pins σ H s)(q:kh b X.K H l xs)(a:kh b X.K H l c):xs=c:=by
 cases b with
 | true=>exact I.zT q a
 | false=>exact I.uK q a
def V1(b:Bool)(K:FR)(l:Addr):It:=
 ⟨λi H=>∃a x,kh b K H l a/\a[i]?=some x,λi H x c=>∃p y,H p=none/\x=.ref p/\c=upd H p (.tup [.int (i:Int),y])/\∀a,kh b K H l a->a[i]?=some y,λi H=>∃a,kh b K H l a/\a.length<=i⟩
def V0(b c:Bool)(K:FR)(l m:Addr):It:=
 ⟨λi H=>∃a d x y,kh b K H l a/\kh c K H m d/\a[i]?=some x/\d[i]?=some y,
  λi H x e=>∃p u v,H p=none/\x=.ref p/\e=upd H p (.tup [u,v])/\(∀a,kh b K H l a->a[i]?=some u)/\∀a,kh c K H m a->a[i]?=some v,
  λi H=>∃a d,kh b K H l a/\kh c K H m d/\(a.length<=i\/d.length<=i)⟩
def Ew{P:Program}{w:World}{K:FR}{es:List Expr}{k0:Nat}{pos:Pos}(b:Bool)(l e j:Addr)(ne:e≠j):Turn P w K (.Tuple es k0 pos) (V1 b K l) [e,j] e (λi h=>(∃old,IsEnum h e j i old)/\At b h j l i) where
 mem:=by simp
 obj:=λi h st a c=>by
  obtain⟨⟨old,d⟩,o,m,_,d2⟩:=st;simp at c;rcases c with rfl | rfl
  ·exact⟨_,d,λv z=>by cases z⟩
  ·exact⟨o,m,λv z=>by rw[d2] at z;cases z⟩
 keep:=λi h h' ⟨⟨old,d⟩,m⟩ k=>⟨⟨old,k e (by simp) _ d⟩,m.up λo q=>k j (by simp) o q⟩
 item:=by
  intro X N J R T i g s Y H E I y st L;subst N J R;obtain⟨Z,x,t,G⟩:=L;obtain⟨⟨old,d⟩,m⟩:=st;obtain⟨C,rv,O⟩:=t.of I;obtain⟨u,hu,ru⟩:=rv.get G;have p:∀a∈[e,j],a < s.heap.objs.size:=λa c=>by
   simp at c;rcases c with rfl | rfl
   ·exact WH d
   ·exact m.lt
  refine FU d m O (x:=u) (by simpa using hu) ne λh' a1 a2 a3 a4 a5=>⟨_,rfl,wpAny_letOwnedTupleGo_enum a1 λS b1 U=>?_⟩;have hp:H s.heap.objs.size=none:=I.a8.fresh (WB _);have I1:=CT (t':=s.toks+1) (vs:=[.int (i:Int),x]) (us:=[.int i s.toks,u]) (n:=0) I (λa o c q=>a5 a o (λz=>c (by simp[z])) (λz=>c (by simp[z])) q) y p a3 (.cons ⟨_,rfl⟩ (.cons ru .nil)) (show 2<=sizeLine by decide);have r:∀a∈[e,j],eG X g (upd H s.heap.objs.size (.tup [.int (i:Int),x])) a:=λa c=>by
   obtain⟨f0,f⟩:=y a c;exact⟨by rw[aC (WZ (p a c))];exact f0,f⟩
  have I2:=qt (t':=s.toks+1) I1 (h':=S) (λa o c q=>U.extBut a o (λz=>c (by simp[z])) q) r;exact⟨.ref s.heap.objs.size,_,I2,rfl,⟨_,x,hp,rfl,rfl,λys hy=>by rw[hy.inj I t];exact G⟩,⟨⟨_,by simpa using b1⟩,a2.up λo q=>U.extBut j o (XJ ne) q⟩,λa c=>(r a c).1⟩
 done:=by
  intro X N J R T i g s Y H E I y st L;subst N J R;obtain⟨Z,t,G⟩:=L;obtain⟨⟨old,d⟩,m⟩:=st;obtain⟨C,rv,O⟩:=t.of I;have hl:=rv.length;exact Ji (I.ok.hd T) d m O (by simp;lia) λh' eb=>⟨rfl,qt (t':=s.toks) I (λa o c q=>eb a o (λz=>c (by simp[z])) q) y⟩
 self:=λA i s Q E ⟨⟨old,d⟩,_⟩ q=>by
  have M:s.TypeIs (.ref e) "enumerate":=⟨_,d,rfl⟩;refine AaR M F.slot_enumerate_iter (Xg F.slot_enumerate_iter M F.entry_enumerate_iter ?_ (F.args_enumerate_iter_1 _));show wpAny _ _ (ret (.ref e)) _ _ s;exact Wt ⟨_,rfl,"enumerate",_,M,Y5.lookup,q⟩
def Gv{P:Program}{w:World}{K:FR}{es:List Expr}{k0:Nat}{pos:Pos}(b c:Bool)(z T U p q l m:Addr)(D:Zp z T U p q l m):
  Turn P w K (.Tuple es k0 pos) (V0 b c K l m) [z,T,U,p,q] z (λi h=>IsZip h z T U .none/\IsPair h T (.ref p) (.ref q)/\(∃u v,IsPair h U u v)/\At b h p l i/\At c h q m i) where
 mem:=by simp
 obj:=λi h st a d=>by
  obtain⟨L,t,⟨u,v,J⟩,⟨o4,G,_,d4⟩,⟨o5,F,_,d5⟩⟩:=st;simp at d;rcases d with rfl | rfl | rfl | rfl | rfl
  ·exact⟨_,L,λv z=>by cases z⟩
  ·exact⟨_,t,λv z=>by cases z⟩
  ·exact⟨_,J,λv z=>by cases z⟩
  ·exact⟨o4,G,λv z=>by rw[d4] at z;cases z⟩
  ·exact⟨o5,F,λv z=>by rw[d5] at z;cases z⟩
 keep:=λi h h' ⟨L,t,⟨u,v,J⟩,G,F⟩ k=>⟨k z (by simp) _ L,k T (by simp) _ t,⟨u,v,k U (by simp) _ J⟩,G.up λo e=>k p (by simp) o e,F.up λo e=>k q (by simp) o e⟩
 item:=by
  intro X hP hw hK hc i C s σ H E I hf st hg;subst hP hw hK;obtain⟨xs,ys,x,y,j,g,hx,hy⟩:=hg;obtain⟨L,t,⟨u,v,J⟩,G,F⟩:=st;obtain⟨is1,N,R⟩:=j.of I;obtain⟨is2,M,O⟩:=g.of I;obtain⟨u1,hu1,ru1⟩:=N.get hx;obtain⟨u2,hu2,ru2⟩:=M.get hy;have S:∀a∈[z,T,U,p,q],a < s.heap.objs.size:=λa d=>by
   simp at d;rcases d with rfl | rfl | rfl | rfl | rfl
   ·exact WH L
   ·exact WH t
   ·exact WH J
   ·exact G.lt
   ·exact F.lt
  refine yC D L t J G F R O (x:=u1) (y:=u2) (by simpa using hu1) (by simpa using hu2) λh' a1 a2 a3 a4 a5 a6 a7=>⟨_,rfl,wpAny_letOwnedTupleGo_zip a1 λh'' b1 Z=>?_⟩;have hp:H s.heap.objs.size=none:=I.a8.fresh (WB _);have I1:=CT (t':=s.toks) (vs:=[x,y]) (us:=[u1,u2]) (n:=0) I (h':=h') (fp:=[z,T,U,p,q]) (λa o d e=>a7 a o (λr=>d (by simp[r])) (λr=>d (by simp[r])) (λr=>d (by simp[r])) (λr=>d (by simp[r])) e) hf S a5 (.cons ru1 (.cons ru2 .nil)) (show 2<=sizeLine by decide);have Y:∀a∈[z,T,U,p,q],eG X C (upd H s.heap.objs.size (.tup [x,y])) a:=λa d=>by
   obtain⟨f0,f⟩:=hf a d;exact⟨by rw[aC (WZ (S a d))];exact f0,f⟩
  have I2:=qt (t':=s.toks) I1 (h':=h'') (fp:=[z,T,U,p,q]) (λa o d e=>Z.extBut a o (λr=>d (by simp[r])) e) Y;have hT':=a7 T _ D.Tz D.TU D.Tp D.Tq t;exact⟨.ref s.heap.objs.size,_,I2,rfl,⟨_,x,y,hp,rfl,rfl,λzs hz=>by rw[hz.inj I j];exact hx,λzs hz=>by rw[hz.inj I g];exact hy⟩,
   ⟨b1,Z.extBut T _ D.Tz hT',⟨_,_,Z.extBut U _ D.Uz a2⟩,a3.up λo e=>Z.extBut p o D.pz e,a4.up λo e=>Z.extBut q o D.qz e⟩,λa d=>(Y a d).1⟩
 done:=by
  intro X hP hw hK hc i C s σ H E I hf st hg;subst hP hw hK;obtain⟨xs,ys,j,g,hx⟩:=hg;obtain⟨L,t,⟨u,v,J⟩,G,F⟩:=st;obtain⟨is1,N,R⟩:=j.of I;obtain⟨is2,M,O⟩:=g.of I;have hl1:=N.length;have hl2:=M.length;exact CP (I.ok.hd hc) D L t J G F R O (by simp;lia) λh' eb=>⟨rfl,qt (t':=s.toks) I (fp:=[z,T,U,p,q]) (λa o d e=>eb a o (λr=>d (by simp[r])) (λr=>d (by simp[r])) (λr=>d (by simp[r])) (λr=>d (by simp[r])) e) hf⟩
 self:=λA i s Q E st h=>wpAny_pyIter_zip st.1 h
def boot_zip:bootBuiltins "zip"=some (.type "zip"):=by decide+kernel
def F4:bootBuiltins "enumerate"=some (.type "enumerate"):=by decide+kernel
def MG(n l m:Nat)(hl:l < n)(hm:m < n):Zp (n+4) (n+2) (n+3) n (n+1) l m:=by
 constructor <;> (intro h;have h:(_:Nat)=_:=h;lia)
def Lg(E:Gl X "enumerate")(hm:X.mg "enumerate"=none)(G:PA X [a] r)(z:starEach [a] X.env=[(false,eval a X.env)]:=by ac_nf):
  PI X (.Tuple es k0 i) (.Call (.Name "enumerate" p) [a] [] pos) (λj H R=>r j H λm g=>∃l b,m=[.ref l]/\(∃k,kh b X.K g l k)/\R (V1 b X.K l) g):=by
 intro d s j H R I h;refine Call_ (fW I E hm F4 (Xr (b5 (G pos d s j H _ I h) λus s1 u9=>?_) z rfl));obtain⟨m,g,f,v,x⟩:=u9;obtain⟨l,b,e,⟨k,C⟩,q⟩:=x;subst e;obtain⟨u,rfl,t⟩:=Vals.one v;obtain rfl:u=Value.ref l:=t;obtain⟨y,rv,J⟩:=C.of f;refine FT J λo a1 a2 a3 a4=>?_;have L:L2.Inv X d j g {s1 with heap:=o}:=f.kept (t':=s1.toks) a4;have F:∀c∈[s1.heap.objs.size+1,s1.heap.objs.size],eG X d g c:=λc n=>by
  simp at n;rcases n with rfl | rfl
  ·exact f.uA (YC _) (f.a8.fresh (YC _))
  ·exact f.uA (WB _) (f.a8.fresh (WB _))
 have T:=Ew (P:=X.prog) (w:=X.w) (K:=X.K) (es:=es) (k0:=k0) (pos:=i) b l (s1.heap.objs.size+1) s1.heap.objs.size (Nat.succ_ne_self _);refine T.self X.A 0 {s1 with heap:=o} _ X.xe ⟨⟨_,a1⟩,a2⟩ ?_;exact⟨_,[s1.heap.objs.size+1,s1.heap.objs.size],_,_,g,rfl,L,T,⟨⟨_,a1⟩,a2⟩,F,q⟩
def OK(hg:Gl X "zip")(hm:X.mg "zip"=none)(ha:PA X [a,t] M)(Z:starEach [a,t] X.env=[(false,eval a X.env),(false,eval t X.env)]:=by ac_nf)(k:starEach [t] X.env=[(false,eval t X.env)]:=by ac_nf):
  PI X (.Tuple es k0 i) (.Call (.Name "zip" p) [a,t] [] pos) (λy H R=>M y H λE g=>∃l m b c,E=[.ref l,.ref m]/\(∃z,kh b X.K g l z)/\(∃z,kh c X.K g m z)/\R (V0 b c X.K l m) g):=by
 intro f s y H R I h;refine Call_ (fW I hg hm boot_zip (Xr (b5 (ha pos f s y H _ I h) λus s1 ⟨E,g,x,O,Q⟩=>?_) (by rw[Z,k]) (by rw[k];rfl)));obtain⟨l,m,b,c,e,⟨z,hq⟩,⟨ys,C⟩,q⟩:=Q;subst e;obtain⟨u,v,rfl,N,j⟩:=Vals.two O;obtain rfl:u=Value.ref l:=N;obtain rfl:v=Value.ref m:=j;obtain⟨Y,rv,G⟩:=hq.of x;obtain⟨F,j,r⟩:=C.of x;refine yB G r λJ a1 a2 a3 a4 L a6 a7=>?_;have I2:L2.Inv X f y g {s1 with heap:=J}:=x.kept (t':=s1.toks) a7;have hf:∀d∈[s1.heap.objs.size+4,s1.heap.objs.size+2,s1.heap.objs.size+3,s1.heap.objs.size,s1.heap.objs.size+1],eG X f g d:=λd hd=>by
  simp at hd;have:s1.heap.objs.size<=d:=by lia
  exact x.uA this (x.a8.fresh this)
 have U:l < s1.heap.objs.size:=by obtain⟨o,n,e,_⟩:=G.data;exact WH e
 have S:m < s1.heap.objs.size:=by obtain⟨o,n,e,_⟩:=r.data;exact WH e
 have D:Zp (s1.heap.objs.size+4) (s1.heap.objs.size+2) (s1.heap.objs.size+3) s1.heap.objs.size (s1.heap.objs.size+1) l m:=MG _ _ _ U S;have T:=Gv (P:=X.prog) (w:=X.w) (K:=X.K) (es:=es) (k0:=k0) (pos:=i) b c _ _ _ _ _ l m D;refine T.self X.A 0 {s1 with heap:=J} _ X.xe ⟨a1,a2,⟨_,_,a3⟩,a4,L⟩ ?_;exact⟨_,[s1.heap.objs.size+4,s1.heap.objs.size+2,s1.heap.objs.size+3,s1.heap.objs.size,s1.heap.objs.size+1],_,_,g,rfl,I2,T,⟨a1,a2,⟨_,_,a3⟩,a4,L⟩,hf,q⟩
end Sb
namespace Sm
open L2 PyProof.Rows
noncomputable def iP:Nat->List D->List D
 | _,[]=>[]
 | k,x::r=>.tup [.int (k:Int),x]::iP (k+1) r
noncomputable def nU:List D->List D->List D
 | x::r,y::s=>.tup [x,y]::nU r s
 | _,_=>[]
theorem oK:∀(a:List D)(k i:Nat),(iP k a)[i]?=(a[i]?).map λx=>.tup [.int ((k+i:Nat):Int),x]
 | [],k,i=>by simp[iP]
 | x::r,k,0=>by simp[iP]
 | x::r,k,i+1=>by
  show(iP (k+1) r)[i]?=_;rw[oK r (k+1) i];simp only[XD];congr 1
  funext y
  rw[show k+1+i=k+(i+1) by lia]
theorem fA:∀(a:List D)(k:Nat),(iP k a).length=a.length
 | [],_=>rfl
 | _::r,k=>by simp[iP,fA r (k+1)]
theorem yD:∀(b a:List D)(i:Nat),(nU b a)[i]?=(b[i]?).bind λx=>(a[i]?).map λy=>.tup [x,y]
 | [],_,i=>by simp[nU]
 | _::_,[],i=>by simp[nU]
 | x::r,y::s,0=>by simp[nU]
 | x::r,y::s,i+1=>by
  show(nU r s)[i]?=_;rw[yD r s i];simp
theorem oW:∀(b a:List D),(nU b a).length=min b.length a.length
 | [],_=>by simp[nU]
 | _::_,[]=>by simp[nU]
 | x::r,y::s=>by simp[nU,oW r s]
def SeqAt.C1{K:FR}{H:Hp}{a:Addr}{c:List V}{b:Bool}(q:SeqAt K H a c b):Sb.kh b K H a c:=by
 cases q with
 | l q=>exact q
 | t q=>exact q
def Cw(a:ir (ws++b) h=true):ir ws h=true/\ir b h=true:=by
 induction ws with
 | nil=>exact⟨rfl,a⟩
 | cons x r c=>
  obtain⟨n,o⟩:=x;simp only[AaD,ir,WS] at a ⊢;obtain⟨e,d⟩:=c a.2;exact⟨⟨a.1,e⟩,d⟩
def zY(m:AM):IM:=λa h=>(m a h).bind λp=>match p.1 with
 | [d]=>(cp d p.2).map λq=>(iP 0 q.1,q.2,p.2)
 | _=>none
def PD(m:AM):IM:=λa h=>(m a h).bind λp=>match p.1 with
 | [d,e]=>(cp d p.2).bind λq=>(cp e p.2).map λr=>(nU q.1 r.1,q.2++r.2,p.2)
 | _=>none
def Pm{c:Type}{l:List c}(h:l.length=2):∃a b,l=[a,b]:=by
 cases l with
 | nil=>cases h
 | cons a l=>obtain⟨b,rfl⟩:=YU.mp (Nat.succ.inj h);exact⟨a,b,rfl⟩
def wI(O:Gl X "enumerate")(hm:X.mg "enumerate"=none)(T:SA X [a] m)(hl:jK m 1)(N:starEach [a] X.env=[(false,eval a X.env)]:=by ac_nf):SI X (.Tuple es k0 r) (.Call (.Name "enumerate" p) [a] [] pos) (zY m):=
 (Sb.Lg O hm T N).imp λσ H Q G=>by
  obtain⟨E,F,h,xs,c,h',R,S,e,k⟩:=G;obtain⟨⟨ds,Z⟩,A,e2⟩:=aZ e;refine⟨E,F,h,ds,Z,R,S,A,λvs j H1 T1 C J=>?_⟩;obtain⟨d,rfl⟩:=YU.mp (hl _ _ _ _ A);obtain⟨⟨ys,w⟩,e3,e4⟩:=eg e2;cases e4;obtain⟨v,rfl,rd⟩:=rep1 J;obtain⟨a,rfl,⟨us,q,l⟩,st⟩:=ie C rd e3;refine⟨a,sE d,rfl,⟨us,q.C1⟩,k _ j H1 T1 C ⟨λg H2 Y T2 b P i=>?_⟩⟩;obtain⟨c,s,n⟩:=st g H2 Y T2 b P;refine⟨λt=>⟨c,n.C1,by rw[s.length];rw[fA] at t;exact t⟩,λx f=>?_⟩;rw[oK] at f;obtain⟨y,ey,f⟩:=eg f;subst f;obtain⟨v,z,rv⟩:=s.got ey;refine⟨⟨c,v,n.C1,z⟩,λu H3 u9=>?_⟩;obtain⟨p,I,hp,M,U,L⟩:=u9;subst M;subst U;have o:I=v:=by have:=L c n.C1;rw[z] at this;exact(Option.some.inj this).symm
  subst o;refine⟨cA.laid b hp,b.laid hp,.tup (.inl ⟨.inl aO,b.fresh hp⟩) (.cons ?_ (.cons (rv.mono (cA.laid b hp).toCh) .nil))⟩;rw[Y6];exact .int _
def NW(hg:Gl X "zip")(hm:X.mg "zip"=none)(ha:SA X [a,b] m)(hl:jK m 2)(hs:starEach [a,b] X.env=[(false,eval a X.env),(false,eval b X.env)]:=by ac_nf)(L:starEach [b] X.env=[(false,eval b X.env)]:=by ac_nf):
  SI X (.Tuple es k0 O) (.Call (.Name "zip" p) [a,b] [] pos) (PD m):=
 (Sb.OK hg hm ha hs L).imp λσ H Q zz=>by
  obtain⟨ρ,δ,h,xs,s,h',R,S,e,k⟩:=zz;obtain⟨⟨ds,h1⟩,Z,e2⟩:=aZ e;refine⟨ρ,δ,h,ds,h1,R,S,Z,λvs t H1 T1 N r1=>?_⟩;obtain⟨d,d',rfl⟩:=Pm (hl _ _ _ _ Z);obtain⟨⟨ys,w⟩,e3,e4⟩:=aZ e2;obtain⟨⟨zs,w'⟩,e5,e6⟩:=eg e4;cases e6;obtain⟨v,z,rfl,rd,F⟩:=rep2 r1;obtain⟨a,rfl,⟨us,q,l⟩,st⟩:=ie N rd e3;obtain⟨a',rfl,⟨A,q',l'⟩,C⟩:=ie N F e5;refine⟨a,a',sE d,sE d',rfl,⟨us,q.C1⟩,⟨A,q'.C1⟩,k _ t H1 T1 N ⟨λn H2 U T2 g hc i=>?_⟩⟩;obtain⟨c1,c2⟩:=Cw hc;obtain⟨s,P,G⟩:=st n H2 U T2 g c1;obtain⟨c,o,f⟩:=C n H2 U T2 g c2;refine⟨λT=>⟨s,c,G.C1,f.C1,by rw[P.length,o.length];rw[oW] at T;dsimp only at T;lia⟩,λx j=>?_⟩;rw[yD] at j;obtain⟨y,ey,j⟩:=aZ j;obtain⟨y',M,j⟩:=eg j;subst j;obtain⟨v,Y,rv⟩:=P.got ey;obtain⟨z,r,E⟩:=o.got M;refine⟨⟨s,c,v,z,G.C1,f.C1,Y,r⟩,λu H3 u9=>?_⟩;obtain⟨p,x1,x2,hp,hu,hH,J,I⟩:=u9;subst hu;subst hH;have z1:x1=v:=by have:=J s G.C1;rw[Y] at this;exact(Option.some.inj this).symm
  have z2:x2=z:=by have:=I c f.C1;rw[r] at this;exact(Option.some.inj this).symm
  subst z1;subst z2;exact⟨cA.laid g hp,g.laid hp,.tup (.inl ⟨.inl aO,g.fresh hp⟩) (.cons (rv.mono (cA.laid g hp).toCh) (.cons (E.mono (cA.laid g hp).toCh) .nil))⟩
def xX(d:List (Key×D)):List (Key×D)->Option Bool
 | []=>some true
 |(k,v)::r=>match dm d k with
  | none=>some false
  | some u=>(kA v).bind λa=>(kA u).bind λb=>if a.depth<=60/\b.depth<=60 then(xX d r).map λc=>PyData.eqv a b&&c else none
def Jj(ks a:List (Key×D)):Option Bool:=if ks.length=a.length then xX a ks else some false
def Nd(d e:D)(h:MH):Option Bool:=match c9 d h,c9 e h with
 | some ks,some ls=>Jj ks ls
 | _,_=>Nc d e h
def bL(d e:D)(h:MH):Option (D×MH):=(Nd d e h).map λc=>(.bl c,h)
def qh(d e:D)(h:MH):Option (D×MH):=(Nd d e h).map λc=>(.bl (!c),h)
def LX(hu:X.A.units+64 < cLine)(I:L2.Inv X pins σ H s)(M:bt X.K w H C ls)(F:KV C m):
  ∀{us:List (Key×V)} {ks:List (Key×D)} {h:List (Key×Value)} {c:Bool},bt X.K w H us ks->KV us h->xX ls ks=some c->PySem.W.KeqHits X.A.in1 s m h c:=by
 intro us
 induction us with
 | nil=>
  intro ks h c a g e;cases a;cases g;cases e;exact .nil
 | cons u0 us N=>
  intro ks h c a g e;cases a with | @cons k v _ d _ r l=>
  cases g with
  | cons g E=>
   rename_i p h;obtain⟨Z,y⟩:=p;obtain⟨u,t⟩:=g;dsimp only at u t;subst u;simp only[xX] at e;have f:=F.val k;rcases M.val k with⟨o,n⟩ |⟨d',Y,o,n,L⟩
   ·rw[o] at e;cases e;rw[n] at f;refine .miss ?_;cases q:valueAt m k with
    | none=>rfl
    | some _=>rw[q] at f;exact f.elim
   ·rw[o] at e;obtain⟨a,R,e⟩:=aZ e;obtain⟨b,Q,e⟩:=aZ e
    by_cases z:a.depth<=60/\b.depth<=60
    ·rw[WC z] at e;obtain⟨c',P,O⟩:=eg e;subst O;rw[n] at f;cases q:valueAt m k with
     | none=>rw[q] at f;exact f.elim
     | some x=>
      rw[q] at f;obtain⟨J,T⟩:=r.rR R;obtain⟨G,S⟩:=L.rR Q;obtain⟨U,j⟩:=J.reads I t;obtain⟨bs,i⟩:=G.reads I f;refine .hit q (Abl a b _ s y x U bs j i T S ?_) (N l E P);have:min a.depth b.depth<=a.depth:=AaK _ _;show X.A.units+1+min a.depth b.depth < cLine
      lia
    ·rw[WE z] at e;cases e
def Jh(F:X.A.units+64 < cLine)(I:L2.Inv X pins σ H s)(L:L2.RelV x v)(J:L2.RelV y u)(S:bC X.K G h H)(rd:Rep X.K G H x d)(M:Rep X.K G H y e)(f:Nd d e h=some c):
  (∀Q:Value->Shared->Prop,Q (.bool c) s->wpAny (model X.prog X.w) X.A (compareOp .Eq v u) Q X.xe s)/\∀Q:Value->Shared->Prop,Q (.bool (!c)) s->wpAny (model X.prog X.w) X.A (compareOp .NotEq v u) Q X.xe s:=by
 have data:Nc d e h=some c->(∀Q:Value->Shared->Prop,Q (.bool c) s->wpAny (model X.prog X.w) X.A (compareOp .Eq v u) Q X.xe s)/\∀Q:Value->Shared->Prop,Q (.bool (!c)) s->wpAny (model X.prog X.w) X.A (compareOp .NotEq v u) Q X.xe s:=by
  intro f;obtain⟨a,e3,e4⟩:=aZ f;obtain⟨b,e5,r⟩:=aZ e4
  by_cases w:a.depth<=64/\b.depth<=64
  ·rw[WC w] at r;cases r;obtain⟨r1,Y⟩:=xc S rd e3;obtain⟨Z,U⟩:=xc S M e5;obtain⟨as,j⟩:=r1.reads I L;obtain⟨bs,i⟩:=Z.reads I J;exact⟨λQ q=>eq_dataH j i (jY Y w.1) (jY U w.2) F q,λQ q=>ne_dataH j i (jY Y w.1) (jY U w.2) F q⟩
  ·rw[WE w] at r;cases r
 unfold Nd at f;cases n:c9 d h with
 | none=>rw[n] at f;exact data f
 | some ks=>
  cases E:c9 e h with
  | none=>rw[n,E] at f;exact data f
  | some ls=>
   rw[n,E] at f;obtain⟨a,us,rfl,ha,P⟩:=nq S rd n;obtain⟨b,ws,rfl,hb,O⟩:=nq S M E;obtain rfl:v=Value.ref a:=L;obtain rfl:u=Value.ref b:=J;obtain⟨_,p,l,j,C⟩:=vQ I.a8 ha;obtain⟨_,o,k,i,t⟩:=vQ I.a8 hb;have T:l.length=ks.length:=by rw[<-P.length];exact(Paired.length j).symm
   have R:k.length=ls.length:=by rw[<-O.length];exact(Paired.length i).symm
   dsimp only[Jj] at f
   by_cases z:ks.length=ls.length
   ·rw[WC z] at f;have g:=LX F I O i P j f;have m:(l.length==k.length&&c)=c:=by rw[T,R,z,YK,Zj]
    exact⟨λQ q=>PySem.W.keq_eq p o C t (by lia) (λ_=>g) (by rw[m];exact q),λQ q=>PySem.W.keq_ne p o C t (by lia) (λ_=>g) (by rw[m];exact q)⟩
   ·rw[WE z] at f;cases f;have m:(l.length==k.length&&false)=false:=Aag _;have N:l.length=k.length->PySem.W.KeqHits X.A.in1 s k l false:=λq=>absurd (by rw[<-T,<-R];exact q) z;exact⟨λQ q=>PySem.W.keq_eq p o C t (by lia) N (by rw[m];exact q),λQ q=>PySem.W.keq_ne p o C t (by lia) N (by rw[m];exact q)⟩
def O0(i:X.A.units+64 < cLine):nM X (compareOp .Eq) bL:=by
 intro a s n H x y v u Q I f b hh;obtain⟨o,h,d,e,z,p,S,rd,g,j,k⟩:=hh;obtain⟨c,m,l⟩:=eg j;cases l;exact(Jh i I f b S rd g m).1 _ ⟨.bl _,H,I,rfl,k _ _ (.here S (.bl _))⟩
def Ii(i:X.A.units+64 < cLine):nM X (compareOp .NotEq) qh:=by
 intro a s n H x y v u Q I f b hh;obtain⟨o,h,d,e,z,p,S,rd,g,j,k⟩:=hh;obtain⟨c,m,l⟩:=eg j;cases l;exact(Jh i I f b S rd g m).2 _ ⟨.bl _,H,I,rfl,k _ _ (.here S (.bl _))⟩
def kW(b:List (Key×D))(c:List (Key×D)):List (Key×D):=c.foldl (λa p=>putD a p.1 p.2) b
def bt.merge{K:FR}{f:Ad}{H:Hp}:∀{c:List (Key×V)} {e:List (Key×D)} {acc:List (Key×V)} {ac:List (Key×D)},bt K f H acc ac->bt K f H c e->bt K f H (bD acc c) (kW ac e):=by
 intro c
 induction c with
 | nil=>intro e acc ac a b;cases b;exact a
 | cons x c g=>intro e acc ac a b;cases b with | @cons k v _ d _ r l=>exact g (acc:=putK acc k v) (ac:=putD ac k d) (a.put r) l
def NS(G:X.N.Nodup)(A:X.N[i]?=some x)(s:Loc X.env.scope x)(F:SE X e q)(t:TH X op (rS X.K f))(C:X.fn x=true\/X.env.scope.names.lookup x=some .local:=by first | exact .inl rfl | exact .inr rfl | assumption):SS X (.AugAssign (.Name x pos') op e pos) (N8 i f q):=
 (OG G A s F t C).imp λE σ H u9=>by
  obtain⟨l,n,h,fl,m,h',R,S,e,k⟩:=u9;obtain⟨d,T,Q⟩:=aZ e;obtain⟨⟨y,g⟩,P,O⟩:=aZ Q;obtain⟨⟨z,I⟩,M,L⟩:=aZ O;cases L;obtain⟨v,J,r⟩:=R.at_ i d (Zd.mp T);exact⟨v,J,l,n,h,y,g,R,S,P,λu H1 ⟨b,c,Y,p⟩=>⟨b,g,d,y,z,I,Y,r.mono c,p,M,λw Z ⟨a,j,U,o⟩=>k a Z (c.trans j) U _ ((R.mono (c.trans j).toCh).set o i)⟩⟩
def LP(c:lu X (inplaceOp op) (HB q))(g:∀d e h z a,f d e h=some (z,a)->∃i j,d=.int i/\e=.int j/\a=h/\∀b H,Rep X.K b H (q i j) z):TH X op (rS X.K f):=jR c g
noncomputable def So(d e:D)(h:MH):Option (D×MH):=match d,e with
 | .int i,.int j=>some (.int (i+j),h)
 | _,_=>none
def LQ:TH X .Add (rS X.K So):=LP LR λd e h z b a=>by
 cases d <;> first |(exact cf a) | skip
 cases e <;> first |(exact cf a) | skip
 cases a;exact⟨_,_,rfl,rfl,rfl,λ_ _=>.int _⟩
def yl:bootBuiltins "list"=some (.type "list"):=by decide+kernel
def cM:bootBuiltins "tuple"=some (.type "tuple"):=by decide+kernel
def Mp:bootBuiltins "dict"=some (.type "dict"):=by decide+kernel
def qJ:bootBuiltins "bool"=some (.type "bool"):=by decide+kernel
def CC:bootBuiltins "int"=some (.type "int"):=by decide+kernel
def Jy:bootBuiltins "str"=some (.type "str"):=by decide+kernel
def Jz:bootBuiltins "len"=some (.builtin "len"):=by decide+kernel
def Qo:bootBuiltins "abs"=some (.builtin "abs"):=by decide+kernel
def bg:bootBuiltins "isinstance"=some (.builtin "isinstance"):=by decide+kernel
def Qn:bootBuiltins "all"=some (.builtin "all"):=by decide+kernel
def Qm:bootBuiltins "any"=some (.builtin "any"):=by decide+kernel
noncomputable def Kk(a:Scope)(x:Str):Bool:=match a.names.lookup x with
 | some .local=>true
 | some .cell=>true
 | some .free=>true
 | _=>false
noncomputable def ID(a:Scope)(x:Str):Bool:=match a.names.lookup x with
 | some .local=>true
 | some .cell=>true
 | _=>false
noncomputable def Sx(X:Cx)(x:Str):Bool:=X.fn x||(match X.env.scope.names.lookup x with
 | some .local=>true
 | _=>false)
def Gr(h:Kk sc x=true):QT sc x:=by
 unfold Kk at h
 split at h <;> first |(cases h;done) | skip
 ·exact .inl ‹_›
 ·exact .inr (.inl ‹_›)
 ·exact .inr (.inr ‹_›)
def B1(h:ID sc x=true):Loc sc x:=by
 unfold ID at h
 split at h <;> first |(cases h;done) | skip
 ·exact .inl ‹_›
 ·exact .inr ‹_›
def B7(h:Sx X x=true):X.fn x=true\/X.env.scope.names.lookup x=some .local:=by
 unfold Sx at h;rw[Yp] at h;rcases h with h | h
 ·exact .inl h
 ·split at h
  ·exact .inr ‹_›
  ·cases h
def sv(i:Nat)(c:X.N[i]?=some x:=by ac_nf)(b:Kk X.env.scope x=true:=by ac_nf)(hd:(x==("__debug__":Str))=false:=by ac_nf)(a:(x==("__classdict__":Str))=false:=by ac_nf):SE X (.Name x pos) (aD i):=NY c (Gr b) hd a
def sset(i:Nat)(h:X.N.Nodup)(g:SE X e a)(d:X.N[i]?=some x:=by ac_nf)(b:ID X.env.scope x=true:=by ac_nf)(c:swapsWith e (some (.Name x pos')) pos.line X.env=pure false:=by ac_nf)(f:Sx X x=true:=by ac_nf):SS X (.Assign [.Name x pos'] e pos) (aL i a):=NQ h d (B1 b) g c (B7 f)
def sgn(i:Nat)(d:X.N.Nodup)(b:X.N[i]?=some x:=by ac_nf)(a:ID X.env.scope x=true:=by ac_nf)(c:Sx X x=true:=by ac_nf):SG X (.Name x pos) (gN i):=Ky d b (B1 a) (B7 c)
def UN(i:Nat)(j:X.N.Nodup)(h:SE X e a)(c:TH X op (rS X.K f))(d:X.N[i]?=some x:=by ac_nf)(b:ID X.env.scope x=true:=by ac_nf)(g:Sx X x=true:=by ac_nf):SS X (.AugAssign (.Name x pos') op e pos) (N8 i f a):=NS j d (B1 b) h c (B7 g)
noncomputable def Bn(i j:Nat)(m:AM):SM:=λc h=>(m c h).bind λp=>match p.1 with
 | [a,b]=>some (.nx,(c.set i (some a)).set j (some b),p.2)
 | _=>none
def GK(i j:Nat){kt l c}(O:X.N.Nodup)(hl:jK m 2)(M:X.calm=true)(z:i≠j)(P:PS X (.Assign [.Tuple [.Name x w,.Name y py] kt pt] (.Tuple [a,b] l c) pos) (Rf i j (VM X.K m))):
  SS X (.Assign [.Tuple [.Name x w,.Name y py] kt pt] (.Tuple [a,b] l c) pos) (Bn i j m):=P.imp λE J H s=>by
 obtain⟨p,r,h,fl,q,Q,R,S,e,k⟩:=s;obtain⟨⟨F,A⟩,n,C⟩:=aZ e;refine⟨p,r,h,F,A,R,S,n,λL f I o G t=>?_⟩;obtain⟨d,T,rfl⟩:=Pm (hl _ _ _ _ n);cases C;obtain⟨v,u,rfl,rd,g⟩:=rep2 t;exact⟨v,u,rfl,k f I o G _ (((R.mono o.toCh).set rd i).set g j)⟩
structure Df(P:Program)(w:World)(K:FR)(mg:Str->Option Value)(base:Heap)(nm:Str)(k:Nat)(ps:List Str)(n:Nat)(F:Fn):Prop where
 ex:∃(f:Addr)(fd:FuncData),f9 P w K mg base wm k f fd ps (EE K n F)/\PySem.W.keepIn K (.ref f)=true/\Binds K fd ps []/\mg nm=some (.ref f)
def RB(d:Df X.prog X.w X.K X.mg X.base nm k s n F)(hr:eF i X.A)(j:k<=i)(q:SA X (e::a) m)(hl:jK m n)(l:Gl X nm:=by unfold Gl;ac_nf)(c:(nm==("__debug__":Str))=false:=by ac_nf)(o:starEach (e::a) X.env=(false,eval e X.env)::starEach a X.env:=by ac_nf)(b:(backTo pos (starEach a X.env)).any (·.1)=false:=by ac_nf):SE X (.Call (.Name nm p) (e::a) [] pos) (aj F m):=by
 obtain⟨f,t,G,h,r,g⟩:=d.ex;exact KD G (hr.mono j) l g h r q hl c o b
def mB{P:Program}{w:World}{K:FR}{mg:Str->Option Value}{base:Heap}{k n:Nat}{f:Addr}{c:FuncData}{b:List Str}:f9 P w K mg base wm k f c b (EE K n λ_ _=>none):=
 ⟨λa H Q E hh=>(by obtain⟨_,_,_,_,_,_,_,_,e,_⟩:=hh;cases e),λA outer s H args us a Q E _ _ _ _ hh=>(by obtain⟨_,_,_,_,_,_,_,_,e,_⟩:=hh;cases e)⟩
end Sm
namespace L2
open PyProof.Rows
abbrev TK:=St->Hp->(St->Hp->Prop)->Prop
def PM(B:Cx)(c:Sem Unit)(t:TK):Prop:=
 ∀(a:List (Addr×Obj)) (s:Shared) (d:St) (H:Hp) (N:St->Hp->Prop),Inv B a d H s->t d H N->wpAny (model B.prog B.w) B.A c (λ_ f=>∃b e,Inv B a b e f/\N b e) B.xe s
def tK(J:It)(g:TG)(o:TT)(n:TK)(N:St->Hp->Prop)(f:St)(q:Hp):Prop:=
 ∃W:Nat->Nat->St->Hp->Prop,(∃m,W 0 m f q)/\∀i m h d,W i m h d->
  (J.stop i d/\N h d)\/(J.go i d/\∃j:St->Hp->Prop,(∀c e,j c e->∃k,k < m/\W (i+1) k c e)/\∀x e,J.MI i d x e->g x h e λa p=>
   o a p λb l=>if b=true then n a l j else j a l)
noncomputable def fM(e:Expr)(d:Nat)(h:Expr)(b:List Expr)(f:Sem Unit)(p:Pos)(a g:Value)(env:Env):Sem Fin:=do
 standAt p
 match<-pyNext a with
 | none=>pure (.done .next)
 | some v=>
  letOwnedTupleGo h a v
  assign h env v
  let mut ok:=true
  for c in b do
   if ok then ok<-isTrue c env (eval c env)
  if ok then f
  again (.compLoop e d a g env)
noncomputable def mC(e:Expr)(d:Nat)(a:Expr)(b:Value)(env:Env):Sem Unit:=do
 let x<-eval a env
 standAt a.pos
 let x<-foldedSetIterable a env x;let _<-runOwn (.compStart e d (<-holding [x] (pyIter x)) b env) env
noncomputable def emitSet(a:Expr)(b:Value)(env:Env):Sem Unit:=do let v<-eval a env;standAt a.pos;let _<-call (.builtin "set.add") [b,v]
def Et(a c d:Expr)(e:List Expr)(f:Scope)(pos:Pos)(g b:Value)(env:Env):
  compTurn (.SetComp a [⟨c,d,e,0⟩] f pos) 0 g b env=fM (.SetComp a [⟨c,d,e,0⟩] f pos) 0 c e (emitSet a b env) d.pos g b env:=by rfl
noncomputable def m9(k v:Expr)(d:Addr)(env:Env):Sem Unit:=do
 let a<-eval k env;let b<-holding [a] (eval v env)
 standAt {k.pos with endLine:=v.pos.endLine,endCol:=v.pos.endCol}
 holding [a,b] (dictSet d a b)
def AZ(k v a b:Expr)(c:List Expr)(e:Scope)(pos:Pos)(f:Value)(d:Addr)(env:Env):
  compTurn (.DictComp k v [⟨a,b,c,0⟩] e pos) 0 f (.ref d) env=fM (.DictComp k v [⟨a,b,c,0⟩] e pos) 0 a c (m9 k v d env) b.pos f (.ref d) env:=by rfl
noncomputable def m8(a:Expr)(b:Value)(env:Env):Sem Unit:=do let _<-call (.builtin "list.append") [b,<-eval a env]
def wu(a f g i e:Expr)(h l:List Expr)(j:Scope)(pos:Pos)(k d:Value)(env:Env):
  compTurn (.ListComp a [⟨f,g,h,0⟩,⟨i,e,l,0⟩] j pos) 0 k d env=fM (.ListComp a [⟨f,g,h,0⟩,⟨i,e,l,0⟩] j pos) 0 f h (mC (.ListComp a [⟨f,g,h,0⟩,⟨i,e,l,0⟩] j pos) 1 e d env) g.pos k d env:=by
 refine Eq.trans (b:=(do
   standAt g.pos
   match<-pyNext k with
   | none=>pure (.done .next)
   | some v=>
    letOwnedTupleGo f k v
    assign f env v
    let mut ok:=true
    for c in h do
     if ok then ok<-isTrue c env (eval c env)
    if ok then
     let x<-eval e env
     standAt e.pos
     let x<-foldedSetIterable e env x;let _<-runOwn (.compStart (.ListComp a [⟨f,g,h,0⟩,⟨i,e,l,0⟩] j pos) 1 (<-holding [x] (pyIter x)) d env) env
    again (.compLoop (.ListComp a [⟨f,g,h,0⟩,⟨i,e,l,0⟩] j pos) 0 k d env):Sem Fin)) rfl ?_
 unfold fM mC;simp only[bind_assoc,pure_bind]
def wt(a f i c d:Expr)(j e:List Expr)(g:Scope)(pos:Pos)(h b:Value)(env:Env):
  compTurn (.ListComp a [⟨f,i,j,0⟩,⟨c,d,e,0⟩] g pos) 1 h b env=fM (.ListComp a [⟨f,i,j,0⟩,⟨c,d,e,0⟩] g pos) 1 c e (m8 a b env) d.pos h b env:=by rfl
structure Plain(e:Expr):Prop where
 loop:∀(P:Program)(w:World)(d:Nat)(it acc:Value)(env:Env),(model P w).den (.compLoop e d it acc env)=(compTurn e d it acc env).onRaise (λx=>do noteFrame x env;theTreesLotGoes x)
 start:∀(P:Program)(w:World)(d:Nat)(it acc:Value)(env:Env),(model P w).den (.compStart e d it acc env)=(compStart e d it acc env).onRaise (λx=>do noteFrame x env;standAt theWindowsPlace)
 ul:∀(A:Around)(d:Nat)(it acc:Value)(env:Env),A.under (.compLoop e d it acc env)=A
 us:∀(A:Around)(d:Nat)(it acc:Value)(env:Env),A.under (.compStart e d it acc env)=A
def E6(a:Expr)(c:List Comprehension)(b:Scope)(pos:Pos):Plain (.SetComp a c b pos):=⟨λ_ _ _ _ _ _=>rfl,λ_ _ _ _ _ _=>rfl,λ_ _ _ _ _=>rfl,λ_ _ _ _ _=>rfl⟩
def rX(a:Expr)(c:List Comprehension)(b:Scope)(pos:Pos):Plain (.ListComp a c b pos):=⟨λ_ _ _ _ _ _=>rfl,λ_ _ _ _ _ _=>rfl,λ_ _ _ _ _=>rfl,λ_ _ _ _ _=>rfl⟩
def BF(k v:Expr)(b:List Comprehension)(a:Scope)(pos:Pos):Plain (.DictComp k v b a pos):=⟨λ_ _ _ _ _ _=>rfl,λ_ _ _ _ _ _=>rfl,λ_ _ _ _ _=>rfl,λ_ _ _ _ _=>rfl⟩
def Nf(hk:Plain e)(ht:compTurn e d (.ref it) acc B.env=fM e d tg ifs act p (.ref it) acc B.env)(hc:B.calm=true)(hx:B.xe=λ_ _=>False)(hg:PG B tg g)(U:JV B ifs tc)(hm:PM B act tm)(I:Inv B pins τ H s)(T:Turn B.prog B.w B.K tg J C it R)(st:R 0 s.heap)(hf:∀b∈C,eG B pins H b)(hw:tK J g tc tm N τ H):
  codeAny (model B.prog B.w) B.A (.compLoop e d (.ref it) acc B.env) (λr P=>r=.ok .next/\∃a c,Inv B pins a c P/\N a c) s:=by
 obtain⟨W,⟨m0,w0⟩,G⟩:=hw;have j:∀{c:Hp},(∀b∈C,c b=none)->∀b∈C,eG B pins c b:=λhn b l=>⟨hn b l,(hf b l).2⟩;have up:∀{α:Type} {t:Sem α} {Q:α->Shared->Prop} {E:Value->Shared->Prop} {s:Shared},wpAny (model B.prog B.w) B.A t Q B.xe s->wpAny (model B.prog B.w) B.A t Q E s:=λh=>Q7 (hx ▸ h);refine codeAny_loop rfl (λn P=>∃i a c,Inv B pins a c P/\R i P.heap/\(∀b∈C,c b=none)/\W i n a c) ?_ m0 ⟨0,_,_,I,st,λb l=>(hf b l).1,w0⟩;rintro n s4 ⟨i,k,Z,J4,L,O,w4⟩;rw[hk.ul,hk.loop];refine wpAny_noted ?_;rw[ht];unfold fM;rcases G i n k Z w4 with⟨stop,qn⟩ |⟨go,N',hN,step⟩
 ·refine Wr (Yb (Wr (Xv (T.done B rfl rfl rfl hc i pins s4 k Z _ J4 (j O) L stop) (λr s5 M=>?_) λ_ _ e=>e)));obtain⟨hr,J5⟩:=M;subst hr;exact Wt ⟨rfl,_,_,J5,qn⟩
 ·refine Wr (Yb (Wr (Xv (T.item B rfl rfl rfl hc i pins s4 k Z _ J4 (j O) L go) (λr s5 M=>?_) λ_ _ e=>e)));obtain⟨u,hr,M⟩:=M;subst hr;refine Wr (Xv M (λ_ s6 h6=>?_) λ_ _ e=>e);obtain⟨x,H6,J6,r6,y6,y,X⟩:=h6;have Y:=J6.pinned (j X) (T.obj _ _ y);refine Wr (Xv (up (hg _ s6 k H6 x u _ Y r6 (step x H6 y6))) (λ_ s7 h7=>?_) λ_ _ e=>e);obtain⟨v,H7,J7,q7⟩:=h7;have again:∀{f:St} {q:Hp} {z:Shared},Inv B (pins++ow C s6.heap) f q z->N' f q->
    ∃m,m < n/\∃i a c,Inv B pins a c z/\R i z.heap/\(∀b∈C,c b=none)/\W i m a c:=λ{f q z} F n8=>by
   obtain⟨m',hm,w8⟩:=hN f q n8;refine⟨m',hm,i+1,f,q,F.i4,T.keep _ _ _ y λb l o e=>(F.pin (b,o) (W9 _ (W9 _ (eB l e)))).1,λb l=>?_,w8⟩;obtain⟨o,e,d⟩:=T.obj _ _ y b l;exact(F.pin (b,o) (W9 _ (W9 _ (eB l e)))).2.1
  refine Wr (Xv (up (U _ s7 v H7 _ J7 q7)) (λok z h8=>?_) λ_ _ e=>e);obtain⟨q,F,q8⟩:=h8;cases ok with
  | false=>exact Wt ⟨rfl,again F (by simpa using q8)⟩
  | true=>
   have S:tm v q N':=by simpa using q8
   refine Wr (Xv (up (hm _ z v q _ F S)) (λ_ s9 h9=>?_) λ_ _ e=>e);obtain⟨τ9,H9,J9,n9⟩:=h9;exact Wt ⟨rfl,again J9 n9⟩
def Jl{env:Env}{g c:Value}{a:Expr}{prog:Program}{w:World}{A:Around}{s:Shared}{R:Result->Shared->Prop}(k:Plain e)(i:(clausesOf e)[d]?=some ⟨l,a,ifs,0⟩)
  (h0:codeAny (model prog w) A (.compLoop e d g c env) R s)
  (h:wpAny (model prog w) A (pyIter g) (λb f=>codeAny (model prog w) A (.compLoop e d b c env) R f) (notedBy (model prog w) A env λx f=>R (.error x) f) s):
  codeAny (model prog w) A (.compStart e d g c env) R s:=by
 refine codeAny_of_tree ?_;rw[k.us,k.start];refine wpAny_notedAt ?_;unfold compStart;rw[i];show wpAny _ _ (ask >>=_) _ _ s;refine Wr (YW (wpAny_ite ?_))
 split
 ·first
   | exact Wr (Wt (Wt (And.intro rfl h0)))
   | exact Wt (And.intro rfl h0)
 ·first
   | exact Wr (X2 (Wr (Yb (Wr (Xv h (λb f j=>Wt (And.intro rfl j)) λ_ _ x=>x)))))
   |(refine Wr (X2 ?_);show wpAny _ _ (standAt a.pos >>=_) _ _ s;exact Wr (Yb (Wr (Xv h (λb f j=>Wt (And.intro rfl j)) λ_ _ x=>x))))
def Rj(b:TI)(g:TG)(d:TT)(c:TK):TK:=λa H N=>b a H λJ e=>tK J g d c N a e
def Lb(k:Plain e)(j:(clausesOf e)[d]?=some ⟨f,iter,ifs,0⟩)(ht:∀c:Addr,compTurn e d (.ref c) acc B.env=fM e d f ifs act p (.ref c) acc B.env)(C:B.calm=true)(u:B.xe=λ_ _=>False)(y:PI B f iter m)(z:PG B f g)(i:JV B ifs o)(hm:PM B act n)(w:∀x,foldedSetIterable iter B.env x=pure x:=by intro _;rfl):PM B (mC e d iter acc B.env) (Rj m g o n):=by
 intro b s l H N I h;unfold mC;refine Wr (b5 (y b s l H _ I h) λv Q G=>?_);refine Wr (Yb (Wr (Aba (w v) (Wr (Xj (b5 G λt P F=>?_))))));obtain⟨c,S,O,J,U,e,M,T,a,L,E⟩:=F;subst e;have lp:=Nf k (ht c) C u z i hm M T a L E;refine Wr (wpAny_runOwn (ZG (Jl k j lp (T.self B.A 0 _ _ _ a lp)) λr R hr=>?_));obtain⟨rfl,q⟩:=hr;exact Wt q
def JW(X:Cx)(d:Sem Value)(o:Addr->HO):Prop:=∀(a:List (Addr×Obj)) (s:Shared) (b:St) (H:Hp) (Q:Value->Shared->Prop) (E:Value->Shared->Prop),Inv X a b H s->
 (∀(obj:Obj)(c:Nat),Inv X a b (upd H s.heap.objs.size (o s.heap.objs.size)) {s with heap:=s.heap.push obj,toks:=c}->Q (.ref s.heap.objs.size) {s with heap:=s.heap.push obj,toks:=c})->wpAny (model X.prog X.w) X.A d Q E s
def kK(a:List (Option Nat))(d:TI)(o:Addr->HO)(g:TG)(f:TT)(e:Addr->TK):TE:=λb H Q=>d b H λJ c=>∀l,c l=none->tK J g f (e l) (λ_ h=>Q (.ref l) h) (oO a b) (upd c l (o l))
section
variable {X:Cx} {N':List Str} {caps:List (Option Nat)} {scope:Scope} {e tg iter:Expr} {ifs:List Expr} {p:Pos} {wi:TI} {g:TG} {tc:TT} {tm:Addr->TK} {o:Addr->HO} {na:Sem Value} {act:Addr->Env->Sem Unit}
def Qc(S:ba X N' caps scope)(hc:X.calm=true)(hk:Plain e)(hcl:(clausesOf e)[0]?=some ⟨tg,iter,ifs,0⟩)(ht:∀(U l:Addr)(env:Env),compTurn e 0 (.ref U) (.ref l) env=fM e 0 tg ifs (act l env) p (.ref U) (.ref l) env)
  (hA:JW X na o) (hg:∀C a f i pl,PG (eR X N' scope C a f i pl) tg g) (hif:∀C a f i pl,JV (eR X N' scope C a f i pl) ifs tc)
  (hm:∀C a f i pl l,PM (eR X N' scope C a f i pl) (act l (eR X N' scope C a f i pl).env) (tm l)) {d:List (Addr×Obj)} {Y:St} {H:Hp} {s:Shared} {U:Addr} {i:List Addr} {tn:Nat->Heap->Prop} {J:It}
  (I:Inv X d Y H s) (T:Turn X.prog X.w X.K tg J i U tn) (st:tn 0 s.heap) (hf:∀b∈i,eG X d H b) {Q:VK} {RR:Value->Addr->Result->Shared->Prop} {E:Value->Shared->Prop}
  (h:∀l,H l=none->tK J g tc (tm l) (λ_ R=>Q (.ref l) R) (oO caps Y) (upd H l (o l)))
  (hRR:∀(l C:Addr)(R:Hp)(L:Shared),R C=none->C≠X.env.locals->X.s₀.heap.objs.size<=C->(∀x c,X.env.cells.lookup x=some c->c≠C)->(∀p∈X.pn++d,p.1≠C)->(∃m,L.heap.Ns C m)->Inv X d Y R L->
   (∀h'':Heap,(∀b u,b≠C->L.heap.get? b=some u->h''.get? b=some u)->Inv X d Y R {L with heap:=h''})->Q (.ref l) R->RR (.ref l) C (.ok .next) L):
  wpAny (model X.prog X.w) X.A na (λacc a=>wpAny (model X.prog X.w) X.A (newFunctionEnv scope X.env.globals (gO X.env scope.names []) [] X.env.qual none .none (some X.env)) (λP Z=>
   codeAny (model X.prog X.w) X.A (.compStart e 0 (.ref U) acc {P with scope:=relabel scope X.env}) (RR acc P.locals) Z) E a) E s:=by
 have hw:=h s.heap.objs.size I.fresh;refine hA d s Y H _ _ I λobj t' G=>wpAny_newFunctionEnv S.BW (by intro y hy;simp at hy) (λM t n=>?_) S.kind;have N:∀b∈i,b < s.heap.objs.size:=λb j=>by
  obtain⟨o,e,_⟩:=T.obj 0 _ st b j;exact WH e
 have F:∀b∈i,eG X d (upd H s.heap.objs.size (o s.heap.objs.size)) b:=λb j=>⟨by rw[aC (WZ (N b j))];exact(hf b j).1,(hf b j).2⟩;have k:∀b u,(s.heap.push obj).get? b=some u->M.get? b=some u:=λb u e=>n.extBut b u (WZ (WH e)) (Wu _ e);have st3:tn 0 M:=T.keep 0 _ _ st λb j o e=>k b o (Wu _ e);have O:∀b∈i,b < (s.heap.push obj).objs.size:=λb j=>by
  have:=N b j;rw[XF];exact Nat.lt_succ_of_lt this
 have J0:=Inv.block S G hc F O t k (t₄:=t');have fpB:∀b∈i,eG (eR X N' scope (s.heap.push obj).objs.size {s with heap:=s.heap.push obj,toks:=t'} (upd H s.heap.objs.size (o s.heap.objs.size)) i d) [] (upd H s.heap.objs.size (o s.heap.objs.size)) b:=λb j=>by
  obtain⟨f0,f1,f2,f3,f4,f5⟩:=F b j;refine⟨f0,WZ (O b j),λz=>?_,.inl j,λx c e=>f4 x c (S.look G.ok e),λp hp=>?_⟩
  ·rcases WI.mp (G.nY b z) with q | q
   ·exact f1 q
   ·exact f2 q
  ·rcases Xi.mp hp with q | q
   ·exact f5 p q
   ·cases q
 have lp:=Nf hk (ht U s.heap.objs.size _) rfl rfl (hg _ _ _ _ _) (hif _ _ _ _ _) (hm _ _ _ _ _ s.heap.objs.size) J0 T st3 fpB hw;refine ZG (Jl hk hcl lp (T.self X.A 0 _ _ _ st3 lp)) λr L hr=>?_;obtain⟨rfl,τ,R,J,q⟩:=hr;refine hRR _ _ R L J.free ?_ ?_ ?_ ?_ ?_ ?_ ?_ q
 ·exact(WZ G.lt).symm
 ·exact G.sz
 ·intro x c e z;obtain⟨v,o,ho,_⟩:=G.cell x c e;exact WZ (WH ho) z
 ·intro p hp z;obtain⟨e,_⟩:=G.pin p hp;exact WZ (WH e) z
 ·obtain⟨m,hm,_⟩:=J.loc;exact⟨m,hm⟩
 ·have:=Inv.qr S G F J (h'':=L.heap) λb u _ e=>e;exact this
 ·exactλh'' hs=>Inv.qr S G F J hs
def rY(S:ba X N' caps scope)(O:X.calm=true)(G:Plain e)(j:clausesOf e=⟨tg,iter,ifs,0⟩::gs)(ht:∀(n l:Addr)(env:Env),compTurn e 0 (.ref n) (.ref l) env=fM e 0 tg ifs (act l env) p (.ref n) (.ref l) env)(Y:JW X na o)(L:PI X tg iter wi)(M:∀C a c f pl,PG (eR X N' scope C a c f pl) tg g)(r:∀C a c f pl,JV (eR X N' scope C a c f pl) ifs tc)(hm:∀C a c f pl l,PM (eR X N' scope C a c f pl) (act l (eR X N' scope C a c f pl).env) (tm l))(N:eval e X.env=comprehension e scope X.env p0 na false (eval iter X.env))(F:∀x,foldedSetIterable iter X.env x=pure x:=by intro _;rfl):PE X e (kK caps wi o g tc tm):=by
 intro d s z H Q I h;rw[N];refine Z4 (use:=none) j F (k7 (S.has I.ok)) S.kind S.names (b5 (L d s z H _ I h) λv s1 h1=>b5 h1 λE s2 Z=>?_);obtain⟨n,f,tn,J,H2,e,I2,T,k,f2,R⟩:=Z;subst e;refine Qc (RR:=λy C=>compPost (model X.prog X.w) X.A X.xe none (EP X d z Q) y C) S O G (by rw[j];rfl) ht Y M r hm I2 T k f2 R ?_;intro l C H' s' _ _ _ _ _ hm _ U q;obtain⟨m,hm⟩:=hm;exact⟨m,hm,λt i=>⟨.ref l,H',U t λb u P e=>i.extBut b u P e,rfl,q⟩⟩
end
end L2
namespace Sm
open L2 PyProof.Rows
structure Ac(α:Type)where
 at_:FR->Ad->Hp->Addr->α->Prop
 mono:∀{K:FR} {ρ ρ':Ad} {H H':Hp} {l:Addr} {a:α},at_ K ρ H l a->Ch ρ H ρ' H'->H' l=H l->at_ K ρ' H' l a
abbrev MK(α:Type):=DS->MH->α->Option (DS×MH×α)
def cZ{e:Type}(b:W)(g:GM)(c:TM)(m:MK e):List D->MK e
 | [],d,h,a=>if ir b h then some (d,h,a) else none
 | x::r,d,h,a=>if ir b h then(g x d h).bind λq=>(c q.1 q.2).bind λt=>if t.1 then(m q.1 t.2 a).bind λz=>cZ b g c m r z.1 z.2.1 z.2.2 else cZ b g c m r q.1 t.2 a else none
structure kg(l:Addr)(ρ:Ad)(H:Hp)(ρ':Ad)(H':Hp):Prop where
 ch:Ch ρ H ρ' H'
 rs:ρ'.rs=ρ.rs
 res:∀b∈ρ.rs,b≠l->H' b=H b
theorem kg.refl:kg l a H a H:=⟨.refl _ _,rfl,λ_ _ _=>rfl⟩
theorem kg.trans(a:kg l f H d H1)(b:kg l d H1 c g):kg l f H c g:=⟨a.ch.trans b.ch,b.rs.trans a.rs,λx e n=>(b.res x (a.rs ▸ e) n).trans (a.res x e n)⟩
def cA.Uj(a:cA d H c H1):kg l d H c H1:=⟨a.toCh,a.rs,λb e _=>a.res b e⟩
inductive Ts{α:Type}(K:FR)(A:Ac α)(l:Addr)(m:MK α)(τ:L2.St)(H:Hp)(N:L2.St->Hp->Prop):Prop where
 | mk (ρ δ h a δ' h' a'):b7 K ρ H τ δ->bC K ρ h H->l∈ρ.rs->A.at_ K ρ H l a->(m δ h a=some (δ',h',a'))->(∀ρ' H' τ',kg l ρ H ρ' H'->bC K ρ' h' H'->b7 K ρ' H' τ' δ'->A.at_ K ρ' H' l a'->N τ' H')->Ts K A l m τ H N
def GA{a:Type}(K:FR)(A:Ac a)(l:Addr)(m:MK a):TK:=λb H N=>Ts K A l m b H N
section
variable {α:Type} {K:FR} {A:Ac α} {l:Addr} {g:GM} {mt:TM} {m:MK α}
def Dt(It:QH K J ρ H ws xs)(T1:Ch ρ H d H1)(R:b7 K d H1 τ δ)(S:bC K d h H1)(hl:l∈d.rs)(hA:A.at_ K d H1 l a)(e:cZ ws g mt m xs δ h a=some (z,h',a'))(k:∀b f o,kg l d H1 b f->bC K b h' f->b7 K b f o z->A.at_ K b f l a'->N o f):tK J (Bb K g) (yK K mt) (GA K A l m) N τ H1:=by
 refine⟨λi n o f=>∃(b:Ad)(w:DS)(E:MH)(a2:α),n=xs.length-i/\i<=xs.length/\kg l d H1 b f/\b7 K b f o w/\bC K b E f/\A.at_ K b f l a2/\cZ ws g mt m (xs.drop i) w E a2=some (z,h',a'),
  ⟨_,d,δ,h,a,rfl,Xe _,.refl,R,S,hA,e⟩,?_⟩
 rintro i n o f ⟨b,w,E,a2,rfl,hi,F,R2,S2,M,j⟩;have L:l∈b.rs:=by rw[F.rs];exact hl
 cases q:xs.drop i with
 | nil=>
  rw[q] at j;unfold cZ at j
  by_cases C:ir ws E=true
  ·rw[WC C] at j;cases j;have hle:xs.length<=i:=by have:=congrArg List.length q;rw[YM,XO] at this;lia
   exact .inl ⟨(It.run _ f _ (T1.trans F.ch) S2 C i).1 hle,k _ _ _ F S2 R2 M⟩
  ·rw[WE C] at j;cases j
 | cons x r=>
  rw[q] at j;unfold cZ at j
  by_cases C:ir ws E=true
  ·rw[WC C] at j;have hx:xs[i]?=some x:=by
    have:=congrArg (λl=>l[0]?) q
    simpa using this
   have hlt:i < xs.length:=(Ww.mp hx).1;have hr:xs.drop (i+1)=r:=by
    have:=congrArg List.tail q
    simpa using this
   obtain⟨⟨u,h3⟩,e4,T⟩:=aZ j;obtain⟨⟨t,h4⟩,e6,O⟩:=aZ T;dsimp only at e4 T e6 O;obtain⟨hgo,hy⟩:=(It.run _ f E (T1.trans F.ch) S2 C i).2 x hx;refine .inr ⟨hgo,λG y=>∃(c:Ad)(s:DS)(Q:MH)(U:α),kg l d H1 c y/\b7 K c y G s/\bC K c Q y/\A.at_ K c y l U/\cZ ws g mt m r s Q U=some (z,h',a'),?_,?_⟩
   ·rintro G y ⟨c,s,Q,U,P,R5,X,Y,T⟩;exact⟨xs.length-(i+1),by lia,c,s,Q,U,rfl,hlt,P,R5,X,Y,by rw[hr];exact T⟩
   ·intro v H3 y3;obtain⟨T3,S3,r3⟩:=hy v H3 y3;refine⟨b,w,E,x,u,h3,R2.mono T3.toCh,S3,r3,e4,λρ4 H4 τ4 T4 S4 R4=>?_⟩;refine⟨ρ4,u,h3,t,h4,R4,S4,e6,λc y P X=>?_⟩;have p:cA b f c y:=T3.trans (T4.trans P);have Y:A.at_ K c y l a2:=A.mono M p.toCh (p.res l L);cases t with
    | false=>
     rw[WE (by simp)] at O;exact PB ⟨c,u,h4,a2,F.trans p.Uj,R4.mono P.toCh,X,Y,O⟩
    | true=>
     rw[WC rfl] at O;obtain⟨⟨I,h6,a6⟩,e8,e9⟩:=aZ O;refine Pz ⟨c,u,h4,a2,I,h6,a6,R4.mono P.toCh,X,by rw[p.rs];exact L,Y,e8,λZ H7 τ7 T7 S7 R7 A7=>?_⟩;exact⟨Z,I,h6,a6,(F.trans p.Uj).trans T7,R7,S7,A7,e9⟩
  ·rw[WE C] at j;cases j
def zk(Y:∀f H l,A.at_ K f (upd H l (o l)) l a0)(hh:∃f p h r s t n y E,b7 K f H σ p/\bC K f h H/\X p h=some (r,s,t)/\cZ s g mt m r (kH e p) t a0=some (n,y,E)/\∀l d v,cA f H d v->bC K d y v->¬d.has l->A.at_ K d v l E->Q (.ref l) v):
  kK e (Kp K X) o (Bb K g) (yK K mt) (λl=>GA K A l m) σ H Q:=by
 obtain⟨f,p,h,r,s,t,n,y,E,R,S,e1,Z,k⟩:=hh;refine⟨f,p,h,r,s,t,R,S,e1,λJ a L N P It l hl=>?_⟩;have M:¬a.has l:=P.fresh hl;have F:Ch a L (a.keep l) (upd L l (o l)):=Ch.keep hl;refine Dt It F (((R.mono N.toCh).oO e).mono F) (P.keep hl) (Wy) (Y _ _ _) Z λw u U I O R2 A2=>?_;obtain⟨i,x⟩:=w;have C:x=l::a.rs:=I.rs;subst C;have c:∀b∈a.rs,b∈l::a.rs:=λb j=>Wz _ j;have T:Ch ⟨i,l::a.rs⟩ u ⟨i,a.rs⟩ u:=Ch.free c;have q:∀b∈a.rs,b≠l:=λb j z=>M (.inr (z ▸ j));have G:cA a L ⟨i,a.rs⟩ u:=⟨(F.trans I.ch).trans T,rfl,λb j=>(I.res b (c b j) (q b j)).trans (aC (q b j))⟩;refine k l _ u (N.trans G) (O.free c) (λz=>?_) (A.mono A2 T rfl);rcases z with z | z
 ·exact(O.uY l Wy).2 z
 ·exact M (.inr z)
end
def TB{b:Type}(X:Cx)(a:Addr->Env->Sem Unit)(A:Ac b)(m:MK b):Prop:=∀l,L2.PM X (a l X.env) (GA X.K A l m)
def _root_.L2.PM.imp(h:L2.PM X a t)(i:∀b H Q,d b H Q->t b H Q):L2.PM X a d:=λc s b H Q I q=>h c s b H Q I (i b H Q q)
def zO{d:Type}(i:IM)(g:GM)(c:TM)(m:MK d):MK d:=λb h a=>(i b h).bind λp=>cZ p.2.1 g c m p.1 b p.2.2 a
section
variable {α:Type} {X:Cx} {A:Ac α} {g:GM} {mt:TM} {m:MK α} {mi:IM} {e tg iter:Expr} {ifs:List Expr} {d:Nat} {p:Pos} {act:Addr->Env->Sem Unit}
def Kt(y:Plain e)(n:(clausesOf e)[d]?=some ⟨tg,iter,ifs,0⟩)(ht:∀(c l:Addr)(env:Env),compTurn e d (.ref c) (.ref l) env=fM e d tg ifs (act l env) p (.ref c) (.ref l) env)(E:X.calm=true)(v:X.xe=λ_ _=>False)
  (z:SI X tg iter mi) (C:SG X tg g) (j:My X ifs mt) (hm:TB X act A m) (w:∀x,foldedSetIterable iter X.env x=pure x:=by intro _;ac_nf):TB X (λl env=>mC e d iter (.ref l) env) A (zO mi g mt m):=λl=>
 (Lb y n (λc=>ht c l X.env) E v z C j (hm l) w).imp λσ H Q u9=>by
  obtain⟨q,s,h,a,r,Y,Z,R,S,hl,F,I,k⟩:=u9;obtain⟨⟨t,u,G⟩,M,L⟩:=aZ I;exact⟨q,s,h,t,u,G,R,S,M,λJ o H1 b P It=>Dt It (.refl _ _) (R.mono b.toCh) P (by rw[b.rs];exact hl) (A.mono F b.toCh (b.res l hl)) L λi T f N O R2 U=>k i T f (b.Uj.trans N) O R2 U⟩
end
end Sm
namespace L2
open PyProof.Rows
theorem k5:∀(a:List α)(i:Nat)(x:α),a[i]?=some x->(x::a.eraseIdx i).Perm a
 | y::r,0,x,h=>by
  rw[Abf] at h;cases h;exact .refl _
 | y::r,i+1,x,h=>by
  rw[XD] at h;exact(List.Perm.swap y x _).trans ((k5 r i x h).cons y)
theorem CS:∀(n:Nat)(c:List α)(s:Shared)(Q:List α->Shared->Prop),n=c.length->(∀g d,g.Perm c->Q g {s with drawn:=d})->wpAny M A (drawOrder n c) Q E s
 | 0,c,s,Q,e,h=>by
  have:c=[]:=AaH e.symm;subst this;exact Wt (h [] s.drawn (.refl _))
 | n+1,[],s,Q,e,h=>by cases e
 | n+1,x::r,s,Q,e,h=>by
  unfold drawOrder;refine Wr (show wpAny M A (choose .order (x::r).length) _ E s fromλk p hΓ=>?_);unfold choose;rw[Sem.wp_choose];refine⟨by simp,?_⟩;have b:M.w.draws .order (s.drawn.get .order) % (x::r).length < (x::r).length:=AaX _ (by simp);generalize M.w.draws .order (s.drawn.get .order) % (x::r).length=i at b ⊢;have j:(x::r)[i]?=some ((x::r)[i]):=WA b;generalize (x::r)[i]=y at j;show Sem.wp M k (pure i) _ _ p _;refine(Wt (M:=M) (A:=A) (E:=E) (a:=i) (s:={s with drawn:=s.drawn.bump .order}) ?_) k p hΓ;rw[j];have f:n=((x::r).eraseIdx i).length:=by rw[AaZ b,<-e];rfl
  refine Wr (CS n _ _ _ f λg d l=>Wt ?_);exact h (y::g) d ((l.cons y).trans (k5 _ _ _ j))
theorem DB(nx:Nat->Nat):∀(fuel k:Nat)(left:List α)(out:Array α),fuel=left.length->(pickOrder.go nx fuel k left out).toList.Perm (out.toList++left)
 | 0,k,left,out,e=>by
  have:left=[]:=AaH e.symm;subst this;unfold pickOrder.go;rw[XW]
 | fuel+1,k,left,out,e=>by
  unfold pickOrder.go;have a:nx k % left.length < left.length:=AaX _ (by lia);have b:left[nx k % left.length]?=some (left[nx k % left.length]):=WA a;generalize left[nx k % left.length]=y at b;rw[b];dsimp only;refine(DB nx fuel (k+1) _ _ (by rw[AaZ a];lia)).trans ?_;rw[Array.toList_push,XM];exact(k5 _ _ _ b).append_left _
def vg(nx:Nat->Nat)(a:Array α):(pickOrder nx a).toList.Perm a.toList:=by
 unfold pickOrder;have:=DB nx a.size 0 a.toList #[] (by simp)
 simpa using this
def sM{c:Type}(b:Array (c×Value)){a:List Nat}(hp:a.Perm (List.range b.size)):(a.filterMap λk=>(b[k]?).map (·.2)).Perm (b.toList.map (·.2)):=by
 refine(hp.filterMap _).trans (List.Perm.of_eq ?_);have:∀l:List (c×Value),(List.range l.length).filterMap (λk=>(l[k]?).map (·.2))=l.map (·.2):=by
  intro l;have e:(List.range l.length).filterMap (λk=>(l[k]?).map (·.2))=((List.range l.length).filterMap λk=>l[k]?).map (·.2):=by
   rw[List.map_filterMap]
  rw[e,List.filterMap_getElem?_range_length]
 have d:=this b.toList
 simpa using d
def entry_set_iter':entryFor table "set.__iter__"=some Builtin.«frozenset.__iter__»:=entryFor_alias (id':="frozenset.__iter__") (by ac_nf) rfl (by decide+kernel) (by ac_nf)
def cR:Slot "set_iterator" "__next__" "set_iterator.__next__":=.of (owner:="set_iterator") (n:="__next__") (by rw[Abj,Aap];ac_nf) (by decide+kernel) (by decide+kernel) (by decide+kernel) (by first | exact .inl (by decide+kernel) | exact .inr (by decide+kernel)) (by rw[isSubtype_type];ac_nf)
def kF:entryFor table "set_iterator.__next__"=some Builtin.«set_iterator.__next__»:=entryFor_of_fast (by ac_nf)
def nz(a:Value):argsOk "set_iterator.__next__" ⟨[a],[]⟩:=by unfold argsOk;ac_nf
def wpAny_of_eq'(e:m=m')(h:wpAny M A m' Q E s):wpAny M A m Q E s:=e ▸ h
section
variable {P:Program} {w:World} {A:Around} {E:Value->Shared->Prop} {s:Shared} {a:Addr} {ks:List Str}
def xR(f:s.heap.get? J=some o)(hd:o.data=.fields fs)(g:k < fs.size)(h:∀d c,(∀b u,b≠J->s.heap.get? b=some u->d.get? b=some u)->d.get? J=some c->c.cls=o.cls->c.data=.fields (fs.setIfInBounds k x)->Q () {s with heap:=d}):wpAny M A (setField (.ref J) k x) Q E s:=by
 refine ZM f hd g (h _ _ (λb u i e=>(Yw _ _ (XJ i)).trans e) (X0 _ f (Aaq (Y1 hd _))) (AaU ..) ?_);rw[Y1 hd]
def Er(b:s.heap.get? a=some ob)(c:ob.data=.set d f t)(e:t.fits d.size=true)(ht:w.params.followText "set-order"=true)(h:Q (pickOrder (w.params.setOrder a f) d) s):wpAny (model P w) A (setWalk a) Q E s:=by
 unfold setWalk setsByText;refine Wr (Yd b c e ?_);dsimp only;refine Wr (Wr (YW (Wt ?_)));rw[WC (show(model P w).w.params.followText "set-order"=true from ht)];exact Wr (YW (Wt h))
def vA(b:s.heap.get? a=some ob)(c:ob.data=.set f g t)(d:t.fits f.size=true)(ht:w.params.followText "set-order"=true)(h:Q (((pickOrder (w.params.setOrder a g) f)[i]?).map λe=>(e.2,k)) s):wpAny (model P w) A (setNext a k i g) Q E s:=by
 unfold setNext setsByText;refine Wr (Yd b c d ?_);dsimp only;refine Wr (Wr (YW (Wt ?_)));rw[WC (show(model P w).w.params.followText "set-order"=true from ht)];simp only[X3,WU,↓reduceIte];exact Wr (Er b c d ht (Wt h))
def wB{J:Addr}(hh:A.handled=none)(g:∀f,(∀b o,s.heap.get? b=some o->f.get? b=some o)->Q none {s with heap:=f}):
  wpAny (model P w) A.in1 (do let x<-newExc (.type "StopIteration") [];raiseNew x:Sem Fin) (λd c=>∃v,d=Fin.done (Flow.ret v)/\wpAny (model P w) A (pure (some v)) Q E c)
   (λe c=>wpAny (model P w) A (do let b<-isInstance e (.type "StopIteration");if b=true then pure none else throw e) Q E c) s:=by
 refine Wr ?_;simp only[newExc,newTuple];refine Wr (Xc ?_ (by size_fits));refine Wr (m:=firstArgMember _ _) (Aba (a:=Value.none) (by first | rfl |(simp only[firstArgMember];rfl)) (Xc ?_ (by size_fits)));simp only[raiseNew];refine Wr (wpAny_handled ?_);rw[show A.in1.handled=none from hh];refine Wr (Wt (wpAny_throw ?_));refine Wr (X4 (T:="StopIteration") (b:=true) (show Shared.TypeIs _ (.ref _) _ from⟨_,WK _ rfl,rfl⟩) YX ?_);exact Wt (g _ λb o e=>Wu _ (Wu _ e))
end
def tR:splitId "set.__len__"=some ("set","__len__"):=by ac_nf
def sub_set_set:isSubtype (.type "set") (.type "set")=pure true:=by rw[isSubtype_type];ac_nf
def qX:typeLookup (.type "set") (Str.ofString "__len__")=pure (some (.builtin "set.__len__")):=F.slot_set_len.lookup
noncomputable def Gf(a b:Str):Bool:=!ltCps b.cps.toList a.cps.toList
def ip:Gf a b=true↔strKind.kle a.cps.toList b.cps.toList:=by
 unfold Gf KeyOrd.kle;rw[ltCps_eq];simp
def vF(a b c:Str)(e:Gf a b=true)(d:Gf b c=true):Gf a c=true:=ip.mpr (KeyOrd.kle_trans (ip.mp e) (ip.mp d))
def Fv(a b:Str):(Gf a b||Gf b a)=true:=by
 rw[Yp]
 by_cases z:strKind.klt b.cps.toList a.cps.toList
 ·exact .inr (ip.mpr (KeyOrd.kle_of_klt z))
 ·exact .inl (ip.mpr (KeyOrd.kle_of_not_klt z))
def IF(a b:Str)(d:Gf a b=true)(c:Gf b a=true):a=b:=by
 have:=KeyOrd.kle_antisymm (ip.mp d) (ip.mp c);cases a;cases b;congr 1;exact Zi.mp this
def iG(ks:List Str):List Str:=ks.mergeSort Gf
def kN(ks:List Str):(iG ks).Perm ks:=List.mergeSort_perm _ _
def wG(ks:List Str):(iG ks).Pairwise λa b=>Gf a b=true:=Abd vF Fv ks
theorem ve:∀(l:List Str)(p:Str),risingS p l=true->(p::l).Pairwise λa b=>Gf a b=true
 | [],p,_=>by simp
 | x::r,p,h=>by
  have c:(!ltCps x.cps.toList p.cps.toList&&risingS x r)=true:=h;rw[WS] at c;have e:=ve r x c.2;refine YT.mpr ⟨λy d=>?_,e⟩;rcases WI.mp d with rfl | d
  ·exact c.1
  ·exact vF _ _ _ c.1 ((YT.mp e).1 y d)
def GN(hp:ss.Perm ks)(h:sortedS ss=true):ss=iG ks:=by
 refine ZL (λa b _ _=>IF a b) ?_ (wG ks) (hp.trans (kN ks).symm)
 match ss,h with
 | [],_=>exact .nil
 | x::r,h=>exact ve r x h
def Ff:JW X (newList []) (λ_=>.lst []):=λa s b H Q E I h=>Xc (h _ _ (I.LA (t':=s.toks) (its:=[]) (ys:=[]) .nil (Xe _)))
def Fg:JW X newDict (λ_=>.dK []):=λb s c H Q E I h=>by
 unfold newDict;exact Xc (h _ s.toks (I.laid (a:=s.heap.objs.size) (o:=.dK []) (t':=s.toks) (λ_ _ q=>Wu _ q) (WB _) (ng s.heap I.big)))
def NJ(d:TE)(l:Addr):TK:=λb H N=>d b H λy c=>∃a,c l=some (.lst a)/\a.length < sizeLine/\N b (upd c l (.lst (a++[y])))
def Lc(r:PE B elt j):PM B (m8 elt (.ref l) B.env) (NJ j l):=λa s b H N I h=>by
 unfold m8;refine Wr (b5 (r a s b H _ I h) λy k t=>?_);obtain⟨g,v,u,n,i,q,p,o⟩:=t;refine Wr (Xv (oz (X:=B) _ k b v (.ref l) [g] (.ref l) [y] (λ_ x=>N b x) u rfl (.cons n .nil) ⟨_,i,g,rfl,rfl,q,p,o⟩) (λ_ m d=>?_) λ_ _ e=>e);obtain⟨_,w,f,_,c⟩:=d;exact Wt ⟨_,_,f,c⟩
def NK(f e:TE)(l:Addr):TK:=λb H N=>f b H λx g=>e b g λy d=>∃a c,d l=some (.dK a)/\x=kV c/\a.length < sizeLine/\N b (upd d l (.dK (putK a c y)))
def Ld(E:PE B k o)(w:PE B v n):PM B (m9 k v l B.env) (NK o n l):=λa s f H N I h=>by
 unfold m9;refine Wr (b5 (E a s f H _ I h) λR p J=>?_);obtain⟨x,O,M,t,u⟩:=J;refine Wr (Xj (b5 (w a p f O _ M u) λP Q G=>?_));obtain⟨y,T,j,r,c,g,e,rfl,S,n2⟩:=G;refine Wr (Yb (Xj ?_));obtain⟨z,hd,m,b,dd⟩:=vQ j.a8 e;have i:m.length<=sizeLine:=by rw[<-b.length];exact z
 have hl:(putK c g y).length<=sizeLine:=by have:=gx c g y;lia
 refine wpAny_dictSet_pairs (hsz:=i) (mH t) dd λL d A=>?_;have F:∃q,L.get? l=some q:=let⟨q,_,_,C,_⟩:=d;⟨q,C⟩;exact⟨f,_,gB j (by rw[e];exact True.intro) A F (x3 hl hd (b.put g r) d),n2⟩
end L2
namespace Sm
open L2 PyProof.Rows
noncomputable def Ua:Ac (List D) where
 at_:=λK c H l a=>∃b,H l=some (.lst b)/\aA K c H b a
 mono:=λ⟨b,e,r⟩ T q=>⟨b,q.trans e,r.mono T⟩
noncomputable def Ub:Ac (List (Key×D)) where
 at_:=λK b H l a=>∃us,H l=some (.dK us)/\bt K b H us a
 mono:=λ⟨c,e,r⟩ T q=>⟨c,q.trans e,r.mono T⟩
noncomputable def mL(e:EM):MK (List D):=λb h a=>(e b h).bind λp=>if a.length < sizeLine then some (b,p.2,a++[p.1]) else none
def mD(k v:EM):MK (List (Key×D)):=λb h a=>(k b h).bind λp=>(v b p.2).bind λq=>(qc p.1).bind λc=>if a.length < sizeLine then some (b,q.2,putD a c q.1) else none
theorem kg.put{K:FR}(T:cA d H a H1)(hl:l∈d.rs):kg l d H a (upd H1 l o):=by
 have c:l∈a.rs:=by rw[T.rs];exact hl
 exact⟨T.toCh.trans (Ch.put c),T.rs,λb e n=>(aC n).trans (T.res b e)⟩
def Ku(v:SE X elt r):TB X (λl env=>m8 elt (.ref l) env) Ua (mL r):=λl=>(Lc v).imp λm H N ⟨n,p,h,a,o,A,C,R,S,hl,⟨i,t,j⟩,e,s⟩=>by
 obtain⟨⟨y,z⟩,w,d⟩:=aZ e;dsimp only at d
 by_cases g:a.length < sizeLine
 ·rw[WC g] at d;cases d;refine⟨n,p,h,y,_,R,S,w,λu H1 ⟨b,f,x,q⟩=>⟨i,(f.res l hl).trans t,by rw[j.length];exact g,?_⟩⟩;have c:l∈b.rs:=by rw[f.rs];exact hl
  have k:Ch b H1 b (upd H1 l (.lst (i++[u]))):=Ch.put c;exact s b _ m (kg.put (K:=X.K) f hl) (x.put c) ((R.mono f.toCh).mono k) ⟨_,aO,((j.mono f.toCh).snoc q).mono k⟩
 ·rw[WE g] at d;cases d
def bt.len{K:FR}{a:Ad}{H:Hp}:∀{us:List (Key×V)} {ks:List (Key×D)},bt K a H us ks->us.length=ks.length:=λr=>r.length
def Kv(L:SE X k mk)(j:SE X v I):TB X (λl env=>m9 k v l env) Ub (mD mk I):=λl=>(Ld L j).imp λA H N ⟨C,n,h,a,E,Z,a',R,S,hl,⟨o,j,p⟩,e,J⟩=>by
 obtain⟨⟨x,q⟩,P,O⟩:=aZ e;obtain⟨⟨y,Y⟩,s,M⟩:=aZ O;obtain⟨c,r,f⟩:=aZ M;dsimp only at s r f
 by_cases i:a.length < sizeLine
 ·rw[WC i] at f;cases f;refine⟨C,n,h,x,q,R,S,P,λu H1 ⟨g,m,U,G⟩=>⟨g,n,q,y,_,R.mono m.toCh,U,s,λu2 w ⟨b,t,Q,F⟩=>⟨o,c,((m.trans t).res l hl).trans j,jW G r,by rw[p.len];exact i,?_⟩⟩⟩;have T:=m.trans t;have d:l∈b.rs:=by rw[T.rs];exact hl
  have z:Ch b w b (upd w l (.dK (putK o c u2))):=Ch.put d;exact J b _ A (kg.put (K:=X.K) T hl) (Q.put d) ((R.mono T.toCh).mono z) ⟨_,aO,((p.mono T.toCh).put F).mono z⟩
 ·rw[WE i] at f;cases f
end Sm
namespace L2
open PyProof.Rows
def Inv.draw(I:Inv X pins σ H s)(d:Drawn):Inv X pins σ H {s with drawn:=d}:=⟨I.ok,I.os,I.bare,I.base,I.loc,I.cell,I.free,I.jy,I.pin,I.a8,I.len⟩
def Es{us:List Value}{b:List Str}(a:StrsAre us b):Vals (b.map V.str) us:=by
 induction a with
 | nil=>exact .nil
 | cons x t r c=>exact .cons ⟨t,rfl⟩ c
end L2
namespace Sm
open L2 PyProof.Rows
def Mb{b:Type}(a:List (Option Nat))(i:IM)(g:GM)(c:TM)(m:MK b)(e:b)(out:b->D):EM:=λd h=>(i d h).bind λp=>(cZ p.2.1 g c m p.1 (kH a d) p.2.2 e).map λq=>(out q.2.2,q.2.1)
section
variable {α:Type} {K:FR} {A:Ac α} {g:GM} {mt:TM} {m:MK α}
def Ho(u:∀b H l,A.at_ K b (upd H l (o l)) l a0)(c:∀b H l a,A.at_ K b H l a->¬b.has l->Rep K b H (.ref l) (out a))(hh:tM K (Mb e s g mt m a0 out) σ H Q):kK e (Kp K s) o (Bb K g) (yK K mt) (λl=>GA K A l m) σ H Q:=by
 obtain⟨b,p,h,d,G,R,S,v,k⟩:=hh;obtain⟨⟨q,r,t⟩,z,y⟩:=aZ v;obtain⟨⟨i,F,C⟩,x,w⟩:=eg y;cases w;exact zk u ⟨b,p,h,q,r,t,i,_,C,R,S,z,x,λl f I T E n j=>k _ _ ⟨f,T,E,c _ _ _ _ j n⟩⟩
def RE{b:List (Option Nat)}{d:IM}{m:MK (List (Key×D))}{c:L2.St}{H:Hp}{Q:VK}(hh:tM K (Mb b d g mt m [] .dv) c H Q):kK b (Kp K d) (λ_=>.dK []) (Bb K g) (yK K mt) (λl=>GA K Ub l m) c H Q:=
 Ho (A:=Ub) (o:=λ_=>.dK []) (a0:=[]) (out:=.dv) (λf H l=>show ∃us,_ from⟨[],aO,.nil⟩) (λf H l a h n=>by obtain⟨us,e,r⟩:=h;exact .dv e n r) hh
def RD{b:List (Option Nat)}{d:IM}{m:MK (List D)}{c:L2.St}{H:Hp}{Q:VK}(hh:tM K (Mb b d g mt m [] .lv) c H Q):kK b (Kp K d) (λ_=>.lst []) (Bb K g) (yK K mt) (λl=>GA K Ua l m) c H Q:=
 Ho (A:=Ua) (o:=λ_=>.lst []) (a0:=[]) (out:=.lv) (λf H l=>show ∃us,_ from⟨[],aO,.nil⟩) (λf H l a h n=>by obtain⟨us,e,r⟩:=h;exact .lv e n r) hh
end
section
variable {X:Cx} {k v tg iter elt tg2 iter2:Expr} {pos:Pos} {mk mv me:EM} {mt mt2:TM} {g g2:GM} {N':List Str} {caps:List (Option Nat)} {scope:Scope} {ifs ifs2:List Expr} {mi mi2:IM}
def GY(C:ba X N' caps scope)(m:X.calm=true)(i:SI X tg iter mi)(j:∀C a b c pl,SG (eR X N' scope C a b c pl) tg g)(d:∀C a b c pl,My (eR X N' scope C a b c pl) ifs mt)
  (h:∀C a b c pl,SE (eR X N' scope C a b c pl) k mk) (e:∀C a b c pl,SE (eR X N' scope C a b c pl) v mv) (f:∀x,foldedSetIterable iter X.env x=pure x:=by intro _;ac_nf):
  SE X (.DictComp k v [⟨tg,iter,ifs,0⟩] scope pos) (Mb caps mi g mt (mD mk mv) [] .dv):=
 (rY (g:=Bb X.K g) (tc:=yK X.K mt) (tm:=λl=>GA X.K Ub l (mD mk mv)) C m (BF ..) rfl (λn l env=>AZ ..) Fg i j d (λC a b c pl l=>Kv (h C a b c pl) (e C a b c pl) l) rfl f).imp λ_ _ _=>
  RE
def EJ(C:ba X N' caps scope)(p:X.calm=true)(n:SI X tg iter mi)(o:∀C a b c pl,SG (eR X N' scope C a b c pl) tg g)(f:∀C a b c pl,My (eR X N' scope C a b c pl) ifs mt)
  (h:∀C a b c pl,SI (eR X N' scope C a b c pl) tg2 iter2 mi2) (i:∀C a b c pl,SG (eR X N' scope C a b c pl) tg2 g2) (d:∀C a b c pl,My (eR X N' scope C a b c pl) ifs2 mt2)
  (he:∀C a b c pl,SE (eR X N' scope C a b c pl) elt me) (m:∀x,foldedSetIterable iter X.env x=pure x:=by intro _;ac_nf) (e:∀env x,foldedSetIterable iter2 env x=pure x:=by intro _ _;ac_nf):
  SE X (.ListComp elt [⟨tg,iter,ifs,0⟩,⟨tg2,iter2,ifs2,0⟩] scope pos) (Mb caps mi g mt (zO mi2 g2 mt2 (mL me)) [] .lv):=
 (rY (g:=Bb X.K g) (tc:=yK X.K mt) (tm:=λl=>GA X.K Ua l (zO mi2 g2 mt2 (mL me))) C p (rX ..) rfl (λj l env=>wu ..) Ff n o f
  (λC a b c pl l=>Kt (X:=eR X N' scope C a b c pl) (rX ..) rfl (λj l env=>wt ..) rfl rfl (h C a b c pl) (i C a b c pl) (d C a b c pl) (Ku (he C a b c pl)) (e _) l) rfl m).imp λ_ _ _=>
  RD
theorem u9{K:FR}{b:Ad}{H:Hp}:∀(a:List Str),(∀k∈a,PyData.strOk k=true)->aA K b H (a.map V.str) (a.map D.str)
 | [],_=>.nil
 | x::r,h=>.cons (.str (h x Wy)) (u9 r λk c=>h k (Wz _ c))
end
end Sm
namespace L2
open PyProof.Rows
section
variable {X:Cx} {e st:Expr} {te ts:TE} {pos p2:Pos}
end
end L2
namespace Sm
open L2 PyProof.Rows
section
variable {X:Cx} {e st a b c:Expr} {ma ms mb mc:EM} {pos p2:Pos}
abbrev QD:=DS->MH->Option (List (Key×D)×MH)
noncomputable def OX:QD:=λ_ h=>some ([],h)
def gV(k v:EM)(r:QD):QD:=λd h=>(k d h).bind λp=>(v d p.2).bind λq=>(qc p.1).bind λf=>(r d q.2).map λz=>((f,q.1)::z.1,z.2)
inductive Tj(K:FR)(m:QD)(σ:L2.St)(H:Hp)(Q:List (V×V)->Hp->Prop):Prop where
 | mk (ρ δ h kvs h'):b7 K ρ H σ δ->bC K ρ h H->(m δ h=some (kvs,h'))->(∀us ρ' H',cA ρ H ρ' H'->bC K ρ' h' H'->bt K ρ' H' us kvs->Q (us.map λkv=>(kV kv.1,kv.2)) H')->Tj K m σ H Q
def V7(K:FR)(m:QD):L2.St->Hp->(List (V×V)->Hp->Prop)->Prop:=λd H Q=>Tj K m d H Q
def SP(X:Cx)(pos:Pos)(g:List (Option Expr))(d:List Expr)(m:QD):Prop:=∃f,QU X pos g d f/\∀h H Q,V7 X.K m h H Q->wA f h H Q
def NT:SP X pos [] [] OX:=⟨[],Dz,λσ H Q u9=>by
 obtain⟨d,g,h,f,i,R,S,e,k⟩:=u9;cases e;exact k [] d H (.refl _ _) S .nil⟩
def jO(L:SE X F mk)(J:SE X s E)(hr:SP X pos ks t m):SP X pos (some F::ks) (s::t) (gV mk E m):=by
 obtain⟨w,N,M⟩:=hr;refine⟨_,zq L J N,λσ H Q u9=>?_⟩;obtain⟨q,i,h,G,h',R,S,P,k⟩:=u9;obtain⟨⟨x,n⟩,e1,e2⟩:=aZ P;obtain⟨⟨y,l⟩,e3,e4⟩:=aZ e2;obtain⟨I,Z,Y⟩:=aZ e4;obtain⟨⟨r,hz⟩,U,T⟩:=eg Y;cases T;refine⟨q,i,h,x,n,R,S,e1,λv H1 ⟨g,j,S1,C⟩=>⟨g,i,n,y,l,R.mono j.toCh,S1,e3,λu H2 u9=>?_⟩⟩;obtain⟨f,p,S2,A⟩:=u9;refine M σ H2 _ ⟨f,i,l,r,_,(R.mono j.toCh).mono p.toCh,S2,U,λus d H3 o S3 z=>?_⟩;have O:=jW C Z;subst O;exact k ((I,u)::us) d H3 ((j.trans p).trans o) S3 (.cons (A.mono o.toCh) z)
end
end Sm
namespace L2
open PyProof.Rows
open HT in
def Ex{t c:Addr}{a:Array Value}{j i:Value}{b e:Option Int}{Q:Value->Shared->Prop}(ht:IsTup s.heap t a)(k:s.heap.IsSliceOf c j i .none)(pl:IsPart j b)(l:IsPart i e)
  (hw:b8 a.size 0 b=0/\b8 a.size a.size e=a.size) (h:Q (.ref t) s):wpAny (model prog w) A (getItem (.ref t) (.ref c)) Q E s:=by
 obtain⟨os,d,f,m⟩:=id k;have g:s.TypeIs (.ref c) "slice":=⟨os,d,f⟩;unfold getItem
 try with_reducible refine Xj ?_
 first | refine Wr (Wt ?_) | skip
 refine Wr (wpAny_sequenceKey ht.typeIs (by decide) ?_);refine Wr (Xd (name:=Str.ofString "__getitem__") ht.typeIs XG (Xg XG ht.typeIs entry_tuple_getitem ?_ (args_tuple_getitem _ _)));show wpAny _ _ (Builtin.Tuple.tupleItemsOf (.ref t) >>=_) _ _ s;refine Wr (tupleItemsOf_ ht (Wr (Y0 g ?_)));rw[WC (by decide)];refine Wr (gQ k pl l ?_);show wpAny _ _ (if(((b8 a.size 0 b:Nat):Int)==0&&(1:Int)==1&&(b8 a.size a.size e-b8 a.size 0 b)==a.size)=true then _ else _) _ _ s;rw[WC (by rw[hw.1,hw.2];simp)];unfold Builtin.Tuple.tupleIsExact;simp only[bind_assoc,pure_bind];refine Wr (Y0 ht.typeIs ?_);rw[WC (by decide)]
 first
  | exact Wr (X2 (Wt ⟨_,rfl,Wt h⟩))
  | exact Wr (X2 (Wr (Wt (Wt ⟨_,rfl,Wt h⟩))))
def UX(K:FR):V->Option Int->Option Int->Hp->VK->Prop:=λx c d H Q=>∃a b,x=.ref a/\iZ K H a b/\(HT.b8 b.length 0 c=0/\HT.b8 b.length b.length d=b.length)/\Q (.ref a) H
def GO:Qy X (UX X.K):=by
 intro d s l H x v n m p u o Q I f k pl g h;obtain⟨a,e,rfl,i,j,q⟩:=h;cases f;obtain⟨c,r,ht,t⟩:=I.tuple i;have b:c.toArray.size=e.length:=by rw[WT];exact r.length.symm
 exact⟨"tuple",_,XG.lookup,ht.typeIs,Ex ht k pl g (by rw[b];exact j) ⟨.ref a,H,I,rfl,q⟩⟩
end L2
namespace Sm
open L2 PyProof.Rows
section
variable {X:Cx}
def qg(d:D)(a b:Option Int)(h:MH):Option (D×MH):=match d with
 | .tup xs=>if HT.b8 xs.length 0 a=0/\HT.b8 xs.length xs.length b=xs.length then some (.tup xs,h) else some (.tup (cutD xs a b),h)
 | d=>Sy d a b h
def kd(a:EM)(l u:PM):EM:=λb h=>(a b h).bind λp=>(l b p.2).bind λq=>(u b q.2).bind λr=>qg p.1 q.1 r.1 r.2
inductive Nn(K:FR)(x:V)(lo hi:Option Int)(H:Hp)(Q:VK):Prop where
 | mk (ρ h d z h'):bC K ρ h H->Rep K ρ H x d->(qg d lo hi h=some (z,h'))->(∀v H',dw K ρ H h' z v H'->Q v H')->Nn K x lo hi H Q
def U1(K:FR):V->Option Int->Option Int->Hp->VK->Prop:=λx a b H Q=>Nn K x a b H Q
def NP:Qy X (U1 X.K):=by
 intro a s g H x v j i e f l Q I m p pl o hh;obtain⟨q,h,d,z,r,S,rd,b,k⟩:=hh;cases d with
 | tup xs=>
  unfold qg at b;dsimp only at b
  by_cases c:HT.b8 xs.length 0 e=0/\HT.b8 xs.length xs.length f=xs.length
  ·rw[WC c] at b;cases b;have n:=rd;cases rd with | tup h0 t=>
   exact GO a s g H _ v j i e f l Q I m p pl o ⟨_,_,rfl,h0.sq,by rw[t.length];exact c,k _ _ (.here S n)⟩
  ·rw[WE c] at b;exact MQ a s g H x v j i e f l Q I m p pl o ⟨q,h,_,z,r,S,rd,by unfold Sy;dsimp only;rw[WE c];exact b,k⟩
 | _=>exact MQ a s g H x v j i e f l Q I m p pl o ⟨q,h,_,z,r,S,rd,b,k⟩
def GS{a:Expr}{q r:Option Expr}{pos E:Pos}{o:EM}{n m:PM}(G:SE X a o)(hl:SP' X q n)(F:SP' X r m):SE X (.Subscript a (.Slice q r none E) pos) (kd o n m):=
 (HV NP G hl F).imp λσ H Q u9=>by
  obtain⟨A,g,h,d,I,R,S,e,k⟩:=u9;obtain⟨⟨x,y⟩,P,O⟩:=aZ e;obtain⟨⟨l,t⟩,N,M⟩:=aZ O;obtain⟨⟨u,s⟩,L,J⟩:=aZ M;exact⟨A,g,h,x,y,R,S,P,λv H1 ⟨f,j,Y,C⟩=>⟨f,g,y,l,t,R.mono j.toCh,Y,N,λc H2 i U=>⟨c,g,t,u,s,(R.mono j.toCh).mono i.toCh,U,L,λb H3 z T=>
   ⟨b,s,x,d,I,T,C.mono (i.trans z).toCh,J,λw Z p=>k w Z (p.step (j.trans (i.trans z)))⟩⟩⟩⟩
noncomputable def Af:Fn:=λa h=>match a with
 | [.bl b]=>some (.int (if b then 1 else 0),h)
 | _=>none
def P1:eT X (.type "int") Af:=by
 intro b s g H j us Q I r hh;obtain⟨i,h,f,z,h',S,l,a,k⟩:=hh
 match f,l,a with
 | [],_,a=>exact cf a
 | _::_::_,_,a=>exact absurd a (by unfold Af;split <;> simp_all)
 | [d],l,a=>
  obtain⟨v,rfl,rd⟩:=rep1 l;cases rd <;> first |(exact cf a) | skip
  cases a;obtain⟨u,rfl,c⟩:=Vals.one r;cases c;exact call_int_bool ⟨.int _,H,I.kept (t':=s.toks+1) (h':=s.heap) λ_ _ e=>e,⟨_,rfl⟩,k _ _ (.here S (.int _))⟩
def jA(d e:D)(h:MH):Option (D×MH):=match d,e with
 | .str x,.int n=>if x.length<=1000/\0<=n/\n<=1000/\PyData.strOk (Txt.mul x n)=true then some (.str (Txt.mul x n),h) else none
 | d,e=>PN d e h
def il:nM X (binaryOp .Mult) jA:=by
 intro b s l H x y v u Q I i g hh;obtain⟨m,h,d,e,z,h',S,rd,j,a,k⟩:=hh;unfold jA at a
 split at a
 ·rename_i f n
  by_cases c:f.length<=1000/\0<=n/\n<=1000/\PyData.strOk (Txt.mul f n)=true
  ·rw[WC c] at a;cases a;cases rd;cases j;obtain⟨A,rfl⟩:=i;obtain⟨w,rfl⟩:=g;obtain⟨t,C,r,q⟩:=c;refine SB.mul ⟨?_,λ_ _=>?_,λ_ _=>?_⟩ λt' o=>⟨.str _,H,I.kept (t':=o) (h':=s.heap) λ_ _ e=>e,⟨t',rfl⟩,k _ _ (.here S (.str q))⟩
   ·rw[WW (by lia),WW (by lia)];rfl
   ·have p:(9007199254740991:Int)<=(2^63-1) / n:=by
     refine Int.le_ediv_of_mul_le (by lia) ?_;have:9007199254740991*n<=9007199254740991*1000:=Int.mul_le_mul_of_nonneg_left r (by decide)
     lia
    lia
   ·have p:f.length*n.toNat<=1000*1000:=Nat.mul_le_mul t (by lia);refine WW ?_;have:=XR
    lia
  ·rw[WE c] at a;cases a
 ·exact OY b s l H x y v u Q I i g ⟨m,h,_,_,z,h',S,rd,j,a,k⟩
noncomputable def xZ(f e:D->D->MH->Option (D×MH))(d c b:EM):EM:=λa h=>(d a h).bind λp=>(c a p.2).bind λq=>(f p.1 q.1 q.2).bind λr=>match r.1 with
 | .bl true=>(b a r.2).bind λu=>e q.1 u.1 u.2
 | .bl false=>some (.bl false,r.2)
 | _=>none
def Hq(hh:tM X.K (xZ f Z U O N) σ H Q):GC (rS X.K f) (rS X.K Z) (tM X.K U) (tM X.K O) (tM X.K N) σ H Q:=by
 obtain⟨G,j,h,d,Y,R,S,ee,k⟩:=hh;obtain⟨⟨x,t⟩,e1,e2⟩:=aZ ee;obtain⟨⟨y,s⟩,C,e4⟩:=aZ e2;obtain⟨⟨z,r⟩,A,a⟩:=aZ e4;dsimp only at C A a;refine⟨G,j,h,x,t,R,S,e1,λv H1 ⟨i,n,S1,M⟩=>⟨i,j,t,y,s,R.mono n.toCh,S1,C,λu H2 ⟨g,m,S2,p⟩=>⟨g,s,x,y,z,r,S2,M.mono m.toCh,p,A,λw H3 u9=>?_⟩⟩⟩;obtain⟨e,l,F,L⟩:=u9;cases z with
 | bl b=>
  cases L;refine⟨b,rfl,?_⟩;cases b with
  | false=>
   cases a;exact PB (k _ _ (dw.step (n.trans (m.trans l)) (.here F (.bl false))))
  | true=>
   obtain⟨⟨o,q⟩,e7,e8⟩:=aZ a;have T:=n.trans (m.trans l);exact Pz ⟨e,j,r,o,q,R.mono T.toCh,F,e7,λv' H4 ⟨c,E,S4,J⟩=>⟨c,q,y,o,d,Y,S4,p.mono (l.trans E).toCh,J,e8,λI H5 P=>k I H5 (P.step (T.trans E))⟩⟩
 | _=>exact cf a
def G0(j:nM X (compareOp op) f)(e:nM X (compareOp d) n)(m:SE X a i)(l:SE X b h)(k:SE X c g)(hm:lastMarks [op,d] [b,c]=false:=by with_unfolding_all rfl):
  SE X (.Compare a [op,d] [b,c] pos) (xZ f n i h g):=(HZ j e m l k hm).imp λ_ _ _=>Hq
end
end Sm
namespace L2
open PyProof.Rows
section
variable {X:Cx} {e st:Expr} {te ts:TE} {pos p2:Pos}
end
end L2
namespace Sm
open L2 PyProof.Rows
section
variable {X:Cx} {e st:Expr} {ma ms:EM} {pos p2:Pos}
end
end Sm
namespace L2
open PyProof.Rows
open HT in
def Jr{t b:Addr}{e j:List Value}{Q:Value->Shared->Prop}(ht:IsTup s.heap t e.toArray)(q:IsTup s.heap b j.toArray)(p:e=[])(h:Q (.ref b) s):wpAny (model prog w) A (binaryOp .Add (.ref t) (.ref b)) Q E s:=by
 obtain⟨⟨r,dd,data,o⟩,k,l,n,hd⟩:=id ht;obtain⟨⟨m,g,i,f⟩,a,d,n2,c⟩:=id q;simp only at l hd d c;subst l hd d c;exact concat_meets ⟨_,k,rfl⟩ ⟨_,a,rfl⟩ Aa2 seq_tuple_add ZV ZQ (ZI _ _)
   (tuple_addW0 t b e.toArray j.toArray n n2 dd g o f (by simp[p])) ⟨k,a,h⟩
def Il:lu X (binaryOp .Add) (λx y H Q=>∃a b c,x=.ref a/\y=.ref b/\iZ X.K H a []/\iZ X.K H b c/\Q (.ref b) H):=by
 intro d s o H x y v u Q I g f h;obtain⟨a,b,c,rfl,rfl,n,m,q⟩:=h;cases g;cases f;obtain⟨l,i,k,_⟩:=I.tuple n;obtain⟨e,p,j,_⟩:=I.tuple m;exact Jr k j (i.qC.mpr rfl) ⟨.ref b,H,I,rfl,q⟩
end L2
namespace Sm
open L2 PyProof.Rows
def aQ(d e:D)(h:MH):Option (D×MH):=match d,e with
 | .tup [],.tup a=>some (.tup a,h)
 | d,e=>Cf d e h
def cT:nM X (binaryOp .Add) aQ:=by
 intro a s g H x y v u Q I j i hh;obtain⟨l,h,d,e,z,p,S,rd,f,b,k⟩:=hh;unfold aQ at b
 split at b
 ·cases b;have c:=f;cases rd with | tup o m=>cases f with | tup n q=>
  cases m;exact Il a s g H _ _ v u Q I j i ⟨_,_,_,rfl,rfl,o.sq,n.sq,k _ _ (.here S c)⟩
 ·exact O2 a s g H _ _ v u Q I j i ⟨l,h,_,_,z,p,S,rd,f,b,k⟩
noncomputable def IY:Fn:=λa h=>match a with
 | [.int i,.int j]=>some (.int (if j < i then j else i),h)
 | _=>none
noncomputable def xU:Fn:=λa h=>match a with
 | [.int i,.int j]=>some (.int (if j > i then j else i),h)
 | _=>none
def PY(g:X.calm=true):eT X (.builtin "min") IY:=by
 intro b s c H m us Q I r hh;obtain⟨j,h,i,z,n,S,l,a,k⟩:=hh
 match i,l,a with
 | [],_,a=>exact cf a
 | [_],_,a=>exact absurd a (by unfold IY;split <;> simp_all)
 | _::_::_::_,_,a=>exact absurd a (by unfold IY;split <;> simp_all)
 | [d,e],l,a=>
  obtain⟨v,w,rfl,rd,f⟩:=rep2 l;cases rd <;> first |(exact cf a) | skip
  cases f <;> first |(exact cf a) | skip
  cases a;exact F0 g b s c H _ us Q I r ⟨_,_,rfl,k _ _ (.here S (.int _))⟩
def PZ(g:X.calm=true):eT X (.builtin "max") xU:=by
 intro b s c H m us Q I r hh;obtain⟨j,h,i,z,n,S,l,a,k⟩:=hh
 match i,l,a with
 | [],_,a=>exact cf a
 | [_],_,a=>exact absurd a (by unfold xU;split <;> simp_all)
 | _::_::_::_,_,a=>exact absurd a (by unfold xU;split <;> simp_all)
 | [d,e],l,a=>
  obtain⟨v,w,rfl,rd,f⟩:=rep2 l;cases rd <;> first |(exact cf a) | skip
  cases f <;> first |(exact cf a) | skip
  cases a;exact F1 g b s c H _ us Q I r ⟨_,_,rfl,k _ _ (.here S (.int _))⟩
end Sm
namespace L2
open PyProof.Rows
section
variable {X:Cx} {a b:Expr} {rest:List Expr} {pos:Pos} {ta tb:TE}
end
end L2
namespace Sm
open L2 PyProof.Rows
section
variable {X:Cx} {a b:Expr} {pos:Pos} {ma mb:EM}
end
end Sm
namespace L2
open PyProof.Rows
end L2
namespace Sm
open L2 PyProof.Rows
def Qk:bootBuiltins "min"=some (.builtin "min"):=by decide+kernel
def Ql:bootBuiltins "max"=some (.builtin "max"):=by decide+kernel
section
variable {X:Cx} {g:GM} {mt:TM} {ma:EM}
end
end Sm
namespace L2
open PyProof.Rows
def EB:∀{a:List Str} {us:List Value},Vals (a.map V.str) us->StrsAre us a
 :=by
 intro a
 induction a with
 | nil=>intro us q;cases q;exact .nil
 | cons x r b=>intro us q;cases q with | cons q l=>obtain⟨t,rfl⟩:=q;exact .cons x t (b l)
def Cz:eU X (.builtin "sorted") (λg H Q=>∃a c,g=[.ref a]/\eV X.K H a (c.map V.str)/\c.length < 64/\∀l,H l=none->Q (.ref l) (upd H l (.lst ((iG c).map V.str)))):=by
 intro i s A H g us Q I r h;obtain⟨a,c,rfl,t,w,q⟩:=h;obtain⟨u,rfl,m⟩:=vals1 r;cases m;obtain⟨d,rv,p,C⟩:=I.list t;have v:=EB rv;have j:d.length=c.length:=by have:=rv.length;rw[Ws] at this;exact this.symm
 refine sorted_strs p.isList v (by lia) λout k z y x=>?_;have:=GN y x;subst this;have hl:s.heap.objs.size<=s.heap.objs.size+1:=YC _;obtain⟨e,n⟩:=sortedAll_at s.heap d out;have f:((iG c).map V.str).length<=sizeLine:=by rw[Ws,(kN c).length_eq,XR];lia
 refine⟨.ref (s.heap.objs.size+1),_,I.laid (t':=s.toks) (o:=.lst ((iG c).map V.str)) (λb o q=>sortedAll_old q) hl ⟨f,out.toList,e,Es z,?_⟩,rfl,q _ (I.a8.fresh hl)⟩;rw[n]
end L2
namespace Sm
open L2 PyProof.Rows
noncomputable def sG:List D->Option (List Int)
 | []=>some []
 | .int i::r=>(sG r).map λa=>i::a
 | _=>none
theorem zX:∀{a:List D} {ns:List Int},sG a=some ns->a=ns.map D.int
 | [],_,e=>by cases e;rfl
 | d::r,ns,e=>by
  cases d <;> first |(exact cf e) | skip
  obtain⟨f,c,b⟩:=eg (show(sG r).map _=some ns from e);cases b;rw[zX c];rfl
theorem vL:∀(ns:List Int),sG (ns.map D.int)=some ns
 | []=>rfl
 | n::r=>by show(sG (r.map D.int)).map _=_;rw[vL r];rfl
def Bv{K:FR}{c:Ad}{H:Hp}:∀{b:List V} {ns:List Int},aA K c H b (ns.map D.int)->b=ns.map V.int:=by
 intro b ns
 induction ns generalizing b with
 | nil=>intro a;cases a;rfl
 | cons n r d=>intro a;cases a with | cons q l=>cases q;rw[d l];rfl
noncomputable def qV:List D->Option (List Str)
 | []=>some []
 | .str i::r=>(qV r).map λa=>i::a
 | _=>none
theorem yL:∀{a:List D} {ns:List Str},qV a=some ns->a=ns.map D.str
 | [],_,e=>by cases e;rfl
 | d::r,ns,e=>by
  cases d <;> first |(exact cf e) | skip
  obtain⟨f,c,b⟩:=eg (show(qV r).map _=some ns from e);cases b;rw[yL c];rfl
theorem uM:∀(ns:List Str),qV (ns.map D.str)=some ns
 | []=>rfl
 | n::r=>by show(qV (r.map D.str)).map _=_;rw[uM r];rfl
def Bu{K:FR}{c:Ad}{H:Hp}:∀{a:List V} {ns:List Str},aA K c H a (ns.map D.str)->a=ns.map V.str/\∀k∈ns,PyData.strOk k=true
 :=by
 intro a ns
 induction ns generalizing a with
 | nil=>intro q;cases q;exact⟨rfl,λ_ h=>(nomatch h)⟩
 | cons n r d=>
  intro q;cases q with | cons q l=>
  cases q with
  | str h=>
   obtain⟨e,f⟩:=d l;refine⟨by rw[e];rfl,λk b=>?_⟩;rcases WI.mp b with rfl | b
   ·exact h
   ·exact f k b
def IV:Fn:=λb h=>match b with
 | [d]=>(fV d h).bind λa=>(qV a).bind λns=>if ns.length < 64 then some (.lv ((iG ns).map D.str),h) else none
 | _=>none
def Jm:eT X (.builtin "sorted") IV:=by
 intro e s i H A us Q I r hh;obtain⟨w,h,u,z,E,S,l,b,k⟩:=hh
 match u,l,b with
 | [],_,b=>exact cf b
 | _::_::_,_,b=>exact cf b
 | [d],l,b=>
  obtain⟨v,rfl,rd⟩:=rep1 l;obtain⟨y,t,q⟩:=aZ b;obtain⟨ns,p,g⟩:=aZ q
  by_cases c:ns.length < 64
  ·rw[WC c] at g;cases g;obtain⟨a,C,rfl,n,j⟩:=eL S rd t;have:=yL p;subst this;obtain⟨o,f⟩:=Bu j;subst o;refine Cz e s i H _ us Q I r ⟨a,ns,rfl,eV.of n,c,λl hl=>k _ _ (.lv S (u9 _ λx m=>f x ((kN ns).mem_iff.mp m)) hl)⟩
  ·rw[WE c] at g;cases g
section
variable {α:Type} {K:FR} {A:Ac α} {l:Addr} {g:GM} {mt:TM} {m:MK α}
mutual
theorem Rep.calm(f:∀a,j.has a->k.has a){v:V}{d:D}(r:Rep K k H v d)(c:fB 0 d=true):Rep K j H v d:=by
 cases r with
 | bo=>exact .bo
 | bl b=>exact .bl b
 | int i=>exact .int i
 | str h=>exact .str h
 | ty n=>exact .ty n
 | fn h=>exact .fn h
 | tup h l=>exact .tup (h.elim (λ⟨a,n⟩=>.inl ⟨a,λz=>n (f _ z)⟩) .inr) (aA.calm f l c)
 | lv h n l=>exact .lv h (λz=>n (f _ z)) (aA.calm f l c)
 | ro h l=>exact .ro (h.elim (λ⟨a,n⟩=>.inl ⟨a,λz=>n (f _ z)⟩) .inr) (aA.calm f l c)
 | dv h n l=>exact .dv h (λz=>n (f _ z)) (bt.calm f l c)
 | ob e=>simp[fB] at c
theorem aA.calm(f:∀a,b.has a->h.has a){e:List V}{d:List D}(r:aA K h H e d)(c:cY 0 d=true):aA K b H e d:=by
 cases r with
 | nil=>exact .nil
 | cons r l=>have c:=W3.mp c;exact .cons (Rep.calm f r c.1) (aA.calm f l c.2)
theorem bt.calm(f:∀a,b.has a->h.has a){e:List (Key×V)}{d:List (Key×D)}(r:bt K h H e d)(c:Mj 0 d=true):bt K b H e d:=by
 cases r with
 | nil=>exact .nil
 | cons r l=>have c:=W3.mp c;exact .cons (Rep.calm f r c.1) (bt.calm f l c.2)
end
end
section
variable {X:Cx} {k v tg iter:Expr} {pos:Pos} {mk mv:EM} {mt:TM} {g:GM} {N':List Str} {caps:List (Option Nat)} {scope:Scope} {ifs:List Expr} {mi:IM}
end
def vU:bootBuiltins "sorted"=some (.builtin "sorted"):=by decide+kernel
end Sm
namespace L2
open PyProof.Rows
def iZ.off{K:FR}{H:Hp}{a d:Addr}{b:List V}{o:HO}(h:iZ K H a b)(hd:H d=none):iZ K (upd H d o) a b:=by
 rcases h with h | h
 ·rcases h with h |⟨u,h⟩
  ·exact .inl (.inl (by rw[aC (aR h hd)];exact h))
  ·exact .inl (.inr ⟨u,by rw[aC (aR h hd)];exact h⟩)
 ·exact .inr h
end L2
namespace Sm
open L2 PyProof.Rows
end Sm
namespace L2
open PyProof.Rows
end L2
namespace Sm
open L2 PyProof.Rows
end Sm
namespace Hd
open PySem.W PyProof.Rows L2 Sm
noncomputable def LO(_:Obj):Bool:=true
def LJ(h:Heap)(a:Addr):Option (Addr×Obj):=match h.get? a with
 | some o=>if LO o then some (a,o) else none
 | none=>none
def aF(h:Heap):Frag:=(List.range h.objs.size).filterMap (LJ h)
theorem oD(h:Heap)(a:Addr):∀l:List Addr,(l.filterMap (LJ h)).lookup a=if a∈l then(LJ h a).map (·.2) else none
 | []=>rfl
 | b::r=>by
  have c:=oD h a r
  by_cases d:a=b
  ·subst d;rw[WC Wy];rw[X8];cases e:LJ h a with
   | none=>
    dsimp only;rw[c,e]
    split <;> rfl
   | some p=>
    have hp:p.1=a:=by
     unfold LJ at e
     split at e
     ·split at e
      ·cases e;rfl
      ·cases e
     ·cases e
    obtain⟨g,i⟩:=p;dsimp only at hp;subst hp;simp
  ·have hm:(a∈b::r)↔a∈r:=by simp[d]
   rw[X8];cases e:LJ h b with
   | none=>dsimp only;rw[c];simp only[hm]
   | some p=>
    have hp:p.1=b:=by
     unfold LJ at e
     split at e
     ·split at e
      ·cases e;rfl
      ·cases e
     ·cases e
    obtain⟨g,i⟩:=p;dsimp only at hp;subst hp;have f:(a==g)=false:=by simpa using d
    rw[Xs,f];dsimp only;rw[c];simp only[hm]
def fJ(e:h.get? a=some o)(f:LO o=true):(aF h).lookup a=some o:=by
 unfold aF;rw[oD,WC]
 ·unfold LJ;rw[e];dsimp only;rw[WC f];rfl
 ·rw[Xx];exact WH e
def LK(h:Heap):(aF h).In h:=λa o e=>by
 unfold aF at e;rw[oD] at e
 split at e
 ·unfold LJ at e;cases g:h.get? a with
  | none=>rw[g] at e;cases e
  | some b=>
   rw[g] at e;dsimp only at e
   split at e
   ·cases e;rfl
   ·cases e
 ·cases e
noncomputable def posOf(s:Stmt):Pos:=match s with
 | .FunctionDef _ _ _ _ _ _ _ _ _ p=>p
 | _=>⟨0,0,0,0⟩
def rQ(n:Str)(s:Stmt):DefRec:=⟨n,ni s,gA s,ag s,posOf s⟩
def Mg(r:h.CodeRec cd q):codeIn (aF h) cd q=true:=by
 obtain⟨c,o,a,t,rfl,g,d,e⟩:=r;have f:LO o=true:=rfl;unfold codeIn;dsimp only;rw[fJ g f];obtain⟨j,i,k,b⟩:=o;dsimp only at d;subst d;dsimp only;obtain⟨l⟩:=a;cases l with
 | nil=>cases e
 | cons x l=>cases l with
  | nil=>cases e
  | cons y r=>cases y <;> first |(cases e;simp;done) |(cases e;done)
def Na{q:Program}{b:List Str}{i:ExcName->Option Value}{mg t:Str->Option Value}{h:Heap}(T:Top q b i mg t h){n:Str}{st:Stmt}(e:(recsOf q).find? (λe=>e.name==n)=some (rQ n st)):
  ∃f u,mg n=some (.ref f)/\CO (aF h) n n st f u:=by
 have hm:rQ n st∈recsOf q:=Aa1 e;obtain⟨a,o,s,j,k,m,g,d,c⟩:=T.fn _ hm;have f:LO o=true:=rfl;have lk:=fJ g f;have kp:keepIn (aF h) (.ref a)=true:=by
  unfold keepIn;dsimp only;rw[lk];obtain⟨r,p,v,l⟩:=o;dsimp only at d;subst d;rfl
 obtain⟨r,p,v,l⟩:=o;dsimp only at d;subst d;exact⟨a,_,m,⟨r,p,.none,k,s,_,j,_,l,rfl,lk,Mg c⟩,kp⟩
def _root_.L2.CO.one{K:Frag}{x a:Str}{st:Stmt}{f:Addr}{g:FuncData}{p:Str}(F:CO K x a st f g)
  (h:∀(kV b d:Value)(e:Option Addr)(c ct:Value)(u:Value),bindArgs (PySem.W.fnOf x a (ni st) (gA st) (ag st) .none kV b d e c ct) ⟨[u],[]⟩=pure [(p,u)]) (s:Shared) (u:Value):BindsTo s g ⟨[u],[]⟩ [(p,u)]:=by
 obtain⟨l,k,kV,b,d,e,c,ct,i,rfl,lk,j⟩:=F.ex;exact .of_eq (h kV b d e c ct u)
def PF{l:OpenLaw}{q:Program}{c:List Str}{C:(Str->Option Value)->Heap->Prop}{A:World->Heap->Prop}{d:DefRec}{k:Nat}(hn:l.most=some 63)(r:d.params.defaults=[])(hr:eF k callerA)
  (F:∀(w:World)(s₀:Shared)(mg p:Str->Option Value)(h:Heap),Ground q c [] C w s₀ mg p h->A w h->∃(v:Addr)(t:FuncData),mg d.name=some (.ref v)/\(∀(s:Shared)(u:Value),BindsTo s t ⟨[u],[]⟩ [("_law_script",u)])/\
   ∀base:Heap,(aF h).In base->base.Ns mainGlobals mg->f9 l.prog w (aF h) mg base wm k v t ["_law_script"] (spT (aF h))):
  WalkO q c C A l.row.toRowW d [] (λf x=>PySem.call f x):=by
 refine Att.Ay hn r λw s₀ y mg p v o P S O a x ns G Y Q hd I n m j i E=>?_;obtain⟨N,t,e,J,M⟩:=F w s₀ mg p _ G Y;rw[e] at n;cases n;exact IG (LK _) G.T.g G.T.b G.T.builtins G.T.nolimit E m j (WL i (by decide)) hr M J (λH R L=>⟨a,ns,rfl,L,i,λ_=>rfl⟩) λ_ _ _ z=>z
noncomputable def freeOk(q:Program)(a b:List Str):Bool:=b.all λx=>!startupNames.contains x&&!(looseW q a).contains x&&!((recsOf q).map (·.name)).contains x&&!((litsOf q).map (·.1)).contains x&&!((clssOf q (looseW q a)).map (·.name)).contains x
def bX(T:Top q (looseW q loose) a mg c h)(e:freeOk q loose xs=true)(b:x∈xs):mg x=none:=by
 have:=Yi.mp e x b;simp only[WS,Bool.not_eq_true',List.contains_eq_mem,Aa9] at this;exact T.free x this.1.1.1.1 this.1.1.1.2 this.1.1.2 this.1.2 this.2
end Hd
namespace Sm
open L2
noncomputable def Sj(f:Expr->Option D):List Expr->Option (List D)
 | []=>some []
 | e::a=>(f e).bind λd=>(Sj f a).bind λb=>some (d::b)
def kD:Nat->Expr->Option D
 | 0,_=>none
 | n+1,e=>match e with
  | .Constant .none _ _=>some .bo
  | .Constant (.bool b) _ _=>some (.bl b)
  | .Constant (.int i) _ _=>some (.int i)
  | .Constant (.str x) _ _=>if PyData.strOk x then some (.str x) else none
  | .UnaryOp .USub (.Constant (.int i) _ _) _=>some (.int (-i))
  | .Tuple c _ _=>(Sj (kD n) c).bind λa=>if a.length<=1000 then some (.tup a) else none
  | .List c _=>(Sj (kD n) c).bind λa=>if a.length<=1000 then some (.lv a) else none
  | .Dict [] [] _=>some (.dv [])
  | _=>none
noncomputable def aK(a:List D):AM:=λ_ h=>some (a,h)
def Tf(a:List D):jK (aK a) a.length:=λb h c d e=>by cases e;rfl
section
variable {X:Cx}
def GH(h:kD n e=some d)(a:List Expr):starEach (e::a) X.env=(false,eval e X.env)::starEach a X.env:=by
 cases n with
 | zero=>exact cf h
 | succ n=>cases e <;> first | rfl |(exfalso;exact(nomatch h))
theorem wQ(g:∀{e:Expr} {d:D},f e=some d->SE X e (eK d))(c:∀{e:Expr} {d:D},f e=some d->∀a:List Expr,starEach (e::a) X.env=(false,eval e X.env)::starEach a X.env):
  ∀{a:List Expr} {b:List D},Sj f a=some b->SA X a (aK b)
 | [],b,h=>by cases h;exact ak
 | e::a,b,h=>by
  unfold Sj at h;obtain⟨d,i,h⟩:=aZ h;obtain⟨r,j,h⟩:=aZ h;cases h;exact(aa (g i) (wQ g c j) (c i a):SA X _ (af (eK d) (aK r)))
theorem cF:∀(n:Nat) {e:Expr} {d:D},kD n e=some d->SE X e (eK d)
 | 0,_,_,h=>by cases h
 | n+1,e,d,h=>by
  cases e <;> first |(exact cf h) | skip
  case Constant c _ _=>
   cases c <;> first |(exact cf h) | skip
   case none=>cases h;exact wK
   case bool=>cases h;exact MS
   case int=>cases h;exact bc
   case str x=>
    have h:(if PyData.strOk x then some (D.str x) else none)=some d:=h
    by_cases f:PyData.strOk x=true
    ·rw[WC f] at h;cases h;exact cy f
    ·rw[WE f] at h;cases h
  case UnaryOp o e _=>
   cases o <;> first |(exact cf h) | skip
   cases e <;> first |(exact cf h) | skip
   rename_i c _ _;cases c <;> first |(exact cf h) | skip
   cases h;exact(MR Gs bc:SE X _ (kG dB (eK _)))
  case Tuple j _ _=>
   obtain⟨b,g,a⟩:=aZ h
   by_cases hl:b.length<=1000
   ·rw[WC hl] at a;cases a;exact(cw (wQ (cF n) GH g) (Tf b) (WL hl (by decide)):SE X _ (aj aH (aK b)))
   ·rw[WE hl] at a;cases a
  case List j _=>
   obtain⟨b,g,a⟩:=aZ h
   by_cases hl:b.length<=1000
   ·rw[WC hl] at a;cases a;exact(qo.lv (fR (wQ (cF n) GH g) (Tf b) (WL hl (by decide))):SE X _ (iq (aK b)))
   ·rw[WE hl] at a;cases a
  case Dict ks i _=>
   cases ks <;> first |(exact cf h) | skip
   cases i <;> first |(exact cf h) | skip
   cases h;exact RA
end
end Sm
namespace L2
open PyProof.Rows
noncomputable def kj(ns:List Int):List Int:=ns.mergeSort λa b=>decide (a<=b)
def ib(ns:List Int):(kj ns).Perm ns:=List.mergeSort_perm _ _
def wF(ns:List Int):(kj ns).Pairwise (·<=·):=by
 have:=Abd (le:=λa b:Int=>decide (a<=b)) (λa b c e d=>by simp at e d ⊢;lia) (λa b=>by simp;lia) ns;exact this.imp λh=>by simpa using h
def GL(hp:ss.Perm ns)(h:ss.Pairwise (·<=·)):ss=kj ns:=
 ZL (λa b _ _ d c=>Int.le_antisymm d c) h (wF ns) (hp.trans (ib ns).symm)
def CA:eU X (.builtin "sorted") (λg H Q=>∃a c,g=[.ref a]/\eV X.K H a (c.map V.int)/\c.length < 64/\∀l,H l=none->Q (.ref l) (upd H l (.lst ((kj c).map V.int)))):=by
 intro i s A H g us Q I r h;obtain⟨a,c,rfl,t,w,q⟩:=h;obtain⟨u,rfl,m⟩:=vals1 r;cases m;obtain⟨d,rv,p,C⟩:=I.list t;have v:=intsAre_of rv;have j:d.length=c.length:=by have:=rv.length;rw[Ws] at this;exact this.symm
 refine sorted_ints p.isList v (by lia) λout k z y x=>?_;have:=GL y x;subst this;have hl:s.heap.objs.size<=s.heap.objs.size+1:=YC _;obtain⟨e,n⟩:=sortedAll_at s.heap d out;have f:((kj c).map V.int).length<=sizeLine:=by rw[Ws,(ib c).length_eq,XR];lia
 refine⟨.ref (s.heap.objs.size+1),_,I.laid (t':=s.toks) (o:=.lst ((kj c).map V.int)) (λb o q=>sortedAll_old q) hl ⟨f,out.toList,e,nW z,?_⟩,rfl,q _ (I.a8.fresh hl)⟩;rw[n]
end L2
namespace Sm
open L2 PyProof.Rows
def IW:Fn:=λb h=>match b with
 | [d]=>(fV d h).bind λa=>(sG a).bind λns=>if ns.length < 64 then some (.lv ((kj ns).map D.int),h) else none
 | _=>none
theorem repL_ints'{K:FR}{a:Ad}{H:Hp}:∀(ns:List Int),aA K a H (ns.map V.int) (ns.map D.int)
 | []=>.nil
 | n::r=>.cons (.int n) (repL_ints' r)
def Jn:eT X (.builtin "sorted") IW:=by
 intro e s g H u us Q I r hh;obtain⟨q,h,p,z,x,S,l,b,k⟩:=hh
 match p,l,b with
 | [],_,b=>exact cf b
 | _::_::_,_,b=>exact cf b
 | [d],l,b=>
  obtain⟨v,rfl,rd⟩:=rep1 l;obtain⟨t,o,n⟩:=aZ b;obtain⟨ns,m,f⟩:=aZ n
  by_cases c:ns.length < 64
  ·rw[WC c] at f;cases f;obtain⟨a,w,rfl,j,i⟩:=eL S rd o;have:=zX m;subst this;have:=Bv i;subst this;exact CA e s g H _ us Q I r ⟨a,ns,rfl,eV.of j,c,λl hl=>k _ _ (.lv S (repL_ints' _) hl)⟩
  ·rw[WE c] at f;cases f
def Cn(m:QD):EM:=λa h=>(m a h).bind λp=>if p.1.length<=15 then some (.ob p.2.length,p.2++[.dct (kW [] p.1)]) else none
def GW(h:SP X pos keys vals m)(T:keys.all (·.isSome)=true)(hl:keys.length=vals.length)(h0:keys≠[])(hp:∀l,QU X pos keys vals l->PE X (.Dict keys vals pos) (MM l)):SE X (.Dict keys vals pos) (Cn m):=by
 obtain⟨l,h1,h2⟩:=h;refine(hp l h1).imp λσ H Q ⟨j,Z,h,d,h',R,S,ee,k⟩ p s=>?_;obtain⟨⟨y,E⟩,i,g⟩:=aZ ee;dsimp only at g
 by_cases z:y.length<=15
 ·rw[WC z] at g;cases g;have U:Ch j H (j.keep p) (upd H p (.dK [])):=Ch.keep s;have nl:¬j.has p:=S.fresh s;refine h2 σ _ _ ⟨j.keep p,Z,h,y,_,R.mono U,S.keep s,i,λus I G F t P=>?_⟩;have L:G p=some (.dK []):=(F.res p Wy).trans aO;refine⟨L,us,rfl,by rw[P.len];exact z,?_⟩;obtain⟨c,J⟩:=I;have O:J=p::j.rs:=F.rs;subst O;have N:p∈(⟨c,p::j.rs⟩:Ad).rs:=Wy;have w:p∉c:=(t.uY p N).2;have q:∀b∈j.rs,b≠p:=λb f z=>nl (.inr (z ▸ f));generalize C:upd G p (.dK (bD [] us))=Y;have r:∀b,b≠p->Y b=G b:=λb f=>by rw[<-C,aC f]
  have u:Ch ⟨c,p::j.rs⟩ G ⟨c++[p],j.rs⟩ Y:=by
   refine⟨λn a e=>?_,λb o v eb=>⟨λz=>?_,?_⟩⟩
   ·show(c++[p])[n]?=_;rw[WO (Ww.mp e).1];exact e
   ·rcases z with z | z
    ·rcases Xi.mp z with z | z
     ·exact v (.inl z)
     ·exact v (.inr (by rw[WD.mp z];exact Wy))
    ·exact v (.inr (Wz _ z))
   ·rw[r b (λz=>v (.inr (by rw[z];exact Wy)))];exact eb
  refine k _ _ ⟨⟨c++[p],j.rs⟩,⟨(U.trans F.toCh).trans u,rfl,λb f=>?_⟩,?_,.ob (by show(c++[p])[E.length]?=_;rw[<-t.len];simp)⟩
  ·rw[r b (q b f),F.res b (Wz _ f)];exact aC (q b f)
  ·refine⟨by show(c++[p]).length=_;simp;exact t.len,?_,λn a x i g=>?_,λb f=>?_⟩
   ·show(c++[p]).Nodup;rw[ZE];exact⟨t.nd,by simp,λa E b f z=>w (by rw[<-WD.mp f,<-z];exact E)⟩
   ·have i:(c++[p])[n]?=some a:=i;have A:c.length=E.length:=t.len
    by_cases hn:n < c.length
    ·rw[WO hn] at i;rw[WO (by lia)] at g;exact(t.at_ n a x i g).mono u (r a λz=>w (z ▸ Wx i))
    ·have l1:=(Ww.mp i).1;simp at l1;have M:n=c.length:=by lia
     subst M;rw[W5 (WB _)] at i;rw[W5 (by lia),A] at g;simp at i g;subst i;subst g;exact⟨bD [] us,by rw[<-C];exact aO,(bt.merge .nil P).mono u⟩
   ·obtain⟨⟨o,eo⟩,v⟩:=t.uY b (Wz _ f);refine⟨⟨o,by rw[r b (q b f)];exact eo⟩,λz=>?_⟩;rcases Xi.mp z with z | z
    ·exact v z
    ·exact q b f (WD.mp z)
 ·rw[WE z] at g;cases g
def L0(d e:D)(h:MH):Option (D×MH):=match e with
 | .int n=>(fV d h).bind λa=>if 0<=n/\n<=1000/\a.length<=1000 then some (.lv (List.replicate n.toNat a).flatten,h) else none
 | _=>none
theorem aA.rep{K:FR}{a:Ad}{H:Hp}{b:List V}{c:List D}(h:aA K a H b c):∀k:Nat,aA K a H (List.replicate k b).flatten (List.replicate k c).flatten
 | 0=>.nil
 | k+1=>by
  rw[Yq,Yq,YZ,YZ];exact h.append (aA.rep h k)
def Ig:nM X (binaryOp .Mult) L0:=by
 intro b s m H x y v u Q I q p hh;obtain⟨A,h,d,e,z,E,S,rd,r,j,k⟩:=hh;cases e <;> first |(exact cf j) | skip
 rename_i n;obtain⟨g,w,f⟩:=aZ (show(fV d h).bind _=_ from j)
 by_cases c:0<=n/\n<=1000/\g.length<=1000
 ·rw[WC c] at f;cases f;obtain⟨a,o,rfl,t,i⟩:=eL S rd w;cases r;have C:g.length*n.toNat<=1000*1000:=Nat.mul_le_mul c.2.2 (by lia);exact O5 b s m H _ _ v u Q I q p ⟨a,n,o,rfl,rfl,t,by lia,by lia,by rw[i.length,show sizeLine=16777216 from rfl];lia,λl hl=>k _ _ (.lv S (i.rep _) hl)⟩
 ·rw[WE c] at f;cases f
end Sm
namespace L2
open PyProof.Rows
theorem uI:∀(us:List Value)(o:Nat),(∀(j:Nat) v,us[j]?=some v->∃t,v=.int ((o:Int)+j) t)->Vals ((List.range' o us.length).map λ(k:Nat)=>V.int k) us
 | [],_,_=>.nil
 | u::r,o,h=>by
  rw[WN,List.range'_succ,WG];obtain⟨t,e⟩:=h 0 u rfl;refine .cons ⟨t,by rw[e];simp⟩ (uI r (o+1) λj v a=>?_);obtain⟨t,e⟩:=h (j+1) v (by simpa using a);exact⟨t,by rw[e];congr 1;lia⟩
def Fb(U:X.calm=true)(C:Gl X "list")(z:X.mg "list"=none)(A:Gl X "range")(y:X.mg "range"=none)(m:bootBuiltins "list"=some (.type "list"))(Y:PA X [a] M)(S:starEach [a] X.env=[(false,eval a X.env)]):
  PE X (.Call (.Name "list" p) [.Call (.Name "range" R) [a] [] d] [] pos) (λw H Q=>M w H λF x=>∃j:Int,F=[.int j]/\0<=j/\j<=1000/\∀l,x l=none->Q (.ref l) (upd x l (.lst ((List.range j.toNat).map λ(k:Nat)=>V.int k)))):=by
 intro f s w H Q I h;refine Ym (fW I C z m ?_);refine Xr ?_ rfl rfl;show wpAny _ _ (spliced ((false,eval (.Call (.Name "range" R) [a] [] d) X.env)::backTo pos (starEach [] X.env))) _ _ s;refine AaJ ?_;refine Ym (fW I A y boot_range (Xr (b5 (Y d f s w H _ I h) λus s1 u9=>?_) S rfl));obtain⟨F,x,J,O,P⟩:=u9;obtain⟨j,e,j0,j1,q⟩:=P;subst e;cases O with
 | cons r N=>
  cases N;obtain⟨t,rfl⟩:=r;refine call_range_1 ?_;have G:Inv X f w x {s1 with heap:=s1.heap.push {cls:=.type "range",data:=.fields #[.int 0 s1.toks,.int j t,.int 1 (s1.toks+1)]},toks:=s1.toks+1+1}:=J.kept λb o e=>Wu _ e;refine AaV ?_;refine call_list_range (n:=j.toNat) (J.ok.hd U) (IsRange.new ..) (small_one (by lia) (by lia) (by lia) (by lia)) (by rw[rangeSize_one];split <;> lia) (by lia) λh' L c Z T E g=>?_;have u:c.toList.length=j.toNat:=by rw[X9];exact g.1
  have m:Vals ((List.range j.toNat).map λ(k:Nat)=>V.int k) c.toList:=by
   have:=uI c.toList 0 λi v m=>by
    obtain⟨t,e⟩:=g.2 i v (by simpa using m);exact⟨t,by rw[e];congr 1;simp⟩
   rw[u] at this;rw[List.range_eq_range'];exact this
  refine⟨.ref _,_,G.laid (t':=L) (o:=.lst ((List.range j.toNat).map λ(k:Nat)=>V.int k)) T (WB _) ⟨by rw[Ws,WX,XR];lia,c.toList,Z,m,?_⟩,rfl,q _ (G.a8.fresh (WB _))⟩;rw[E]
end L2
namespace Sm
open L2 PyProof.Rows
noncomputable def Qs(m:AM):AM:=λa h=>(m a h).bind λp=>match p.1 with
 | [.int j]=>if 0<=j/\j<=1000 then some ((List.range j.toNat).map λ(k:Nat)=>D.int k,p.2) else none
 | _=>none
theorem rE{K:FR}{a:Ad}{H:Hp}:∀l:List Nat,aA K a H (l.map λ(k:Nat)=>V.int k) (l.map λ(k:Nat)=>D.int k)
 | []=>.nil
 | n::r=>.cons (.int n) (rE r)
def EG(w:X.calm=true)(n:Gl X "list")(g:X.mg "list"=none)(i:Gl X "range")(f:X.mg "range"=none)(t:bootBuiltins "list"=some (.type "list"))(x:SA X [a] m)(u:starEach [a] X.env=[(false,eval a X.env)]:=by ac_nf):
  qo X (.Call (.Name "list" p) [.Call (.Name "range" G) [a] [] o] [] pos) (Qs m):=(Fb w n g i f t x u).imp λσ H Q ⟨q,r,h,ds,J,R,S,e,k⟩=>by
 obtain⟨⟨E,I⟩,y,b⟩:=aZ e;dsimp only at b
 split at b
 ·rename_i j
  split at b
  ·rename_i c;cases b;refine⟨q,r,h,_,_,R,S,y,λF d C z A s=>?_⟩;obtain⟨v,rfl,rd⟩:=rep1 s;cases rd;exact⟨j,rfl,c.1,c.2,λl hl=>k d C l _ z A hl (rE _)⟩
  ·cases b
 ·cases b
def Qt(e d:EM):AM:=λa h=>(e a h).bind λp=>(d a p.2).bind λq=>(fV p.1 q.2).bind λc=>(fV q.1 q.2).bind λb=>if c.length+b.length<=sizeLine then some (c++b,q.2) else none
def NX(I:SE X a F)(G:SE X b E):qo X (.BinOp a .Add b pos) (Qt F E):=(M1 Im I G).imp λσ H Q ⟨z,j,h,ds,h',R,S,e,k⟩=>by
 obtain⟨⟨x,o⟩,T,P⟩:=aZ e;obtain⟨⟨y,M⟩,s,O⟩:=aZ P;obtain⟨xs,r,N⟩:=aZ O;obtain⟨Z,q,g⟩:=aZ N;dsimp only at s r q
 split at g
 ·rename_i c;cases g;refine⟨z,j,h,x,o,R,S,T,λv H1 ⟨f,w,U,C⟩=>⟨f,j,o,y,M,R.mono w.toCh,U,s,λu Y u9=>?_⟩⟩;obtain⟨d,t,i,A⟩:=u9;obtain⟨a,l,rfl,L,n⟩:=eL i (C.mono t.toCh) r;obtain⟨b,us,rfl,J,m⟩:=eL i A q;exact⟨a,b,l,us,rfl,rfl,L,J,by rw[n.length,m.length];exact c,λp hp=>k d Y p (l++us) (w.trans t) i hp (n.append m)⟩
 ·cases g
end Sm
namespace Sm
open L2
def L6(a b:Bool)(h:MH):bL (.bl a) (.bl b) h=some (.bl (a==b),h):=rfl
theorem rT:∀cs:List Int,i0 (cs.map D.int)=some (cs.map PyData.int)
 | []=>rfl
 | c::r=>by simp only[WG,i0,kA,rT r,WY,Xf]
theorem k6:∀cs:List Int,PyData.depthAll (cs.map PyData.int)=0
 | []=>rfl
 | c::r=>by simp only[WG,PyData.depthAll,k6 r,PyData.depth];rfl
def FO{h:MH}{c:Nat}{cs:List Int}(a:h[c]?=some (.lst (cs.map D.int))):qh (.ob c) (.lv []) h=some (.bl (!cs.isEmpty),h):=by
 simp only[qh,Nd,c9,a,Nc,Ge,rT,kA,i0,Xf,WY,PyData.depth,k6];cases cs <;> rfl
def jB(hn:h[n]?=some (.lst xs))(e:gg xs i=some d):aG (.ob n) (.int i) h=some (d,h):=by
 simp only[aG,c9,hn,cp,WY,e,Xf]
def gy(hn:h[n]?=some (.lst xs)):bR [.ob n] h=some (.int xs.length,h):=by
 simp only[bR,c9,hn,cp,Xf]
def xS(hn:h[n]?=some (.lst xs))(e:ux xs.length i=some p):uC (.ob n) (.int i) d h=some (h.set n (.lst (xs.set p d))):=by
 simp only[uC,hn,e,Xf]
def JH(cs:List Int)(i:Int)(b:0<=i)(c:i < cs.length):∃z,gg (cs.map D.int) i=some (.int z):=by
 have a:i.toNat < cs.length:=by lia
 refine⟨cs[i.toNat]'a,?_⟩;have e:((i.toNat:Nat):Int)=i:=Zn b;have q:gg (cs.map D.int) ((i.toNat:Nat):Int)=some (D.int (cs[i.toNat]'a)):=ny (by rw[WJ,WA a];rfl);rw[e] at q;exact q
def JG(b:0<=i)(c:i < xs.length):∃v,gg xs i=some v/\v∈xs:=by
 have a:i.toNat < xs.length:=by lia
 have e:((i.toNat:Nat):Int)=i:=Zn b;have q:gg xs ((i.toNat:Nat):Int)=some (xs[i.toNat]'a):=ny (WA a);rw[e] at q;exact⟨_,q,YN a⟩
end Sm
namespace Sm
def Rn{b:Type}(o:Option b)(Q:b->Prop):Prop:=∃a,o=some a/\Q a
def rv(e:o=some a)(q:Q a):Rn o Q:=⟨a,e,q⟩
def Rn.imp(r:Rn o Q)(f:∀a,Q a->b a):Rn o b:=let⟨a,e,q⟩:=r;⟨a,e,f a q⟩
def aS(r:Rn o λa=>Rn (f a) Q):Rn (o.bind f) Q:=by
 obtain⟨a,e,b,c,q⟩:=r;exact⟨b,by rw[e];exact c,q⟩
def Br(r:Rn o λa=>Q (f a)):Rn (o.map f) Q:=by
 obtain⟨a,e,q⟩:=r;exact⟨f a,by rw[e];rfl,q⟩
def eO(e:a[i]?=some (some d))(q:Q (d,h)):Rn (aD i a h) Q:=⟨(d,h),by unfold aD;rw[e];rfl,q⟩
def RK(q:Q (d,h)):Rn (eK d a h) Q:=⟨_,rfl,q⟩
def xg(r:Rn (a c h) λp=>Rn (b c p.2) λq=>Rn (f p.1 q.1 q.2) Q):Rn (ai f a b c h) Q:=aS (r.imp λ_ r=>aS r)
def UQ(r:Rn (a b h) λp=>Rn (f p.1 p.2) Q):Rn (kG f a b h) Q:=aS r
def vc(q:Q ([],h)):Rn (aT a h) Q:=⟨_,rfl,q⟩
def fU(r:Rn (a b h) λp=>Rn (m b p.2) λq=>Q (p.1::q.1,q.2)):Rn (af a m b h) Q:=aS (r.imp λ_ r=>aS (r.imp λ_ q=>⟨_,rfl,q⟩))
def E4(r:Rn (m a h) λp=>Rn (f p.1 p.2) Q):Rn (aj f m a h) Q:=aS r
def UW(r:Rn (t d h) λp=>(p.1=true->Rn (a d p.2) Q)/\(p.1=false->Rn (b d p.2) Q)):Rn (Aj t a b d h) Q:=aS (r.imp λp u9=>by
 obtain⟨f,e⟩:=u9;obtain⟨c,h⟩:=p;cases c with
 | true=>exact f rfl
 | false=>exact e rfl)
def BC(r:Rn (a b h) λp=>∃c,p.1=.bl c/\Q (c,p.2)):Rn (ax a b h) Q:=aS (r.imp λp ⟨c,e,q⟩=>⟨(c,p.2),by rw[e],q⟩)
def Ol(r:Rn (a b h) λp=>∃c,yI p.1 p.2=some c/\Q (c,p.2)):Rn (fN a b h) Q:=aS (r.imp λp ⟨c,e,q⟩=>⟨(c,p.2),by rw[e];rfl,q⟩)
def Om(r:Rn (t a h) λp=>Q (!p.1,p.2)):Rn (Sm.pP t a h) Q:=Br r
def Hv(r:Rn (a d h) λp=>(p.1=true->Rn (b d p.2) Q)/\(p.1=false->Q (false,p.2))):Rn (Sm.iU a b d h) Q:=aS (r.imp λp u9=>by
 obtain⟨f,e⟩:=u9;obtain⟨c,h⟩:=p;cases c with
 | true=>exact f rfl
 | false=>exact⟨_,rfl,e rfl⟩)
def RF(r:Rn (a d h) λp=>(p.1=true->Q (true,p.2))/\(p.1=false->Rn (b d p.2) Q)):Rn (Sm.Gz a b d h) Q:=aS (r.imp λp u9=>by
 obtain⟨f,e⟩:=u9;obtain⟨c,h⟩:=p;cases c with
 | true=>exact⟨_,rfl,f rfl⟩
 | false=>exact e rfl)
def RP(r:Rn (a d h) λp=>∃c,p.1=.bl c/\(c=true->Rn (b d p.2) Q)/\(c=false->Q (.bl false,p.2))):Rn (oM a b d h) Q:=aS (r.imp λp u9=>by
 obtain⟨c,e,g,f⟩:=u9;rw[e];cases c with
 | true=>exact g rfl
 | false=>exact⟨_,rfl,f rfl⟩)
def UR(r:Rn (a d h) λp=>∃c,p.1=.bl c/\(c=true->Q (.bl true,p.2))/\(c=false->Rn (b d p.2) Q)):Rn (Vp a b d h) Q:=aS (r.imp λp u9=>by
 obtain⟨c,e,g,f⟩:=u9;rw[e];cases c with
 | true=>exact⟨_,rfl,g rfl⟩
 | false=>exact f rfl)
def RJ(r:Rn (a b h) λp=>∃c,p.1=.bl c/\Q (.bl (!c),p.2)):Rn (Ma a b h) Q:=aS (r.imp λp d=>by obtain⟨c,e,q⟩:=d;exact⟨_,by rw[e],q⟩)
def UU(r:Rn (m a h) λp=>Q (.lv p.1,p.2)):Rn (iq m a h) Q:=Br r
def US(r:Rn (m a h) λp=>Q (.ob p.2.length,p.2++[.lst p.1])):Rn (D4 m a h) Q:=Br r
def Hy(r:Rn (m c h) λp=>∃d a b,p.1=[d]/\cp d p.2=some (a,b)/\Q (a,p.2)):Rn (Ek m c h) Q:=aS (r.imp λp ⟨d,a,b,e,f,q⟩=>⟨(a,p.2),by rw[e];dsimp only;rw[f];rfl,q⟩)
def RG(q:Q (none,h)):Rn (AN a h) Q:=⟨_,rfl,q⟩
def RH(r:Rn (a b h) λp=>∃i,p.1=.int i/\Q (some i,p.2)):Rn (AO a b h) Q:=aS (r.imp λp d=>by obtain⟨c,e,q⟩:=d;exact⟨_,by rw[e],q⟩)
abbrev SQ:=Fl×DS×MH->Prop
def Oo(q:Q (.nx,a,h)):Rn (bz a h) Q:=⟨_,rfl,q⟩
def Oq(q:Q (.bk,a,h)):Rn (N7 a h) Q:=⟨_,rfl,q⟩
def uL(b:SM)(Q:SQ):SQ:=λr=>match r.1 with
 | .nx=>Rn (b r.2.1 r.2.2) Q
 | _=>Q r
def lX(r:Rn (a e h) (uL b Q)):Rn (ah a b e h) Q:=aS (r.imp λp q=>by
 obtain⟨f,c,g⟩:=p;cases f with
 | nx=>exact q
 | bk=>exact⟨_,rfl,q⟩
 | ct=>exact⟨_,rfl,q⟩
 | rt d=>exact⟨_,rfl,q⟩)
def MY(r:Rn (e a h) λp=>Q (.nx,a.set i (some p.1),p.2)):Rn (aL i e a h) Q:=aS (r.imp λ_ q=>⟨_,rfl,q⟩)
def MZ(r:Rn (e a h) λp=>Rn (g p.1 a p.2) λq=>Q (.nx,q.1,q.2)):Rn (en e g a h) Q:=aS (r.imp λ_ r=>aS (r.imp λ_ q=>⟨_,rfl,q⟩))
def Hz(r:Rn (e a h) λp=>Q (.nx,a,p.2)):Rn (gp e a h) Q:=aS (r.imp λ_ q=>⟨_,rfl,q⟩)
def Hw(r:Rn (e a h) λp=>Q (.rt p.1,a,p.2)):Rn (aJ e a h) Q:=aS (r.imp λ_ q=>⟨_,rfl,q⟩)
def MX(r:Rn (t d h) λp=>(p.1=true->Rn (a d p.2) Q)/\(p.1=false->Rn (b d p.2) Q)):Rn (et t a b d h) Q:=aS (r.imp λp u9=>by
 obtain⟨f,e⟩:=u9;obtain⟨c,h⟩:=p;cases c with
 | true=>exact f rfl
 | false=>exact e rfl)
def RI(r:Rn (m c h) λp=>∃a b,p.1=[a,b]/\Q (.nx,(c.set i (some a)).set j (some b),p.2)):Rn (Bn i j m c h) Q:=aS (r.imp λp d=>by obtain⟨a,b,e,q⟩:=d;exact⟨_,by rw[e],q⟩)
def E3(q:Q (a.set i (some d),h)):Rn (gN i d a h) Q:=⟨_,rfl,q⟩
def Ow(r:Rn (o a h) λp=>Rn (i a p.2) λq=>Rn (uC p.1 q.1 v q.2) λb=>Q (a,b)):Rn (Sm.uy o i v a h) Q:=aS (r.imp λ_ r=>aS (r.imp λ_ r=>Br r))
def Ov(hn:xs.length=n)(r:Rn (u xs a h) Q):Rn (gT n u (.tup xs) a h) Q:=by
 unfold gT;dsimp only;rw[WC hn];exact r
def gS(r:Rn (g d a h) λp=>Rn (u xs p.1 p.2) Q):Rn (av g u (d::xs) a h) Q:=aS r
def xi(q:Q (a,h)):Rn (bU [] a h) Q:=⟨_,rfl,q⟩
def ET(Q:D×MH->Prop):SQ:=λr=>match r.1 with
 | .rt d=>Q (d,r.2.2)
 | .nx=>Q (.bo,r.2.2)
 | _=>False
def U9(q:Q (d,h)):ET Q (.rt d,a,h):=q
def Va(q:Q (.bo,h)):ET Q (.nx,a,h):=q
def Kn(r:Rn (b a h) Q):uL b Q (.nx,a,h):=r
def Uk(q:Q (.rt d,a,h)):uL b Q (.rt d,a,h):=q
def Ul(q:Q (.bk,a,h)):uL b Q (.bk,a,h):=q
def zQ(I:DS->MH->Prop)(Q:SQ):SQ:=λz=>match z.1 with
 | .nx=>I z.2.1 z.2.2
 | .ct=>I z.2.1 z.2.2
 | .bk=>Q (.nx,z.2.1,z.2.2)
 | .rt d=>Q (.rt d,z.2.1,z.2.2)
def Vf(q:I a h):zQ I Q (.nx,a,h):=q
def Vg(q:Q (.nx,a,h)):zQ I Q (.bk,a,h):=q
def Ve(q:Q (.rt d,a,h)):zQ I Q (.rt d,a,h):=q
def aW(r:Rn (b (entry len ds) h) (ET Q)):Rn (fq len b ds h) Q:=aS (r.imp λp q=>by
 obtain⟨f,a,c⟩:=p;cases f with
 | nx=>exact⟨_,rfl,q⟩
 | rt d=>exact⟨_,rfl,q⟩
 | bk=>exact q.elim
 | ct=>exact q.elim)
def RN(r:Rn (i a h) λp=>Rn (mT p.2.1 g b p.1 a p.2.2) Q):Rn (j9 i g b a h) Q:=aS r
def dI:∀{c:List D} {a:DS} {h:MH} (I:Nat->DS->MH->Prop),I 0 a h->(∀i a h,i<=c.length->I i a h->ir ws h=true)->
  (∀i x a h,c[i]?=some x->I i a h->Rn (g x a h) λq=>Rn (b q.1 q.2) (zQ (I (i+1)) Q))->(∀a h,I c.length a h->Q (.nx,a,h))->Rn (mT ws g b c a h) Q:=by
 intro c
 induction c with
 | nil=>
  intro a h I j l _ m;unfold mT;rw[WC (l 0 a h (WB _) j)];exact⟨_,rfl,m a h j⟩
 | cons x c o=>
  intro a h I j l ht m;unfold mT;rw[WC (l 0 a h (Xe _) j)];obtain⟨q,t,z,s,k⟩:=ht 0 x a h rfl j;rw[t];show Rn ((b q.1 q.2).bind _) Q;rw[s];obtain⟨f,e,n⟩:=z;have next:I 1 e n->Rn (mT ws g b c e n) Q:=λr=>o (λi=>I (i+1)) r (λi a h hl=>l (i+1) a h (Yh hl)) (λi x a h p=>ht (i+1) x a h (by simpa using p)) m
  cases f with
  | nx=>exact next k
  | ct=>exact next k
  | bk=>exact⟨_,rfl,k⟩
  | rt d=>exact⟨_,rfl,k⟩
def dH(r:Rn (e c h) λp=>∃a b,cp p.1 p.2=some (a,b)/\Q (a,b,p.2)):Rn (gY e c h) Q:=aS (r.imp λp ⟨a,b,e,q⟩=>⟨(a,b,p.2),by rw[e];rfl,q⟩)
def gH(r:Rn (m a h) λp=>∃j:Int,p.1=[.int j]/\-(2^62)<=j/\j < 2^62/\Q ((List.range j.toNat).map λ(k:Nat)=>D.int (k:Int),[],p.2)):Rn (mJ m a h) Q:=aS (r.imp λp u9=>by
 obtain⟨j,e,c,b,q⟩:=u9;rw[e];dsimp only;rw[WC ⟨c,b⟩];exact⟨_,rfl,q⟩)
def Ot(r:Rn (m g h) λp=>∃d e c b f a,p.1=[d,e]/\cp d p.2=some (c,f)/\cp e p.2=some (b,a)/\Q (nU c b,f++a,p.2)):Rn (PD m g h) Q:=
 aS (r.imp λp i=>by obtain⟨d,e,c,b,f,a,l,k,j,q⟩:=i;exact⟨_,by rw[l];dsimp only;rw[k];dsimp only[Option.bind_some];rw[j];rfl,q⟩)
def xh(r:Rn (m c h) λp=>∃d a b,p.1=[d]/\cp d p.2=some (a,b)/\Q (iP 0 a,b,p.2)):Rn (zY m c h) Q:=
 aS (r.imp λp e=>by obtain⟨d,a,b,g,f,q⟩:=e;exact⟨_,by rw[g];dsimp only;rw[f];rfl,q⟩)
def Ox(r:Rn (i b h) λp=>Rn (br p.2.1 g c e p.1 (kH a b) p.2.2) λq=>q.1.length<=sizeLine/\Q q):Rn (dR a i g c e b h) Q:=
 aS (r.imp λp r=>aS (r.imp λq ⟨d,f⟩=>⟨q,by rw[WC d],f⟩))
def Dw(k:ir ws h=true)(f:D->Option D)(J:DS->Prop):∀{b:List D} {a:DS},J a->
  (∀x∈b,∀a,J a->Rn (g x a h) λq=>q.2=h/\Rn (c q.1 h) λt=>t.2=h/\J q.1/\(t.1=true->∃y,f x=some y/\Rn (e q.1 h) λp=>p=(y,h))/\(t.1=false->f x=none))->
  br ws g c e b a h=some (b.filterMap f,h):=by
 intro b
 induction b with
 | nil=>
  intro a _ _;unfold br;rw[WC k];rfl
 | cons x b d=>
  intro a o ht;unfold br;rw[WC k];obtain⟨⟨m,z⟩,u,rfl,⟨t,w⟩,l,rfl,v,j,i⟩:=ht x Wy a o;rw[u];dsimp only[Option.bind_some] at l j i ⊢;rw[l];dsimp only[Option.bind_some];have d:=d v λy n=>ht y (Wz _ n);cases t with
  | true=>
   obtain⟨y,s,p,r,rfl⟩:=j rfl;rw[WC rfl,r];dsimp only[Option.bind_some];rw[d,X8,s];rfl
  | false=>
   rw[WE (by simp),d,X8,i rfl]
def zo(h:k∉a.map (·.1)):putD a k v=a++[(k,v)]:=by
 unfold putD;rw[WE];intro z;obtain⟨p,hp,e⟩:=Y7.mp z;exact h (W6.mpr ⟨p,hp,Xa e⟩)
def xW(hd:c9 d h=some a)(b:dm a (.inr x)=some v):aG d (.str x) h=some (v,h):=by
 simp only[aG,hd,qc,WY,b,Xf]
end Sm
namespace Sm
def Oj(q:Q (d,h))(e:a[i]?=some (some d):=by with_unfolding_all rfl):Rn (aD i a h) Q:=eO e q
def RM(r:Rn (u xs a h) Q)(hn:xs.length=n:=by with_unfolding_all rfl):Rn (gT n u (.tup xs) a h) Q:=Ov hn r
end Sm
namespace Sm
open L2
def KQ:∀(i:List D)(P:List D->DS->MH->α->Prop)(b:DS)(h:MH)(a:α),P i b h a->
  (∀x r b h a,P (x::r) b h a->ir ws h=true/\Rn (g x b h) λq=>Rn (c q.1 q.2) λt=>if t.1=true then Rn (m q.1 t.2 a) λz=>P r z.1 z.2.1 z.2.2 else P r q.1 t.2 a)->
  (∀b h a,P [] b h a->ir ws h=true/\Q (b,h,a))->Rn (cZ ws g c m i b h a) Q:=by
 intro r
 induction r with
 | nil=>
  intro P b h a p _ d;obtain⟨f,q⟩:=d b h a p;exact⟨_,by unfold cZ;rw[WC f],q⟩
 | cons x r j=>
  intro P b h a p step d;obtain⟨f,q,o,t,n,e⟩:=step x r b h a p;unfold cZ;rw[WC f,o];show Rn ((c q.1 q.2).bind _) Q;rw[n];show Rn (if t.1=true then _ else _) Q
  by_cases z:t.1=true
  ·rw[WC z] at e ⊢;obtain⟨y,l,k⟩:=e;rw[l];exact j P _ _ _ k step d
  ·rw[WE z] at e ⊢;exact j P _ _ _ e step d
def RO{b:Type}{a:List (Option Nat)}{i:IM}{g:GM}{c:TM}{m:MK b}{e:b}{out:b->D}{Q:D×MH->Prop}(hh:Rn (i d h) λp=>Rn (cZ p.2.1 g c m p.1 (kH a d) p.2.2 e) λq=>Q (out q.2.2,q.2.1)):Rn (Mb a i g c m e out d h) Q:=
 aS (hh.imp λp r=>Br r)
def UT(hh:Rn (k b h) λp=>Rn (v b p.2) λq=>∃c,qc p.1=some c/\a.length < sizeLine/\Q (b,q.2,putD a c q.1)):Rn (mD k v b h a) Q:=
 aS (hh.imp λp r=>aS (r.imp λq u9=>by obtain⟨c,d,l,k⟩:=u9;rw[d];show Rn (if a.length < sizeLine then _ else _) Q;rw[WC l];exact⟨_,rfl,k⟩))
def BB(hh:Rn (a b h) λp=>Rn (l b p.2) λq=>Rn (u b q.2) λr=>Rn (qg p.1 q.1 r.1 r.2) Q):Rn (kd a l u b h) Q:=aS (hh.imp λ_ x=>aS (x.imp λ_ y=>aS y))
def HA(hh:Rn (g a h) λp=>Rn (d a p.2) λq=>Rn (f p.1 q.1 q.2) λr=>∃b,r.1=.bl b/\if b=true then Rn (c a r.2) λu=>Rn (i q.1 u.1 u.2) Q else Q (.bl false,r.2)):Rn (xZ f i g d c a h) Q:=
 aS (hh.imp λp x=>aS (x.imp λq y=>aS (y.imp λr u9=>by
  obtain⟨b,e,k⟩:=u9;rw[e];cases b with
  | true=>rw[WC rfl] at k;exact aS k
  | false=>rw[WE (by simp)] at k;exact⟨_,rfl,k⟩)))
def QX(q:Q (.tup ds,h)):Rn (aH ds h) Q:=⟨_,rfl,q⟩
def QZ(q:Q (.int (-a),h)):Rn (dB (.int a) h) Q:=⟨_,rfl,q⟩
def w_add(q:Q (.int (a+b),h)):Rn (aQ (.int a) (.int b) h) Q:=⟨_,rfl,q⟩
def w_sub(q:Q (.int (a-b),h)):Rn (uB (.int a) (.int b) h) Q:=⟨_,rfl,q⟩
def w_lt(q:Q (.bl (decide (a < b)),h)):Rn (FP (.int a) (.int b) h) Q:=⟨_,rfl,q⟩
def Q1(q:Q (.bl (decide (a<=b)),h)):Rn (L4 (.int a) (.int b) h) Q:=⟨_,rfl,q⟩
def Ue(q:Q (.bl (decide (b < a)),h)):Rn (Gh (.int a) (.int b) h) Q:=⟨_,rfl,q⟩
def Ug(q:Q (.bl (decide (b<=a)),h)):Rn (Sz (.int a) (.int b) h) Q:=⟨_,rfl,q⟩
def Q6(q:Q (.bl (a==b),h)):Rn (bL (.int a) (.int b) h) Q:=⟨_,rfl,q⟩
def Q0(q:Q (.bl (!(a==b)),h)):Rn (qh (.int a) (.int b) h) Q:=⟨_,rfl,q⟩
def Q5(q:Q (.bl (x==y),h)):Rn (bL (.str x) (.str y) h) Q:=⟨_,rfl,q⟩
def Q4(q:Q (d,h)):Rn (aG (.tup (d::r)) (.int 0) h) Q:=⟨_,by
 show((gg (d::r) 0).map λz=>(z,h))=_;have:gg (d::r) 0=some d:=by unfold gg;rw[show ux (d::r).length 0=some 0 by unfold ux;simp;try lia];rfl
 rw[this];rfl,q⟩
def Q3(q:Q (e,h)):Rn (aG (.tup (d::e::r)) (.int 1) h) Q:=⟨_,by
 show((gg (d::e::r) 1).map λz=>(z,h))=_;have:gg (d::e::r) 1=some e:=by unfold gg;rw[show ux (d::e::r).length 1=some 1 by unfold ux;simp;try lia];rfl
 rw[this];rfl,q⟩
def Q2(q:Q (f,h)):Rn (aG (.tup (d::e::f::r)) (.int 2) h) Q:=⟨_,by
 show((gg (d::e::f::r) 2).map λz=>(z,h))=_;have:gg (d::e::f::r) 2=some f:=by unfold gg;rw[show ux (d::e::f::r).length 2=some 2 by unfold ux;simp;try lia];rfl
 rw[this];rfl,q⟩
def Nw(q:Q (.int r.length,h)):Rn (bR [.tup r] h) Q:=⟨_,rfl,q⟩
def Nx(q:Q (.int r.length,h)):Rn (bR [.lv r] h) Q:=⟨_,rfl,q⟩
inductive tL{α β:Type}(R:α->β->Prop):List α->List β->Prop where
 | nil:tL R [] []
 | cons {x y xs ys}:R x y->tL R xs ys->tL R (x::xs) (y::ys)
theorem tL.length{c:List α}{b:List β}(a:tL R c b):b.length=c.length:=by
 induction a with
 | nil=>rfl
 | cons _ t d=>rw[WN,WN,d]
def tL.right{c:List α}{b:List β}(a:tL R c b):∀y∈b,∃x∈c,R x y:=by
 induction a with
 | nil=>exactλ_ h=>(nomatch h)
 | cons r t d=>
  intro y h;rcases WI.mp h with rfl | h
  ·exact⟨_,Wy,r⟩
  ·obtain⟨x,e,r⟩:=d y h;exact⟨x,Wz _ e,r⟩
def qA(R:D->D->Prop):∀{xs:List D} {δ:DS} {h:MH} (J:Nat->DS->MH->Prop),J 0 δ h->(∀i δ h,i<=xs.length->J i δ h->ir ws h=true)->
  (∀i x δ h,xs[i]?=some x->J i δ h->Rn (g x δ h) λq=>Rn (e q.1 q.2) λy=>R x y.1/\J (i+1) q.1 y.2)->Rn (br ws g cb e xs δ h) λp=>tL R xs p.1/\∃b,J xs.length b p.2:=by
 intro xs
 induction xs with
 | nil=>
  intro δ h J c d _;unfold br;rw[WC (d 0 δ h (WB _) c)];exact⟨_,rfl,.nil,δ,c⟩
 | cons x xs m=>
  intro δ h J c d ht;unfold br;rw[WC (d 0 δ h (Xe _) c)];obtain⟨⟨k,s⟩,u,⟨y,w⟩,f,r,j⟩:=ht 0 x δ h rfl c;dsimp only at f r j;obtain⟨⟨l,o⟩,t,a,b,v⟩:=m (λi=>J (i+1)) j (λi δ h hl=>d (i+1) δ h (Yh hl)) λi y δ h n=>ht (i+1) y δ h (by simpa using n);refine⟨(y::l,o),?_,.cons r a,b,v⟩;rw[u];dsimp only[Option.bind_some];show((some (true,s)).bind _)=_;dsimp only[Option.bind_some];rw[WC rfl,f];dsimp only[Option.bind_some];rw[t];rfl
def xj(R:D->D->Prop):∀{xs:List D} {δ:DS} {h:MH} (J:Nat->DS->MH->Prop),J 0 δ h->(∀i δ h,i<=xs.length->J i δ h->ir ws h=true)->
  (∀i x δ h,xs[i]?=some x->J i δ h->Rn (g x δ h) λq=>Rn (c q.1 q.2) λt=>(t.1=true->Rn (e q.1 t.2) λy=>R x y.1/\J (i+1) q.1 y.2)/\(t.1=false->J (i+1) q.1 t.2))->Rn (br ws g c e xs δ h) λp=>p.1.length<=xs.length/\(∀y∈p.1,∃x∈xs,R x y)/\∃b,J xs.length b p.2:=by
 intro xs
 induction xs with
 | nil=>
  intro δ h J f j _;unfold br;rw[WC (j 0 δ h (WB _) f)];exact⟨_,rfl,WB _,λ_ z=>(nomatch z),δ,f⟩
 | cons x xs F=>
  intro δ h J f j ht;unfold br;rw[WC (j 0 δ h (Xe _) f)];obtain⟨⟨E,O⟩,L,⟨t,N⟩,C,A,w⟩:=ht 0 x δ h rfl f;dsimp only at C A w;rw[L];dsimp only[Option.bind_some];rw[C];dsimp only[Option.bind_some];have next:=λ{b:DS} {H:MH} (k:J 1 b H)=>F (λi=>J (i+1)) k (λi δ h hl=>j (i+1) δ h (Yh hl)) λi y δ h G=>ht (i+1) y δ h (by simpa using G)
  cases t with
  | true=>
   obtain⟨⟨y,M⟩,I,r,k⟩:=A rfl;dsimp only at r k;obtain⟨⟨m,o⟩,s,l,a,b,v⟩:=next k
   refine⟨(y::m,o),?_,Yh l,λz d=>?_,b,v⟩
   ·rw[WC rfl,I];dsimp only[Option.bind_some];rw[s];rfl
   ·rcases WI.mp d with rfl | d
    ·exact⟨x,Wy,r⟩
    ·obtain⟨u,n,r⟩:=a z d;exact⟨u,Wz _ n,r⟩
  | false=>
   obtain⟨⟨m,o⟩,s,l,a,b,v⟩:=next (w rfl)
   refine⟨(m,o),?_,Xu l,λz d=>?_,b,v⟩
   ·rw[WE (by decide),s]
   ·obtain⟨u,n,r⟩:=a z d;exact⟨u,Wz _ n,r⟩
def SO(r:Rn (e a h) λp=>Rn (b (a.set i (some p.1)) p.2) Q):Rn (ah (aL i e) b a h) Q:=lX (MY (r.imp λ_ q=>Kn q))
def SY(r:Rn (e a h) λp=>Rn (g p.1 a p.2) λq=>Rn (b q.1 q.2) Q):Rn (ah (en e g) b a h) Q:=lX (MZ (r.imp λ_ q=>q.imp λ_ q=>Kn q))
def Qi(r:Rn (e a h) λp=>Rn (b a p.2) Q):Rn (ah (gp e) b a h) Q:=lX (Hz (r.imp λ_ q=>Kn q))
def Wm(r:Rn (m a h) λq=>Q (d::q.1,q.2))(e:a[i]?=some (some d):=by with_unfolding_all rfl):Rn (af (aD i) m a h) Q:=fU (eO e r)
def Wn(r:Rn (m a h) λq=>Q (d::q.1,q.2)):Rn (af (eK d) m a h) Q:=fU (RK r)
def Vw(r:Rn (f [d] h) Q)(e:a[i]?=some (some d):=by with_unfolding_all rfl):Rn (aj f (af (aD i) aT) a h) Q:=E4 (fU (eO e (vc r)))
def Vv(r:Rn (f [d,c] h) Q)(e:a[i]?=some (some d):=by with_unfolding_all rfl)(b:a[j]?=some (some c):=by with_unfolding_all rfl):Rn (aj f (af (aD i) (af (aD j) aT)) a h) Q:=E4 (fU (eO e (fU (eO b (vc r)))))
def Vu(r:Rn (f [d,l,c] h) Q)(e:a[i]?=some (some d):=by with_unfolding_all rfl)(g:a[j]?=some (some l):=by with_unfolding_all rfl)(b:a[k]?=some (some c):=by with_unfolding_all rfl):Rn (aj f (af (aD i) (af (aD j) (af (aD k) aT))) a h) Q:=E4 (fU (eO e (fU (eO g (fU (eO b (vc r)))))))
def SU(r:Rn (f d c h) Q)(e:a[i]?=some (some d):=by with_unfolding_all rfl):Rn (ai f (aD i) (eK c) a h) Q:=xg (eO e (RK r))
def SR(r:Rn (f d c h) Q)(e:a[i]?=some (some d):=by with_unfolding_all rfl)(b:a[j]?=some (some c):=by with_unfolding_all rfl):Rn (ai f (aD i) (aD j) a h) Q:=xg (eO e (eO b r))
def Vs(r:Rn (b a h) λq=>Rn (f d q.1 q.2) Q)(e:a[i]?=some (some d):=by with_unfolding_all rfl):Rn (ai f (aD i) b a h) Q:=xg (eO e r)
def Vt(r:Rn (a b h) λq=>Rn (f q.1 c q.2) Q):Rn (ai f a (eK c) b h) Q:=xg (r.imp λ_ r=>RK r)
def SX(q:Q ((c.set i (some a)).set j (some b),h)):Rn (gT 2 (av (gN i) (av (gN j) bU)) (.tup [a,b]) c h) Q:=Ov rfl (gS (E3 (gS (E3 (xi q)))))
def SV(q:Q (((d.set i (some a)).set j (some b)).set k (some c),h)):Rn (gT 3 (av (gN i) (av (gN j) (av (gN k) bU))) (.tup [a,b,c]) d h) Q:=Ov rfl (gS (E3 (gS (E3 (gS (E3 (xi q)))))))
def Qf(q:Q (.rt d,a,h))(e:a[i]?=some (some d):=by with_unfolding_all rfl):Rn (aJ (aD i) a h) Q:=Hw (eO e q)
def Qg(q:Q (.rt d,a,h)):Rn (aJ (eK d) a h) Q:=Hw (RK q)
end Sm
namespace L2
open PyProof.Rows
abbrev Vd:Hp:=λ_=>none
structure Tab(P:Program)(w:World)(K:FR)(mg:Str->Option Value)(nm:Str)(tb:List (Str×List Int)):Prop where
 ex:∃(a:Addr)(o:Obj)(es:Array DictEntry)(ep:Nat)(kvs:List (Str×Value)),mg nm=some (.ref a)/\K.lookup a=some o/\o.ExactDict/\o.data=.dict es ep/\(a==sysModules)=false/\KeysOf (strKind P w) es/\Pairs (strKind P w) es.toList kvs/\(kvs.map (·.1)).Nodup/\
  Sm.tL (λ(x:Str×List Int)(y:Str×Value)=>x.1=y.1/\∃(t:Addr)(u:Obj)(its:Array Value)(n:Nat),y.2=.ref t/\K.lookup t=some u/\u.cls=.type "tuple"/\u.dict=none/\u.data=.seq its n/\its.size<=sizeLine/\IntsAre its.toList x.2) tb kvs
def EA{K:FR}:∀{f:List (Str×List Int)} {c:List (Str×Value)},Sm.tL (λ(x:Str×List Int)(y:Str×Value)=>x.1=y.1/\∃(t:Addr)(u:Obj)(d:Array Value)(n:Nat),y.2=.ref t/\K.lookup t=some u/\u.cls=.type "tuple"/\u.dict=none/\u.data=.seq d n/\d.size<=sizeLine/\IntsAre d.toList x.2) f c->∀x:Str,
  (∀i,f.lookup x=some i->∃t,valueAt c x=some (.ref t)/\∀H,iZ K H t (i.map V.int))/\(valueAt c x).isSome=(f.lookup x).isSome:=by
 intro f c h
 induction h with
 | nil=>exactλx=>⟨λi e=>(nomatch e),rfl⟩
 | @cons p q f c r l w=>
  intro x;obtain⟨a,g⟩:=p;obtain⟨b,v⟩:=q;obtain⟨s,t,u,d,n,o,G,F,E,C,A,m⟩:=r;dsimp only at s o m;subst s;subst o
  by_cases k:x=a
  ·subst k;have j:valueAt ((x,Value.ref t)::c) x=some (.ref t):=by unfold valueAt;simp
   have hl:((x,g)::f).lookup x=some g:=by simp
   refine⟨λi e=>?_,by rw[j,hl];rfl⟩;rw[hl] at e;cases e;exact⟨t,j,λH=>.inr ⟨u,d,n,G,F,C,A,nW m,E⟩⟩
  ·have j:valueAt ((a,Value.ref t)::c) x=valueAt c x:=by
    unfold valueAt;rw[Abq (by simpa using λz=>k z.symm)]
   have hl:((a,g)::f).lookup x=f.lookup x:=by
    rw[Xs,show(x==a)=false by simpa using k]
   rw[j,hl];exact w x
def Tab.dict(T:Tab X.prog X.w X.K X.mg nm c)(I:Inv X pins σ H s):∃(a:Addr)(b:List (Str×Value)),X.mg nm=some (.ref a)/\(a==sysModules)=false/\s.heap.DictOf (strKind X.prog X.w) a b/\∀x:Str,
  (∀d,c.lookup x=some d->∃t,valueAt b x=some (.ref t)/\∀H,iZ X.K H t (d.map V.int))/\(valueAt b x).isSome=(c.lookup x).isSome:=by
 obtain⟨a,o,n,p,b,m,l,k,j,i,h,g,f,e⟩:=T.ex;exact⟨a,b,m,i,⟨o,n,p,I.vJ a o l,k,j,h,g,f⟩,EA e⟩
def OO(T:Tab X.prog X.w X.K X.mg nm r)(F:Gl X nm)(E:PE X i o)(C:MA i)(hd:(nm==("__debug__":Str))=false):
  PE X (.Subscript (.Name nm p) i pos) (λg H Q=>o g H λy L=>∃x f,y=.str x/\r.lookup x=some f/\∀t,iZ X.K Vd t (f.map V.int)->Q (.ref t) L):=by
 intro b s g H Q I h;obtain⟨a,z,hm,A,dd,N⟩:=T.dict I;refine Kr Zw.lookup C (xJ I F hm (b5 (E b s g H _ I h) λM s2 u9=>?_) hd);obtain⟨y,J,n,v,x,f,G,l,q⟩:=u9;subst G;obtain⟨t,rfl⟩:=v;obtain⟨O,k,c,m,d,j⟩:=T.dict n;rw[hm] at c;cases c;obtain⟨u,e,sq⟩:=(j x).1 f l;exact⟨d.typeIs,wpAny_getItem_of (by show Value.isStrOf x (.str x t)=true;unfold Value.isStrOf;simp) d.mapOf e ⟨.ref u,J,n.tok _,rfl,q u (sq _)⟩⟩
end L2
namespace Sm
open L2 PyProof.Rows
noncomputable def PL(a:List (Str×List Int))(d:D)(h:MH):Option (D×MH):=match d with
 | .str x=>(a.lookup x).map λb=>(.tup (b.map D.int),h)
 | _=>none
def NZ(T:Tab X.prog X.w X.K X.mg nm j)(o:SE X i m)(q:Gl X nm:=by unfold Gl;ac_nf)(n:MA i:=by unfold MA;intro _ _;ac_nf)(hd:(nm==("__debug__":Str))=false:=by ac_nf):SE X (.Subscript (.Name nm p) i pos) (kG (PL j) m):=
 (OO T q o n hd).imp λσ H Q ⟨f,g,h,d,E,R,S,e,k⟩=>by
  obtain⟨⟨x,r⟩,z,a⟩:=aZ e;dsimp only at a;refine⟨f,g,h,x,r,R,S,z,λv H1 u9=>?_⟩;obtain⟨b,A,C,l⟩:=u9;unfold PL at a
  split at a
  ·rename_i y;obtain⟨c,u,s⟩:=eg a;cases s;cases l;exact⟨_,c,rfl,u,λt sq=>k _ _ ⟨b,A,C,.tup (.inr sq) (repL_ints' c)⟩⟩
  ·cases a
end Sm
namespace Hd
open PySem.W PyProof.Rows L2 Sm
abbrev Sub(h h':Heap):Prop:=∀b o,h.get? b=some o->h'.get? b=some o
def Bo(k:Sub h b)(x:rowAt h e=some r):rowAt b e=some r:=by
 unfold rowAt at x ⊢
 split at x
 ·split at x
  ·split at x
   ·rename_i u a;rw[k _ _ a];exact x
   ·cases x
  ·cases x
 ·cases x
theorem pf(k:Sub h b):∀{a:List DictEntry} {r:List (Str×Int×List Int)},kQ h a=some r->kQ b a=some r
 | [],_,x=>x
 | e::a,r,x=>by
  unfold kQ at x ⊢;obtain⟨y,d,x⟩:=ZR.mp x;obtain⟨f,c,x⟩:=W0.mp x;rw[Bo k d,pf k c];exact congrArg some x
def Ba(k:Sub h c)(x:tabAt h nm=some r):tabAt c nm=some r:=by
 have f:∀v,h.nsMap mainGlobals nm=some v->c.nsMap mainGlobals nm=some v:=λv e=>by
  unfold Heap.nsMap at e ⊢
  split at e
  ·rename_i o b;rw[k _ _ b];exact e
  ·cases e
 unfold tabAt at x ⊢
 split at x
 ·rename_i a i;rw[f _ i];dsimp only
  split at x
  ·cases x
  ·rename_i d;rw[WE d]
   split at x
   ·rename_i o b;rw[k _ _ b];dsimp only
    split at x
    ·rename_i g;rw[WC g]
     split at x
     ·exact pf k x
     ·cases x
    ·cases x
   ·cases x
 ·cases x
theorem zW:∀{b:List Value} {a:List Int},DN b=some a->IntsAre b a
 | [],_,e=>by cases e;exact .nil
 | v::r,a,e=>by
  cases v <;> first |(exact cf e) | skip
  obtain⟨f,d,c⟩:=W0.mp (show(DN r).map _=some a from e);subst c;exact .cons _ _ (zW d)
def sW(h:Ar v t=true):v=.type t:=by
 unfold Ar at h
 split at h
 ·rw[Xa h]
 ·cases h
theorem rp:∀{i:List DictEntry} {d:List (Str×List Int)},kQ h i=some (d.map λx=>(x.1,hashStr w x.1,x.2))->
  ∃b:List (Str×Value),(∀e∈i,∃k,(PySem.strKind P w).is k e.key=true/\e.hash=(PySem.strKind P w).hash k)/\Pairs (PySem.strKind P w) i b/\b.map (·.1)=d.map (·.1)/\
   tL (λ(x:Str×List Int)(y:Str×Value)=>x.1=y.1/\∃(t:Addr)(u:Obj)(c:Array Value)(n:Nat),y.2=.ref t/\(aF h).lookup t=some u/\u.cls=.type "tuple"/\u.dict=none/\u.data=.seq c n/\c.size<=sizeLine/\IntsAre c.toList x.2) d b
 | [],d,x=>by
  have r:d=[]:=by
   have:=Option.some.inj x;exact List.map_eq_nil_iff.mp this.symm
  subst r;exact⟨[],λ_ z=>(nomatch z),.nil,rfl,.nil⟩
 | e::i,d,x=>by
  unfold kQ at x;obtain⟨y,a,x⟩:=ZR.mp x;obtain⟨Q,N,x⟩:=W0.mp x;cases d with
  | nil=>cases x
  | cons q d=>
   rw[WG] at x;obtain⟨rfl,rfl⟩:=List.cons.inj x;obtain⟨b,H,G,F,E⟩:=rp (P:=P) N;unfold rowAt at a
   split at a
   ·rename_i m o C
    split at a
    ·rename_i t s
     split at a
     ·rename_i u v
      split at a
      ·rename_i j;rw[WS] at j
       split at a
       ·rename_i c n hd
        split at a
        ·rename_i A;obtain⟨p,M,l⟩:=W0.mp a;have L:m=q.1:=congrArg (·.1) l;have J:e.hash=hashStr w q.1:=congrArg (·.2.1) l;have I:p=q.2:=congrArg (·.2.2) l;have g:(PySem.strKind P w).is q.1 e.key=true:=by rw[C,L];show Value.isStrOf q.1 (.str q.1 o)=true;unfold Value.isStrOf;simp
         refine⟨(q.1,.ref t)::b,λO f=>?_,.cons g s G,by rw[WG,WG,F],.cons ⟨rfl,t,u,c,n,rfl,fJ v rfl,sW j.1,by simpa using j.2,hd,WL A (by decide),by rw[<-I];exact zW M⟩ E⟩;rcases WI.mp f with rfl | f
         ·exact⟨q.1,g,J⟩
         ·exact H O f
        ·cases a
       ·cases a
      ·cases a
     ·cases a
    ·cases a
   ·cases a
def tab_of(x:tabAt h nm=some (d.map λx=>(x.1,hashStr w x.1,x.2)))(g:h.Ns mainGlobals mg)(nd:(d.map (·.1)).Nodup):Tab P w (aF h) mg nm d:=by
 unfold tabAt at x
 split at x
 ·rename_i a k
  split at x
  ·cases x
  ·rename_i f
   split at x
   ·rename_i o i
    split at x
    ·rename_i b;rw[WS,WS] at b
     split at x
     ·rename_i r t hd;obtain⟨c,p,n,m,l⟩:=rp (P:=P) x;have hm:mg nm=some (.ref a):=by
       obtain⟨u,q,s,g1,g2,_,g3⟩:=g;rw[<-g3 nm,<-k];unfold Heap.nsMap;rw[g1];dsimp only;rw[g2]
      exact⟨a,o,r,t,c,hm,fJ i rfl,⟨sW b.1.1,by simpa using b.1.2,Xa b.2⟩,hd,by simpa using f,λe j=>p e (Yl.mpr j),n,by rw[m];exact nd,l⟩
     ·cases x
    ·cases x
   ·cases x
 ·cases x
end Hd
namespace L2
open PyProof.Rows
end L2
namespace Sm
open L2 PyProof.Rows
end Sm
namespace Sb
open L2 PyProof.Rows
open Builtin.SmallTypes (nextOf ownedTupleIsFree ownedTupleHandOut)
abbrev lh(h:Heap)(z T U:Addr)(t:Addr)(f:Bool):Prop:=
 h.get? z=some {cls:=.type "zip",dict:=none,data:=.fields #[rawInt t,.bool f,.bool false,.ref T,.ref U],slots:=#[]}
def alive(b:s.heap.get? a=some o)(h:Q (some o) s):wpAny (model P w) A (loadIfAlive a) Q E s:=by
 have c:Q (s.heap.get? a) s:=by rw[b];exact h
 exactλ_ _ _=>c
def seen(d:lh s.heap z T U t f)(k:∀a,lh a z T U t true->Heap.SameBut z s.heap a->C false {s with heap:=a}):
  wpAny (model P w) A (if(Value.bool f !=Value.bool true)=true then do setField (.ref z) 1 (.bool true);pure false else pure false) C E s:=by
 cases f with
 | true=>rw[WE (by decide)];exact Wt (k s.heap d (Heap.SameBut.refl ..))
 | false=>
  rw[WC (by decide)];refine Wr (wpAny_setField_rec d (by simp) λa b c=>Wt (k a ?_ c));exact b
def Ki (D:Zp z T U p q l m) (u:lh s.heap z T U t f) (ht:s.heap.get? t=some Y) (M:IsPair s.heap T (.ref p) (.ref q)) (X:At b s.heap p l i) (S:At c s.heap q m i) (hl:Of b s.heap l xs) (hm:Of c s.heap m N) (R:xs[i]?=some x) (O:N[i]?=some y) (k:∀r,lh r z T U t true->At b r p l (i+1)->At c r q m (i+1)->IsPair r s.heap.objs.size x y->r.objs.size=s.heap.objs.size+1->
   (∀a o,a≠z->a≠p->a≠q->s.heap.get? a=some o->r.get? a=some o)->Q (some (.ref s.heap.objs.size)) {s with heap:=r}):wpAny (model P w) A (pyNext (.ref z)) Q E s:=by
 have ty:s.TypeIs (.ref z) "zip":=⟨_,u,rfl⟩;unfold pyNext;refine Wr (Yx (Xd (name:=Str.ofString "__next__") ty YJ (Xg YJ ty Z9 ?_ (Z1 _))));show wpAny _ _ (field (.ref z) 2 >>=_) _ _ _;refine Wr (Xl u rfl (x:=.bool false) rfl ?_);show wpAny _ _ (field (.ref z) 3 >>=_) _ _ _;refine Wr (Xl u rfl (x:=.ref T) rfl (Wr (XA M rfl ?_)));show wpAny _ _ (ownedTupleIsFree (.ref z) >>=_) _ _ _;refine Wr ?_;unfold ownedTupleIsFree;refine Wr (Xl u rfl (x:=rawInt t) rfl ?_);show wpAny _ _ (loadIfAlive ((t:Int).toNat) >>=_) _ _ _;rw[W7];refine Wr (alive ht ?_);simp only[Option.isNone_some,WU,XB];refine Wr (Xl u rfl (x:=.bool f) rfl ?_);refine seen u λI C d=>?_;simp only[WU,XB];have J:IsPair I T (.ref p) (.ref q):=d.extBut _ _ D.Tz M;refine Wr ?_;rw[<-Yu];simp only[Za,Aaf];refine Wr (Wr (Xj ?_));show wpAny _ _ (nextOf (.ref p) >>=_) _ _ _;refine Wr (sy (X.up λo e=>d.extBut _ o D.pz e) (hl.up λo e=>d.extBut _ o D.lz e) R λL H h=>Wt ?_);refine Wt ?_;refine Wr (Wr (Xj ?_));show wpAny _ _ (nextOf (.ref q) >>=_) _ _ _;refine Wr (sy (S.up λo e=>h.extBut _ o D.pq.symm (d.extBut _ o D.qz e)) (hm.up λo e=>h.extBut _ o D.mp (d.extBut _ o D.mz e)) O λg F j=>Wt ?_);refine Wt ?_;refine Wt ?_;dsimp only;refine Wr (ZN ?_ (hsz:=by show 2<=sizeLine;rw[XR];lia));have sz:g.objs.size=s.heap.objs.size:=by rw[j.1,h.1,d.1]
 have v:lh g z T U t true:=j.extBut _ _ D.qz.symm (h.extBut _ _ D.pz.symm C);have n:∀a o,a≠z->a≠p->a≠q->s.heap.get? a=some o->g.get? a=some o:=λa o a1 a3 a4 e=>j.extBut _ _ a4 (h.extBut _ _ a3 (d.extBut _ _ a1 e));have G:At b g p l (i+1):=H.up λo e=>j.extBut _ o D.pq e;refine Wt ⟨_,rfl,Wt ?_⟩;show Q (some (.ref g.objs.size)) _;rw[sz];refine k (g.push {cls:=.type "tuple",data:=.seq #[x,y]}) (Wu _ v) (G.up λo e=>Wu _ e) (F.up λo e=>Wu _ e) ?_ (by rw[XF,sz]) λa o a1 a3 a4 e=>Wu _ (n a o a1 a3 a4 e);rw[<-sz];exact WK _ rfl
def yA(hh:A.handled=none)(D:Zp z T U p q l m)(n:lh s.heap z T U t f)(ht:s.heap.get? t=some S)(N:IsPair s.heap T (.ref p) (.ref q))(J:At b s.heap p l i)(O:At c s.heap q m i)(hl:Of b s.heap l xs)(hm:Of c s.heap m F)(M:xs[i]?=none\/F[i]?=none)(k:∀L,(∀a o,a≠z->a≠p->a≠q->s.heap.get? a=some o->L.get? a=some o)->Q none {s with heap:=L}):wpAny (model P w) A (pyNext (.ref z)) Q E s:=by
 have ty:s.TypeIs (.ref z) "zip":=⟨_,n,rfl⟩;unfold pyNext;refine Wr (Yx (Xd (name:=Str.ofString "__next__") ty YJ (Xg YJ ty Z9 ?_ (Z1 _))));show wpAny _ _ (field (.ref z) 2 >>=_) _ _ _;refine Wr (Xl n rfl (x:=.bool false) rfl ?_);show wpAny _ _ (field (.ref z) 3 >>=_) _ _ _;refine Wr (Xl n rfl (x:=.ref T) rfl (Wr (XA N rfl ?_)));show wpAny _ _ (ownedTupleIsFree (.ref z) >>=_) _ _ _;refine Wr ?_;unfold ownedTupleIsFree;refine Wr (Xl n rfl (x:=rawInt t) rfl ?_);show wpAny _ _ (loadIfAlive ((t:Int).toNat) >>=_) _ _ _;rw[W7];refine Wr (alive ht ?_);simp only[Option.isNone_some,WU,XB];refine Wr (Xl n rfl (x:=.bool f) rfl ?_);refine seen n λI C d=>?_;simp only[WU,XB];refine Wr ?_;rw[<-Yu];simp only[Za,Aaf];refine Wr (Wr (Xj ?_));show wpAny _ _ (nextOf (.ref p) >>=_) _ _ _;cases ex:xs[i]? with
 | none=>
  refine Wr (zL hh (J.up λo e=>d.extBut _ o D.pz e) (hl.up λo e=>d.extBut _ o D.lz e) ex λv e g u9=>?_);obtain⟨y,h,j⟩:=u9;refine Wr (X4 (T:="StopIteration") (b:=true) ⟨y,h,j⟩ YX (Wt (k _ λa o a1 a3 _ r=>g _ _ a3 (d.extBut _ _ a1 r))))
 | some x=>
  have R:F[i]?=none:=by rcases M with r | r;rw[ex] at r;cases r;exact r
  refine Wr (sy (J.up λo e=>d.extBut _ o D.pz e) (hl.up λo e=>d.extBut _ o D.lz e) ex λv G g=>Wt ?_);refine Wt ?_;refine Wr (Wr (Xj ?_));show wpAny _ _ (nextOf (.ref q) >>=_) _ _ _;refine Wr (zL hh (O.up λo e=>g.extBut _ o D.pq.symm (d.extBut _ o D.qz e)) (hm.up λo e=>g.extBut _ o D.mp (d.extBut _ o D.mz e)) R λH e u u9=>?_);obtain⟨y,h,j⟩:=u9;refine Wr (X4 (T:="StopIteration") (b:=true) ⟨y,h,j⟩ YX (Wt (k _ λa o a1 a3 a4 r=>u _ _ a4 (g.extBut _ _ a3 (d.extBut _ _ a1 r)))))
structure Mw(b c:Bool)(lo:Nat)(z T U p q l m:Addr)(i:Nat)(h:Heap):Prop where
 UP:IsZip h z T U .none\/∃t f ot,lh h z T U t f/\h.get? t=some ot/\lo<=t
 T_:IsPair h T (.ref p) (.ref q)
 U_:∃u v,IsPair h U u v
 p_:At b h p l i
 q_:At c h q m i
def DR{a:Nat}{t d:Addr}(h:a<=t)(hd:d < a):t≠d:=λe=>absurd (WM hd h) (by rw[e];exact YE _)
def Mw.but{g:Nat}{z T U p q l m d:Addr}{i:Nat}{h n:Heap}(x:Mw b c g z T U p q l m i h)(hd:∀t∈[z,T,U,p,q],t≠d)(hl:d < g)(k:∀a o,a≠d->h.get? a=some o->n.get? a=some o):Mw b c g z T U p q l m i n:=
 ⟨x.UP.imp (λy=>k _ _ (hd z (by simp)) y) λ⟨t,f,r,w,s,j⟩=>⟨t,f,r,k _ _ (hd z (by simp)) w,k _ _ (DR j hl) s,j⟩,k _ _ (hd T (by simp)) x.T_,let⟨u,v,e⟩:=x.U_;⟨u,v,k _ _ (hd U (by simp)) e⟩,x.p_.up λo e=>k _ o (hd p (by simp)) e,x.q_.up λo e=>k _ o (hd q (by simp)) e⟩
def Mw.next{h:Nat}{z T U p q l m:Addr}{i:Nat}{I H:Array Value}{x y:Value}{Q:Option Value->Shared->Prop}(D:Zp z T U p q l m)(st:Mw b c h z T U p q l m i s.heap)(j:z < h/\U < h/\p < h/\q < h)(Y:h<=s.heap.objs.size)
  (hl:Of b s.heap l I) (hm:Of c s.heap m H) (L:I[i]?=some x) (J:H[i]?=some y)
  (k:∀g,Mw b c h z T U p q l m (i+1) g->IsPair g s.heap.objs.size x y->g.objs.size=s.heap.objs.size+1->
   (∀a o,a≠z->a≠U->a≠p->a≠q->s.heap.get? a=some o->g.get? a=some o)->Q (some (.ref s.heap.objs.size)) {s with heap:=g}):wpAny (model P w) A (pyNext (.ref z)) Q E s:=by
 obtain⟨hr,r,⟨u,v,M⟩,O,N⟩:=st;rcases hr with F |⟨t,f,R,F,ht,d⟩
 ·refine yC D F r M O N hl hm L J λg a1 a2 a3 a4 C G n=>?_;exact k g ⟨.inr ⟨_,false,_,a1,C,Y⟩,n _ _ D.Tz D.TU D.Tp D.Tq r,⟨_,_,a2⟩,a3,a4⟩ C G n
 ·refine Ki D F ht r O N hl hm L J λg a1 a3 a4 C G n=>?_;exact k g ⟨.inr ⟨t,true,R,a1,n _ _ (DR d j.1) (DR d j.2.2.1) (DR d j.2.2.2) ht,d⟩,n _ _ D.Tz D.Tp D.Tq r,⟨u,v,n _ _ D.Uz D.Up D.Uq M⟩,a3,a4⟩ C G λa o n1 _ X S e=>n a o n1 X S e
def Mw.done{G:Nat}{z T U p q l m:Addr}{i:Nat}{j h:Array Value}{Q:Option Value->Shared->Prop}(hh:A.handled=none)(D:Zp z T U p q l m)(st:Mw b c G z T U p q l m i s.heap)
  (hl:Of b s.heap l j) (hm:Of c s.heap m h) (n:j[i]?=none\/h[i]?=none)
  (k:∀d,(∀a o,a≠z->a≠U->a≠p->a≠q->s.heap.get? a=some o->d.get? a=some o)->Q none {s with heap:=d}):wpAny (model P w) A (pyNext (.ref z)) Q E s:=by
 obtain⟨hr,r,⟨u,v,I⟩,y,x⟩:=st;rcases hr with g |⟨t,f,L,g,ht,H⟩
 ·exact CP hh D g r I y x hl hm n k
 ·exact yA hh D g ht r y x hl hm n λd a=>k d λJ o n1 _ F C e=>a J o n1 F C e
end Sb
namespace PySem
def ke:typeLookup (.type "zip") "__getattr__"=pure none:=by rw[Abj,Aap];ac_nf
def gh:entryFor table "zip.__getattribute__"=some Builtin.«object.__getattribute__»:=
 entryFor_alias (id':="object.__getattribute__") (by ac_nf) (by decide+kernel) (by decide+kernel) (by ac_nf)
def fy(a:Addr)(fs:Array Value)(i:Array (Option Value))(name:Str)(u:Tok)(f:typeLookup (.type "zip") name=pure none)(b:(["__module__","__name__","__qualname__","__doc__","__annotations__"]:List Str).contains name=false)(e:name.length+100<=sizeLine:=by size_fits):
  Meets (Builtin.«object.__getattribute__» ⟨[.ref a,.str name u],[]⟩) (λA R s=>s.heap.get? a=some {cls:=.type "zip",dict:=none,data:=.fields fs,slots:=i}/\raisesAttr (.ref a) name A R s):=
 Meets.of_wp λprog w A R s c=>by
  obtain⟨hp,g,d,h,os⟩:=s;obtain⟨j,c⟩:=c;have k:(⟨hp,g,d,h,os⟩:Shared).TypeIs (.ref a) "zip":=⟨_,j,rfl⟩;unfold Builtin.«object.__getattribute__»
  repeat(any_goals (first | assumption | wp_step))
  simp only[b,WU,XB]
  repeat(any_goals (first | assumption | wp_step))
  exact wpAny_raiseAttrError c.1 c.2 (attrMsg_fits (by decide+kernel) e)
end PySem
namespace L2
open PyProof.Rows
def zS:typeLookup (.type "zip") "keys"=pure none:=by rw[Abj,Aap];ac_nf
def Lw(k:s.heap.get? a=some {cls:=.type "zip",dict:=none,data:=.fields fs,slots:=#[]})(p:A.handled=none)(h:∀i j,(∀b o,s.heap.get? b=some o->i.get? b=some o)->Q none {s with heap:=i,toks:=j}):
  wpAny (model prog w) A (getAttr? (.ref a) "keys") Q E s:=by
 obtain⟨hp,g,d,j,os⟩:=s;have l:∀c,(⟨hp,g,d,c,os⟩:Shared).TypeIs (.ref a) "zip":=λ_=>⟨_,k,rfl⟩;have x:=sub_AttributeError;have v:=Z8.lookup;have u:=Z8.bind (.ref a);have t:=ke;unfold getAttr? getAttrBy? getAttrBy
 repeat(any_goals (first | assumption | exact l _ |((with_reducible show wpAny _ _ (call (Value.builtin "zip.__getattribute__") _ _) _ _ _);refine AaI Z8 (l _) gh (F.args_zip_getattribute_2 _ _) (fy a fs #[] "keys" _ zS (by decide+kernel) (by decide)) ⟨k,p,λi c e f=>?_⟩) | wp_step))
 obtain⟨r,q,m⟩:=f.there;have n:∀c,(⟨i,g,d,c,os⟩:Shared).TypeIs (.ref e) "AttributeError":=λ_=>⟨_,m,rfl⟩;show wpAny _ _ (getattributeRaised _ _ _ _ _ _ _) _ _ _;unfold getattributeRaised
 repeat(any_goals (first | assumption | exact n _ | wp_step))
 exact h _ _ f.keeps
def Inv.uJ{a:List (Addr×Obj)}{h:St}{H:Hp}{s:Shared}{h':Heap}{t':Nat}{fp:List Addr}(I:Inv X a h H s)(k:∀b o,b∉fp->s.heap.get? b=some o->h'.get? b=some o)(g:∀b∈fp,eG X a H b):Inv X a h H {s with heap:=h',toks:=t'}:=by
 have f:∀b u,H b=some u->b∉fp:=λb u e z=>by rw[(g b z).1] at e;cases e
 refine I.step (g':=s.gens) (d':=s.drawn) (ch:=fp) (λb j=>?_) (λb o _ _ d e _=>k b o d e) (λb o _ _ d e _=>⟨o.slots,k b o d e⟩) (λ_ _ _ _ n=>n)
  (λb o d e=>⟨o,k b o d e⟩) (λ_ _ e=>e) (λ_ _ _ e=>e) (λb A e=>⟨#[],by rw[e];simp⟩) (λm hm=>?_) (λb u e=>?_) I.bare
 ·obtain⟨_,w,_,t,p,l⟩:=g b j;exact⟨t,w,p,l⟩
 ·obtain⟨o,x,y,i,r⟩:=hm;exact⟨o,x,y,k _ o (λz=>(g _ z).2.1 rfl) i,r⟩
 ·refine(I.a8 b u e).wD (λc v d q=>k c v ?_ q) (λ_ q=>q) λ_ _ q=>q;rcases d with z | z
  ·rw[z];exact f b u e
  ·exact f c _ z
def eV.off{K:FR}{H:Hp}{a d:Addr}{b:List V}{o:HO}(h:eV K H a b)(hd:H d=none):eV K (upd H d o) a b:=by
 rcases h with h | h
 ·rcases h with h |⟨u,h⟩
  ·exact .inl (.inl (by rw[aC (aR h hd)];exact h))
  ·exact .inl (.inr ⟨u,by rw[aC (aR h hd)];exact h⟩)
 ·exact .inr h
end L2
namespace L2
open PyProof.Rows Sb
theorem kh.off{b:Bool}{K:FR}{H:Hp}{a d:Addr}{c:List V}{o:HO}(h:kh b K H a c)(hd:H d=none):kh b K (upd H d o) a c:=by
 cases b with
 | true=>exact eV.off (show eV K H a c from h) hd
 | false=>exact iZ.off (show iZ K H a c from h) hd
structure Qz(xs ys:List V)(kvs:List (Key×V)):Prop where
 len:kvs.length=min xs.length ys.length
 at_:∀(i:Nat) kv,kvs[i]?=some kv->xs[i]?=some (kV kv.1)/\ys[i]?=some kv.2
def Cr{A:Around}{f:List (Addr×Obj)}{σ:St}{H:Hp}{b c:Bool}{z T U p q l m d:Addr}{lo:Nat}{M L:List V}{kvs:List (Key×V)}{R:Result->Shared->Prop}(hA:A.handled=none)(D:Zp z T U p q l m)(hl:kh b X.K H l M)(hm:kh c X.K H m L)(hr:Qz M L kvs)(hk:kvs.length<=1000000)(hd:H d=none)
  (hlo:z < lo/\U < lo/\p < lo/\q < lo) (hdl:d < lo) (F:∀t∈[z,T,U,p,q],t≠d) (hf:∀t∈[z,U,p,q],eG X f H t)
  (h:∀s',Inv X f σ (upd H d (.dK (bD [] kvs))) s'->R (.ok (.ret .none)) s'):∀(n i:Nat)(s:Shared),kvs.length-i=n->i<=kvs.length->lo<=s.heap.objs.size->Mw b c lo z T U p q l m i s.heap->Inv X f σ (upd H d (.dK (bD [] (kvs.take i)))) s->
   codeAny (model X.prog X.w) A (.builtin "dict.update.loop" ⟨[.ref d,.ref z,rawInt i,.none],[]⟩) R s:=by
 have hsz:sizeLine≥1000001:=by decide
 have E:∀o,∀t∈[z,U,p,q],eG X f (upd H d o) t:=λo t ht=>by
  obtain⟨h0,h1⟩:=hf t ht;refine⟨?_,h1⟩;rw[aC (F t (by simp at ht ⊢;rcases ht with rfl | rfl | rfl | rfl <;> simp))];exact h0
 intro n
 induction n with
 | zero=>
  intro i s hn hi r st I;have ei:i=kvs.length:=by lia
  refine XS iQ ?_;rw[Xw df _];obtain⟨Z,rv,pl⟩:=Sb.kh.of I (L2.kh.off hl hd (o:=.dK (bD [] (kvs.take i))));obtain⟨Y,k,Q⟩:=Sb.kh.of I (L2.kh.off hm hd (o:=.dK (bD [] (kvs.take i))));have e1:=rv.length;have e2:=k.length;have e3:=hr.len;show wpAny _ _ (pyNext (.ref z) >>=_) _ _ s;refine Wr (st.done hA D pl Q ?_ λh' up=>?_)
  ·rcases Abo M.length L.length with y | y
   ·left;simp;lia
   ·right;simp;lia
  show wpAny _ _ (Builtin.Dict.addKeywords d [] >>=λ_=>ret .none) _ _ _;have J:=I.uJ (t':=s.toks) (h':=h') (fp:=[z,U,p,q]) (λb o g e=>up b o (λy=>g (by simp[y])) (λy=>g (by simp[y])) (λy=>g (by simp[y])) (λy=>g (by simp[y])) e) (E _);refine Wr (Wt (Wt ?_));rw[ei,X1] at J;exact h _ J
 | succ n ih=>
  intro i s hn hi r st I;have v:i < kvs.length:=by lia
  refine XS iQ ?_;rw[Xw df _];obtain⟨Z,rv,pl⟩:=Sb.kh.of I (L2.kh.off hl hd (o:=.dK (bD [] (kvs.take i))));obtain⟨Y,k,Q⟩:=Sb.kh.of I (L2.kh.off hm hd (o:=.dK (bD [] (kvs.take i))));have u:kvs[i]?=some (kvs[i]'v):=WA _;generalize kvs[i]'v=j at u;obtain⟨hxi,hyi⟩:=hr.at_ i j u;obtain⟨S,hku,rk⟩:=rv.get hxi;obtain⟨N,hvu,P⟩:=k.get hyi;show wpAny _ _ (pyNext (.ref z) >>=_) _ _ s;refine Wr (st.next D hlo r pl Q (x:=S) (y:=N) (by simpa using hku) (by simpa using hvu) λh' O pt sz up=>?_);have J:=I.uJ (t':=s.toks) (h':=h') (fp:=[z,U,p,q]) (λb o g e=>up b o (λy=>g (by simp[y])) (λy=>g (by simp[y])) (λy=>g (by simp[y])) (λy=>g (by simp[y])) e) (E _);dsimp only;refine Wr (Xj ?_);refine Wr (wpAny_tryCatch ?_);unfold Builtin.Dict.pairItems;refine Wr (Y0 (T:="tuple") ⟨_,pt,rfl⟩ ?_);rw[WC (by decide)];refine Wr (XA pt rfl (Wt ?_));show wpAny _ _ (holding [S,N] (dictSet d S N)) _ _ _;refine Xj ?_;have ed:upd H d (.dK (bD [] (kvs.take i))) d=some (.dK (bD [] (kvs.take i))):=aO;obtain⟨zz,hdm,vs,C,dd⟩:=vQ J.a8 ed;have hz3:vs.length<=sizeLine:=by rw[<-C.length];exact zz
  unfold dictSet;refine Xj (Wr ((bu X.prog X.w).pyHash (mH rk) ?_));refine wpAny_dictSetHashed_pairs (hsz:=hz3) (mH rk) dd λh2 G hs=>?_;have he:∃q,h2.get? d=some q:=let⟨q,_,_,hq,_⟩:=G;⟨q,hq⟩;have e2:putK (bD [] (kvs.take i)) j.1 j.2=bD [] (kvs.take (i+1)):=by
   rw[Zs,u,<-zN];rfl
  have hl2:(putK (bD [] (kvs.take i)) j.1 j.2).length<=sizeLine:=by
   rw[e2];have:=gK (kvs.take (i+1)) [];rw[W2] at this;simp only[XO] at this
   lia
  have I2:=gB (t':=s.toks+1) J (by rw[ed];exact True.intro) hs he (x3 (H':=upd (upd H d (.dK (bD [] (kvs.take i)))) d (.dK (putK (bD [] (kvs.take i)) j.1 j.2))) hl2 hdm (C.put j.1 P) G);rw[Kl,e2] at I2;have hc:((i:Int)+1)=((i+1:Nat):Int):=by push_cast;rfl
  rw[hc];refine Wt ⟨Yy df _,ih (i+1) _ (by clear he hi;lia) v ?_ ?_ I2⟩
  ·show lo<=h2.objs.size;have:h2.objs.size=h'.objs.size:=hs.1;rw[this,sz];exact Xu r
  ·exact O.but F hdl λa o na e=>hs.extBut _ _ na e
def BI{a z:Expr}{ta:TA}{p pos p2 k:Pos}(hc:X.calm=true)(R:Gl X "dict")(P:X.mg "dict"=none)(hv:bootBuiltins "dict"=some (.type "dict"))(hg:Gl X "zip")(hm:X.mg "zip"=none)(ha:PA X [a,z] ta)
  (hs:starEach [a,z] X.env=[(false,eval a X.env),(false,eval z X.env)]) (E:starEach [z] X.env=[(false,eval z X.env)]):
  PE X (.Call (.Name "dict" p) [.Call (.Name "zip" p2) [a,z] [] k] [] pos) (λσ H Q=>ta σ H λZ x=>∃l m b c O M kvs,Z=[.ref l,.ref m]/\kh b X.K x l O/\kh c X.K x m M/\Qz O M kvs/\kvs.length<=1000000/\∀q,x q=none->Q (.ref q) (upd x q (.dK (bD [] kvs)))):=by
 intro i s σ H Q I h;refine Ym (fW I R P hv ?_);refine Xr ?_ rfl rfl;show wpAny _ _ (spliced ((false,eval (.Call (.Name "zip" p2) [a,z] [] k) X.env)::backTo pos (starEach [] X.env))) _ _ s;refine AaJ ?_;refine Ym (fW I hg hm Sb.boot_zip (Xr (b5 (ha k i s σ H _ I h) λus s1 ⟨Z,x,L,r1,q1⟩=>?_) (by rw[hs,E]) (by rw[E];rfl)));obtain⟨l,m,b,c,O,M,kvs,e,hq,G,hr,hk,q⟩:=q1;subst e;obtain⟨u,v,rfl,ru,C⟩:=Vals.two r1;obtain rfl:u=Value.ref l:=ru;obtain rfl:v=Value.ref m:=C;obtain⟨its,rv,hO⟩:=hq.of L;obtain⟨its',C,J⟩:=G.of L;refine yB hO J λg a1 a2 a3 a4 a5 a6 a7=>?_;have Y:L2.Inv X i σ x {s1 with heap:=g}:=L.kept (t':=s1.toks) a7;have S:∀d,s1.heap.objs.size<=d->eG X i x d:=λd hd=>L.uA hd (L.a8.fresh hd);have ll:l < s1.heap.objs.size:=by obtain⟨o,n,e,_⟩:=hO.data;exact WH e
 have lm:m < s1.heap.objs.size:=by obtain⟨o,n,e,_⟩:=J.data;exact WH e
 have D:Zp (s1.heap.objs.size+4) (s1.heap.objs.size+2) (s1.heap.objs.size+3) s1.heap.objs.size (s1.heap.objs.size+1) l m:=MG _ _ _ ll lm;have hA:X.A.handled=none:=I.ok.hd hc;refine AaV ?_;generalize hn:s1.heap.objs.size=N at*;refine callType_codes (Q₁:=λobj y=>obj=.ref g.objs.size/\y={s1 with heap:=g.push {cls:=.type "dict",data:=.dict #[]}}) F.kt_called_dict (F.kt_typeCall_dict_1 _) F.entry_dict_init (kt_code_dict_new _ ⟨rfl,rfl⟩) ?_;rintro obj y ⟨rfl,rfl⟩;have hd:x g.objs.size=none:=Y.fresh;have r:(g.push {cls:=.type "dict",data:=.dict #[]}).DictOf (bu X.prog X.w) g.objs.size []:=Heap.DictOf.new g;have I3:Inv X i σ (upd x g.objs.size (.dK [])) {s1 with heap:=g.push {cls:=.type "dict",data:=.dict #[]}}:=Y.laid (t':=s1.toks) (λ_ _ q=>Wu _ q) (WB _) (ng g Y.big);refine⟨r.typeIs,F.args_dict_init_2 _ _,?_⟩;unfold Builtin.«dict.__init__»;refine Wr ?_;unfold Builtin.Dict.selfAndRest;refine Wr (wpAny_notOrdered_dict r.typeIs ?_);show wpAny _ _ (pure (g.objs.size,[Value.ref (N+4)])) _ _ _;refine Wt ?_;show wpAny _ _ (Builtin.Dict.updateFrom "dict.__init__" g.objs.size (.ref (N+4)) [] .none) _ _ _;unfold Builtin.Dict.updateFrom;have b1:IsZip (g.push {cls:=.type "dict",data:=.dict #[]}) (N+4) (N+2) (N+3) .none:=Wu _ a1;refine Wr (Y0 (T:="zip") ⟨_,b1,rfl⟩ ?_);rw[WC (by decide)];refine Wr (Lw b1 (by exact hA) λU tk keep=>?_);have I4:=I3.kept (t':=tk) keep;have j:∀a o,g.get? a=some o->U.get? a=some o:=λa o e=>keep a o (Wu _ e);simp only[Option.isNone_none,Y4];refine Wr (X2 (Wr (wpAny_pyIter_zip (f0:=.none) (j _ _ a1) ?_)));have f:g.objs.size < U.objs.size:=by obtain⟨o,_,_,e,_⟩:=r;exact WH (keep _ _ e)
 refine Wt ⟨Yy df _,?_⟩;refine Cr (X:=X) (σ:=σ) (H:=x) (kvs:=kvs) (lo:=U.objs.size) (by exact hA) D hq G hr hk hd ⟨?_,?_,?_,?_⟩ f (λt ht=>?_) (λt ht=>?_) (λs' I'=>⟨rfl,⟨.ref _,_,I',rfl,q _ hd⟩⟩) kvs.length 0 _ (by lia) (Xe _) (WB _) ⟨.inl (j _ _ a1),j _ _ a2,⟨_,_,j _ _ a3⟩,a4.up λo e=>j _ o e,a5.up λo e=>j _ o e⟩ I4
 ·exact WM (WH a1) (XQ f)
 ·exact WM (WH a3) (XQ f)
 ·exact WM a4.lt (XQ f)
 ·exact WM a5.lt (XQ f)
 ·simp at ht;rw[a6];rcases ht with rfl | rfl | rfl | rfl | rfl <;> (refine WZ ?_;lia)
 ·refine S t ?_;simp at ht;rcases ht with rfl | rfl | rfl | rfl <;> lia
end L2
namespace Sm
open L2 PyProof.Rows Sb
def uP:List D->List D->Option (List (Key×D))
 | x::r,y::s=>(qc x).bind λk=>(uP r s).map λa=>(k,y)::a
 | _,_=>some []
def Co(m:AM):EM:=λb h=>(m b h).bind λp=>match p.1 with
 | [d,e]=>(cp d p.2).bind λf=>(cp e p.2).bind λc=>(uP f.1 c.1).bind λa=>if a.length<=1000000 then some (.dv (kW [] a),p.2) else none
 | _=>none
def Kx{K:FR}{j:Ad}{H:Hp}:∀{d:List V} {g:List D} {us:List V} {f:List D} {h:List (Key×D)},aA K j H d g->aA K j H us f->uP g f=some h->∃c,Qz d us c/\bt K j H c h:=by
 intro d
 induction d with
 | nil=>intro g us f h a _ e;cases a;cases e;exact⟨[],⟨by simp,λi k z=>by simp at z⟩,.nil⟩
 | cons v d t=>
  intro g us f h a b e;cases a with | cons n r=>
  cases b with
  | nil=>cases e;exact⟨[],⟨by simp,λi k z=>by simp at z⟩,.nil⟩
  | @cons u us _ _ m p=>
  obtain⟨s,C,A⟩:=aZ e;obtain⟨q,y,x⟩:=eg A;subst x;obtain⟨c,l,o⟩:=t r p y;have w:=jW n C;subst w;refine⟨(s,u)::c,⟨by simp[l.len,Nat.succ_min_succ],λi k z=>?_⟩,.cons m o⟩;cases i with
  | zero=>cases z;exact⟨rfl,rfl⟩
  | succ i=>exact l.at_ i k (by simpa using z)
def GX{a b:Expr}{m:AM}{p pos i f:Pos}(U:X.calm=true)(t:Gl X "dict")(s:X.mg "dict"=none)(N:bootBuiltins "dict"=some (.type "dict"))(T:Gl X "zip")(hm:X.mg "zip"=none)(Y:SA X [a,b] m)(hl:jK m 2)
  (O:starEach [a,b] X.env=[(false,eval a X.env),(false,eval b X.env)]:=by ac_nf) (r:starEach [b] X.env=[(false,eval b X.env)]:=by ac_nf):
  SE X (.Call (.Name "dict" p) [.Call (.Name "zip" i) [a,b] [] f] [] pos) (Co m):=(BI U t s N T hm Y O r).imp λσ H Q E=>by
 obtain⟨A,C,h,d0,h',R,S,e,k⟩:=E;obtain⟨⟨ds,Z⟩,y,e2⟩:=aZ e;refine⟨A,C,h,ds,Z,R,S,y,λvs z H1 T1 u G=>?_⟩;obtain⟨d,d',rfl⟩:=Pm (hl _ _ _ _ y);obtain⟨⟨xs,w⟩,e3,e4⟩:=aZ e2;obtain⟨⟨ys,w'⟩,e5,e6⟩:=aZ e4;obtain⟨J,x,g⟩:=aZ e6;dsimp only at x g
 by_cases c:J.length<=1000000
 ·rw[WC c] at g;cases g;obtain⟨v,v',rfl,rd,n⟩:=rep2 G;obtain⟨a,rfl,⟨us,q,l⟩,st⟩:=ie u rd e3;obtain⟨a',rfl,⟨j,I,M⟩,F⟩:=ie u n e5;obtain⟨o,L,i⟩:=Kx l M x;exact⟨a,a',sE d,sE d',us,j,o,rfl,q.C1,I.C1,L,by rw[i.len];exact c,λq P=>k _ _ (dw.step T1 (.dv u (bt.merge .nil i) P))⟩
 ·rw[WE c] at g;cases g
end Sm
namespace Sb
open L2 PyProof.Rows
variable {P:Program} {w:World} {A:Around} {E:Value->Shared->Prop} {s:Shared} {b c:Bool}
end Sb
namespace Sb
open L2 PyProof.Rows
variable {P:Program} {w:World} {A:Around} {E:Value->Shared->Prop} {s:Shared} {b c:Bool}
end Sb
namespace L2
open PyProof.Rows Sb
end L2
namespace Sm
open L2 PyProof.Rows Sb
end Sm
namespace PySem
end PySem
namespace L2
open PyProof.Rows
end L2
namespace Sm
open L2 PyProof.Rows
end Sm
namespace L2
open PyProof.Rows
def dS(a:Array Nat):Prop:=∀i j (b:i < a.size) (hj:j < a.size),i < j->a[i] < a[j]
theorem tf(c:Array Nat)(j:Nat)(k:dS c):∀(fuel b a:Nat),a-b<=fuel->b<=a->a<=c.size->(∀i (h:i < c.size),i < b->c[i] < j)->(∀i (h:i < c.size),a<=i->j<=c[i])->
  SetTable.below.go c j fuel b a<=c.size/\(∀i (h:i < c.size),i < SetTable.below.go c j fuel b a->c[i] < j)/\(∀i (h:i < c.size),SetTable.below.go c j fuel b a<=i->j<=c[i])
 | 0,b,a,hf,hl,g,m,l=>by
  have:b=a:=Z3 hl (Abx (Nat.le_zero.mp hf));subst this;unfold SetTable.below.go;exact⟨g,m,l⟩
 | fuel+1,b,a,hf,hl,g,m,l=>by
  unfold SetTable.below.go
  by_cases d:b < a
  ·rw[WC d];dsimp only;have o:b<=(b+a) / 2:=(Nat.le_div_iff_mul_le (by decide)).mpr (by lia);have n:(b+a) / 2 < a:=(Nat.div_lt_iff_lt_mul (by decide)).mpr (by lia);have hm:=WM n g;have p:c.getD ((b+a) / 2) j=c[(b+a) / 2]:=by simp[Array.getD,hm]
   rw[p]
   by_cases f:c[(b+a) / 2] < j
   ·rw[WC f];refine tf c j k fuel _ _ (XE (WM (Nat.sub_lt_sub_left d (Nat.lt_succ_of_le o)) hf)) n g (λi h e=>?_) l;rcases YR i ((b+a) / 2) with q | q
    ·exact Zq (k i _ h hm q) f
    ·have:i=(b+a) / 2:=Z3 (XE e) q;subst this;exact f
   ·rw[WE f];refine tf c j k fuel _ _ (XE (WM (Nat.sub_lt_sub_right o n) hf)) o (XQ hm) m (λi h e=>?_);rcases YR ((b+a) / 2) i with q | q
    ·exact WL (XC f) (XQ (k _ i hm h q))
    ·have:i=(b+a) / 2:=Z3 q e;subst this;exact XC f
  ·rw[WE d];have:b=a:=by lia
   subst this;exact⟨g,m,l⟩
def iy(a:Array Nat)(j:Nat)(b:dS a):SetTable.below a j<=a.size/\(∀i (h:i < a.size),i < SetTable.below a j->a[i] < j)/\(∀i (h:i < a.size),SetTable.below a j<=i->j<=a[i]):=
 tf a j b _ _ _ (by simp) (Xe _) (WB _) (λi h z=>absurd z (Yz _)) (λi h z=>absurd (WM h z) (YE _))
def g9(c:dS xs)(h:xs[i]?=some j):SetTable.below xs j=i:=by
 obtain⟨a,e⟩:=Y3.mp h;have b:=iy xs j c;rcases Aax (SetTable.below xs j) i with q | q | q
 ·have f:=b.2.2 (SetTable.below xs j) (by clear b;lia) (WB _);have d:=c _ i (Zq q a) a q
  lia
 ·exact q
 ·have:=b.2.1 i a q
  lia
def uO{t:SetTable}{i j:Nat}(a:dS t.place)(h:t.place[i]?=some j):t.slot j=.live i:=by
 unfold SetTable.slot;rw[g9 a h];dsimp only;rw[WC (by rw[h];simp)]
def Be{t:SetTable}{j:Nat}(hd:t.dummies=#[])(h:j∉t.place.toList):t.slot j=.empty:=by
 unfold SetTable.slot;dsimp only;rw[WE (by
  intro z;have z:=eq_of_beq z;exact h (by rw[Yl];exact Z6 z)),hd]
 rfl
noncomputable def road(t:SetTable)(h:Int):Nat->SetTable.Probe
 | 0=>t.probeStart h
 | n+1=>t.advance (road t h n)
theorem uZ(e:t.mask=a.mask)(h:Int):∀n,road t h n=road a h n
 | 0=>by show t.probeStart h=a.probeStart h;unfold SetTable.probeStart;rw[e]
 | n+1=>by
  show t.advance (road t h n)=a.advance (road a h n);rw[uZ e h n];unfold SetTable.advance;rw[e]
theorem rA(t:SetTable)(h:Int):∀n,(road t h n).dummy=none
 | 0=>rfl
 | n+1=>by
  have:=rA t h n;show(t.advance (road t h n)).dummy=none;unfold SetTable.advance
  split
  ·exact this
  ·exact this
theorem rC(hm:t.mask=7)(h:Int):∀n,(road t h n).more=0/\(road t h n).j=(road t h n).i/\(road t h n).i < 8/\(road t h n).perturb=SetTable.bits h / 32^n
 | 0=>by
  show(t.probeStart h).more=0/\_;unfold road SetTable.probeStart SetTable.runEnd;rw[hm];dsimp only;refine⟨by rw[WE (by lia)];simp,rfl,AaX _ (YB _),by simp⟩
 | n+1=>by
  obtain⟨b,d,c,a⟩:=rC hm h n;show(t.advance (road t h n)).more=0/\(t.advance (road t h n)).j=(t.advance (road t h n)).i/\(t.advance (road t h n)).i < 8/\(t.advance (road t h n)).perturb=_;unfold SetTable.advance SetTable.leap SetTable.runEnd;rw[hm,b,WE (by decide)];dsimp only;refine⟨by rw[WE (by simp)];simp,rfl,AaX _ (YB _),?_⟩;rw[a,Nat.div_div_eq_div_mul,Nat.pow_succ]
def Bp(hm:t.mask=7)(h:Int)(n:Nat):(road t h (n+1)).i=((road t h n).i*5+1+(road t h n).perturb / 32) % 8:=by
 obtain⟨a,d,c,b⟩:=rC hm h n;show(t.advance (road t h n)).i=_;unfold SetTable.advance SetTable.leap;rw[hm,a,WE (by decide)]
def Mr(h:Int):SetTable.bits h < 32^13:=by
 unfold SetTable.bits;have:h % (2^64:Int) < 2^64:=Yj _ (by decide);have a:0<=h % (2^64:Int):=XX _ (by decide)
 lia
noncomputable def Wf(i:Nat):Nat:=(i*5+1) % 8
def LG:Nat->Nat->Nat
 | 0,i=>i
 | n+1,i=>Wf (LG n i)
theorem rB(hm:t.mask=7)(h:Int):∀k,(road t h (13+k)).j=LG k (road t h 13).j
 | 0=>rfl
 | k+1=>by
  have a:=rB hm h k;rw[(rC hm h _).2.1] at a;rw[(rC hm h _).2.1,show 13+(k+1)=(13+k)+1 from rfl,Bp hm h (13+k),(rC hm h _).2.2.2];have b:SetTable.bits h / 32^(13+k) / 32=0:=by
   have:SetTable.bits h / 32^(13+k)=0:=by
    refine Nat.div_eq_of_lt (WM (Mr h) ?_);exact AbC (YB _) (by simp)
   rw[this]
  rw[b,a];rfl
def LH:∀i:_root_.Fin 8,∀j:_root_.Fin 8,∃k:_root_.Fin 8,LG k.1 i.1=j.1:=by decide
def lcg_all'(i j:Nat)(b:i < 8)(hj:j < 8):∃k,k < 8/\LG k i=j:=by
 obtain⟨k,a⟩:=LH ⟨i,b⟩ ⟨j,hj⟩;exact⟨k.1,k.2,a⟩
def ES(hm:t.mask=7)(h:Int)(j:Nat)(hj:j < 8):∃n,n < 21/\(road t h n).j=j:=by
 have a:(road t h 13).j < 8:=by rw[(rC hm h 13).2.1];exact(rC hm h 13).2.2.1
 have hl:=rB hm h;revert a hl;generalize (road t h 13).j=r;intro a hl;obtain⟨k,b,c⟩:=lcg_all' r j a hj;exact⟨13+k,by exact Zm b _,(hl k).trans c⟩
theorem sx [DecidableEq W]:∀(l a:List W),l.Nodup->(∀x∈l,x∈a)->l.length<=a.length
 | [],a,_,_=>Xe _
 | x::l,a,hn,d=>by
  have hn:=YA.mp hn;have c:=d x (.head _);have:=sx l (a.erase x) hn.2 λy b=>by
   have:y≠x:=λe=>hn.1 (e ▸ b);exact(List.mem_erase_of_ne this).mpr (d y (.tail _ b))
  rw[List.length_erase_of_mem c] at this;have f:0 < a.length:=Abp c;exact Xk this (Nat.sub_lt f Nat.one_pos)
def Bq(hm:t.mask=7)(h:Int)(d:t.place.size < 8):∃n,n < 21/\(road t h n).j∉t.place.toList:=by
 have:∃j,j < 8/\j∉t.place.toList:=by
  apply Yc;intro z;have a:List.range 8 ⊆ t.place.toList:=λj hj=>by
   apply Yc;intro q;exact z ⟨j,Xx.mp hj,q⟩
  have:=sx (List.range 8) t.place.toList AaC a;simp at this
  lia
 obtain⟨j,hj,hn⟩:=this;obtain⟨n,c,b⟩:=ES hm h j hj;exact⟨n,c,by rw[b];exact hn⟩
theorem IS [DecidablePred p]:∀{n:Nat},p n->∃m,m<=n/\p m/\∀i,i < m->¬p i
 | 0,h=>⟨0,WB _,h,λi a=>absurd a (Yz _)⟩
 | n+1,h=>by
  by_cases q:∃i,i<=n/\p i
  ·obtain⟨i,a,hp⟩:=q;have:∀k,k<=n->p k->∃m,m<=k/\p m/\∀i,i < m->¬p i:=by
    intro k
    induction k using Nat.strongRecOn with
    | _ k f=>
     intro j b
     by_cases e:∃i,i < k/\p i
     ·obtain⟨i,a,hp⟩:=e;obtain⟨m,g,d,c⟩:=f i a (by lia) hp;exact⟨m,by lia,d,c⟩
     ·exact⟨k,WB _,b,λi a hp=>e ⟨i,a,hp⟩⟩
   obtain⟨m,g,d,c⟩:=this i a hp;exact⟨m,by lia,d,c⟩
  ·exact⟨n+1,WB _,h,λi a hp=>q ⟨i,by exact XE a,hp⟩⟩
theorem zp{t:SetTable}(n:dS t.place)(hd:t.dummies=#[])(a:Nat->Int)(h:Int){N:Nat}(u:(road t h N).j∉t.place.toList):∀(fuel m:Nat),m<=N->N-m < fuel->(∀i,i < N->(road t h i).j∈t.place.toList)->
  (SetTable.probe.go t a h fuel (road t h m)=some (.empty (road t h N).j none)/\(∀c i,m<=c->c < N->t.place[i]?=some (road t h c).j->a i≠h))\/
  ∃c i,m<=c/\c < N/\t.place[i]?=some (road t h c).j/\a i=h/\(∀k i,m<=k->k < c->t.place[i]?=some (road t h k).j->a i≠h)/\SetTable.probe.go t a h fuel (road t h m)=some (.candidate (road t h c).j i (road t h (c+1)))
 | 0,m,hm,hf,hl=>absurd hf (Yz _)
 | fuel+1,m,hm,hf,hl=>by
  unfold SetTable.probe.go
  by_cases e:m=N
  ·subst e;rw[Be hd u];refine .inl ⟨?_,λc i g f=>absurd f (AaW.mpr g)⟩;rw[rA]
  ·have d:m < N:=by lia
   obtain⟨i,x,w⟩:=AbE (Yl.mp (hl m d));have o:t.place[i]?=some (road t h m).j:=by rw[Xb x,w]
   rw[uO n o];dsimp only;have l:∀b,t.place[b]?=some (road t h m).j->b=i:=λb E=>(g9 n E).symm.trans (g9 n o)
   by_cases hh:a i=h
   ·refine .inr ⟨m,i,WB _,d,o,hh,λk b g f=>absurd f (AaW.mpr g),?_⟩;rw[WC (by rw[hh];simp)];rfl
   ·rw[WE (by simpa using hh)];show _\/_;rcases zp n hd a h u fuel (m+1) d (WM (Nat.sub_lt_sub_left d (YL m)) (XE hf)) hl with⟨g,f⟩ |⟨c,v,g,f,C,A,z,y⟩
    ·refine .inl ⟨g,λc b s r hp=>?_⟩;rcases Nat.eq_or_lt_of_le s with q | q
     ·subst q;rw[l b hp];exact hh
     ·exact f c b q r hp
    ·refine .inr ⟨c,v,by exact XQ g,f,C,A,λk b s p hp=>?_,y⟩;rcases Nat.eq_or_lt_of_le s with q | q
     ·subst q;rw[l b hp];exact hh
     ·exact z k b q p hp
end L2
namespace L2
open PyProof.Rows PySem.SeqAt
def xo:∀(n:Nat) {d e:PyData},bG n d=true->bG n e=true->PyData.eqv d e=true->d=e:=by
 intro n
 induction n with
 | zero=>
  intro d e hd i h;cases d <;> cases e <;> simp_all [bG,PyData.eqv]
 | succ n j=>
  have hl:∀(b a:List PyData),b.all (bG n)=true->a.all (bG n)=true->PyData.eqvAll b a=true->b=a:=by
   intro b
   induction b with
   | nil=>intro a _ _ h;cases a with | nil=>rfl | cons _ _=>simp[PyData.eqvAll] at h
   | cons x b c=>
    intro a g f h;cases a with
    | nil=>simp[PyData.eqvAll] at h
    | cons y a=>
     rw[YH,WS] at g f;rw[PyData.eqvAll,WS] at h;rw[j g.1 f.1 h.1,c a g.2 f.2 h.2]
  intro d e hd i h;cases d <;> cases e <;> first
   |(simp_all [bG,PyData.eqv];done)
   |(rename_i b a;rw[PyData.eqv] at h;rw[hl b a hd i h])
def qB:∀(n:Nat) {d:PyData},bG n d=true->d.canLay0=true/\d.depth<=n:=by
 intro n
 induction n with
 | zero=>
  intro d hd;cases d <;> simp_all [bG,PyData.canLay0,PyData.depth]
 | succ n e=>
  have hl:∀(a:List PyData),a.all (bG n)=true->PyData.canLayAll0 a=true/\PyData.depthAll a<=n:=by
   intro a
   induction a with
   | nil=>intro _;exact⟨by simp[PyData.canLayAll0],by simp[PyData.depthAll]⟩
   | cons x a c=>
    intro b;rw[YH,WS] at b;obtain⟨a1,a2⟩:=e b.1;obtain⟨f,g⟩:=c b.2;refine⟨by rw[PyData.canLayAll0,a1,f];rfl,?_⟩;rw[PyData.depthAll];clear b;lia
  intro d hd;cases d <;> first
   |(simp_all [bG,PyData.canLay0,PyData.depth];done)
   |(rename_i a;obtain⟨a1,a2⟩:=hl a hd;refine⟨(by rw[PyData.canLay0];exact a1),?_⟩;rw[PyData.depth];lia)
def FF:∀(n:Nat) {A:Around} {s:Shared} {d:PyData} {v:Value} {p:List Addr} {Q:Int->Shared->Prop},A.units+n < cLine->bG n d=true->Reads s.heap v d p->(∀k,Q (c7 w n d) {s with toks:=s.toks+k})->
  wpAny (model P w) A (pyHash v) Q E s:=by
 have j:∀(n:Nat) {A:Around} {s:Shared} {d:PyData} {v:Value} {p:List Addr} {Q:Int->Shared->Prop},(∀c,d≠.tuple c)->bG n d=true->Reads s.heap v d p->(∀k,Q (c7 w n d) {s with toks:=s.toks+k})->wpAny (model P w) A (pyHash v) Q E s:=by
  intro n A s d v p Q f hp hr h;cases hr with
  | int i t=>exact(bu P w).pyHash (k:=.inl i) (ju P w i t) (by have:=h 1;cases n <;> exact this)
  | str x t=>exact(bu P w).pyHash (k:=.inr x) (jt P w x t) (by have:=h 1;cases n <;> exact this)
  | tuple=>exact absurd rfl (f _)
  | none=>cases n <;> simp[bG] at hp
  | bool=>cases n <;> simp[bG] at hp
  | list=>cases n <;> simp[bG] at hp
  | dict=>cases n <;> simp[bG] at hp
 intro n
 induction n with
 | zero=>
  intro A s d v p Q M hp hr h;exact j 0 (λc e=>by subst e;simp[bG] at hp) hp hr h
 | succ n L=>
  intro A s d v p Q M hp hr h
  by_cases f:∀c,d≠.tuple c
  ·exact j (n+1) f hp hr h
  ·have:∃c,d=.tuple c:=Yc λz=>f λc e=>z ⟨c,e⟩;obtain⟨c,rfl⟩:=this;cases hr with
   | @tuple a o R m _ _ J N hd u=>
    have C:s.TypeIs (.ref a) "tuple":=⟨o,J,N⟩;have q:c.all (bG n)=true:=hp;unfold pyHash
    first | unfold pyHashByItsType | skip
    first | refine Wr (wpAny_cRoomFor_or (.inr (by clear f;lia)) ?_) | skip
    refine Wr (YI C Ye.lookup ?_);show wpAny _ _ (if(some (Value.builtin "tuple.__hash__")==some Value.none)=true then _ else _) Q E s;rw[WE (by rw[beq_builtin_none];exact W8)];refine Wr (YI C Ye.lookup ?_);show wpAny _ _ (callSpecialIfBoundUnlessNone? (.ref a) "__hash__" _ >>=_) Q E s;refine Wr (Aao C Ye (Xg Ye C F.entry_tuple_hash ?_ (F.args_tuple_hash_1 _)));show wpAny _ _ (Builtin.Tuple.tupleItemsOf (.ref a) >>=_) _ _ s;refine Wr (wpAny_tupleItemsOf J hd ?_);refine Wr ?_;rw[<-Yu];refine Zb _
     (λg (b:Array Int) G=>∃done left l,c=done++left/\ReadsAll s.heap g left l/\b.toList=done.map (c7 w n)/\∃k,G={s with toks:=s.toks+k})
     _ ?_ ?_ _ _ ⟨[],c,_,rfl,u,rfl,0,rfl⟩
    ·rintro x g b G ⟨done,left,l,e,hl,y,k,rfl⟩;cases hl with
     | @cons _ _ d1 ds bs cs O r=>
      have H:bG n d1=true:=by
       rw[Yi] at q;exact q d1 (by rw[e];simp)
      refine Wr (L (A:=A.in1) (s:={s with toks:=s.toks+k}) (by rw[Zo];clear f;lia) H O λI=>?_)
      first
       | exact Wt ⟨done++[d1],ds,_,by rw[e];simp,r,by simp[y],k+I,by simp[YF]⟩
       | exact Wr (Wt (Wt ⟨done++[d1],ds,_,by rw[e];simp,r,by simp[y],k+I,by simp[YF]⟩))
    ·rintro b G ⟨done,left,l,e,hl,y,k,rfl⟩;cases hl;rw[XW] at e;subst e;show wpAny _ _ (retInt (Builtin.Tuple.tupleHashOf b.toList)) _ _ _;rw[y];refine Abh ?_;show wpAny _ _ (if(decide (-(2:Int)^63<=Builtin.Tuple.tupleHashOf (c.map (c7 w n)))&&decide (Builtin.Tuple.tupleHashOf (c.map (c7 w n)) < 2^63))=true then _ else _) Q E _;have h:=h (k+1);unfold c7 reduceHash at h
     by_cases hr:(decide (-(2:Int)^63<=Builtin.Tuple.tupleHashOf (c.map (c7 w n)))&&decide (Builtin.Tuple.tupleHashOf (c.map (c7 w n)) < 2^63))=true
     ·rw[WC hr];rw[WC hr] at h;exact Wt (by simpa [YF] using h)
     ·rw[WE hr];rw[WE hr] at h;exact Wr (X2 (Wt (by simpa [YF] using h)))
def Ah(n:Nat)(i:A.units+n < cLine)(c:bG n d=true)(b:bG n e=true)(rd:Reads s.heap u d as)(a:Reads s.heap v e bs)(h:Q (PyData.eqv d e) s):
  wpAny (model P w) A (eqBool u v) Q E s:=by
 have g:=qB n c;have f:=qB n b;refine eqBoolOverData P w A E s u v d e as bs Q rd a g.1 f.1 ?_ h;have:min d.depth e.depth<=d.depth:=AaK _ _
 lia
def jh:∀(n:Nat) {A:Around} {s:Shared} {d:PyData} {v:Value} {p:List Addr} {Q:Bool->Shared->Prop},bG n d=true->Reads s.heap v d p->Q true s->∀m,n<=m->wpAny (model P w) A (eqIsQuiet m v) Q E s:=by
 intro n
 induction n with
 | zero=>
  intro A s d v p Q hp hr h m hm;have:carriedByValue v=true:=by cases hr <;> first | rfl | simp[bG] at hp
  rw[AaT _ this];exact Wt h
 | succ n z=>
  intro A s d v p Q hp hr h m hm;cases hr with
  | @tuple a o x k xs _ q C hd e=>
   obtain⟨m,rfl⟩:∃y,m=y+1:=⟨m-1,by lia⟩;have u:s.TypeIs (.ref a) "tuple":=⟨o,q,C⟩;have j:xs.all (bG n)=true:=hp;unfold eqIsQuiet;refine Wr (YI u F.slot_tuple_eq.lookup ?_);show wpAny _ _ (isInstance (.ref a) (.type "tuple") >>=_) _ _ s;refine Wr (X4 u isSubtype_tuple_tuple ?_);simp only[XU,WU,XB];refine Wr (XA q hd ?_);refine Wr ?_;show wpAny _ _ (forIn x _ _) _ _ s;rw[<-Yu];refine Zb _ (λb r g=>r.1=none/\g=s/\∃l f,ReadsAll s.heap b l f/\l.all (bG n)=true) _ ?_ ?_ _ _ ⟨rfl,rfl,xs,_,e,j⟩
   ·rintro v b r g ⟨hr,rfl,l,f,hl,c⟩;cases hl with
    | cons H G=>
     rw[YH,WS] at c;refine Wr (z c.1 H ?_ m (by lia));simp only[XU,WU,XB];exact Wt ⟨rfl,rfl,_,_,G,c.2⟩
   ·rintro⟨J,I⟩ g ⟨hr,rfl,_⟩;simp only at hr;subst hr;exact Wt h
  | int i t=>rw[AaT _ rfl];exact Wt h
  | str i t=>rw[AaT _ rfl];exact Wt h
  | none=>simp[bG] at hp
  | bool=>simp[bG] at hp
  | list=>simp[bG] at hp
  | dict=>simp[bG] at hp
def gM(n:Nat)(h:carriedByValue v=true):ofAClassStatement n v=pure false:=by
 cases v with
 | ref a=>simp[carriedByValue] at h
 | _=>first | rfl | simp[ofAClassStatement] |(unfold ofAClassStatement;rfl)
def pI:∀(n:Nat) {A:Around} {s:Shared} {d:PyData} {v:Value} {p:List Addr} {Q:Bool->Shared->Prop},bG n d=true->Reads s.heap v d p->Q false s->∀m,n<=m->wpAny (model P w) A (ofAClassStatement m v) Q E s:=by
 intro n
 induction n with
 | zero=>
  intro A s d v p Q hp hr h m hm;have:carriedByValue v=true:=by cases hr <;> first | rfl | simp[bG] at hp
  rw[gM _ this];exact Wt h
 | succ n y=>
  intro A s d v p Q hp hr h m hm;cases hr with
  | @tuple a o u k xs _ q z hd e=>
   obtain⟨m,rfl⟩:∃x,m=x+1:=⟨m-1,by lia⟩;have C:s.TypeIs (.ref a) "tuple":=⟨o,q,z⟩;have j:xs.all (bG n)=true:=hp;unfold ofAClassStatement;refine Wr (Y0 C ?_);dsimp only;refine Wr ?_;refine Wt ?_;simp only[XU,WU,XB];refine Wr (XA q hd ?_);dsimp only;refine Wr ?_;show wpAny _ _ (forIn u _ _) _ _ s;rw[<-Yu];refine Zb _ (λb r g=>r.1=none/\g=s/\∃l f,ReadsAll s.heap b l f/\l.all (bG n)=true) _ ?_ ?_ _ _ ⟨rfl,rfl,xs,_,e,j⟩
   ·rintro v b r g ⟨hr,rfl,l,f,hl,c⟩;cases hl with
    | cons G F=>
     rw[YH,WS] at c;refine Wr (y c.1 G ?_ m (by lia));simp only[XU,WU,XB];exact Wt ⟨rfl,rfl,_,_,F,c.2⟩
   ·rintro⟨I,H⟩ g ⟨hr,rfl,_⟩;simp only at hr;subst hr;exact Wt h
  | int i t=>rw[gM _ rfl];exact Wt h
  | str i t=>rw[gM _ rfl];exact Wt h
  | none=>simp[bG] at hp
  | bool=>simp[bG] at hp
  | list=>simp[bG] at hp
  | dict=>simp[bG] at hp
def FI:∀(n:Nat) {A:Around} {s:Shared} {d:PyData} {v:Value} {q:List Addr} {Q:Bool->Shared->Prop},bG n d=true->Reads s.heap v d q->(∀b,Q b s)->∀m,wpAny (model P w) A (hashByValue m v) Q E s:=by
 intro n
 induction n with
 | zero=>
  intro A s d v q Q hp hr h m;cases hr with
  | int i t=>rw[Zl m (x:=.int i t) rfl];exact Wt (h _)
  | str i t=>rw[Zl m (x:=.str i t) rfl];exact Wt (h _)
  | none=>simp[bG] at hp
  | bool=>simp[bG] at hp
  | list=>simp[bG] at hp
  | dict=>simp[bG] at hp
  | tuple=>simp[bG] at hp
 | succ n z=>
  intro A s d v q Q hp hr h m;cases hr with
  | @tuple a o y k xs _ u C hd f=>
   have F:s.TypeIs (.ref a) "tuple":=⟨o,u,C⟩;have l:xs.all (bG n)=true:=hp;cases m with
   | zero=>unfold hashByValue;exact Wt (h _)
   | succ m=>
    unfold hashByValue;refine Wr (YI F Ye.lookup ?_);dsimp only;refine Wr (XA u hd ?_);refine Wr ?_;show wpAny _ _ (forIn y _ _) _ _ s;rw[<-Yu];refine Zb _ (λc r j=>r.1=none/\j=s/\∃p g,ReadsAll s.heap c p g/\p.all (bG n)=true) _ ?_ ?_ _ _ ⟨rfl,rfl,xs,_,f,l⟩
    ·rintro v c r j ⟨hr,rfl,p,g,hl,e⟩;cases hl with
     | cons H G=>
      rw[YH,WS] at e;refine Wr (z e.1 H (λb=>?_) m);cases b with
      | true=>
       simp only[XU,WU,XB];exact Wt ⟨rfl,rfl,_,_,G,e.2⟩
      | false=>
       simp only[Bool.not_false,Y4];exact Wt (Wt (h _))
    ·rintro⟨J,I⟩ j ⟨hr,rfl,_⟩;simp only at hr;subst hr;exact Wt (h _)
  | int i t=>rw[Zl m (x:=.int i t) rfl];exact Wt (h _)
  | str i t=>rw[Zl m (x:=.str i t) rfl];exact Wt (h _)
  | none=>simp[bG] at hp
  | bool=>simp[bG] at hp
  | list=>simp[bG] at hp
  | dict=>simp[bG] at hp
structure nC(es:Array (Int×Value))(t:SetTable):Prop where
 mask:t.mask=7
 SD:t.dummies=#[]
 Oe:dS t.place
 sz:t.place.size=es.size
 le:es.size<=4
 reach:∀(i j:Nat)(e:Int×Value),t.place[i]?=some j->es[i]?=some e->∃n,(road t e.1 n).j=j/\∀m,m < n->(road t e.1 m).j∈t.place.toList
def Nu(w:World)(h:Heap)(n:Nat)(e:Int×Value)(d:PyData):Prop:=bG n d=true/\(∃b,Reads h e.2 d b)/\e.1=c7 w n d/\∃a,e.2=.ref a
def tJ(w:World)(h:Heap)(n:Nat)(a:Array (Int×Value))(b:List PyData):Prop:=b.length=a.size/\∀(i:Nat)(e:Int×Value)(d:PyData),a[i]?=some e->b[i]?=some d->Nu w h n e d
def tJ.at{w:World}{h:Heap}{n:Nat}{b:Array (Int×Value)}{a:List PyData}(E:tJ w h n b a){i:Nat}{e:Int×Value}(c:b[i]?=some e):∃d,a[i]?=some d/\Nu w h n e d:=by
 have f:i < b.size:=(Y3.mp c).1;have hd:a[i]?=some (a[i]'(by rw[E.1];exact f)):=WA _;exact⟨_,hd,E.2 i e _ c hd⟩
theorem nC.fits(T:nC a t):t.fits a.size=true:=by
 unfold SetTable.fits SetTable.fill;rw[T.sz,T.SD,T.mask];have:=T.le;simp;exact WL this (by decide)
def nC.FL(T:nC g t)(h:Int):∃N,N < 21/\(road t h N).j∉t.place.toList/\∀i,i < N->(road t h i).j∈t.place.toList:=by
 obtain⟨n,f,e⟩:=Bq T.mask h (by rw[T.sz];have:=T.le;exact Xk this (by decide));obtain⟨m,c,b,a⟩:=IS (p:=λi=>(road t h i).j∉t.place.toList) e;exact⟨m,by exact Xk c f,b,λi d=>Yc (a i d)⟩
def GR(hn:n<=8)(j:bG n m=true)(i:Reads s.heap x m c):∀(e:List Value),(∀y∈e,∃d c,bG n d=true/\Reads s.heap y d c)->∀{Q:Bool->Shared->Prop},Q false s->wpAny (model P w) A (searchCouldBeSeen x e) Q E s:=by
 intro e g Q h;unfold searchCouldBeSeen;refine Wr ?_;refine Zb _ (λa r f=>r.1=none/\f=s/\∀y∈a,∃d c,bG n d=true/\Reads s.heap y d c) _ ?_ ?_ _ _ ⟨rfl,rfl,g⟩
 ·rintro y a r f ⟨hr,rfl,hl⟩;obtain⟨d,bs,k,rd⟩:=hl y (.head _);have b:=λz l=>hl z (.tail _ l);dsimp only
  split
  all_goals
   split
   ·exact Wt ⟨rfl,rfl,b⟩
   ·refine Wr (jh n j i ?_ 8 hn);simp only[XU,WU,XB];refine Wr (jh n k rd ?_ 8 hn);simp only[XU,WU,XB];refine Wr (pI n j i ?_ 8 hn);simp only[WU,XB];refine Wr (pI n k rd ?_ 8 hn);simp only[WU,XB];exact Wt ⟨rfl,rfl,b⟩
 ·rintro⟨p,o⟩ f ⟨hr,rfl,_⟩;simp only at hr;subst hr;exact Wt h
def Bf{a b:Addr}{ob:Obj}{p:Array (Int×Value)}{ep:Nat}{t:SetTable}{n:Nat}{ds:List PyData}{v:PyData}{as:List Addr}{h:Int}{N:Nat}{Q:SetFound->Shared->Prop}
  (O:s.heap.get? a=some ob) (hdt:ob.data=.set p ep t) (T:nC p t) (L:tJ w s.heap n p ds) (hn:n<=8) (hu:A.units+n < cLine) (px:bG n v=true) (rx:Reads s.heap (.ref b) v as) (hh:h=c7 w n v)
  (hN:(road t h N).j∉t.place.toList) (hl:∀i,i < N->(road t h i).j∈t.place.toList) (hN21:N < 21)
  (hit:v∈ds->Q (.there none) s) (J:v∉ds->Q (.free (road t h N).j false) s):
  ∀(k g m:Nat)(l:Option SetTable.Probe),N-m=k->m<=N->N-m < g->l.getD (t.probeStart h)=road t h m->(∀(c i:Nat)(d:PyData),c < m->t.place[i]?=some (road t h c).j->ds[i]?=some d->d≠v)->
   wpAny (model P w) A (setSearchFrom a (.ref b) h true g l) Q E s:=by
 intro k
 induction k using Nat.strongRecOn with
 | _ k ih=>
  intro g m l hk hm hf hst X;obtain⟨g,rfl⟩:∃f,g=f+1:=⟨g-1,by lia⟩;unfold setSearchFrom;refine Wr (Yd O hdt T.fits ?_);dsimp only;have hgw:t.gaveWay=false:=by unfold SetTable.gaveWay;rw[T.mask];rfl
  rw[hgw];simp only[WU,XB];rw[hst];generalize G:(λ(i:Nat)=>((p[i]?.map λ(e:Int×Value)=>e.1).getD 0:Int))=hashAt;have H:N-m < 10*SetTable.turns t.mask:=by unfold SetTable.turns;rw[T.mask];lia
  have hpr:=zp T.Oe T.SD hashAt h hN (10*SetTable.turns t.mask) m hm H hl;have at_:∀i j,t.place[i]?=some j->∃e,p[i]?=some e:=λi j hj=>by
   have:i < p.size:=by rw[<-T.sz];exact(Y3.mp hj).1
   exact⟨p[i],Xb this⟩
  have Z:∀i e,p[i]?=some e->hashAt i=e.1:=λi e u=>by rw[<-G];simp[u]
  rcases hpr with⟨p1,p2⟩ |⟨c,i,c1,c2,c3,c4,c5,c6⟩
  ·have hp:t.probe hashAt h (road t h m)=some (.empty (road t h N).j none):=p1;subst G
   erw [hp]
   dsimp only;refine Wt (J λR=>?_);obtain⟨i,Y⟩:=XT.mp R;have U:i < p.size:=by rw[<-L.1];exact(Ww.mp Y).1
   have u:=Xb (xs:=p) U;obtain⟨hp1,hr1,hh1,_⟩:=L.2 i _ v u Y;have hpl:i < t.place.size:=by rw[T.sz];exact U
   have hj:=Xb (xs:=t.place) hpl;obtain⟨I,r1,r2⟩:=T.reach i _ _ hj u;rw[hh1,<-hh] at r1 r2;have hn0:I < N:=by
    rcases Aax I N with q | q | q
    ·exact q
    ·subst q;exact absurd (by rw[r1];simp) hN
    ·exact absurd (r2 N q) hN
   rcases YR I m with q | q
   ·exact X I i v q (by rw[r1];exact hj) Y rfl
   ·exact p2 I i q hn0 (by rw[r1];exact hj) (by rw[Z i _ u,hh1,hh])
  ·have hp:t.probe hashAt h (road t h m)=some (.candidate (road t h c).j i (road t h (c+1))):=c6;subst G
   erw [hp]
   dsimp only;obtain⟨⟨h',y⟩,u⟩:=at_ i _ c3
   obtain⟨dy,hdy,py,⟨bs,ry⟩,hhy,⟨ya,M⟩⟩:=L.at u;dsimp only at ry hhy M;subst M;have seen:∀{Q':Bool->Shared->Prop},Q' false s->wpAny (model P w) A (searchCouldBeSeen (.ref b) ((p.filter (·.1==h)).toList.map (·.2))) Q' E s:=λ{Q'} q=>by
    refine GR hn px rx _ (λy hy=>?_) q;obtain⟨e,u,rfl⟩:=W6.mp hy;have x:e∈p.toList:=by
     have:=Yl.mp u;exact Yl.mpr (Array.mem_filter.mp this).1
    obtain⟨i,Y,hv⟩:=AbE (Yl.mp x);obtain⟨d,_,pd,⟨bs,rd⟩,_,_⟩:=L.at (i:=i) (e:=e) (by rw[Xb Y,hv]);exact⟨d,bs,pd,rd⟩
   have go:wpAny (model P w) A (do
     let some (_,y):=p[i]? | unsupported "internal:set-entry"
     let equal<-holding [y] (eqBool y (.ref b));let(es',_,t')<-setState a
     if true&&equal then return .there none
     let some same:=t'.sameMemory t.moves t.mask | unsupported "set.changed-during-lookup:is-the-new-block-at-the-old-address"
     let C<-match (if same then t'.slot (road t h c).j else .empty) with
      | .live r=>match es'[r]? with
       | some (_,y')=>do pure (if<-isSame y' y then some r else none)
       | none=>pure none
      | _=>pure none
     match C with
     | none=>rule "set.search.anew";setSearchFrom a (.ref b) h true g none
     | some r=>if equal then return .there (some r) else setSearchFrom a (.ref b) h true g (some (road t h (c+1)))) Q E s:=by
    rw[u];dsimp only;refine Wr (Xj (Ah n hu py px ry rx ?_));refine Wr (Yd O hdt T.fits ?_);dsimp only;cases hq:PyData.eqv dy v with
    | true=>
     rw[Zj,WC rfl];refine Wt (hit ?_);rw[<-xo n py px hq];exact Wx hdy
    | false=>
     rw[Zj,WE W8];have hsm:t.sameMemory t.moves t.mask=some true:=by unfold SetTable.sameMemory;rw[WC (by simp)]
     rw[hsm];dsimp only;rw[WC rfl,uO T.Oe c3];dsimp only;rw[u];dsimp only;refine Wr (wpAny_isSame_ref_self (Wr (Wt ?_)));rw[WC rfl];dsimp only;rw[WE W8];refine ih (N-(c+1)) (by lia) g (c+1) _ rfl c2 (by lia) rfl λc' r d' hc' F o=>?_;have S:r < p.size:=by rw[<-L.1];exact(Ww.mp o).1
     have x:=Xb (xs:=p) S;obtain⟨pd',_,hh',_⟩:=L.2 r _ d' x o;rcases YR c' m with q | q
     ·exact X c' r d' q F o
     ·rcases YR c' c with q2 | q2
      ·intro z;subst z;exact c5 c' r q q2 F (by rw[Z r _ x,hh',hh])
      ·have:c'=c:=by lia
       subst this;have:r=i:=(g9 T.Oe F).symm.trans (g9 T.Oe c3);subst this;intro z;rw[hdy] at o;injection o with o
       rw[o,z,eqv_refl v (qB n px).1] at hq;cases hq
   cases hled:t.led with
   | true=>
    simp only[XU,WU,XB];exact go
   | false=>
    simp only[Bool.not_false,Y4];refine Wr (seen ?_);simp only[WU,XB];exact go
def sH(a:Array α)(p:Nat)(x:α)(hp:p<=a.size)(i:Nat):(SetTable.insertAt a p x)[i]?=if i < p then a[i]? else if i=p then some x else a[i-1]?:=by
 rw[<-Yg,SetTable.toList_insertAt]
 by_cases b:i < p
 ·rw[WC b,WO (by simp;lia),List.getElem?_take,WC b,Yg]
 ·rw[WE b,W5 (by simp;lia)];have hl:(a.toList.take p).length=p:=by simp;lia
  rw[hl]
  by_cases c:i=p
  ·subst c;rw[WC rfl,Aaw];rfl
  ·rw[WE c];obtain⟨k,rfl⟩:=AaF (Aar (XC b) (XJ c));have d:p+1+k-p=k+1:=by rw[YF,Nat.add_sub_cancel_left,Nat.add_comm]
   rw[d,XD,List.getElem?_drop,Yg];congr 1;rw[Nat.succ_add];rfl
def dS.ins(s:dS xs)(hj:j∉xs.toList):dS (SetTable.insertAt xs (SetTable.below xs j) j):=by
 obtain⟨C,w,A⟩:=iy xs j s;have g:=sH xs (SetTable.below xs j) j C;generalize SetTable.below xs j=p at C w A g;intro i k G F t;have f:=g i;have c:=g k;rw[Xb G] at f;rw[Xb F] at c;have o:∀i (h:i < xs.size),p<=i->j < xs[i]:=λi h q=>by
  rcases YR j xs[i] with z | z
  ·exact z
  ·have J:=A i h q;have E:xs[i]=j:=by lia
   have x:xs[i]∈xs.toList:=by simp
   rw[E] at x;exact absurd x hj
 have a:∀{i v:Nat},some v=xs[i]?->∃h:i < xs.size,v=xs[i]:=λ{i v} e=>by
  obtain⟨I,H⟩:=Y3.mp e.symm;exact⟨I,H.symm⟩
 by_cases r:i < p
 ·rw[WC r] at f;obtain⟨d,u⟩:=a f;rw[u]
  by_cases m:k < p
  ·rw[WC m] at c;obtain⟨b,n⟩:=a c;rw[n];exact s i k d b t
  ·rw[WE m] at c
   by_cases l:k=p
   ·rw[WC l] at c;injection c with c
    rw[c];exact w i d r
   ·rw[WE l] at c;obtain⟨b,n⟩:=a c;rw[n];exact Zq (w i d r) (o _ b (Aaa (Aar (XC m) (XJ l))))
 ·rw[WE r] at f;have m:¬k < p:=by lia
  have l:¬k=p:=by lia
  rw[WE m,WE l] at c;obtain⟨b,n⟩:=a c;rw[n]
  by_cases y:i=p
  ·rw[WC y] at f;injection f with f
   rw[f];exact o _ b (Aaa (Aar (XC m) (XJ l)))
  ·rw[WE y] at f;obtain⟨d,u⟩:=a f;rw[u];exact s _ _ d b (by clear l m;lia)
def LS(hp:p<=xs.size):k∈(SetTable.insertAt xs p j).toList↔k=j\/k∈xs.toList:=by
 rw[(Aai xs p j).mem_iff];simp[or_comm]
def nC.put(T:nC c t)(o:c.size<=3)(w:(road t h N).j∉t.place.toList)(hl:∀i,i < N->(road t h i).j∈t.place.toList)(ht:g.mask=t.mask/\g.dummies=t.dummies/\g.place=SetTable.insertAt t.place (SetTable.below t.place (road t h N).j) (road t h N).j):
  nC (SetTable.insertAt c (SetTable.below t.place (road t h N).j) (h,x)) g:=by
 obtain⟨r,v,f⟩:=ht;have q:=(iy t.place (road t h N).j T.Oe).1;have p:SetTable.below t.place (road t h N).j<=c.size:=by rw[<-T.sz];exact q
 have l:(SetTable.insertAt t.place (SetTable.below t.place (road t h N).j) (road t h N).j).size=t.place.size+1:=by
  have:=(Aai t.place (SetTable.below t.place (road t h N).j) (road t h N).j).length_eq
  simpa using this
 have d:(SetTable.insertAt c (SetTable.below t.place (road t h N).j) (h,x)).size=c.size+1:=by
  have:=(Aai c (SetTable.below t.place (road t h N).j) (h,x)).length_eq
  simpa using this
 have hr:∀k n,road g k n=road t k n:=λk n=>uZ r k n;refine⟨r.trans T.mask,v.trans T.SD,by rw[f];exact T.Oe.ins w,by rw[f,l,d,T.sz],by rw[d];exact Yh o,λi j e a b=>?_⟩;rw[f,sH _ _ _ q] at a;rw[sH _ _ _ p] at b;simp only[hr,f,LS q]
 by_cases u:i < SetTable.below t.place (road t h N).j
 ·rw[WC u] at a b;obtain⟨n,n1,n2⟩:=T.reach i j e a b;exact⟨n,n1,λm hm=>.inr (n2 m hm)⟩
 ·rw[WE u] at a b
  by_cases s:i=SetTable.below t.place (road t h N).j
  ·rw[WC s] at a b;injection a with a
   injection b with b
   subst a;subst b;exact⟨N,rfl,λm hm=>.inr (hl m hm)⟩
  ·rw[WE s] at a b;obtain⟨n,n1,n2⟩:=T.reach _ j e a b;exact⟨n,n1,λm hm=>.inr (n2 m hm)⟩
def BA(q:∀b o c m,h.get? b=some o->o.data=.seq c m->l.get? b=some o):∀(n:Nat) {d:PyData} {v:Value} {a:List Addr},bG n d=true->Reads h v d a->Reads l v d a:=by
 intro n
 induction n with
 | zero=>
  intro d v a hp hr;cases hr with
  | int i t=>exact .int i t
  | str x t=>exact .str x t
  | none=>simp[bG] at hp
  | bool=>simp[bG] at hp
  | list=>simp[bG] at hp
  | dict=>simp[bG] at hp
  | tuple=>simp[bG] at hp
 | succ n p=>
  have hl:∀(e:List PyData) {c:List Value} {a:List Addr},e.all (bG n)=true->ReadsAll h c e a->ReadsAll l c e a:=by
   intro e
   induction e with
   | nil=>intro c a _ hr;cases hr;exact .nil
   | cons d e f=>
    intro c a hp hr;rw[YH,WS] at hp;cases hr with
    | cons j g=>exact .cons (p hp.1 j) (f hp.2 g)
  intro d v a hp hr;cases hr with
  | int i t=>exact .int i t
  | str x t=>exact .str x t
  | none=>simp[bG] at hp
  | bool=>simp[bG] at hp
  | list=>simp[bG] at hp
  | dict=>simp[bG] at hp
  | tuple j g k r=>exact .tuple (q _ _ _ _ j k) g k (hl _ hp r)
def take_snoc{a:Type}{l:List a}{i:Nat}{x:a}(h:l[i]?=some x):l.take (i+1)=l.take i++[x]:=by rw[List.take_add_one,h];rfl
end L2
namespace Sm
open L2 PyProof.Rows
end Sm
namespace Hd
open PySem.W PyProof.Rows L2 Sm
end Hd
namespace L2
open PyProof.Rows
end L2
namespace Sm
open L2 PyProof.Rows
end Sm
namespace L2
open PyProof.Rows
end L2
namespace Sm
open L2 PyProof.Rows
end Sm
namespace L2
open PyProof.Rows
end L2
namespace Sm
open L2
end Sm
namespace Sm
open L2 PyProof.Rows
end Sm
namespace L2
open PyProof.Rows
end L2
namespace Sm
open L2 PyProof.Rows
def gm(d:Df X.prog X.w X.K X.mg X.base nm k l n F)(hr:eF f X.A)(j:SA X (e::a) m)(g:k<=f:=by decide)(hl:jK m n:=by repeat(first | exact aB | refine ae ?_))(h:Gl X nm:=by unfold Gl;ac_nf)(c:(nm==("__debug__":Str))=false:=by ac_nf)(i:starEach (e::a) X.env=(false,eval e X.env)::starEach a X.env:=by ac_nf)(b:(backTo pos (starEach a X.env)).any (·.1)=false:=by ac_nf):SE X (.Call (.Name nm p) (e::a) [] pos) (aj F m):=RB d hr g j hl h c i b
def uQ{x:Str}{d:String}{p pos:Pos}{e:Expr}{a:List Expr}{f:Fn}{m:AM}(i:eT X (.builtin d) f)(hm:X.mg x=none)(g:bootBuiltins x=some (.builtin d))(j:SA X (e::a) m)(h:Gl X x:=by unfold Gl;ac_nf)(hn:x≠"__name__":=by decide)(c:(x==("__debug__":Str))=false:=by ac_nf)
  (he:starEach (e::a) X.env=(false,eval e X.env)::starEach a X.env:=by ac_nf) (b:(backTo pos (starEach a X.env)).any (·.1)=false:=by ac_nf):SE X (.Call (.Name x p) (e::a) [] pos) (aj f m):=G3 i h hm g j hn c he b
def KG{x:Str}{d:String}{p pos:Pos}{e:Expr}{a:List Expr}{f:Fn}{m:AM}(i:eT X (.type d) f)(hm:X.mg x=none)(g:bootBuiltins x=some (.type d))(j:SA X (e::a) m)(h:Gl X x:=by unfold Gl;ac_nf)(hn:x≠"__name__":=by decide)(c:(x==("__debug__":Str))=false:=by ac_nf)
  (he:starEach (e::a) X.env=(false,eval e X.env)::starEach a X.env:=by ac_nf) (b:(backTo pos (starEach a X.env)).any (·.1)=false:=by ac_nf):SE X (.Call (.Name x p) (e::a) [] pos) (aj f m):=G2 i h hm g j hn c he b
def GF(hm:X.mg x=none)(a:bootBuiltins x=some (.type n))(b:Gl X x:=by unfold Gl;ac_nf)(hn:x≠"__name__":=by decide)(hd:(x==("__debug__":Str))=false:=by ac_nf):SE X (.Name x pos) (eK (.ty n)):=Rv b hm a hn hd
def six(hr:eF k X.A)(g:SE X a d)(f:SE X b c)(e:iB b:=by unfold iB;intro _ _;ac_nf):SE X (.Subscript a b pos) (ai aG d c):=Rz hr.units g f e
end Sm
namespace Hd
open PySem.W PyProof.Rows L2 Sm
def u0{P:List Value->Prop}(h:P [])(us:List Value)(hl:us.length=0):P us:=by cases us with | nil=>exact h | cons _ _=>cases hl
def u1{P:List Value->Prop}(h:∀a,P [a])(us:List Value)(hl:us.length=1):P us:=by
 cases us with
 | nil=>cases hl
 | cons a r=>exact u0 (P:=λr=>P (a::r)) (h a) r (Nat.succ.inj hl)
def u2{P:List Value->Prop}(h:∀a b,P [a,b])(us:List Value)(hl:us.length=2):P us:=by
 cases us with
 | nil=>cases hl
 | cons a r=>exact u1 (P:=λr=>P (a::r)) (h a) r (Nat.succ.inj hl)
def u3{P:List Value->Prop}(h:∀a b c,P [a,b,c])(us:List Value)(hl:us.length=3):P us:=by
 cases us with
 | nil=>cases hl
 | cons a r=>exact u2 (P:=λr=>P (a::r)) (h a) r (Nat.succ.inj hl)
def u4{P:List Value->Prop}(h:∀a b c d,P [a,b,c,d])(us:List Value)(hl:us.length=4):P us:=by
 cases us with
 | nil=>cases hl
 | cons a r=>exact u3 (P:=λr=>P (a::r)) (h a) r (Nat.succ.inj hl)
def u5{P:List Value->Prop}(h:∀a b c d e,P [a,b,c,d,e])(us:List Value)(hl:us.length=5):P us:=by
 cases us with
 | nil=>cases hl
 | cons a r=>exact u4 (P:=λr=>P (a::r)) (h a) r (Nat.succ.inj hl)
def u6{P:List Value->Prop}(h:∀a b c d e f,P [a,b,c,d,e,f])(us:List Value)(hl:us.length=6):P us:=by
 cases us with
 | nil=>cases hl
 | cons a r=>exact u5 (P:=λr=>P (a::r)) (h a) r (Nat.succ.inj hl)
def u7{P:List Value->Prop}(h:∀a b c d e f g,P [a,b,c,d,e,f,g])(us:List Value)(hl:us.length=7):P us:=by
 cases us with
 | nil=>cases hl
 | cons a r=>exact u6 (P:=λr=>P (a::r)) (h a) r (Nat.succ.inj hl)
def Sg{q:Program}{b:List Str}{c:ExcName->Option Value}{mg i:Str->Option Value}{h base:Heap}{P:Program}{w:World}(T:Top q b c mg i h){n:Str}{st:Stmt}(e:(recsOf q).find? (λe=>e.name==n)=some (rQ n st)){d:List Str}{k N:Nat}{F:Fn}
  (g:∀{f:Addr} {a:FuncData},CO (aF h) n n st f a->Binds (aF h) a d []) (ok:∀{f:Addr} {a:FuncData},CO (aF h) n n st f a->keepIn (aF h) (.ref f)=true->Binds (aF h) a d []->mg n=some (.ref f)->f9 P w (aF h) mg base wm k f a d (EE (aF h) N F)):Df P w (aF h) mg base n k d N F:=by
 obtain⟨f,a,m,G⟩:=Na T e;exact⟨f,a,ok G G.kp (g G) m,G.kp,g G,m⟩
end Hd
namespace L2
open PyProof.Rows Builtin.Str
end L2
namespace L2
open PyProof.Rows
end L2
namespace Sm
open L2 PyProof.Rows Builtin.Str
end Sm
namespace L2
open PyProof.Rows
section
variable {X:Cx}
end
end L2
namespace Sm
open L2 PyProof.Rows
section
variable {X:Cx}
end
end Sm
namespace L2
open PyProof.Rows
end L2
namespace Sm
open L2 PyProof.Rows
end Sm
namespace L2
open PyProof.Rows
inductive CK(w:World)(h:Heap)(a:Addr)(es:Array (Int×Value))(ep:Nat)(t:SetTable)(vs:List Value)(i:Nat):Value->Prop where
 | drawn {T:Addr} {idx:List Nat} {o:Obj} {n:Nat} (ho:h.get? T=some o) (hcT:o.cls=.type "tuple") (hd:o.data=.seq (idx.map λ(k:Nat)=>rawInt (k:Int)).toArray n) (hp:idx.Perm (List.range es.size)) (hv:vs=idx.filterMap λk=>(es[k]?).map (·.2)):CK w h a es ep t vs i (.ref T)
 | text (ht:w.params.followText "set-order"=true) (hv:vs=(pickOrder (w.params.setOrder a ep) es).toList.map (·.2)):CK w h a es ep t vs i (.int 0 0)
 | led {slot:Nat} (ht:w.params.followText "set-order"=false) (hr:dS t.place) (hz:(!t.plain&&decide (es.size > 1))=false) (hl:t.led=true) (hs:slot=if i=0 then 0 else(t.place.getD (i-1) 0)+1) (hv:vs=es.toList.map (·.2)):CK w h a es ep t vs i (.int slot 0)
def AI(w:World)(h:Heap)(J a:Addr)(b:Array (Int×Value))(c:Nat)(t:SetTable)(d:List Value)(i:Nat):Prop:=
 (∃ob,h.get? a=some ob/\ob.data=.set b c t)/\t.fits b.size=true/\∃o first,h.get? J=some o/\o.cls=.type "set_iterator"/\o.data=.fields #[first,.int i 0,.ref a,.int b.size 0,.int c 0]/\CK w h a b c t d i first
def CK.perm(x:CK w h a c k t d i f):d.Perm (c.toList.map (·.2)):=by
 cases x with
 | drawn j _ hd hp b=>subst b;exact sM c hp
 | text ht b=>subst b;exact(vg _ c).map _
 | led ht hr e hl g b=>subst b;exact .refl _
def jJ(w:World)(h:Heap)(a:Addr)(b:Array (Int×Value)):Prop:=
 ∃o c t,h.get? a=some o/\o.ExactSet/\o.data=.set b c t/\b.size < scanBound/\t.fits b.size=true/\(t.led=!w.params.followText "set-order")/\(t.plain=true->dS t.place)
def oF{t:SetTable}{n:Nat}(h:t.fits n=true):t.place.size=n:=by
 unfold SetTable.fits at h;rw[WS,Yt] at h;exact h.1
def below_at(g:dS xs)(j:i<=xs.size):SetTable.below xs (if i=0 then 0 else xs.getD (i-1) 0+1)=i:=by
 obtain⟨e,a,c⟩:=iy xs (if i=0 then 0 else xs.getD (i-1) 0+1) g;generalize SetTable.below xs (if i=0 then 0 else xs.getD (i-1) 0+1)=b at e a c
 by_cases z:i=0
 ·rw[WC z] at a;rcases Nat.eq_zero_or_pos b with q | q
  ·exact q.trans z.symm
  ·exact absurd (a 0 (WM q e) q) (Yz _)
 ·rw[WE z] at a c;have f:i-1 < i:=Nat.sub_lt (Nat.pos_of_ne_zero z) Nat.one_pos;have d:i-1 < xs.size:=WM f j;have k:xs.getD (i-1) 0=xs[i-1]:=by
   rw[AaQ,Xb d];rfl
  rw[k] at a c;rcases Aax b i with q | q | q
  ·exact absurd (c (i-1) d (Aaa q)) (Nat.not_succ_le_self _)
  ·exact q
  ·have h:=WM q e;exact absurd (XE (a i h q)) (Nat.not_le_of_lt (g (i-1) i d h f))
def wV(h:xs.size<=1):dS xs:=λi j a hj z=>absurd (WM (Xk (Xe i) z) (XE (WM hj h))) (YE 0)
section
variable {P:Program} {w:World} {A:Around} {E:Value->Shared->Prop} {s:Shared} {a:Addr} {es:Array (Int×Value)}
def jJ.type(h:jJ w s.heap a es):s.TypeIs (.ref a) "set":=by obtain⟨o,_,_,e,x,_⟩:=h;exact⟨o,e,x.1⟩
def JL(x:jJ w s.heap a es)(h:∀i d J m t j,(∀b o,s.heap.get? b=some o->i.get? b=some o)->s.heap.objs.size<=J->j.Perm (es.toList.map (·.2))->AI w i J a es m t j 0->Q (.ref J) {s with heap:=i,drawn:=d}):
  wpAny (model P w) A (pyIter (.ref a)) Q E s:=by
 have v:=x.type;obtain⟨ob,m,t,c,G,g,M,k,L,I⟩:=x;have out:∀(i:Heap)(d:Drawn)(J:Addr)(j:List Value) {f:Value},(∀b o,s.heap.get? b=some o->i.get? b=some o)->s.heap.objs.size<=J->(∃o,i.get? J=some o/\o.cls=.type "set_iterator"/\o.data=.fields #[f,.int 0 0,.ref a,.int es.size 0,.int m 0])->CK w i a es m t j 0 f->Q (.ref J) {s with heap:=i,drawn:=d}:=
  λi d J j f u H ⟨o,R,O,N⟩ r=>by
   have hp:=r.perm;exact h i d J m t j u H hp ⟨⟨ob,u _ _ c,g⟩,k,o,f,R,O,N,r⟩
 refine AaR v F.slot_set_iter (Xg F.slot_set_iter v entry_set_iter' ?_ (F.args_set_iter_1 _));unfold Builtin.«frozenset.__iter__» Builtin.Frozenset.slot0 slotArgs Builtin.Frozenset.sizeOf Builtin.Frozenset.addrOf;simp only[ZT,XU,WU,↓reduceIte,bind_assoc,XO,X3,pure_bind];refine Wr (AaB c g k ?_);unfold setDrawn setsByText;simp only[bind_assoc];refine Wr (Yd c g k ?_);dsimp only;refine Wr (YW ?_);simp only[pure_bind];cases p:(!(model P w).w.params.followText "set-order"&&(!t.plain&&decide (es.size > 1))) with
 | true=>
  refine wpAny_of_eq' (WC p) ?_;refine Wr (CS _ _ _ _ (by simp) λC d hp=>Wr (ZN ?_ (by rw[Ws,hp.length_eq,WX];exact AaS M)));have y:∀(o1:Obj) b o,s.heap.get? b=some o->(s.heap.push o1).get? b=some o:=λo1 b o e=>Wu _ e;refine Wr (wpAny_setEpoch_of (y _ _ _ c) g k (Wr (Xc (Wt ⟨_,rfl,"set_iterator",_,⟨_,WK _ rfl,rfl⟩,cR.lookup,?_⟩))));exact out _ d _ _ (λb o e=>Wu _ (Wu _ e)) (by rw[XF];exact YC _) ⟨_,WK _ rfl,rfl,rfl⟩ (.drawn (Wu _ (WK _ rfl)) rfl rfl hp rfl)
 | false=>
  refine wpAny_of_eq' (WE λz=>Bool.noConfusion (p.symm.trans z)) ?_;refine Wr (wpAny_setEpoch_of c g k (Wr (Xc (Wt ⟨_,rfl,"set_iterator",_,⟨_,WK _ rfl,rfl⟩,cR.lookup,?_⟩))));have l:(!w.params.followText "set-order"&&(!t.plain&&decide (es.size > 1)))=false:=p;cases ht:w.params.followText "set-order" with
  | true=>exact out _ s.drawn _ _ (λb o e=>Wu _ e) (WB _) ⟨_,WK _ rfl,rfl,rfl⟩ (.text ht rfl)
  | false=>
   have n:(!t.plain&&decide (es.size > 1))=false:=by
    rw[ht] at l;exact l
   have hr:dS t.place:=by
    cases q:t.plain with
    | true=>exact I q
    | false=>
     rw[q] at n;refine wV ?_;rw[oF k]
     simpa using n
   exact out _ s.drawn _ _ (λb o e=>Wu _ e) (WB _) ⟨_,WK _ rfl,rfl,rfl⟩ (.led (slot:=0) ht hr n (by rw[L,ht];rfl) rfl rfl)
def zK(b:s.heap.get? a=some ob)(c:ob.data=.set es g t)(f:t.fits es.size=true)(ht:w.params.followText "set-order"=false)(e:(!t.plain&&decide (es.size > 1))=false)(hl:t.led=true)(h:Q (match es[SetTable.below t.place k]?,t.place[SetTable.below t.place k]? with | some (_,x),some j=>some (x,j+1) | _,_=>none) s):wpAny (model P w) A (setNext a k i g) Q E s:=by
 unfold setNext setsByText;refine Wr (Yd b c f ?_);dsimp only;refine Wr (Wr (YW (Wt ?_)));rw[WE (show ¬(model P w).w.params.followText "set-order"=true by rw[show(model P w).w.params.followText "set-order"=false from ht];simp)];have d:¬(!t.plain&&decide (es.size > 1))=true:=by rw[e];simp
 refine wpAny_of_eq' (WE d) ?_;refine Wr (wpAny_of_eq' (m':=pure ()) (WE (show ¬(!t.led&&!es.isEmpty)=true by rw[hl];simp)) (Wt ?_));exact Wt h
def JJ(hS:AI w s.heap J a es ep t vs i)(X:vs[i]?=some v)(p:J≠a)(h:∀I,(∀b o,b≠J->s.heap.get? b=some o->I.get? b=some o)->AI w I J a es ep t vs (i+1)->Q (some v) {s with heap:=I}):wpAny (model P w) A (pyNext (.ref J)) Q E s:=by
 obtain⟨⟨ob,d,f⟩,L,o,first,R,hc,hd,wy⟩:=hS;have hT:s.TypeIs (.ref J) "set_iterator":=⟨o,R,hc⟩;unfold pyNext;refine Wr (Yx (Xd (name:=Str.ofString "__next__") hT cR (Xg cR hT kF ?_ (nz _))));unfold Builtin.«set_iterator.__next__» slotArgs;simp only[ZT,XU,WU,↓reduceIte,bind_assoc,XO,X3,pure_bind];refine Wr (Aav R hd ?_);dsimp only;refine Wr (AaB d f L ?_);simp only[X3,WU,↓reduceIte];cases wy with
 | @drawn T idx oT nT G hcT H hp c=>
  have hTJ:T≠J:=λz=>by subst z;rw[R] at G;cases G;rw[hd] at H;cases H
  refine Wr (m:=seqItems? (.ref T)) (XA G H ?_);dsimp only;have hlen:idx.length=es.size:=by rw[hp.length_eq,WX]
  have hall:∀k∈idx,∃e,es[k]?=some e:=λk y=>by
   have:k < es.size:=by have:=hp.mem_iff.mp y;simpa using this
   exact⟨_,Xb this⟩
  have Y:∀(l:List Nat)(i:Nat)(v:Value),(∀k∈l,∃e,es[k]?=some e)->(l.filterMap λk=>(es[k]?).map (·.2))[i]?=some v->∃k e,l[i]?=some k/\es[k]?=some e/\e.2=v:=by
   intro l
   induction l with
   | nil=>intro i v _ h;simp at h
   | cons k r ih=>
    intro i v ha h;obtain⟨e,he⟩:=ha k Wy;rw[X8,he] at h;dsimp only[Option.map] at h;cases i with
    | zero=>rw[Abf] at h;cases h;exact⟨k,e,rfl,he,rfl⟩
    | succ j=>
     rw[XD] at h;obtain⟨k',e',a1,a2,a3⟩:=ih j v (λx hx=>ha x (Wz _ hx)) h;exact⟨k',e',by rw[XD];exact a1,a2,a3⟩
  rw[c] at X;obtain⟨k,e,O,S,rfl⟩:=Y idx i v hall X;have e3:((idx.map λ(k:Nat)=>rawInt (k:Int)).toArray)[(i:Int).toNat]?=some (rawInt (k:Int)):=by
   rw[W7,Aby,WJ,O];rfl
  rw[e3];show wpAny _ _ (setNextDrawn a (k:Int).toNat (ep:Int).toNat >>=_) _ _ s;rw[W7,W7];unfold setNextDrawn;simp only[bind_assoc];refine Wr (Yd d f L ?_);dsimp only;simp only[X3,WU,↓reduceIte];rw[S];simp only[pure_bind];refine Wr (xR R hd (by simp) λI U y n F C=>Wt ⟨_,rfl,Wt (h I y ?_)⟩);exact⟨⟨ob,y _ _ (XJ p) d,f⟩,L,U,.ref T,n,F.trans hc,C,.drawn (y _ _ hTJ G) hcT H hp (by rw[c])⟩
 | text ht c=>
  show wpAny _ _ (setNext a (0:Int).toNat (i:Int).toNat (ep:Int).toNat >>=_) _ _ s;rw[W7,W7];refine Wr (vA d f L ht ?_);have g:=X;rw[c,WJ] at g;obtain⟨e,O,S⟩:=W0.mp g;rw[Yg] at O;rw[O];dsimp only[Option.map];refine Wr (xR R hd (by simp) λh1 o1 q M QM N=>Wr (xR M N (by simp) λI U y n F C=>Wt ⟨_,rfl,Wt ?_⟩));rw[S];refine h I (λb u Z z=>y b u Z (q b u Z z)) ⟨⟨ob,y _ _ (XJ p) (q _ _ (XJ p) d),f⟩,L,U,_,n,(F.trans QM).trans hc,C,.text ht c⟩
 | @led slot ht hr hz hl hs c=>
  show wpAny _ _ (setNext a (slot:Int).toNat (i:Int).toNat (ep:Int).toNat >>=_) _ _ s;rw[W7,W7,W7];have hlt:i < es.size:=by
   have:=(Ww.mp X).1;rw[c] at this
   simpa using this
  have hpz:=oF L;refine Wr (zK d f L ht hz hl ?_);rw[hs,below_at hr (by lia),Xb (show i < t.place.size by lia)];have g:=X;rw[c,WJ] at g;obtain⟨e,O,S⟩:=W0.mp g;rw[Yg] at O;obtain⟨eh,ev⟩:=e;rw[O];dsimp only at S ⊢;refine Wr (xR R hd (by simp) λh1 o1 q M QM N=>Wr (xR M N (by simp) λI U y n F C=>Wt ⟨_,rfl,Wt ?_⟩));rw[S];refine h I (λb u Z z=>y b u Z (q b u Z z)) ⟨⟨ob,y _ _ (XJ p) (q _ _ (XJ p) d),f⟩,L,U,_,n,(F.trans QM).trans hc,C,.led (slot:=t.place[i]+1) ht hr hz hl ?_ c⟩;rw[WE (Nat.succ_ne_zero i),Nat.add_sub_cancel,AaQ,Xb (show i < t.place.size by lia)];rfl
def Mv(hh:A.handled=none)(hS:AI w s.heap J a es C t l l.length)(h:∀e,(∀b o,b≠J->s.heap.get? b=some o->e.get? b=some o)->Q none {s with heap:=e}):wpAny (model P w) A (pyNext (.ref J)) Q E s:=by
 obtain⟨⟨ob,f,i⟩,y,o,first,q,Z,hd,N⟩:=hS;have R:s.TypeIs (.ref J) "set_iterator":=⟨o,q,Z⟩;have d:l.length=es.size:=by have:=N.perm.length_eq;simpa using this
 unfold pyNext;refine Wr (Yx (Xd (name:=Str.ofString "__next__") R cR (Xg cR R kF ?_ (nz _))));unfold Builtin.«set_iterator.__next__» slotArgs;simp only[ZT,XU,WU,↓reduceIte,bind_assoc,XO,X3,pure_bind];refine Wr (Aav q hd ?_);dsimp only;refine Wr (AaB f i y ?_);simp only[X3,WU,↓reduceIte];cases N with
 | @drawn T idx oT nT G Y L hp n=>
  refine Wr (m:=seqItems? (.ref T)) (XA G L ?_);dsimp only;have e3:((idx.map λ(k:Nat)=>rawInt (k:Int)).toArray)[(l.length:Int).toNat]?=none:=by
   rw[W7,Aby,WJ,Xh (by rw[hp.length_eq,WX,d];exact WB _)];rfl
  rw[e3];refine Wr (xR q hd (by simp) λh1 o1 I H QM M=>Wr (xR H M (by simp) λS O c p x v=>?_));exact wB (J:=J) hh λe r=>h e λb u j z=>r b u (c b u j (I b u j z))
 | text ht n=>
  show wpAny _ _ (setNext a (0:Int).toNat (l.length:Int).toNat (C:Int).toNat >>=_) _ _ s;rw[W7,W7];refine Wr (vA f i y ht ?_);have F:(pickOrder (w.params.setOrder a C) es).size=es.size:=by have:=(vg (w.params.setOrder a C) es).length_eq;simpa using this
  rw[ZW (by rw[F,d];exact WB _)];dsimp only[Option.map];refine Wr (xR q hd (by simp) λS O c p x v=>?_);exact wB (J:=J) hh λe r=>h e λb u j z=>r b u (c b u j z)
 | @led slot ht hr F hl U n=>
  show wpAny _ _ (setNext a (slot:Int).toNat (l.length:Int).toNat (C:Int).toNat >>=_) _ _ s;rw[W7,W7,W7];refine Wr (zK f i y ht F hl ?_);have X:=oF y;have g:es[SetTable.below t.place slot]?=none:=by
   rw[U,below_at hr (by lia)];exact ZW (by lia)
  rw[g];dsimp only;refine Wr (xR q hd (by simp) λS O c p x v=>?_);exact wB (J:=J) hh λe r=>h e λb u j z=>r b u (c b u j z)
def AI.off(x:AI w h J a es H t p i)(F:h.get? S=some oS)(y:oS.cls=.type "list")(hj:S≠J)(C:S≠a)(k:∀b o,b≠S->h.get? b=some o->G.get? b=some o):AI w G J a es H t p i:=by
 obtain⟨⟨ob,f,g⟩,v,o,first,u,l,hd,n⟩:=x;refine⟨⟨ob,k _ _ (XJ C) f,g⟩,v,o,first,k _ _ (XJ hj) u,l,hd,?_⟩;cases n with
 | @drawn T idx I L d e j hp c=>
  have m:T≠S:=λz=>by subst z;rw[F] at d;cases d;rw[y] at e;exact absurd e (by decide)
  exact .drawn (k _ _ m d) e j hp c
 | text ht c=>exact .text ht c
 | led ht hr q hl r c=>exact .led ht hr q hl r c
def EH(hh:A.handled=none)(hj:S≠J)(Q:S≠a)(C:J≠a)(O:d.length<=sizeLine):
  ∀(m i:Nat)(s:Shared)(c:Nat),d.length-i=m->i<=d.length->AI w s.heap J a es U t d i->s.heap.get? S=some {cls:=.type "list",dict:=none,data:=.seq (d.take i).toArray c,slots:=#[]}->
  (∀k v,(∀b o,b≠S->b≠J->s.heap.get? b=some o->k.get? b=some o)->k.get? S=some {cls:=.type "list",dict:=none,data:=.seq d.toArray v,slots:=#[]}->R (.ok (.ret (.ref S))) {s with heap:=k})->
  codeAny (model P w) A (.builtin "list.extend.loop" ⟨[.ref S,.ref J,.ref S],[]⟩) R s:=by
 intro m
 induction m with
 | zero=>
  intro i s c hm H st y hR;have G:i=d.length:=Z3 H (Abx hm);subst G;refine XS F.entry_extend_loop ?_;rw[Xw Zz _];show wpAny _ A.in1 (pyNext (.ref J) >>=_) _ _ s;refine Wr (Mv (A:=A.in1) hh st λk x=>Wt (hR k c (λb o _ l e=>x b o l e) ?_));rw[X1] at y;exact x _ _ hj y
 | succ m N=>
  intro i s c hm H st y hR;have n:i < d.length:=Nat.lt_of_sub_pos (hm ▸ YB m);have M:d[i]?=some d[i]:=WA n;refine XS F.entry_extend_loop ?_;rw[Xw Zz _];show wpAny _ A.in1 (pyNext (.ref J) >>=_) _ _ s;refine Wr (JJ (A:=A.in1) st M C λu q z=>?_);have j:=q _ _ hj y;show wpAny _ A.in1 (updateSeq S (·.push d[i]) >>=_) _ _ _;have f:(d.take i).toArray.size=i:=by rw[WT,W2];lia
  refine Wr (Abg (s:={s with heap:=u}) j rfl (Wt ⟨Yy Zz _,?_⟩) (by rw[f];exact WL H O) (by show((d.take i).toArray.push d[i]).size<=sizeLine+1;rw[Array.size_push,f];lia));have I:=X0 (Obj.mapSeq (·.push d[i])) j rfl;have p:∀b o,b≠S->u.get? b=some o->(u.update S (Obj.mapSeq (·.push d[i]))).get? b=some o:=λb o l e=>(Yw _ _ (XJ l)).trans e;have g:(d.take i).toArray.push d[i]=(d.take (i+1)).toArray:=by
   rw[Zs,M];simp
  have h:∃v,(u.update S (Obj.mapSeq (·.push d[i]))).get? S=some {cls:=.type "list",dict:=none,data:=.seq (d.take (i+1)).toArray v,slots:=#[]}:=by
   rw[<-g];exact⟨_,I⟩
  obtain⟨T,h⟩:=h;exact N (i+1) {s with heap:=u.update S (Obj.mapSeq (·.push d[i]))} T (by lia) n (z.off j rfl hj Q p) h λk v x L=>hR k v (λb o l r e=>x b o l r (p b o l (q b o r e))) L
def Ao(hh:A.handled=none)(I:jJ w s.heap a es)(h:∀H d m,s.heap.objs.size<=H.objs.size->(∀b o,s.heap.get? b=some o->H.get? b=some o)->m.Perm (es.toList.map (·.2))->Q m {s with heap:=H,drawn:=d}):wpAny (model P w) A (collect (.ref a)) Q E s:=by
 have hT:=I.type;have v:a < s.heap.objs.size:=by obtain⟨o,_,_,e,_⟩:=I;exact WH e
 have N:es.size<=sizeLine:=by obtain⟨_,_,_,_,_,_,Y,_⟩:=I;exact AaS Y
 unfold collect;refine Wr (wpAny_runValue (XS F.entry_proto_collect ?_));rw[Xw F.plain_proto_collect _];show wpAny _ A.in1 (newList [] >>=λl=>again (.builtin "list.__iadd__" ⟨[l,.ref a],[]⟩)) _ _ s;refine Wr (Xc (Wt ⟨Yy Z0 _,XS F.entry_list_iadd ?_⟩));rw[Xw Z0 _];generalize u:({cls:=.type "list",data:=.seq ([]:List Value).toArray}:Obj)=oS;have S:∀b o,s.heap.get? b=some o->(s.heap.push oS).get? b=some o:=λb o e=>Wu _ e;have q:jJ w (s.heap.push oS) a es:=by obtain⟨o,L,t,e,r⟩:=I;exact⟨o,L,t,S _ _ e,r⟩
 have p:s.heap.objs.size≠a:=(WZ v).symm;have O:(s.heap.push oS).get? s.heap.objs.size=some oS:=WK _ (by rw[<-u];rfl);show wpAny _ A.in1 (Builtin.List.listExtendWith (.ref s.heap.objs.size) (.ref a) (.ref s.heap.objs.size)) _ _ {s with heap:=s.heap.push oS};unfold Builtin.List.listExtendWith;refine Wr (Y0 (s:={s with heap:=s.heap.push oS}) (jJ.type (s:={s with heap:=s.heap.push oS}) q) ?_);have e1:Builtin.List.listSameRef (.ref s.heap.objs.size) (.ref a)=false:=by simp[Builtin.List.listSameRef,p]
 have e2:(Value.type "set"==Value.type "list")=false:=by decide
 have Z:(Value.type "set"==Value.type "tuple")=false:=by decide
 simp only[e1,e2,Z,Aa7,WU,XB];refine Wr (JL (s:={s with heap:=s.heap.push oS}) q λk d J L t m M X hp st=>?_);refine Wr (Xj ?_);have R:jJ w k a es:=by obtain⟨o,L,t,e,r⟩:=q;exact⟨o,L,t,M _ _ e,r⟩
 have n:Shared.TypeIs {s with heap:=k,drawn:=d} (.ref a) "set":=jJ.type (s:={s with heap:=k,drawn:=d}) R;unfold Builtin.List.listLengthHint;refine Wr (YI n qX ?_);dsimp only;rw[tR];dsimp only;refine Wr (X4 n sub_set_set ?_);simp only[XU,WU,XB];refine wpAny_of_eq' (WC (by decide+kernel)) ?_;refine Wr (Y0 n (Wt ?_));have f:k.get? s.heap.objs.size=some {cls:=.type "list",data:=.seq ([]:List Value).toArray}:=by rw[u];exact M _ _ O
 have g:s.heap.objs.size < J:=by
  have:=X;rw[show(s.heap.push oS).objs.size=s.heap.objs.size+1 from XF _ _] at this;exact this
 have x:m.length=es.size:=by have:=hp.length_eq;simpa using this
 refine wpAny_of_eq' (WC (by decide+kernel)) (Wr (X2 (Wr ?_)));show wpAny _ A.in1 (updateSeq s.heap.objs.size (·.push .none) >>=λ_=>updateSeq s.heap.objs.size (·.pop)) _ _ _;refine Wr (Abg (s:={s with heap:=k,drawn:=d}) f rfl ?_);have j:=X0 (Obj.mapSeq (·.push Value.none)) f rfl;refine Abg j rfl ?_;have y:=X0 (Obj.mapSeq (·.pop)) j rfl;have i:∀b o,b≠s.heap.objs.size->k.get? b=some o->((k.update s.heap.objs.size (Obj.mapSeq (·.push Value.none))).update s.heap.objs.size (Obj.mapSeq (·.pop))).get? b=some o:=
  λb o C e=>(Yw _ _ (XJ C)).trans ((Yw _ _ (XJ C)).trans e)
 have c:∃T,((k.update s.heap.objs.size (Obj.mapSeq (·.push Value.none))).update s.heap.objs.size (Obj.mapSeq (·.pop))).get? s.heap.objs.size=some {cls:=.type "list",dict:=none,data:=.seq (m.take 0).toArray T,slots:=#[]}:=⟨_,y⟩;obtain⟨c4,c⟩:=c;refine Wt ⟨Yy Zz _,EH (A:=A) hh (WZ g) p (λz=>?_) (by rw[x];exact N) m.length 0 _ c4 rfl (Xe _) (st.off f rfl (WZ g) p i) c λH T U G=>?_⟩
 ·rw[z] at g;exact Nat.lt_asymm g v
 ·show wpAny _ A (load s.heap.objs.size >>=_) _ _ _;refine Wr (wpAny_load G (Wt ?_));refine h H d m (XQ (WH G)) (λb o e=>?_) hp;have C:b≠s.heap.objs.size:=WZ (WH e);exact U b o C (WZ (Zq (WH e) g)) (i b o C (M b o (S b o e)))
end
end L2
namespace L2
open PyProof.Rows PySem.SeqAt
end L2
namespace L2
open PyProof.Rows
section
variable {P:Program} {w:World} {A:Around} {E:Value->Shared->Prop} {s:Shared} {a:Addr} {ks:List Int}
end
end L2
namespace Sm
open L2 PyProof.Rows
end Sm
namespace L2
open PyProof.Rows
end L2
namespace Sm
open L2 PyProof.Rows
end Sm
namespace L2
open PyProof.Rows PySem.SeqAt
noncomputable def PV:Nat->PyData->Nat
 | n+1,.tuple xs=>(xs.map (PV n)).sum+1
 | _,_=>1
section
variable {P:Program} {w:World} {E:Value->Shared->Prop}
def B5:∀(n:Nat) {A:Around} {s:Shared} {d:PyData} {v:Value} {p:List Addr} {Q:Int->Shared->Prop},A.units+n < cLine->bG n d=true->Reads s.heap v d p->Q (c7 w n d) {s with toks:=s.toks+PV n d}->
  wpAny (model P w) A (pyHash v) Q E s:=by
 have j:∀(n:Nat) {A:Around} {s:Shared} {d:PyData} {v:Value} {p:List Addr} {Q:Int->Shared->Prop},(∀c,d≠.tuple c)->bG n d=true->Reads s.heap v d p->Q (c7 w n d) {s with toks:=s.toks+PV n d}->wpAny (model P w) A (pyHash v) Q E s:=by
  intro n A s d v p Q f hp hr h;cases hr with
  | int i t=>exact(bu P w).pyHash (k:=.inl i) (ju P w i t) (by cases n <;> exact h)
  | str x t=>exact(bu P w).pyHash (k:=.inr x) (jt P w x t) (by cases n <;> exact h)
  | tuple=>exact absurd rfl (f _)
  | none=>cases n <;> simp[bG] at hp
  | bool=>cases n <;> simp[bG] at hp
  | list=>cases n <;> simp[bG] at hp
  | dict=>cases n <;> simp[bG] at hp
 intro n
 induction n with
 | zero=>
  intro A s d v p Q L hp hr h;exact j 0 (λc e=>by subst e;simp[bG] at hp) hp hr h
 | succ n J=>
  intro A s d v p Q L hp hr h
  by_cases f:∀c,d≠.tuple c
  ·exact j (n+1) f hp hr h
  ·have:∃c,d=.tuple c:=Yc λz=>f λc e=>z ⟨c,e⟩;obtain⟨c,rfl⟩:=this;cases hr with
   | @tuple a o O m _ _ I M hd u=>
    have C:s.TypeIs (.ref a) "tuple":=⟨o,I,M⟩;have q:c.all (bG n)=true:=hp;unfold pyHash
    first | unfold pyHashByItsType | skip
    first | refine Wr (wpAny_cRoomFor_or (.inr (by lia)) ?_) | skip
    refine Wr (YI C Ye.lookup ?_);show wpAny _ _ (if(some (Value.builtin "tuple.__hash__")==some Value.none)=true then _ else _) Q E s;rw[WE (by rw[beq_builtin_none];exact W8)];refine Wr (YI C Ye.lookup ?_);show wpAny _ _ (callSpecialIfBoundUnlessNone? (.ref a) "__hash__" _ >>=_) Q E s;refine Wr (Aao C Ye (Xg Ye C F.entry_tuple_hash ?_ (F.args_tuple_hash_1 _)));show wpAny _ _ (Builtin.Tuple.tupleItemsOf (.ref a) >>=_) _ _ s;refine Wr (wpAny_tupleItemsOf I hd ?_);refine Wr ?_;rw[<-Yu];refine Zb _
     (λg (b:Array Int) G=>∃done left l,c=done++left/\ReadsAll s.heap g left l/\b.toList=done.map (c7 w n)/\G={s with toks:=s.toks+(done.map (PV n)).sum})
     _ ?_ ?_ _ _ ⟨[],c,_,rfl,u,rfl,rfl⟩
    ·rintro x g b G ⟨done,left,l,e,hl,y,rfl⟩;cases hl with
     | @cons _ _ d1 ds bs cs N r=>
      have H:bG n d1=true:=by
       rw[Yi] at q;exact q d1 (by rw[e];simp)
      refine Wr (J (A:=A.in1) (s:={s with toks:=s.toks+(done.map (PV n)).sum}) (by rw[Zo];lia) H N ?_)
      first
       | exact Wt ⟨done++[d1],ds,_,by rw[e];simp,r,by simp[y],by simp[YF]⟩
       | exact Wr (Wt (Wt ⟨done++[d1],ds,_,by rw[e];simp,r,by simp[y],by simp[YF]⟩))
    ·rintro b G ⟨done,left,l,e,hl,y,rfl⟩;cases hl;rw[XW] at e;subst e;show wpAny _ _ (retInt (Builtin.Tuple.tupleHashOf b.toList)) _ _ _;rw[y];refine Abh ?_;show wpAny _ _ (if(decide (-(2:Int)^63<=Builtin.Tuple.tupleHashOf (c.map (c7 w n)))&&decide (Builtin.Tuple.tupleHashOf (c.map (c7 w n)) < 2^63))=true then _ else _) Q E _;unfold c7 reduceHash PV at h
     by_cases hr:(decide (-(2:Int)^63<=Builtin.Tuple.tupleHashOf (c.map (c7 w n)))&&decide (Builtin.Tuple.tupleHashOf (c.map (c7 w n)) < 2^63))=true
     ·rw[WC hr];rw[WC hr] at h;exact Wt (by simpa [YF] using h)
     ·rw[WE hr];rw[WE hr] at h;exact Wr (X2 (Wt (by simpa [YF] using h)))
end
def eqv_refl:∀(n:Nat) {d:PyData},bG n d=true->PyData.eqv d d=true:=by
 intro n
 induction n with
 | zero=>intro d h;cases d <;> simp[bG] at h <;> simp[PyData.eqv]
 | succ n c=>
  intro d h;cases d <;> simp[bG] at h <;> simp[PyData.eqv]
  rename_i b;have:∀l:List PyData,(∀x∈l,bG n x=true)->PyData.eqvAll l l=true:=by
   intro l
   induction l with
   | nil=>intro _;simp[PyData.eqvAll]
   | cons x r a=>intro hl;simp[PyData.eqvAll,c (hl x (by simp)),a λy e=>hl y (by simp[e])]
  exact this b h
noncomputable local instance:DecidableEq PyData:=λa b=>Classical.propDecidable _
def JZ(h:Heap)(k:PyData)(a:Addr):Prop:=bG 8 k=true/\∃b,Reads h (.ref a) k b
def rV(P:Program)(w:World):HeapKind P w PyData where
 is:=JZ
 hash:=c7 w 8
 draws:=PV 8
 room:=λA=>A.units+8 < cLine
 inj:=λ{h a x y} ⟨p,_,r⟩ ⟨_,_,c⟩=>Reads.unique x y _ _ _ (qB 8 p).1 r c
 keeps:=λ{h t k a d o u v} ⟨p,as,r⟩ j hd i=>⟨p,as,BA (λb n l m e q=>by
  by_cases z:b=d
  ·subst z;rw[j] at e;cases e;rw[hd] at q;cases q
  ·exact(i.2 b z).trans e) 8 p r⟩
 pyHash:=λf ⟨p,_,r⟩ h=>B5 8 f p r h
 eqBool:=λ{A E s x y a b Q} f ⟨p,_,r⟩ ⟨g,_,c⟩ h=>Ah 8 f p g r c (by
  have:PyData.eqv x y=decide (x=y):=by
   by_cases z:x=y
   ·subst z;rw[eqv_refl 8 p,W4 rfl]
   ·rw[WW z];cases q:PyData.eqv x y with
    | false=>rfl
    | true=>exact absurd (xo 8 p g q) z
  rw[this];exact h)
 quiet:=λ⟨p,_,r⟩ h=>jh 8 p r h 8 (WB _)
end L2
namespace L2
open PyProof.Rows PySem.W
abbrev az:=Str×Int
noncomputable def kc(a b:az):Bool:=decide (a.1.cps.toList < b.1.cps.toList)||(decide (a.1=b.1)&&decide (a.2 < b.2))
noncomputable def runK{b:Type}(lt:Nat->Nat->Bool):KasT b->b
 | .ret a=>a
 | .ask i j k=>runK lt (k (lt i j))
noncomputable def FE{a:Type}(n:Nat):KasT a->Bool
 | .ret _=>true
 | .ask i j k=>decide (i < n)&&decide (j < n)&&FE n (k true)&&FE n (k false)
theorem He{d:Type}{n:Nat}{c:Nat->Nat->(Bool->Shared->Prop)->Shared->Prop}{lt:Nat->Nat->Bool}{s:Shared}(e:∀i j C,i < n->j < n->C (lt i j) s->c i j C s){Q:d->Shared->Prop}:∀(t:KasT d),FE n t=true->Q (runK lt t) s->t.kasWp c Q s
 | .ret a,_,h=>h
 | .ask i j k,b,h=>by
  have b:(decide (i < n)&&decide (j < n)&&FE n (k true)&&FE n (k false))=true:=b;simp only[WS,Xo] at b;refine e i j _ b.1.1.1 b.1.1.2 ?_;refine He e (k (lt i j)) ?_ h;cases lt i j with
  | true=>exact b.1.2
  | false=>exact b.2
noncomputable def F9(n:Nat):Nat->List (List Nat)
 | 0=>[[]]
 | k+1=>(F9 n k).flatMap λl=>(List.range n).map λx=>x::l
theorem Az{n:Nat}:∀{l:List Nat},(∀x∈l,x < n)->l∈F9 n l.length
 | [],_=>WD.mpr rfl
 | x::r,h=>List.mem_flatMap.mpr ⟨r,Az λy a=>h y (Wz _ a),W6.mpr ⟨x,Xx.mpr (h x Wy),rfl⟩⟩
def z6(n:Nat)(l:List Nat):Bool:=!decide l.Nodup||((runK (λi j=>decide (l.getD i 0 < l.getD j 0)) (kas_sort n)).toList.map (λi=>l.getD i 0)==List.range n&&(runK (λi j=>decide (l.getD i 0 < l.getD j 0)) (kas_sort n)).toList.isPerm (List.range n))
def good2:(F9 2 2).all (z6 2)=true:=by decide+kernel
def good3:(F9 3 3).all (z6 3)=true:=by decide+kernel
def Ss:(F9 4 4).all (z6 4)=true:=by decide+kernel
def IJ:FE 2 (kas_sort 2)=true/\FE 3 (kas_sort 3)=true/\FE 4 (kas_sort 4)=true:=by decide+kernel
def xF(a:az):kc a a=false:=by
 unfold kc;rw[WW (List.lt_irrefl _),WW (Int.lt_irrefl _),Aag];rfl
def xG{a b:az}:kc a b=true↔a.1.cps.toList < b.1.cps.toList\/(a.1=b.1/\a.2 < b.2):=by
 unfold kc;rw[Yp,WS,YO,YO,YO]
def oA{a b c:az}(h:kc a b=true)(g:kc b c=true):kc a c=true:=by
 rw[xG] at*;rcases h with h |⟨d,e⟩ <;> rcases g with g |⟨g1,g2⟩
 ·exact .inl (List.lt_trans h g)
 ·exact .inl (g1 ▸ h)
 ·exact .inl (d ▸ g)
 ·exact .inr ⟨d.trans g1,Int.lt_trans e g2⟩
def Bc{a b:Str}(h:a.cps.toList=b.cps.toList):a=b:=by
 obtain⟨a⟩:=a;obtain⟨b⟩:=b;have:=Zi.mp h;exact congrArg _ this
def xE{a b:az}(h:a≠b):kc a b=true\/kc b a=true:=by
 rw[xG,xG]
 by_cases d:a.1.cps.toList < b.1.cps.toList
 ·exact .inl (.inl d)
 by_cases c:b.1.cps.toList < a.1.cps.toList
 ·exact .inr (.inl c)
 have e:a.1=b.1:=Bc (List.le_antisymm (List.not_lt.mp c) (List.not_lt.mp d));rcases Int.lt_trichotomy a.2 b.2 with q | q | q
 ·exact .inl (.inr ⟨e,q⟩)
 ·exact absurd (Prod.ext e q) h
 ·exact .inr (.inr ⟨e.symm,q⟩)
def IB{a b:az}(h:kc a b=true)(g:kc b a=true):False:=by
 have:=oA h g;rw[xF] at this;cases this
def FD(k:az):List az->List az
 | []=>[k]
 | x::r=>if kc k x then k::x::r else x::FD k r
def j8:List az->List az
 | []=>[]
 | k::r=>FD k (j8 r)
theorem oE(k:az):∀l:List az,(FD k l).Perm (k::l)
 | []=>.refl _
 | x::r=>by
  unfold FD
  split
  ·exact .refl _
  ·exact((oE k r).cons x).trans (.swap ..)
theorem dz:∀l:List az,(j8 l).Perm l
 | []=>.refl _
 | k::r=>(oE k _).trans ((dz r).cons k)
theorem pF{k:az}:∀{l:List az},k∉l->l.Pairwise (λa b=>kc a b=true)->(FD k l).Pairwise λa b=>kc a b=true
 | [],_,_=>List.pairwise_singleton _ _
 | x::r,f,h=>by
  rw[YT] at h;have e:k≠x:=λz=>f (z ▸ Wy);unfold FD
  by_cases c:kc k x=true
  ·rw[WC c];refine YT.mpr ⟨λy d=>?_,YT.mpr h⟩;rcases WI.mp d with rfl | d
   ·exact c
   ·exact oA c (h.1 y d)
  ·rw[WE c];refine YT.mpr ⟨λy d=>?_,pF (λz=>f (Wz _ z)) h.2⟩;rcases WI.mp ((oE k r).mem_iff.mp d) with rfl | d
   ·exact(xE e).resolve_left c
   ·exact h.1 y d
theorem i6:∀{l:List az},l.Nodup->(j8 l).Pairwise λa b=>kc a b=true
 | [],_=>.nil
 | k::r,h=>by
  rw[YA] at h;exact pF (λz=>h.1 ((dz r).mem_iff.mp z)) (i6 h.2)
def C0{ks l:List az}(hp:l.Perm ks)(c:l.Pairwise λa b=>kc a b=true)(nd:ks.Nodup):l=j8 ks:=
 ZL (λa b _ _ x y=>(IB x y).elim) c (i6 nd) (hp.trans (dz ks).symm)
noncomputable def qj:az:=(Str.ofString "",0)
def Ka(ks:List az)(i:Nat):Nat:=(ks.filter λk=>kc k (ks.getD i qj)).length
theorem filter_le{a:Type}{p q:a->Bool}:∀{l:List a},(∀x∈l,p x=true->q x=true)->(l.filter p).length<=(l.filter q).length
 | [],_=>WB _
 | x::r,h=>by
  have i:=filter_le (l:=r) λy b=>h y (Wz _ b);have c:=h x Wy;rw[ZU,ZU];cases hp:p x with
  | true=>rw[WC rfl,WC (c hp)];simp only[WN];exact Yh i
  | false=>
   rw[WE (by simp)]
   split
   ·simp only[WN];exact Xu i
   ·exact i
def filter_lt{b:Type}{p q:b->Bool}:∀{l:List b},(∀x∈l,p x=true->q x=true)->(∃y∈l,q y=true/\p y=false)->(l.filter p).length < (l.filter q).length:=by
 intro r
 induction r with
 | nil=>
  rintro _ ⟨_,h,_⟩;cases h
 | cons x r e=>
  rintro h ⟨y,a,d,c⟩;have hr:=λy a=>h y (Wz x a);rw[ZU,ZU];rcases WI.mp a with rfl | a
  ·rw[c,WE (by simp),WC d,WN];have:=filter_le hr
   lia
  ·have i:=e hr ⟨y,a,d,c⟩;cases hp:p x with
   | true=>rw[WC rfl,WC (h x Wy hp)];simp only[WN];exact Yh i
   | false=>
    rw[WE (by simp)]
    split
    ·simp only[WN];exact Xu i
    ·exact i
section
variable {ks:List az} {i j:Nat}
def JF(a:i < ks.length):ks.getD i qj∈ks:=by
 rw[X5,WA a];exact YN a
def qy(a:i < ks.length)(h:kc (ks.getD i qj) (ks.getD j qj)=true):Ka ks i < Ka ks j:=
 filter_lt (λx _ q=>oA q h) ⟨_,JF a,h,xF _⟩
def RC(a:i < ks.length):Ka ks i < ks.length:=by
 have:=filter_lt (l:=ks) (p:=λk=>kc k (ks.getD i qj)) (q:=λ_=>true) (λ_ _ _=>rfl) ⟨_,JF a,rfl,xF _⟩;rw[List.filter_eq_self.mpr λ_ _=>rfl] at this;exact this
def Hg(a:i < ks.length)(hj:j < ks.length):decide (Ka ks i < Ka ks j)=kc (ks.getD i qj) (ks.getD j qj):=by
 cases c:kc (ks.getD i qj) (ks.getD j qj) with
 | true=>exact W4 (qy a c)
 | false=>
  refine WW λz=>?_
  by_cases e:ks.getD i qj=ks.getD j qj
  ·unfold Ka at z;rw[e] at z;exact YE _ z
  ·have:=(xE e).resolve_left (by rw[c];simp);have:=qy hj this
   lia
def getD_inj(nd:ks.Nodup)(a:i < ks.length)(hj:j < ks.length)(e:ks.getD i qj=ks.getD j qj):i=j:=by
 rw[X5,X5,WA a,WA hj] at e;exact(Aaz a nd).mp (by rw[WA a,WA hj];exact congrArg some e)
def Od(nd:ks.Nodup)(b:i < ks.length)(hj:j < ks.length)(e:Ka ks i=Ka ks j):i=j:=by
 refine Yc λz=>?_;have a:ks.getD i qj≠ks.getD j qj:=λq=>z (getD_inj nd b hj q);rcases xE a with q | q
 ·have:=qy b q;lia
 ·have:=qy hj q;lia
end
def lS(ks:List az):List Nat:=(List.range ks.length).map (Ka ks)
def wU{ks:List az}{i:Nat}(a:i < ks.length):(lS ks).getD i 0=Ka ks i:=by
 unfold lS;rw[X5,WJ,Aaj a];rfl
theorem rn{c:Type}{n:Nat}{f g:Nat->Nat->Bool}(h:∀i j,i < n->j < n->f i j=g i j):∀t:KasT c,FE n t=true->runK f t=runK g t
 | .ret a,_=>rfl
 | .ask i j k,b=>by
  have b:(decide (i < n)&&decide (j < n)&&FE n (k true)&&FE n (k false))=true:=b;simp only[WS,Xo] at b;show runK f (k (f i j))=runK g (k (g i j));rw[h i j b.1.1.1 b.1.1.2];refine rn h _ ?_;cases g i j with
  | true=>exact b.1.2
  | false=>exact b.2
def p4(ks:List az):List Nat:=(runK (λi j=>kc (ks.getD i qj) (ks.getD j qj)) (kas_sort ks.length)).toList
def O3{ks:List az}(nd:ks.Nodup)(s:2<=ks.length)(r:ks.length<=4):(p4 ks).map (λi=>ks.getD i qj)=j8 ks/\(∀i∈p4 ks,i < ks.length)/\(p4 ks).length=ks.length/\FE ks.length (kas_sort ks.length)=true:=by
 have hl:(lS ks).length=ks.length:=by unfold lS;rw[Ws,WX]
 have hm:lS ks∈F9 ks.length ks.length:=by
  have:=Az (n:=ks.length) (l:=lS ks) λx o=>by
   obtain⟨i,d,rfl⟩:=W6.mp o;exact RC (Xx.mp d)
  rw[hl] at this;exact this
 have Kd:(lS ks).Nodup:=by
  unfold lS;rw[AaY,ZD];refine Aa6 (λ{a b} k f q z=>q (Od nd (Xx.mp k) (Xx.mp f) z)) AaC
 have c:z6 ks.length (lS ks)=true/\FE ks.length (kas_sort ks.length)=true:=by
  obtain e | e | e:ks.length=2\/ks.length=3\/ks.length=4:=by lia
  ·rw[e] at hm ⊢;exact⟨Yi.mp good2 _ hm,IJ.1⟩
  ·rw[e] at hm ⊢;exact⟨Yi.mp good3 _ hm,IJ.2.1⟩
  ·rw[e] at hm ⊢;exact⟨Yi.mp Ss _ hm,IJ.2.2⟩
 have g:=c.1;unfold z6 at g;rw[W4 Kd,XU,Aa8,WS] at g;have p:runK (λi j=>decide ((lS ks).getD i 0 < (lS ks).getD j 0)) (kas_sort ks.length)=runK (λi j=>kc (ks.getD i qj) (ks.getD j qj)) (kas_sort ks.length):=
  rn (n:=ks.length) (λi j d hj=>by rw[wU d,wU hj,Hg d hj]) _ c.2
 rw[p] at g;have g1:(p4 ks).map (λi=>(lS ks).getD i 0)=List.range ks.length:=eq_of_beq g.1;have m:(p4 ks).Perm (List.range ks.length):=List.isPerm_iff.mp g.2;have g2:∀i∈p4 ks,i < ks.length:=λi d=>Xx.mp (m.mem_iff.mp d);have g3:(p4 ks).length=ks.length:=by have:=congrArg List.length g1;rw[Ws,WX] at this;exact this
 have pw:(p4 ks).Pairwise λa b=>(lS ks).getD a 0 < (lS ks).getD b 0:=by
  have:=List.pairwise_lt_range (n:=ks.length);rw[<-g1,ZD] at this;exact this
 have pl:((p4 ks).map λi=>ks.getD i qj).Pairwise λa b=>kc a b=true:=by
  rw[ZD];refine Aa6 (λ{a b} k f q=>?_) pw;rw[wU (g2 a k),wU (g2 b f)] at q;rw[<-Hg (g2 a k) (g2 b f)];exact W4 q
 refine⟨C0 ((m.map _).trans (.of_eq ?_)) pl nd,g2,g3,c.2⟩;refine ZF λi=>?_;rw[WJ]
 by_cases h:i < ks.length
 ·rw[Aaj h,WA h,Xf,X5,WA h];rfl
 ·rw[Xh (by simpa using h),Xh (by simpa using h)];rfl
def dU(h:Heap)(v:Value)(k:az):Prop:=∃b o m t u,v=.ref b/\h.get? b=some o/\o.cls=.type "tuple"/\o.data=.seq #[.str k.1 t,.int k.2 u] m
abbrev gE(h:Heap):List Value->List az->Prop:=Paired λv k=>dU h v k
section
variable {P:Program} {w:World} {A:Around} {E:Value->Shared->Prop} {s:Shared}
def Ly{x y:Value}{k a:az}{Q:Bool->Shared->Prop}(p:dU s.heap x k)(n:dU s.heap y a)(h:Q (kc k a) s):wpAny (model P w) A (keyLt' (tuples' true) x y) Q E s:=by
 obtain⟨b,o,m,t,u,rfl,r,_,q⟩:=p;obtain⟨F,v,C,l,j,rfl,i,_,g⟩:=n;refine kat_lt r q i g ?_;show KatLex P w A true _ Q [(Value.str k.1 t,Value.str a.1 l),(Value.int k.2 u,Value.int a.2 j)] 0 s;refine kat_cons (eqBool_str (kat_go (λc=>?_) λc=>?_))
 ·have f:k.1=a.1:=eq_of_beq c;have e:¬k.1.cps.toList < a.1.cps.toList:=by rw[f];exact List.lt_irrefl _
  refine kat_yes (kat_cons (wpAny_eqBool_int (kat_go (λd=>?_) λd=>?_)))
  ·have d1:k.2=a.2:=eq_of_beq d;refine kat_yes (kat_nil ?_);have:kc k a=false:=by unfold kc;rw[WW e,d1,WW (Int.lt_irrefl _),Aag];rfl
   rw[this] at h;exact h
  ·refine kat_no (kat_one _ _ (lt_int ?_));have:kc k a=decide (k.2 < a.2):=by unfold kc;rw[WW e,W4 f];rfl
   rw[this] at h;exact h
 ·have f:¬k.1=a.1:=λz=>by rw[z,YK] at c;cases c
  refine kat_no (kas_lt_str ?_);have:kc k a=decide (k.1.cps.toList < a.1.cps.toList):=by unfold kc;rw[WW f,Aa0,Aa7]
  rw[this] at h;exact h
def dU.keep{h c:Heap}{v:Value}{k:az}(x:dU h v k)(g:∀b o m a,h.get? b=some o->o.cls=.type "tuple"->o.data=.seq a m->c.get? b=some o):dU c v k:=
 by obtain⟨b,o,m,t,u,e,i,f,d⟩:=x;exact⟨b,o,m,t,u,e,g b o m _ i f d,f,d⟩
def gE.at_{h:Heap}{b:List Value}{ks:List az}{i:Nat}(a:gE h b ks):i < ks.length->dU h (b.getD i Value.none) (ks.getD i qj):=by
 induction a generalizing i with
 | nil=>exactλz=>absurd z (Yz _)
 | cons r t c=>cases i with
  | zero=>exactλ_=>r
  | succ i=>exactλd=>c (by simpa using d)
theorem gE.of_map{h:Heap}{b:List Value}{ks:List az}(x:gE h b ks):∀{a:List Nat},(∀i∈a,i < ks.length)->gE h (a.map λi=>b.getD i Value.none) (a.map λi=>ks.getD i qj)
 | [],_=>.nil
 | i::r,c=>.cons (x.at_ (c i Wy)) (gE.of_map x λj hj=>c j (Wz _ hj))
def gE.qS{h:Heap}{c:List Value}{ks:List az}(a:gE h c ks):∃fs,KatTups h c fs/\fs.length=c.length/\∀f∈fs,∃x t,f=Value.str x t:=by
 induction a with
 | nil=>exact⟨[],.nil,rfl,λ_ z=>(nomatch z)⟩
 | cons p r g=>
  obtain⟨b,o,m,t,u,e,q,n,l⟩:=p;obtain⟨fs,k,j,i⟩:=g;subst e;refine⟨_::fs,.cons q n l rfl k,by simp[j],λf d=>?_⟩;rcases WI.mp d with rfl | d
  ·exact⟨_,_,rfl⟩
  ·exact i f d
def Bd{a:Addr}{vs:List Value}{ks:List az}{n:Nat}{C:PySem.Fin->Shared->Prop}(F:s.heap.get? a=some (seqObj "list" vs.toArray n))(hp:gE s.heap vs ks)(nd:ks.Nodup)(h4:ks.length<=4)
  (fin:∀out:List Value,gE s.heap out (j8 ks)->(∀v∈out,v∈vs)->C (.done (.ret .none)) {s with heap:=sortedHeap s.heap a vs out.toArray}):
  wpAny (model P w) A (Builtin.«list.sort» ⟨[.ref a],[]⟩) C E s:=by
 have c:vs.length=ks.length:=hp.length;have hva:vs.toArray.size=vs.length:=by simp
 have M:a < s.heap.objs.size:=WH F;rw[list_sort_plain];refine Wr (listItems_at F rfl (Wr (listUpdate_at F rfl ?_)));obtain⟨U,d⟩:∃U,(s.heap.update a (Obj.mapSeq λ_=>#[])).get? a=some (seqObj "list" #[] U):=⟨_,get?_update_seq F λ_=>#[]⟩;refine Wr (seqEpoch_at d rfl (Wr (ZN (Wr (wpAny_newList (Xj ?_))))));generalize hG:((s.heap.update a (Obj.mapSeq λ_=>#[])).push (seqObj "tuple" vs.toArray 0)).push (seqObj "list" #[] 0)=G;have g:G.get? a=some (seqObj "list" #[] U):=by
  rw[<-hG,ZZ _ _ _ (by rw[size_push',Z7];lia),ZZ _ _ _ (by rw[Z7];exact WZ M)];exact d
 have R:∀b o m y,s.heap.get? b=some o->o.cls=.type "tuple"->o.data=.seq y m->G.get? b=some o:=λb o m y e hc hd=>by
  have hb:=WH e;have L:b≠a:=λz=>by
   subst z;rw[F] at e;cases e;injection hc with z
   exact absurd z (by decide)
  rw[<-hG,ZZ _ _ _ (by rw[size_push',Z7];lia),ZZ _ _ _ (by rw[Z7];exact WZ hb),Heap.get?_update_ne _ _ _ _ L];exact e
 show wpAny (model P w) A _ C E {s with heap:=G};dsimp only
 by_cases h:vs.toArray.size < 2
 ·rw[WC h,WC h];refine Wr (Wt ?_);rw[StateT.run_pure];refine Wr (Wt ?_);dsimp only;refine Wr (seqEpoch_at g rfl (Wr (listUpdate_at g rfl ?_ (hsz2:=by rw[Array.size_map];show(pairsOf vs).size<=_;rw[pairsOf_size,XR];clear h;lia))));simp only[X3,WU,XB];refine Wt ?_;have es:j8 ks=ks:=by
   match ks,c with
   | [],_=>rfl
   | [_],_=>rfl
   | _::_::_,z=>simp only[WN] at z;lia
  have:=fin vs (by rw[es];exact hp) λ_ z=>z;unfold sortedHeap at this;rw[hG] at this;have ev:(pairsOf vs).map (·.2)=vs.toArray:=by
   apply Zi.mp;unfold pairsOf;simp;exact List.map_snd_zip (WB _)
  rw[<-ev] at this;exact this
 ·have S:2<=vs.length:=by exact XC h
  rw[WE h,WE h];have l:gE G vs ks:=Paired.imp' (λv k x=>x.keep R) hp;obtain⟨fs,t1,t2,Z⟩:=l.qS;obtain⟨g1,g2,g3,g4⟩:=O3 nd (by clear h;lia) h4;refine Wr (kat_kind (s:={s with heap:=G}) t1 (by clear h c;lia) (T:=Value.type "str") (λv J=>?_) (by decide) ?_)
  ·obtain⟨x,u,rfl⟩:=Z v J;exact .now
  rw[show(Value.type "str" !=Value.type "tuple")=true by decide];refine Wr (Xv (kat_run (s:={s with heap:=G}) (ks:=vs) (vs:=vs) (κ:=tuples' true) (Q:=λf t=>t={s with heap:=G}/\(arrOf f).map (·.2)=((p4 ks).map λi=>vs.getD i Value.none).toArray/\failedOf f=none) rfl S (by lia) (G:=λp t=>t={s with heap:=G}/\p.toList=p4 ks) (λp f t hps O I Y=>⟨Y.1,by rw[kat_snds rfl O,Y.2],I⟩) ?_) (λr t hq=>?_) λ_ _ e=>e)
  case refine_2=>
   obtain⟨⟨⟩,f⟩:=r;obtain⟨rfl,X,I⟩:=hq;dsimp only at X I ⊢;refine Wr (seqEpoch_at g rfl (Wr (listUpdate_at g rfl ?_ (hsz2:=by rw[X,XR];simp;lia))));rw[I];simp only[X3,WU,XB];refine Wt ?_;have:=fin ((p4 ks).map λi=>vs.getD i Value.none) (by rw[<-g1];exact hp.of_map g2) λv J=>by
    obtain⟨i,N,rfl⟩:=W6.mp J;have H:i < vs.length:=by rw[c];exact g2 i N
    rw[X5,WA H];exact YN H
   unfold sortedHeap at this;rw[hG] at this;rw[X];exact this
  ·rw[c];refine He (n:=ks.length) (lt:=λi j=>kc (ks.getD i qj) (ks.getD j qj)) (λi j Q N hj q=>?_) _ g4 ⟨rfl,rfl⟩;exact Ly (s:={s with heap:=G}) (l.at_ N) (l.at_ hj) q
end
end L2
namespace L2
open PyProof.Rows PySem.W PySem.SeqAt
noncomputable def gv(k:az):PyData:=.tuple [.str k.1,.int k.2]
def xn{k:az}(h:PyData.strOk k.1=true):bG 8 (gv k)=true:=by simp[gv,bG,h]
def K7{k c:az}(h:gv k=gv c):k=c:=by
 unfold gv at h;injection h with h
 injection h with b a
 injection b with b
 injection a with a
 injection a with a
 exact Prod.ext b a
def VR(w:World)(q:Addr×az):Int×Value:=(c7 w 8 (gv q.2),.ref q.1)
def tH(w:World)(h:Heap)(a:Addr)(d:List (Addr×az)):Prop:=
 (d.map (·.2)).Nodup/\∃o c e t,∃b:List (Addr×az),h.get? a=some o/\o.ExactSet/\o.data=.set c e t/\nC c t/\c.toList=b.map (VR w)/\b.Perm d/\(t.led=!w.params.followText "set-order")
noncomputable def addQ(a:List (Addr×az))(b:Addr)(k:az):List (Addr×az):=if k∈a.map (·.2) then a else a++[(b,k)]
noncomputable def LV(a:List (Addr×az))(p:Nat)(d:Addr×az):List (Addr×az):=a.take p++d::a.drop p
def FC(a:List (Addr×az))(p:Nat)(d:Addr×az):(LV a p d).Perm (a++[d]):=by
 unfold LV;have b:(a.take p++d::a.drop p).Perm (d::(a.take p++a.drop p)):=List.perm_middle;rw[List.take_append_drop] at b;exact b.trans (List.perm_append_singleton d a).symm
def TC(h:Heap)(a:List (Addr×az)):Prop:=∀q∈a,PyData.strOk q.2.1=true/\∃b,Reads h (.ref q.1) (gv q.2) b
def L9{f:Array (Int×Value)}(e:f.toList=a.map (VR w))(hr:TC h a):tJ w h 8 f (a.map λq=>gv q.2):=by
 refine⟨by rw[Ws,<-X9,e,Ws],λi x d b hd=>?_⟩;rw[<-Yg,e,WJ] at b;rw[WJ] at hd;cases c:a[i]? with
 | none=>rw[c] at hd;cases hd
 | some q=>
  rw[c] at b hd;cases b;cases hd;have hh:=hr q (Wx c);exact⟨xn hh.1,hh.2,rfl,⟨_,rfl⟩⟩
section
variable {P:Program} {w:World} {A:Around} {E:Value->Shared->Prop} {s:Shared} {a:Addr}
def uc{b:Addr}{k:az}{as:List Addr}{F:List (Addr×az)}{Q:Bool->Shared->Prop}(hS:tH w s.heap a F)(hr:TC s.heap F)(hu:A.units+8 < cLine)(ok:PyData.strOk k.1=true)(rx:Reads s.heap (.ref b) (gv k) as)(u:F.length<=3)(h:∀r Z,Heap.SameBut a s.heap Z->tH w Z a (addQ F b k)->Q r {s with heap:=Z}):wpAny (model P w) A (setAddHashed a (.ref b) (c7 w 8 (gv k))) Q E s:=by
 obtain⟨nd,ob,G,ep,t,p,m,Y,g,T,R,f,O⟩:=id hS;have L:tJ w s.heap 8 G (p.map λq=>gv q.2):=L9 R λq I=>hr q (f.mem_iff.mp I);obtain⟨N,N1,N2,N3⟩:=T.FL (c7 w 8 (gv k));have n:gv k∈(p.map λq=>gv q.2)↔k∈F.map (·.2):=by
  constructor
  ·intro z;obtain⟨q,I,e⟩:=W6.mp z;exact W6.mpr ⟨q,f.mem_iff.mp I,K7 e⟩
  ·intro z;obtain⟨q,I,e⟩:=W6.mp z;exact W6.mpr ⟨q,f.mem_iff.mpr I,by rw[e]⟩
 unfold setAddHashed setAddHashedIn;refine Xj (Wr (Yd m g T.fits ?_));dsimp only;rw[WE (by show ¬(byScan (Value.ref b) G=true);unfold byScan Value.scannable;simp)];refine Wr ?_;unfold setSearch;refine Bf m g T L (WB _) hu (xn ok) rx rfl N2 N3 N1 (λX=>?_) (λH=>?_) _ 100000 0 none rfl (Xe _) (WM N1 (by decide)) rfl (λc i d hc=>absurd hc (Yz _))
 ·dsimp only;refine Wt ?_;refine h false s.heap (Heap.SameBut.refl a s.heap) ?_;unfold addQ;rw[WC (n.mp X)];exact hS
 ·dsimp only;have J:¬k∈F.map (·.2):=λz=>H (n.mpr z);refine Wr (Yd m g T.fits ?_);dsimp only;have M:G.size<=3:=by rw[<-L.1,Ws,f.length_eq];exact u
  have v:(t.put (road t (c7 w 8 (gv k)) N).j).1.dummies=t.dummies:=by
   unfold SetTable.put;dsimp only;rw[T.SD];rfl
  have C:∀(l:SetTable),l.mask=t.mask->l.dummies=t.dummies->l.place=SetTable.insertAt t.place (SetTable.below t.place (road t (c7 w 8 (gv k)) N).j) (road t (c7 w 8 (gv k)) N).j->l.led=t.led->
    wpAny (model P w) A (do
     storeSet a (SetTable.insertAt G (SetTable.below t.place (road t (c7 w 8 (gv k)) N).j) (c7 w 8 (gv k),.ref b)) l
     if(!false&&l.tooFull)=true then do
      setRelay a (SetTable.grown (G.size+1))
      pure true
     else pure true) Q E s:=λl m1 m2 m3 m4=>by
   have S:=T.put M (x:=.ref b) N2 N3 ⟨m1,m2,m3⟩;have hsz:=S.le;refine Wr (wpAny_storeSet_of m g ?_ (AaS (by unfold scanBound;lia)));have U:l.tooFull=false:=by
    unfold SetTable.tooFull SetTable.fill;have h1:=S.sz;rw[S.mask,S.SD];simp
    lia
   rw[U,WE (by simp)];refine Wt (h true _ (Ze s.heap a (Obj.putSet _ l)) ?_);have o:=X0 (Obj.putSet (SetTable.insertAt G (SetTable.below t.place (road t (c7 w 8 (gv k)) N).j) (c7 w 8 (gv k),.ref b)) l) m (by rw[putSet_of _ l g];rfl);rw[putSet_of _ l g] at o;unfold addQ;rw[WE J];refine⟨?_,_,_,_,_,LV p (SetTable.below t.place (road t (c7 w 8 (gv k)) N).j) (b,k),o,Y,rfl,S,?_,(FC _ _ _).trans (f.append_right _),m4.trans O⟩
   ·rw[WR];refine ZE.mpr ⟨nd,by simp,λx hx y hy z=>?_⟩;rw[List.map_singleton,WD] at hy;subst hy;subst z;exact J hx
   ·rw[SetTable.toList_insertAt,R];unfold LV;rw[WR,WG,Aam,Aa5];rfl
  cases hpn:(t.put (road t (c7 w 8 (gv k)) N).j).1.plain with
  | true=>
   rw[WC rfl];refine Wr (FI 8 (xn ok) rx (λbv=>?_) 8);cases bv with
   | true=>exact C _ rfl v rfl rfl
   | false=>exact C _ rfl v rfl rfl
  | false=>
   rw[WE W8];refine Wr (Wt ?_);exact C _ rfl v rfl rfl
def K5{b:Addr}{k:az}{q:List Addr}{g:List (Addr×az)}{Q:Value->Shared->Prop}(m:tH w s.heap a g)(hr:TC s.heap g)(u:A.units+64 < cLine)(ok:PyData.strOk k.1=true)(l:Reads s.heap (.ref b) (gv k) q)(c:g.length<=3)(h:∀f t,Heap.SameBut a s.heap f->tH w f a (addQ g b k)->Q .none {s with heap:=f,toks:=t}):wpAny (model P w) A (call (.builtin "set.add") [.ref a,.ref b]) Q E s:=by
 have p:s.TypeIs (.ref a) "set":=by obtain⟨_,o,_,_,_,_,e,x,_⟩:=m;exact⟨o,e,x.1⟩
 have d:A.in1.units+8 < cLine:=by show A.units+1+8 < cLine;lia
 refine Xg F.slot_set_add p F.entry_set_add ?_ (F.args_set_add_2 _ _);unfold Builtin.«set.add» Builtin.Frozenset.oneOther Builtin.Frozenset.addrOf setAdd;simp only[ZT,bind_assoc,pure_bind];refine Wr (Xj (Wr (FF 8 d (xn ok) l λj=>?_)));refine uc (s:={s with toks:=s.toks+j}) m hr d ok l c λr f n i=>?_;exact Wt ⟨_,rfl,h f _ n i⟩
def HS{d n:Type}{f:d->n}:∀{i g:List n},i.Perm g->∀{l:List d},g=l.map f->∃c:List d,c.Perm l/\i=c.map f:=by
 intro i g h
 induction h with
 | nil=>intro l e;exact⟨l,.refl _,e⟩
 | cons x _ G=>
  intro l e;cases l with
  | nil=>cases e
  | cons y l=>
   rw[WG] at e;injection e with m b
   obtain⟨c,p,q⟩:=G b;exact⟨y::c,p.cons y,by rw[WG,m,q]⟩
 | swap x y r=>
  intro l e
  match l,e with
  | [],e=>cases e
  | [_],e=>cases e
  | u::v::l,e=>
   rw[WG,WG] at e;injection e with m b
   injection b with b H
   exact⟨v::u::l,.swap ..,by rw[WG,WG,m,b,H]⟩
 | trans _ _ k j=>
  intro l e;obtain⟨I,z,o⟩:=j e;obtain⟨F,C,t⟩:=k o;exact⟨F,C.trans z,t⟩
def EZ{h:Heap}{l:List Value}{x:Str}{i:Int}{f:List Addr}(r:ReadsAll h l [.str x,.int i] f):∃t u,l=[.str x t,.int i u]:=by
 cases r with
 | cons e d=>
  cases d with
  | cons c b=>
   cases b;cases e with
   | str x t=>
    cases c with
    | int i u=>exact⟨t,u,rfl⟩
def Fd{h:Heap}{b:Addr}{k:az}{j:List Addr}(r:Reads h (.ref b) (gv k) j):dU h (.ref b) k:=by
 unfold gv at r;cases r with
 | tuple g f d c=>
  obtain⟨t,u,e⟩:=EZ c;have i:=Zi.mp (show _=(#[Value.str k.1 t,Value.int k.2 u]:Array Value).toList from e);subst i;exact⟨_,_,_,t,u,rfl,g,f,d⟩
def BJ{h:Heap}{v:Value}{k f:az}(x:dU h v k)(y:dU h v f):k=f:=by
 obtain⟨b,o,m,t,u,rfl,i,_,g⟩:=x;obtain⟨q,n,p,l,j,z,d,_,c⟩:=y;cases z;rw[i] at d;cases d;rw[g] at c;injection c with e _
 have:=congrArg Array.toList e;simp at this;exact Prod.ext this.1.1 this.2.1
def K4{h:Heap}{d:List (Addr×az)}(i:∀q∈d,dU h (.ref q.1) q.2){c:List Value}{ks:List az}(a:gE h c ks):(∀v∈c,v∈d.map λq=>Value.ref q.1)->∃out:List (Addr×az),c=out.map (λq=>Value.ref q.1)/\out.map (·.2)=ks/\∀q∈out,q∈d:=by
 induction a with
 | nil=>exactλ_=>⟨[],rfl,rfl,λ_ z=>(nomatch z)⟩
 | cons r t f=>
  intro hm;obtain⟨out,l,k,j⟩:=f λv g=>hm v (Wz _ g);obtain⟨q,b,rfl⟩:=W6.mp (hm _ Wy);have:=BJ (i q b) r;subst this;refine⟨q::out,by rw[WG,l],by rw[WG,k],λx e=>?_⟩;rcases WI.mp e with rfl | e
  ·exact b
  ·exact j x e
theorem vf{h:Heap}:∀{b:List (Addr×az)},(∀q∈b,dU h (.ref q.1) q.2)->gE h (b.map λq=>Value.ref q.1) (b.map (·.2))
 | [],_=>.nil
 | q::r,c=>.cons (c q Wy) (vf λx d=>c x (Wz _ d))
def yO{p:List (Addr×az)}(hh:A.handled=none)(Z:tH w s.heap a p)(hr:TC s.heap p)(h4:p.length<=4){Q:Value->Shared->Prop}
  (h:∀L d l n (out:List (Addr×az)),(∀b o,s.heap.get? b=some o->L.get? b=some o)->s.heap.objs.size<=l->L.get? l=some (seqObj "list" (out.map λq=>Value.ref q.1).toArray n)->out.map (·.2)=j8 (p.map (·.2))->(∀q∈out,q∈p)->Q (.ref l) {s with heap:=L,drawn:=d}):
  wpAny (model P w) A (call (.builtin "sorted") [.ref a]) Q E s:=by
 obtain⟨nd,o,es,ep,t,S,e,ex,dd,T,I,k,x⟩:=Z;refine Calls.call_function_entry kind_sorted plain_sorted entry_sorted (args_sorted1 _) ?_;unfold Builtin.«sorted»;refine Wr (m:=checkCount "sorted" 1 1 _) (Wt ?_);refine Wr (Ao (A:=A.in1) (es:=es) hh ⟨o,ep,t,e,ex,dd,by have:=T.le;unfold scanBound;exact Xk this (by decide),T.fits,x,λ_=>T.Oe⟩ λg d vs C N hp=>?_);rw[I,YD] at hp;obtain⟨c,U,rfl⟩:=HS (f:=λq:Addr×az=>Value.ref q.1) hp rfl;have p3:=U.trans k;have r:(c.map (·.2)).Nodup:=(p3.map (·.2)).nodup_iff.mpr nd;have y:c.length<=4:=by rw[p3.length_eq];exact h4
 have M:j8 (c.map (·.2))=j8 (p.map (·.2)):=C0 ((dz _).trans (p3.map _)) (i6 r) nd;have G:∀q∈c,dU g (.ref q.1) q.2:=λq v=>by
  obtain⟨_,as,R⟩:=hr q (p3.mem_iff.mp v);exact(Fd R).keep λb o _ _ z _ _=>N b o z
 refine Wr (wpAny_newList ?_ (by rw[XR,Ws];exact WL y (by decide)));generalize u:(c.map λq:Addr×az=>Value.ref q.1)=vs;have J:(g.push (seqObj "list" vs.toArray 0)).get? g.objs.size=some (seqObj "list" vs.toArray 0):=WK _ rfl;have j:∀q∈c,dU (g.push (seqObj "list" vs.toArray 0)) (.ref q.1) q.2:=λq v=>(G q v).keep λb o _ _ z _ _=>Wu _ z;have F:gE (g.push (seqObj "list" vs.toArray 0)) vs (c.map (·.2)):=by subst u;exact vf j
 show wpAny _ _ _ _ _ {s with heap:=g.push (seqObj "list" vs.toArray 0),drawn:=d};refine Wr (Xj (Xg slot_list_sort ⟨_,J,rfl⟩ entry_list_sort (Bd (s:={s with heap:=g.push (seqObj "list" vs.toArray 0),drawn:=d}) J F r (by rw[Ws];exact y) λout g1 g2=>⟨_,rfl,?_⟩) (args_list_sort _)));obtain⟨i,rfl,Y,X⟩:=K4 j g1 (by rw[u];exact g2);have H:g.objs.size < (g.push (seqObj "list" vs.toArray 0)).objs.size:=by rw[XF];exact YL _
 obtain⟨n,hn⟩:=sortedHeap_at (vs:=vs) (out:=(i.map λq:Addr×az=>Value.ref q.1).toArray) J;refine Wt ⟨_,rfl,h _ d _ n i (λb o e=>?_) C hn (Y.trans M) λq v=>p3.mem_iff.mp (X q v)⟩;have e:=N b o e;have O:=WH e;rw[sortedHeap_old (WZ O) (Zq O H)];exact Wu _ e
end
noncomputable def Gj(w:World)(a:Addr)(b:List (Addr×az)):HO:=.ext λh=>tH w h a b
def HI(x:tH w h a c):bY l g H h a (Gj w a c):=
 ⟨x,by obtain⟨_,o,_,_,_,_,e,_⟩:=x;exact⟨o,e⟩,λj i y k=>by obtain⟨q,o,d,f,t,b,e,r⟩:=y;exact⟨q,o,d,f,t,b,k o e,r⟩⟩
def Fe:JW X (newSet (.type "set")) (λl=>Gj X.w l []):=λc s d H Q E I h=>by
 unfold newSet setsByText;refine Wr (Wr (YW (Wt ?_)));dsimp only;refine Xc (h _ s.toks (I.laid (a:=s.heap.objs.size) (t':=s.toks) (λ_ _ q=>Wu _ q) (WB _) (HI ⟨.nil,_,#[],0,_,[],WK _ rfl,⟨rfl,rfl,rfl⟩,rfl,?_⟩)));refine⟨⟨rfl,rfl,λi j b=>absurd b (Yz _),rfl,Xe _,λi j e b=>?_⟩,rfl,.refl _,rfl⟩;exact absurd b (by simp[SetTable.fresh])
def Nm(K:FR)(H:Hp)(q:Addr×az):Prop:=PyData.strOk q.2.1=true/\CN K H (.ref q.1) (gv q.2)
def MV(I:Inv X pins σ H s)(h:∀q∈b,Nm X.K H q):TC s.heap b:=λq a=>⟨(h q a).1,(h q a).2.reads I rfl⟩
def NI(K:FR)(w:World)(e:TE)(l:Addr):TK:=λd H N=>e d H λx c=>∃a b k,c l=some (Gj w l a)/\x=.ref b/\Nm K c (b,k)/\(∀q∈a,Nm K c q)/\a.length<=3/\N d (upd c l (Gj w l (addQ a b k)))
def La{B:Cx}{f:Expr}{m:TE}{l:Addr}(t:B.A.units+64 < cLine)(y:PE B f m):PM B (emitSet f (.ref l) B.env) (NI B.K B.w m l):=λa s j H N I h=>by
 unfold emitSet;refine Wr (b5 (y a s j H _ I h) λu G C=>?_);obtain⟨x,M,g,p,J,b,k,e,rfl,n,i,r,n1⟩:=C;cases p;refine Wr (Yb (Wr ?_));obtain⟨z,_,_⟩:=g.a8 l _ e;obtain⟨L,o⟩:=n.2.reads g rfl;refine K5 z (MV g i) t n.1 o r λE F v d=>Wt ?_;have c:∃q,E.get? l=some q:=by obtain⟨_,q,_,_,_,_,i,_⟩:=d;exact⟨q,i⟩
 exact⟨j,_,gB g (by rw[e];exact True.intro) v c (HI d),n1⟩
def Cy{X:Cx}(y:X.calm=true):eU X (.builtin "sorted") (λf H Q=>∃a b,f=[.ref a]/\H a=some (Gj X.w a b)/\(∀q∈b,Nm X.K H q)/\b.length<=4/\∀l (out:List (Addr×az)),H l=none->out.map (·.2)=j8 (b.map (·.2))->(∀q∈out,q∈b)->Q (.ref l) (upd H l (.lst (out.map λq=>V.ref q.1)))):=by
 intro g s E H f us Q I r h;obtain⟨a,b,rfl,e,v,A,q⟩:=h;obtain⟨u,rfl,j⟩:=vals1 r;cases j;obtain⟨z,_,_⟩:=I.a8 a _ e;refine yO (I.ok.hd y) z (MV I v) A λF d l n out k hl x i C=>?_;have c:out.length<=4:=by
  have:=congrArg List.length i;rw[(dz _).length_eq,Ws,Ws] at this
  lia
 have p:(out.map λq=>V.ref q.1).length<=sizeLine:=by rw[Ws,XR];exact WL c (by decide)
 have t:∀out:List (Addr×az),Vals (out.map λq=>V.ref q.1) (out.map λq=>Value.ref q.1):=λout=>by
  induction out with
  | nil=>exact .nil
  | cons q r m=>exact .cons rfl m
 exact⟨.ref l,_,(I.laid (t':=s.toks) (o:=.lst (out.map λq=>V.ref q.1)) k hl ⟨p,_,n,t out,x⟩).draw d,rfl,q l out (I.a8.fresh hl) i C⟩
end L2
namespace Sm
open L2 PyProof.Rows
noncomputable def OJ:D->Option az
 | .tup [.str x,.int i]=>some (x,i)
 | _=>none
noncomputable def gu(k:az):D:=.tup [.str k.1,.int k.2]
def K6{d:D}{k:az}(e:OJ d=some k):d=gu k:=by
 unfold OJ at e
 split at e
 ·cases e;rfl
 ·cases e
def Hi{K:FR}{a:Ad}{H:Hp}{v:V}{k:az}(r:Rep K a H v (gu k)):∃b,v=.ref b/\Nm K H (b,k):=by
 unfold gu at r;have c:PyData.strOk k.1=true:=by
  cases r with
  | tup _ l=>cases l with
   | cons q _=>cases q with
    | str x=>exact x
 have:=r.rR (p:=gv k) rfl;cases r with
 | tup h l=>exact⟨_,rfl,c,this.1⟩
def Tg(w:World):Ac (List az) where
 at_:=λK c H l a=>∃b,H l=some (Gj w l b)/\a=b.map (·.2)/\∀q∈b,Rep K c H (.ref q.1) (gu q.2)
 mono:=λ⟨b,e,r,k⟩ T q=>⟨b,q.trans e,r,λx d=>(k x d).mono T⟩
noncomputable def Ga(ks:List az)(k:az):List az:=if k∈ks then ks else ks++[k]
def mP(e:EM):MK (List az):=λb h a=>(e b h).bind λp=>(OJ p.1).bind λk=>if a.length<=3 then some (b,p.2,Ga a k) else none
def Dq{K:FR}{a:Ad}{H:Hp}{q:Addr×az}(r:Rep K a H (.ref q.1) (gu q.2)):Nm K H q:=by
 obtain⟨b,e,h⟩:=Hi r;cases e;exact h
def Ks{X:Cx}{j:Expr}{r:EM}(L:X.A.units+64 < cLine)(M:SE X j r):TB X (λl env=>emitSet j (.ref l) env) (Tg X.w) (mP r):=λl=>(La L M).imp λy H N G=>by
 obtain⟨C,F,h,a,E,Y,Z,R,S,hl,⟨o,J,s,a8⟩,e,I⟩:=G;obtain⟨⟨x,U⟩,Q,P⟩:=aZ e;obtain⟨c,t,k⟩:=aZ P;dsimp only at t k
 by_cases n:a.length<=3
 ·rw[WC n] at k;cases k;refine⟨C,F,h,x,_,R,S,Q,λu H1 u9=>?_⟩;obtain⟨d,m,T,p⟩:=u9;have:=K6 t;subst this;obtain⟨b,rfl,O⟩:=Hi p;have f:∀q∈o,Rep X.K d H1 (.ref q.1) (gu q.2):=λq g=>(a8 q g).mono m.toCh;refine⟨o,b,c,(m.res l hl).trans J,rfl,O,λq g=>Dq (f q g),by rw[s,Ws] at n;exact n,?_⟩;have i:l∈d.rs:=by rw[m.rs];exact hl
  have v:Ch d H1 d (upd H1 l (Gj X.w l (addQ o b c))):=Ch.put i;refine I d _ y (kg.put (K:=X.K) m hl) (T.put i) ((R.mono m.toCh).mono v) ⟨_,aO,?_,λq g=>?_⟩
  ·unfold Ga addQ;rw[s]
   split
   ·rfl
   ·rw[WR];rfl
  ·refine Rep.mono v ?_;unfold addQ at g
   split at g
   ·exact f q g
   ·rcases Xi.mp g with z | z
    ·exact f q z
    ·rw[WD] at z;subst z;exact p
 ·rw[WE n] at k;cases k
def Cm(a:List (Option Nat))(i:IM)(g:GM)(c:TM)(m:MK (List az)):EM:=λb h=>(i b h).bind λp=>(cZ p.2.1 g c m p.1 (kH a b) p.2.2 []).bind λq=>if q.2.2.length<=4 then some (.lv ((j8 q.2.2).map gu),q.2.1) else none
theorem zb{K:FR}{b:Ad}{H:Hp}:∀{a:List (Addr×az)},(∀q∈a,Rep K b H (.ref q.1) (gu q.2))->aA K b H (a.map λq=>V.ref q.1) ((a.map (·.2)).map gu)
 | [],_=>.nil
 | q::r,h=>.cons (h q Wy) (zb λx c=>h x (Wz _ c))
def Hm{X:Cx}{c:List (Option Nat)}{t:IM}{g:GM}{s:TM}{m:MK (List az)}{f:L2.St}{H:Hp}{Q:VK}(hh:tM X.K (Cm c t g s m) f H Q):
  Ux (λr H Q=>∃a b,r=[.ref a]/\H a=some (Gj X.w a b)/\(∀q∈b,Nm X.K H q)/\b.length<=4/\∀l (out:List (Addr×az)),H l=none->out.map (·.2)=j8 (b.map (·.2))->(∀q∈out,q∈b)->Q (.ref l) (upd H l (.lst (out.map λq=>V.ref q.1)))) (λf H Q=>kK c (Kp X.K t) (λl=>Gj X.w l []) (Bb X.K g) (yK X.K s) (λl=>GA X.K (Tg X.w) l m) f H λv e=>Q [v] e) f H Q:=by
 obtain⟨y,E,h,d,h',R,S,L,k⟩:=hh;obtain⟨⟨r,F,J⟩,P,O⟩:=aZ L;obtain⟨⟨p,Z,z⟩,N,i⟩:=aZ O;dsimp only at i
 by_cases j:z.length<=4
 ·rw[WC j] at i;cases i;show kK c (Kp X.K t) (λl=>Gj X.w l []) (Bb X.K g) (yK X.K s) (λl=>GA X.K (Tg X.w) l m) f H λv e=>∃a b,[v]=[V.ref a]/\e a=some (Gj X.w a b)/\(∀q∈b,Nm X.K e q)/\b.length<=4/\∀l (out:List (Addr×az)),e l=none->out.map (·.2)=j8 (b.map (·.2))->(∀q∈out,q∈b)->Q (.ref l) (upd e l (.lst (out.map λq=>V.ref q.1)));refine zk (A:=Tg X.w) (o:=λl=>Gj X.w l []) (a0:=[]) (λy H l=>⟨[],aO,rfl,λk I=>(nomatch I)⟩) ⟨y,E,h,r,F,J,p,_,z,R,S,P,N,λl C H' T U n u9=>?_⟩;obtain⟨b,at',M,ok⟩:=u9;subst M;refine⟨l,b,rfl,at',λq u=>Dq (ok q u),by rw[Ws] at j;exact j,λY out x o1 G=>?_⟩;rw[<-o1] at k;exact k _ _ (dw.step T (dw.lv U (zb λq u=>ok q (G q u)) x))
 ·rw[WE j] at i;cases i
def EI{X:Cx}{k d j:Expr}{p pos e:Pos}{n:EM}{m:TM}{g:GM}{N':List Str}{caps:List (Option Nat)}{a:Scope}{h:List Expr}{s:IM}(C:ba X N' caps a)(t:X.calm=true)(r:Gl X "sorted")(o:X.mg "sorted"=none)(u:X.A.units+64 < cLine)(y:SI X k d s)(z:∀C b c f pl,SG (eR X N' a C b c f pl) k g)(q:∀C b c f pl,My (eR X N' a C b c f pl) h m)(E:∀C b c f pl,SE (eR X N' a C b c f pl) j n)(v:∀x,foldedSetIterable d X.env x=pure x:=by intro _;ac_nf):
  SE X (.Call (.Name "sorted" p) [.SetComp j [⟨k,d,h,0⟩] a e] [] pos) (Cm caps s g m (mP n)):=by
 have i:=rY (g:=Bb X.K g) (tc:=yK X.K m) (tm:=λl=>GA X.K (Tg X.w) l (mP n)) C t (E6 j [⟨k,d,h,0⟩] a e) rfl (λG l env=>Et ..) Fe y z q
  (λC b c f pl l=>Ks (X:=eR X N' a C b c f pl) u (E C b c f pl) l) rfl v
 exact(zr (Cy t) r o (by decide+kernel) (DD i Ib)).imp λF H Q hh=>Hm hh
end Sm
namespace L2
open PyProof.Rows
noncomputable def MB(a c:Int)(n:Nat):It:=⟨λi _=>i < n,λi H x b=>b=H/\x=.int (a+i*c),λi _=>n<=i⟩
def yH{P:Program}{w:World}{K:FR}{M:Expr}(d:Addr)(j c:Int)(n:Nat):Turn P w K M (MB j c n) [d] d (λi h=>IsRangeIter h d (j+(i:Nat)*c) ((n:Int)-(i:Nat)) c) where
 mem:=by simp
 obj:=λi h st b f=>by
  have e:b=d:=by simpa using f
  subst e;exact⟨_,st,λv z=>by
   have L:Data.fields _=Data.cell v:=z;cases L⟩
 keep:=λi h m st k=>k d (by simp) _ st
 item:=by
  intro X u p x r i a s G H E I l st q;subst u p x;obtain⟨f0,F,Q,C,A,y⟩:=l d (by simp);have W:=Walks.range (prog:=X.prog) (w:=X.w) (I.ok.hd r) d j c n;refine W.item i s _ _ q st λv m J O g N=>?_;obtain⟨t,rfl⟩:=O;have S:Inv X a G H {s with heap:=m,toks:=J}:=I.turned (λb o f e=>N b o (by simpa using f) e) f0 F C A y;exact⟨_,rfl,DQ (s:={s with heap:=m,toks:=J}) (n:="range_iterator") g rfl rfl (by decide) ⟨.int (j+i*c),H,S,⟨t,rfl⟩,⟨rfl,rfl⟩,g,λb f=>(l b f).1⟩⟩
 done:=by
  intro X u p x r i a s G H E I l st q;subst u p x;obtain⟨f0,F,Q,C,A,y⟩:=l d (by simp);exact wpAny_pyNext_range_end (I.ok.hd r) st (by have:n<=i:=q;lia) λm R=>⟨rfl,I.turned (t':=s.toks) (λb o f e=>R b o f e) f0 F C A y⟩
 self:=λ_ _ _ _ _ st h=>wpAny_pyIter_rangeiter st h
def Kb(i j c:Int):Prop:=(-1000000<=i/\i<=1000000)/\(-1000000<=j/\j<=1000000)/\0 < c/\c<=1000
instance:Decidable (Kb i j c):=by unfold Kb;exact inferInstance
def size_pos(h:Kb i j c):0<=Builtin.Range.rangeSize i j c/\Builtin.Range.rangeSize i j c<=2000000:=by
 obtain⟨g,f,d,e⟩:=h;unfold Builtin.Range.rangeSize;rw[WC d]
 split
 ·have:=Int.ediv_nonneg (a:=j-i-1) (b:=c) (by lia) (by lia);have:=Int.ediv_le_self (a:=j-i-1) c (by lia)
  lia
 ·lia
def E2{d:List (Addr×Obj)}{g:St}{H:Hp}{s:Shared}{R:It->Hp->Prop}{E:Value->Shared->Prop}{a f c:Int}{t u v:Tok}{h:Nat}(I:Inv X d g H s)(j:Kb a f c)
  (q:R (MB a c (Builtin.Range.rangeSize a f c).toNat) H):wpAny (model X.prog X.w) X.A (pyIter (.ref s.heap.objs.size)) (VB X d g p R) E {s with heap:=s.heap.push {cls:=.type "range",data:=.fields #[.int a t,.int f u,.int c v]},toks:=h}:=by
 have k:=size_pos j;refine wpAny_pyIter_range (IsRange.new ..) ?_ ?_
 ·obtain⟨g1,g2,g3,g4⟩:=j;unfold Builtin.Range.small;simp only[Builtin.Range.rangeFitsLong,WS,Yp,Xo,Yt,show c > 0 from g3,Y4];refine⟨⟨⟨⟨⟨?_,?_⟩,?_,?_⟩,?_,?_⟩,?_,?_⟩,.inr ⟨?_,?_⟩⟩ <;> lia
 have i:Inv X d g H {s with heap:=s.heap.push {cls:=.type "range",data:=.fields #[.int a t,.int f u,.int c v]},toks:=h}:=I.kept λb o e=>Wu _ e;refine⟨(s.heap.push {cls:=.type "range",data:=.fields #[.int a t,.int f u,.int c v]}).objs.size,[(s.heap.push {cls:=.type "range",data:=.fields #[.int a t,.int f u,.int c v]}).objs.size],_,_,H,rfl,
  i.kept (t':=h) λb o e=>Wu _ e,yH _ a c (Builtin.Range.rangeSize a f c).toNat,?_,λb l=>?_,q⟩
 ·have n:a+((0:Nat):Int)*c=a:=by simp
  have m:(((Builtin.Range.rangeSize a f c).toNat:Nat):Int)-((0:Nat):Int)=Builtin.Range.rangeSize a f c:=by lia
  show IsRangeIter _ _ (a+((0:Nat):Int)*c) ((((Builtin.Range.rangeSize a f c).toNat:Nat):Int)-((0:Nat):Int)) c;rw[n,m];exact WK _ rfl
 ·have e:b=(s.heap.push {cls:=.type "range",data:=.fields #[.int a t,.int f u,.int c v]}).objs.size:=by simpa using l
  subst e;exact i.uA (WB _) (i.a8.fresh (WB _))
def Sl(d:TA):TI:=λa H R=>d a H λb e=>∃i j c:Int,b=[.int i,.int j,.int c]/\Kb i j c/\R (MB i c (Builtin.Range.rangeSize i j c).toNat) e
def E8{X:Cx}{u a b c:Expr}{p pos:Pos}{n:TA}(A:Gl X "range")(hm:X.mg "range"=none)(C:PA X [a,b,c] n)(z:starEach [a,b,c] X.env=[(false,eval a X.env),(false,eval b X.env),(false,eval c X.env)]:=by rfl)(k:starEach [b,c] X.env=[(false,eval b X.env),(false,eval c X.env)]:=by rfl):
  PI X u (.Call (.Name "range" p) [a,b,c] [] pos) (Sl n):=by
 intro g s o H R I h;refine Call_ (fW I A hm boot_range (Xr (b5 (C pos g s o H _ I h) λus s1 ⟨F,H1,E,w,y⟩=>?_) (by rw[z,k]) (by rw[k];rfl)));obtain⟨i,j,d,e,m,q⟩:=y;subst e;cases w with
 | cons r f=>
  cases f with
  | cons x f=>
   cases f with
   | cons l f=>
    cases f;obtain⟨t,rfl⟩:=r;obtain⟨G,rfl⟩:=x;obtain⟨v,rfl⟩:=l;refine call_range_3 (by have:=m.2.2.1;lia) (E2 E m q) (.inl ?_);obtain⟨g1,g2,g3,g4⟩:=m;exact PyProof.noPylong_small (by lia)
end L2
namespace Sm
open L2 PyProof.Rows
noncomputable def LW(m:AM):IM:=λa h=>(m a h).bind λp=>match p.1 with
 | [.int i,.int j,.int c]=>if Kb i j c then some ((List.range (Builtin.Range.rangeSize i j c).toNat).map λ(k:Nat)=>D.int (i+(k:Int)*c),[],p.2) else none
 | _=>none
def LM{K:FR}{ρ:Ad}{H:Hp}(b c:Int)(n:Nat):QH K (MB b c n) ρ H [] ((List.range n).map λ(k:Nat)=>D.int (b+(k:Int)*c)):=by
 refine xN λd m r T S o=>⟨(List.range n).map λ(k:Nat)=>V.int (b+(k:Int)*c),?_,λi f=>?_,λi v e=>?_⟩
 ·have:=jP (K:=K) (ρ:=d) (H:=m) ((List.range n).map λ(k:Nat)=>b+(k:Int)*c);rw[YD,YD] at this;exact this
 ·rw[Ws,WX] at f;exact f
 ·rw[WJ] at e;obtain⟨j,l,h⟩:=eg e;obtain⟨a,g⟩:=Ww.mp l;rw[WX] at a;rw[Aas] at g;subst g;subst h;exact⟨a,λu s ⟨p,q⟩=>⟨p,q⟩⟩
def EF{X:Cx}{t a b c:Expr}{p pos:Pos}{m:AM}(y:Gl X "range")(hm:X.mg "range"=none)(A:SA X [a,b,c] m)(w:starEach [a,b,c] X.env=[(false,eval a X.env),(false,eval b X.env),(false,eval c X.env)]:=by ac_nf)(o:starEach [b,c] X.env=[(false,eval b X.env),(false,eval c X.env)]:=by ac_nf)(hl:jK m 3):
  SI X t (.Call (.Name "range" p) [a,b,c] [] pos) (LW m):=
 (E8 y hm A w o).imp λσ H Q ⟨q,s,h,xs,ws,L,R,S,e,k⟩=>by
  obtain⟨⟨x,C⟩,E,f⟩:=aZ e;refine⟨q,s,h,x,C,R,S,E,λJ g I F G u=>?_⟩;dsimp only at f
  split at f
  ·rename_i _ i j d
   by_cases z:Kb i j d
   ·rw[WC z] at f;cases f;refine⟨i,j,d,?_,z,k _ g I F G (LM i d _)⟩;cases u with
    | cons r l=>cases l with
     | cons v l=>cases l with
      | cons n l=>cases l;cases r;cases v;cases n;rfl
   ·rw[WE z] at f;cases f
  ·cases f
end Sm
namespace L2
open PyProof.Rows PySem.SeqAt
end L2
namespace Sm
open L2 PyProof.Rows
end Sm
namespace Sm
open L2 PyProof.Rows PySem.SeqAt
noncomputable local instance:DecidableEq PyData:=λa b=>Classical.propDecidable _
def Ck(k:PyData)(d:D):Bool:=match kA d with
 | some p=>PyData.eqv p k
 | none=>false
def nX(a:List (D×D))(k:PyData):Option D:=(a.find? λb=>Ck k b.1).map (·.2)
def xl(a:List (D×D))(k:PyData)(e v:D):List (D×D):=
 if(a.any λb=>Ck k b.1)=true then a.map (λb=>if Ck k b.1=true then(b.1,v) else b) else a++[(e,v)]
def B3(d:D):Option PyData:=match d with
 | .tup xs=>(kA (.tup xs)).bind λp=>if bG 8 p=true then some p else none
 | _=>none
def qG(hp:bG 8 p=true)(a:bG 8 k=true):PyData.eqv p k=decide (p=k):=by
 by_cases z:p=k
 ·subst z;rw[eqv_refl 8 hp,W4 rfl]
 ·rw[WW z];cases q:PyData.eqv p k with
  | false=>rfl
  | true=>exact absurd (xo 8 hp a q) z
inductive R3(K:FR)(ρ:Ad)(H:Hp):List (Addr×V)->List (PyData×Addr×Value)->List (D×D)->Prop where
 | nil:R3 K ρ H [] [] []
 | cons {b:Addr} {v:V} {u:Value} {p:PyData} {d e:D} {us:List (Addr×V)} {ys:List (PyData×Addr×Value)} {kvs:List (D×D)}:
  Rep K ρ H (.ref b) d->Rep K ρ H v e->RelV v u->kA d=some p->bG 8 p=true->R3 K ρ H us ys kvs->R3 K ρ H ((b,v)::us) ((p,b,u)::ys) ((d,e)::kvs)
section
variable {K:FR} {ρ ρ':Ad} {H H':Hp}
def R3.of:∀{us:List (Addr×V)} {g:List (PyData×Addr×Value)} {f:List (D×D)},aA K ρ H (us.map λu=>V.ref u.1) (f.map (·.1))->aA K ρ H (us.map (·.2)) (f.map (·.2))->i0 (f.map (·.1))=some (g.map (·.1))->
  (g.map (·.1)).all (bG 8)=true->Paired (λ(u:Addr×V)(y:PyData×Addr×Value)=>u.1=y.2.1/\RelV u.2 y.2.2) us g->R3 K ρ H us g f:=by
 intro us g f
 induction f generalizing us g with
 | nil=>
  intro a b c d e;cases us with
  | cons _ _=>cases a
  | nil=>cases e;exact .nil
 | cons q f n=>
  intro a b c i m;obtain⟨d,e⟩:=q;cases us with
  | nil=>cases a
  | cons u us=>
   obtain⟨E,C⟩:=u;cases m with
   | @cons _ y _ g h t=>
    obtain⟨z,A,x⟩:=y;obtain⟨k,j⟩:=h;dsimp only at k j;subst k;cases a with
    | cons a1 a2=>
     cases b with
     | cons w v=>
      obtain⟨p,s,r⟩:=aZ (show(kA d).bind (λa=>(i0 (f.map (·.1))).map λb=>a::b)=_ from c);obtain⟨F,o,l⟩:=eg r;rw[WG] at l;obtain⟨rfl,rfl⟩:=List.cons.inj l;rw[WG,YH,WS] at i;exact .cons a1 w j s i.1 (n a2 v o i.2 t)
theorem R3.mono(S:Ch ρ H ρ' H'){us:List (Addr×V)}{h:List (PyData×Addr×Value)}{g:List (D×D)}(r:R3 K ρ H us h g):R3 K ρ' H' us h g:=by
 induction r with
 | nil=>exact .nil
 | cons a b c d e f i=>exact .cons (a.mono S) (b.mono S) c d e i
def R3.parts:∀{us:List (Addr×V)} {h:List (PyData×Addr×Value)} {g:List (D×D)},R3 K ρ H us h g->aA K ρ H (us.map λu=>V.ref u.1) (g.map (·.1))/\aA K ρ H (us.map (·.2)) (g.map (·.2))/\i0 (g.map (·.1))=some (h.map (·.1))/\
  (h.map (·.1)).all (bG 8)=true/\Paired (λ(u:Addr×V)(y:PyData×Addr×Value)=>u.1=y.2.1/\RelV u.2 y.2.2) us h/\us.length=g.length/\h.length=g.length
 :=by
 intro us h g r
 induction r with
 | nil=>exact⟨.nil,.nil,rfl,rfl,.nil,rfl,rfl⟩
 | cons a b c d e f i=>
  obtain⟨p,o,n,m,l,k,j⟩:=i;refine⟨.cons a p,.cons b o,?_,?_,.cons ⟨rfl,c⟩ l,congrArg Nat.succ k,congrArg Nat.succ j⟩
  ·rw[WG,WG,i0,d,WY,n];rfl
  ·rw[WG,YH,e,m];rfl
theorem R3.reads{X:Cx}{g:List (Addr×Obj)}{k:L2.St}{s:Shared}(I:Inv X g k H s){us:List (Addr×V)}{j:List (PyData×Addr×Value)}{h:List (D×D)}(r:R3 X.K ρ H us j h):∀y∈j,JZ s.heap y.1 y.2.1:=by
 induction r with
 | nil=>exactλ_ z=>(nomatch z)
 | cons a b c d e f l=>
  intro y i;rcases WI.mp i with rfl | i
  ·exact⟨e,CN.reads I (a.rR d).1 rfl⟩
  ·exact l y i
theorem R3.val{k:PyData}(c:bG 8 k=true):∀{us:List (Addr×V)} {ys:List (PyData×Addr×Value)} {kvs:List (D×D)},R3 K ρ H us ys kvs->(atKey ys k=none/\nX kvs k=none)\/∃p d v,atKey ys k=some p/\nX kvs k=some d/\RelV v p.2/\Rep K ρ H v d
 | _,_,_,.nil=>.inl ⟨rfl,rfl⟩
 | _,_,_,.cons (b:=b) (v:=v) (u:=u) (p:=p) (d:=d) (e:=e) (us:=us) (ys:=ys) (kvs:=kvs) n m l j i f=>by
  have a:Ck k d=decide (p=k):=by unfold Ck;rw[j];exact qG i c
  by_cases z:p=k
  ·refine .inr ⟨(b,u),e,v,?_,?_,l,m⟩
   ·unfold atKey;rw[XI,W4 z];rfl
   ·unfold nX;rw[XI,a,W4 z];rfl
  ·have h:atKey ((p,b,u)::ys) k=atKey ys k:=by unfold atKey;rw[XI,WW z]
   have g:nX ((d,e)::kvs) k=nX kvs k:=by unfold nX;rw[XI,a,WW z]
   rw[h,g];exact f.val c
theorem R3.old{k:PyData}(r:bG 8 k=true){x:V}{c:Value}{w:D}(o:RelV x c)(g:Rep K ρ H x w):∀{us:List (Addr×V)} {n:List (PyData×Addr×Value)} {h:List (D×D)},R3 K ρ H us n h->∃a,R3 K ρ H a (n.map (putAt k c)) (h.map λi=>if Ck k i.1=true then(i.1,w) else i)
 | _,_,_,.nil=>⟨[],.nil⟩
 | _,_,_,.cons (b:=b) (v:=v) (u:=u) (p:=p) (d:=d) (e:=e) t A y m l f=>by
  have q:Ck k d=decide (p=k):=by unfold Ck;rw[m];exact qG l r
  obtain⟨a,s⟩:=f.old r o g
  by_cases z:p=k
  ·refine⟨(b,x)::a,?_⟩;have j:putAt k c (p,b,u)=(p,b,c):=by simp[putAt,z]
   rw[WG,WG,j,q,W4 z,WC rfl];exact .cons t g o m l s
  ·refine⟨(b,v)::a,?_⟩;have j:putAt k c (p,b,u)=(p,b,u):=by simp[putAt,z]
   rw[WG,WG,j,q,WW z,WE W8];exact .cons t A y m l s
def R3.app{us j:List (Addr×V)}{l i:List (PyData×Addr×Value)}{k h:List (D×D)}(g:R3 K ρ H j i h):R3 K ρ H us l k->R3 K ρ H (us++j) (l++i) (k++h):=λf=>by
 induction f with
 | nil=>exact g
 | cons a b c d e f m=>exact .cons a b c d e m
theorem R3.any{k:PyData}(a:bG 8 k=true):∀{us:List (Addr×V)} {ys:List (PyData×Addr×Value)} {kvs:List (D×D)},R3 K ρ H us ys kvs->(kvs.any λc=>Ck k c.1)=(atKey ys k).isSome
 | _,_,_,.nil=>rfl
 | _,_,_,.cons (b:=b) (v:=v) (u:=u) (p:=p) (d:=d) (e:=e) (us:=us) (ys:=ys) (kvs:=kvs) m l j i h f=>by
  have g:Ck k d=decide (p=k):=by unfold Ck;rw[i];exact qG h a
  rw[YG,g,f.any a];unfold atKey;rw[XI]
  by_cases z:p=k
  ·rw[W4 z];rfl
  ·rw[WW z];rfl
def R3.put{k:PyData}(g:bG 8 k=true){b:Addr}{x:V}{h:Value}{d w:D}(j:Rep K ρ H (.ref b) d)(l:kA d=some k)(i:RelV x h)(a:Rep K ρ H x w){us:List (Addr×V)}{c:List (PyData×Addr×Value)}{kvs:List (D×D)}(f:R3 K ρ H us c kvs):
  ∃e,R3 K ρ H e (storedH c k b h) (xl kvs k d w):=by
 unfold storedH xl;rw[f.any g]
 by_cases z:(atKey c k).isSome=true
 ·rw[WC z,WC z];exact f.old g i a
 ·rw[WE z,WE z];exact⟨_,R3.app (.cons j a i l g .nil) f⟩
end
def D5{X:Cx}{b:List (Addr×Obj)}{i:L2.St}{H:Hp}{s:Shared}{g:Ad}{a:Addr}{c:List (D×D)}(I:Inv X b i H s)(x:AR X.K g H a (.dcH c)):
  ∃us d h,H a=some (.Cg (ia a us h))/\R3 X.K g H us d c/\s.heap.DictOfH (rV X.prog X.w) a d/\(a==sysModules)=false/\us.length<=sizeLine:=by
 obtain⟨us,h,e,k,j,p⟩:=x;obtain⟨⟨z,m,hp,nd,d,l,rfl,o,u,v,t,r,q,n⟩,_⟩:=I.a8 a _ e;have f:=R3.of k j p hp l;exact⟨us,d,_,e,f,⟨o,u,v,t,r,q,n,f.reads I,nd⟩,m,z⟩
def mG(e:B3 d=some k):kA d=some k/\bG 8 k=true/\∃b,d=.tup b:=by
 unfold B3 at e
 split at e
 ·obtain⟨p,c,a⟩:=aZ e
  split at a
  ·rename_i z;cases a;exact⟨c,z,_,rfl⟩
  ·cases a
 ·cases e
noncomputable def qk(d:D)(h:MH):Option (List (D×D)):=match d with
 | .ob n=>match h[n]? with
  | some (.dcH a)=>some a
  | _=>none
 | _=>none
def nr{K:FR}{c:Ad}{H:Hp}{h:MH}{v:V}{d:D}{b:List (D×D)}(S:bC K c h H)(r:Rep K c H v d)(e:qk d h=some b):∃n a,d=.ob n/\h[n]?=some (.dcH b)/\v=.ref a/\c.ob[n]?=some a/\AR K c H a (.dcH b):=by
 unfold qk at e
 split at e
 ·split at e
  ·rename_i q;cases e;cases r with
   | ob hn=>exact⟨_,_,rfl,q,rfl,hn,S.at_ _ _ _ hn q⟩
  ·cases e
 ·cases e
def I9(d e:D)(h:MH):Option (D×MH):=(qk d h).bind λa=>(B3 e).bind λk=>(nX a k).map λz=>(z,h)
def mV(o i v:D)(h:MH):Option MH:=match o with
 | .ob n=>match h[n]? with
  | some (.dcH a)=>(B3 i).bind λk=>if a.length < sizeLine then some (h.set n (.dcH (xl a k i v))) else none
  | _=>none
 | _=>none
section
variable {X:Cx}
def xM{a:List (Addr×Obj)}{c:L2.St}{H:Hp}{s:Shared}{d:Ad}{y:V}{u:Value}{e:D}{k:PyData}(I:Inv X a c H s)(g:Rep X.K d H y e)(f:RelV y u)(h:B3 e=some k):∃b,y=.ref b/\u=.ref b/\JZ s.heap k b:=by
 obtain⟨j,i,m,rfl⟩:=mG h;cases g with
 | @tup b n ds ht l=>
  obtain rfl:u=Value.ref b:=f;exact⟨b,rfl,rfl,i,CN.reads I ((Rep.tup ht l).rR j).1 rfl⟩
def PC(hu:X.A.units+64 < cLine):QW X (rS X.K I9):=by
 intro i j m s P H x y v u Q I C t hh L;obtain⟨R,h,d,e,z,h',S,rd,E,c,k⟩:=hh;obtain⟨F,O,c⟩:=aZ c;obtain⟨Z,q,c⟩:=aZ c;obtain⟨T,g,c⟩:=eg c;cases c;obtain⟨n,a,rfl,hn,rfl,ha,ob⟩:=nr S rd O;obtain rfl:v=Value.ref a:=C;obtain⟨us,U,Y,ea,f,dd,J,hz⟩:=D5 I ob;obtain⟨b,rfl,rfl,G⟩:=xM I E t q;rcases f.val (mG q).2.1 with⟨o,l⟩ |⟨p,d',r,o,l,N,M⟩
 ·rw[l] at g;cases g
 ·rw[l] at g;cases g;exact tail_any dd.typeIs Zw.lookup (wpAny_getItem_heap (knd:=rV X.prog X.w) (show X.A.in1.units+8 < cLine by rw[Zo];lia) G dd o ⟨r,H,I.tok _,N,k _ _ (.here S M)⟩) L
def N0(hr:eF n X.A)(g:SE X a d)(f:SE X b c)(e:iB b:=by unfold iB;intro _ _;ac_nf):SE X (.Subscript a b pos) (ai I9 d c):=(M3 (PC hr.units) g f e).imp λ_ _ _=>zj
inductive JT(K:FR)(o i v:V)(H:Hp)(Q:Hp->Prop):Prop where
 | mk (ρ h a b c h'):bC K ρ h H->Rep K ρ H o a->Rep K ρ H i b->Rep K ρ H v c->(mV a b c h=some h')->(∀ρ' H',cA ρ H ρ' H'->bC K ρ' h' H'->Q H')->JT K o i v H Q
def RS(K:FR):V->V->V->Hp->(Hp->Prop)->Prop:=λo i v H Q=>JT K o i v H Q
def DT(o i:EM):GM:=λv a h=>(o a h).bind λp=>(i a p.2).bind λq=>(mV p.1 q.1 v q.2).map λb=>(a,b)
def _root_.L2.ia.stays{a:Addr}{us:List (Addr×V)}{c:List PyData}{w:World}{h:Heap}(x:ia a us c w h):(∃o,h.get? a=some o)/\∀b d:Heap,ia a us c w b->(∀o,b.get? a=some o->d.get? a=some o)->ia a us c w d:=by
 obtain⟨_,_,_,_,_,_,_,o,_,_,b,_⟩:=x;exact⟨⟨o,b⟩,λ_ _ ⟨p,n,m,l,g,j,i,o,q,r,f,e⟩ k=>⟨p,n,m,l,g,j,i,o,q,r,k _ f,e⟩⟩
def K2(hu:X.A.units+64 < cLine):Mz X (RS X.K):=by
 intro J s σ H o i v Z iv u Q I ro U rv hh;obtain⟨t,h,d,e,c,h',S,rd,G,Y,g,k⟩:=hh;cases d <;> first |(cases g;done) | skip
 rename_i n;unfold mV at g;dsimp only at g;cases q:h[n]? with
 | none=>rw[q] at g;cases g
 | some w=>
  rw[q] at g;cases w with
  | lst _=>cases g
  | dct _=>cases g
  | dcH l=>
   dsimp only at g;obtain⟨r,P,g⟩:=aZ g
   by_cases z:l.length < sizeLine
   ·rw[WC z] at g;cases g;obtain⟨n',a,C,hn,rfl,N,ob⟩:=nr S rd (show qk (.ob n) h=some l by unfold qk;dsimp only;rw[q]);cases C;obtain rfl:Z=Value.ref a:=ro;obtain⟨us,x,ps,ea,f,dd,y,hz⟩:=D5 I ob;obtain⟨b,rfl,rfl,ik⟩:=xM I G U P;obtain⟨ek,hk,R,rfl⟩:=mG P;obtain⟨j,O⟩:=f.put hk G ek rv Y;have hl:=f.parts;have m:=O.parts;refine wpAny_setItem_heap (knd:=rV X.prog X.w) (hsz:=by have:=hl.2.2.2.2.2.2;clear hl;lia) (show X.A.in1.units+8 < cLine by rw[Zo];lia) ik dd λh2 F hs=>?_;obtain⟨L,es,ep,M,g2,g3,g4,g5,g6⟩:=F;have T:cA t H t (upd H a (.Cg (ia a j ((storedH x r b u).map (·.1))))):=cA.wrote S (Wx N);have p:(xl l r (.tup R) c).length<=sizeLine:=by
     unfold xl
     split
     ·rw[Ws];exact XQ z
     ·rw[WQ];simp;exact z
    have new:ia a j ((storedH x r b u).map (·.1)) X.w h2:=⟨by rw[m.2.2.2.2.2.1];exact p,y,m.2.2.2.1,g6,_,m.2.2.2.2.1,rfl,L,es,ep,M,g2,g3,g4⟩;refine⟨_,gB (ob:=.Cg (ia a j ((storedH x r b u).map (·.1)))) I (by rw[ea];exact True.intro) hs ⟨L,M⟩ ⟨new,L2.ia.stays new⟩,k t _ T (S.wrote N ?_)⟩;have E:=(O.mono T.toCh).parts;exact⟨j,_,aO,E.1,E.2.1,E.2.2.1⟩
   ·rw[WE z] at g;cases g
def Dg (hr:eF n X.A) (E:SE X o mo) (F:SE X i C) (G:∀v,assign (.Subscript o i pos) X.env v=(do
   let a<-holding [v] (eval o X.env);let b<-holding [v,a] (eval i X.env)
   standAt pos
   holding [v,a,b] (setItem a b v)
   release [v,a,b] []):=by intro _;ac_nf):SG X (.Subscript o i pos) (DT mo C):=
 (HR E F (K2 hr.units) G).imp λv σ H Q u9=>by
  obtain⟨t,m,h,d,u,h',R,S,r,e,k⟩:=u9;obtain⟨⟨x,q⟩,O,N⟩:=aZ e;obtain⟨⟨y,p⟩,M,L⟩:=aZ N;obtain⟨Z,J,I⟩:=eg L;cases I;exact⟨t,m,h,x,q,R,S,O,λa H1 ⟨l,f,U,z⟩=>⟨l,m,q,y,p,R.mono f,U,M,λb H2 ⟨j,c,T,w⟩=>
   ⟨j,p,x,y,d,_,T,z.mono c,w,r.mono (f.trans c).toCh,J,λg Y s P=>k g Y σ (f.trans (c.trans s)) P (R.mono (f.trans (c.trans s)).toCh)⟩⟩⟩
end
end Sm
namespace Sm
open L2 PyProof.Rows
abbrev v0:EM:=aD 0
abbrev v1:EM:=aD 1
abbrev v2:EM:=aD 2
abbrev v3:EM:=aD 3
abbrev v4:EM:=aD 4
abbrev v5:EM:=aD 5
abbrev v6:EM:=aD 6
abbrev v7:EM:=aD 7
abbrev v8:EM:=aD 8
abbrev v9:EM:=aD 9
abbrev v10:EM:=aD 10
abbrev v11:EM:=aD 11
abbrev Ui:EM:=aD 12
abbrev Uh:EM:=aD 13
abbrev VI:EM:=aD 14
abbrev ki(i:Int):EM:=eK (.int i)
abbrev ks(x:Str):EM:=eK (.str x)
abbrev a1(x:EM):AM:=af x aT
abbrev a2(x y:EM):AM:=af x (af y aT)
abbrev a3(x y z:EM):AM:=af x (af y (af z aT))
abbrev a4(x y z u:EM):AM:=af x (af y (af z (af u aT)))
section
variable {P:Program} {w:World} {K:FR} {mg:Str->Option Value} {base:Heap} {x qual:Str} {st:Stmt} {f:Addr} {fd:FuncData} {N ps:List Str} {k:Nat}
def ar(F:CO K x qual st f fd)(b:ao N ps (ag st))(d:∀(a:Value)(A:Around)(outer:List Env)(s:Shared)(H:Hp)(E:XK),eF k (A.deeper (envOfC qual (ag st) s.heap.objs.size f a))->N.Nodup->Kf (Am wm P w K mg base N qual (ag st) f a A outer s H E).QL (gA st) body):
  f9 P w K mg base wm (k+1) f fd ps (EE K ps.length (fq N.length body)):=PK F b λc A o s H E hr=>d c A o s H E hr b.nd
end
def Rq{c:CmpOp}(g:nM X (compareOp c) f)(i:SE X a e)(h:SE X b d)(hm:behindInMarks c b=false:=by first | exact sr _ | ac_nf):ST X (.Compare a [c] [b] pos) (ax (ai f e d)):=nZ g i h hm
def Ru{c:CmpOp}(g:nM X (compareOp c) f)(i:SE X a e)(h:SE X b d)(hm:behindInMarks c b=false:=by first | exact sr _ | ac_nf):SE X (.Compare a [c] [b] pos) (ai f e d):=GZ g i h hm
def UG{a}(h:SA X b aT):SE X (.Tuple b a pos) (aj aH aT):=cw h aB
def UE{a}(h:SA X b (af m0 aT)):SE X (.Tuple b a pos) (aj aH (af m0 aT)):=cw h (ae aB)
def UD{a}(h:SA X c (af m0 (af b aT))):SE X (.Tuple c a pos) (aj aH (af m0 (af b aT))):=cw h (ae (ae aB))
def UC{a}(h:SA X d (af m0 (af c (af b aT)))):SE X (.Tuple d a pos) (aj aH (af m0 (af c (af b aT)))):=cw h (ae (ae (ae aB)))
def UB{a}(h:SA X g (af m0 (af f (af e (af d (af c (af b aT))))))):SE X (.Tuple g a pos) (aj aH (af m0 (af f (af e (af d (af c (af b aT))))))):=cw h (ae (ae (ae (ae (ae (ae aB))))))
def UL(h:SA X a aT):qo X (.List a pos) aT:=fR h aB
def UK(h:SA X a (af m0 aT)):qo X (.List a pos) (af m0 aT):=fR h (ae aB)
def UJ(h:SA X b (af m0 (af a aT))):qo X (.List b pos) (af m0 (af a aT)):=fR h (ae (ae aB))
def UI(h:SA X i (af m0 (af g (af f (af e (af d (af c (af b (af a aT))))))))):qo X (.List i pos) (af m0 (af g (af f (af e (af d (af c (af b (af a aT)))))))):=fR h (ae (ae (ae (ae (ae (ae (ae (ae aB))))))))
end Sm
namespace Hd
open PySem.W PyProof.Rows L2 Sm
def aP{q:Program}{a:List Str}{c:ExcName->Option Value}{mg g:Str->Option Value}{h base:Heap}{P:Program}{w:World}(T:Top q a c mg g h){n:Str}{st:Stmt}(e:(recsOf q).find? (λe=>e.name==n)=some (rQ n st)){d:List Str}{k N:Nat}{F:Fn}
  (ok:∀{f:Addr} {b:FuncData},CO (aF h) n n st f b->keepIn (aF h) (.ref f)=true->Binds (aF h) b d []->mg n=some (.ref f)->f9 P w (aF h) mg base wm k f b d (EE (aF h) N F)) (i:∀{f:Addr} {b:FuncData},CO (aF h) n n st f b->Binds (aF h) b d []:=by walk_at "b"):Df P w (aF h) mg base n k d N F:=Sg T e i ok
end Hd
namespace L2
open PyProof.Rows
section
variable {P:Program} {w:World} {A:Around} {E:Value->Shared->Prop} {s:Shared} {d J:Addr} {o:Obj} {es:Array DictEntry} {ep:Nat}
abbrev Si(d:Addr)(n ep:Nat):Obj:={cls:=.type "dict_keyiterator",data:=.fields #[.ref d,.int 0 0,.int n 0,.int ep 0]}
def Hr{Q:Value->Shared->Prop}(hd:(d==sysModules)=false)(b:s.heap.get? d=some o)(e:o.ExactDict)(a:o.data=.dict es ep)(q:Q (.ref s.heap.objs.size) {s with heap:=s.heap.push (Si d es.size ep)}):wpAny (model P w) A (pyIter (.ref d)) Q E s:=by
 have c:s.TypeIs (.ref d) "dict":=⟨o,b,e.1⟩;refine AaR c F.slot_dict_iter (Xg F.slot_dict_iter c F.entry_dict_iter ?_ (F.args_dict_iter_1 _));unfold Builtin.«dict.__iter__» Builtin.Dict.dictSlotNone;refine Wr (Wr (wpAny_notOrdered_dict c (Wt ?_)));show wpAny _ _ (Builtin.Dict.showsAll d >>=_) _ _ s;unfold Builtin.Dict.showsAll;rw[hd];refine Wr (Wt (Wr (ZY b a (Wr (Abi b a (Wr (Xc (Wt ⟨_,rfl,"dict_keyiterator",_,⟨_,WK _ rfl,rfl⟩,Ys.lookup,?_⟩))))))))
 simpa [rawInt] using q
def QA(h:Heap)(J d:Addr)(es:Array DictEntry)(ep i:Nat):Prop:=h.IsKeyIter J d i es.size ep/\∃o,h.get? d=some o/\o.ExactDict/\o.data=.dict es ep
def Ht{Q:Option Value->Shared->Prop}{i:Nat}(st:QA s.heap J d es ep i)(n:i < es.size)(q:∀j,j.IsKeyIter J d (i+1) es.size ep->Heap.SameBut J s.heap j->Q (some es[i].key) {s with heap:=j}):wpAny (model P w) A (pyNext (.ref J)) Q E s:=by
 obtain⟨c,t,b,u,e⟩:=st;obtain⟨r,h,p,hd⟩:=id c;have f:=c.typeIs;have l:Builtin.Dict_items.ownsTuple "dict_keyiterator"=false:=by decide
 unfold pyNext;refine Wr (Yx (Xd (name:=Str.ofString "__next__") f Ys (Xg Ys f Abb ?_ (Aa4 _))));refine Wr (Wt (Wr (Wr (Wr (YY f (Wt (Wr (Aav h hd ?_))))))));simp only[l,WU,XB];show wpAny _ _ (if(Value.ref d==Value.none)=true then _ else _) _ _ s;refine wpAny_of_eq' (WE W8) (Wr (Wt (Wr (ZY b e ?_))));refine wpAny_of_eq' (WE (by simp)) (Wr (Wt (Wr (Abi b e ?_))));refine wpAny_of_eq' (WE (by simp)) (Wt ?_);simp only[Int.not_lt.mpr (Aat i),XB,W7,Xb n];refine Wr (Wr (YY f (Wt (Wr (wpAny_isOneOf_keyiter f ?_)))));generalize k:Obj.mapFields (·.setIfInBounds 1 (rawInt ((i:Int)+1)))=g;have n1:(s.heap.update J g).IsKeyIter J d (i+1) es.size ep:=by
  subst k;refine⟨_,X0 _ h (Aaq (Y1 hd _)),(AaU ..).trans p,?_⟩;rw[Y1 hd];simp[rawInt]
 subst k;refine Wr (m:=setField (.ref J) 1 (rawInt ((i:Int)+1))) (ZM h hd (by simp) (Wr (Xj (Wr (wpAny_isOneOf_keyiter n1.typeIs ?_)))));exact Wt (a:=es[i].key) (Wt ⟨_,rfl,Wt (q _ n1 (Ze ..))⟩)
def KN{Q:Option Value->Shared->Prop}{i:Nat}(hh:A.handled=none)(l:es.size<=i)(st:QA s.heap J d es ep i)(q:∀j,Heap.ExtBut J s.heap j->Q none {s with heap:=j}):wpAny (model P w) A (pyNext (.ref J)) Q E s:=by
 obtain⟨e,p,c,r,f⟩:=st;obtain⟨n,h,t,hd⟩:=id e;have g:=e.typeIs;have k:Builtin.Dict_items.ownsTuple "dict_keyiterator"=false:=by decide
 unfold pyNext;refine Wr (Yx (Xd (name:=Str.ofString "__next__") g Ys (Xg Ys g Abb ?_ (Aa4 _))));refine Wr (Wt (Wr (Wr (Wr (YY g (Wt (Wr (Aav h hd ?_))))))));simp only[k,WU,XB];show wpAny _ _ (if(Value.ref d==Value.none)=true then _ else _) _ _ s;refine wpAny_of_eq' (WE W8) (Wr (Wt (Wr (ZY c f ?_))));refine wpAny_of_eq' (WE (by simp)) (Wr (Wt (Wr (Abi c f ?_))));refine wpAny_of_eq' (WE (by simp)) (Wt ?_);simp only[Int.not_lt.mpr (Aat i),XB,W7,ZW l];refine Wr (Wr (YY g (Wt ?_)));refine Wr (m:=setField (.ref J) 0 .none) (ZM h hd (by simp) ?_);show wpAny _ _ (newExc (.type "StopIteration") [] >>=_) _ _ _;simp only[newExc,newTuple];refine Wr (Wr (Xc ?_ (by size_fits)));refine Wr (m:=firstArgMember _ _) (Aba (a:=Value.none) (by simp only[firstArgMember];rfl) (Xc ?_ (by size_fits)));simp only[raiseNew];refine Wr (wpAny_handled ?_);rw[show A.in1.handled=none from hh];refine Wr (Wt (wpAny_throw ?_));refine Wr (X4 (T:="StopIteration") (b:=true) ⟨_,WK _ rfl,rfl⟩ YX ?_);exact Wt (q _ (((Ze ..).extBut.push _).push _))
def E1(hh:A.handled=none)(g:d≠J):Walks P w A J [J,d] [J] es.size (λi v=>∃h:i < es.size,es[i].key=v) (λi h=>QA h J d es ep i) where
 sub:=λb c=>by rw[WD.mp c];exact Wy
 frame:=λ_ _ _ st j=>⟨st.1.at λo e=>j J Wy o e,let⟨o,a,b⟩:=st.2;⟨o,j d (Wz _ Wy) o a,b⟩⟩
 item:=λi s Q E l st q=>Ht st l λf n1 sb=>by
  have k:∀b o,b∉[J]->s.heap.get? b=some o->f.get? b=some o:=λb o c e=>sb.extBut b o (λz=>c (WD.mpr z)) e;exact q _ f s.toks ⟨l,rfl⟩ ⟨n1,let⟨o,a,b⟩:=st.2;⟨o,k d o (λz=>g (WD.mp z)) a,b⟩⟩ k
 done:=λs Q E st q=>KN hh (WB _) st λf m=>q f s.toks λb o c e=>m b o (λz=>c (WD.mpr z)) e
 self:=λ_ _ _ _ st q=>wpAny_pyIter_keyiter st.1 q
abbrev AJ(h:Heap)(d:Addr)(es:Array DictEntry)(ep:Nat):Prop:=∃o,h.get? d=some o/\o.ExactDict/\o.data=.dict es ep
def AJ.typ(x:AJ s.heap d es ep):s.TypeIs (.ref d) "dict":=let⟨o,a,b,_⟩:=x;⟨o,a,b.1⟩
def KL(hd:(d==sysModules)=false):PySem.W.KdlSrc P w "dict" d d es.size (λi v=>∃h:i < es.size,es[i].key=v) (λh=>AJ h d es ep) where
 type:=λ_ x=>x.typ
 there:=λ_ x=>let⟨_,a,_⟩:=x;⟨WH a,WH a⟩
 keep:=λ_ _ x k=>let⟨o,a,b⟩:=x;⟨o,k d (.inl rfl) o a,b⟩
 notList:=by decide
 notTuple:=by decide
 hint:=λ_ _ _ _ x q=>PySem.W.kdl_hint_dict x.typ q
 iter:=λ_ s hh x=>by
  obtain⟨o,a,b,c⟩:=x;exact⟨Si d es.size ep,_,λ_ _ q=>Hr hd a b c q,E1 hh (WZ (WH a)),⟨_,WK _ rfl,rfl,rfl⟩,o,Wu _ a,b,c⟩
def An{Q:List Value->Shared->Prop}(hh:A.handled=none)(hd:(d==sysModules)=false)(x:AJ s.heap d es ep)(hn:es.size<=sizeLine)(q:∀g j,(∀b o,s.heap.get? b=some o->g.get? b=some o)->Q (es.toList.map (·.key)) {s with heap:=g,toks:=j}):wpAny (model P w) A (collect (.ref d)) Q E s:=by
 have p:d < s.heap.objs.size:=let⟨_,a,_⟩:=x;WH a;unfold collect;refine Wr (wpAny_runValue (XS F.entry_proto_collect ?_));rw[Xw F.plain_proto_collect _];refine Wr (m:=newList []) (Xc (Wt ⟨Yy Z0 _,XS F.entry_list_iadd ?_⟩));rw[Xw Z0 _];have G:∀b o,s.heap.get? b=some o->(s.heap.push {cls:=.type "list",data:=.seq ([]:List Value).toArray}).get? b=some o:=λb o e=>Wu _ e;show wpAny _ A.in1 (Builtin.List.listExtendWith (.ref s.heap.objs.size) (.ref d) (.ref s.heap.objs.size)) _ _ {s with heap:=s.heap.push {cls:=.type "list",data:=.seq ([]:List Value).toArray}};have z:=PySem.W.kdl_extend (P:=λi v=>∃h:i < es.size,es[i].key=v) (prog:=P) (w:=w) (A:=A) (R:=λr l=>r=.ok (.ret (.ref s.heap.objs.size))/\∃g j c,l={s with heap:=g,toks:=j}/\(∀b o,s.heap.get? b=some o->g.get? b=some o)/\g.get? s.heap.objs.size=some {cls:=.type "list",dict:=none,data:=.seq (es.map (·.key)) c,slots:=#[]})
  (s:={s with heap:=s.heap.push {cls:=.type "list",data:=.seq ([]:List Value).toArray}}) (KL (ep:=ep) hd) hh (let⟨o,a,b⟩:=x;⟨o,G _ _ a,b⟩) s.heap.objs.size (YQ p) (YQ p) (.ref s.heap.objs.size) _ (WK _ rfl) (λg j u c H C n=>by
   have M:u=es.map (·.key):=by
    refine Array.ext (by rw[Array.size_map];exact n.1) λi L O=>?_;obtain⟨N,I⟩:=n.2 i u[i] (Xb L);rw[Array.getElem_map,I]
   subst M;exact⟨rfl,g,j,c,rfl,λb o e=>H b o (WZ (WH e)) (G b o e),C⟩) hn
 have t:∀l:Shared,(∃g j c,l={s with heap:=g,toks:=j}/\(∀b o,s.heap.get? b=some o->g.get? b=some o)/\g.get? s.heap.objs.size=some {cls:=.type "list",dict:=none,data:=.seq (es.map (·.key)) c,slots:=#[]})->
   wpAny (model P w) A (do match (<-load s.heap.objs.size).data with | Data.seq xs _=>pure xs.toList | _=>unsupported "internal:collect") Q E l:=λl u9=>by
  obtain⟨g,j,c,e,k,C⟩:=u9;subst e;refine Wr (wpAny_load C (Wt ?_));have:=q g j k;rw[show(es.map (·.key)).toList=es.toList.map (·.key) from Array.toList_map];exact this
 refine Xv z (λf l h=>?_) λe l h=>absurd h.1 (by simp);cases f with
 | done f=>
  obtain⟨e,h⟩:=h;cases e;exact t l h
 | again S=>exact⟨h.1,ZG h.2 λr y hr=>by obtain⟨rfl,hr⟩:=hr;exact t y hr⟩
def qb(hd:(d==sysModules)=false)(hn:es.size<=sizeLine):MeetsIn P w (Builtin.«tuple.__new__» ⟨[.type "tuple",.ref d],[]⟩) (λA R s=>A.handled=none/\AJ s.heap d es ep/\∀(a:Heap)(e:Nat),(∀b o,s.heap.get? b=some o->a.get? b=some o)->R (.ok (.ret (.ref a.objs.size))) {s with heap:=a.push {cls:=.type "tuple",data:=.seq (es.toList.map (·.key)).toArray},toks:=e}):=
 .of_wp λA R s h=>by
  obtain⟨hp,g,p,c,os⟩:=s;obtain⟨hh,x,q⟩:=h;have i:=sub_tuple_self;have f:=init_tuple_lookup;have l:=madeHere_tuple;obtain⟨o,ht,j,m⟩:=id x;have n:Shared.TypeIs ⟨hp,g,p,c,os⟩ (.ref d) "dict":=⟨o,ht,j.1⟩
  wp_walk using wpAny_loadPart' ht,Y0 n,An (A:=A.in1) hh hd x hn
  intro a e k;show wpAny _ _ (Builtin.Tuple.tupleExact (es.toList.map (·.key)).toArray >>=λv=>ret v) _ _ _;unfold Builtin.Tuple.tupleExact;exact Wr (Xc (Wt ⟨_,rfl,q a e k⟩) (by show(es.toList.map (·.key)).toArray.size<=sizeLine;rw[WT,Ws,X9];exact hn))
def td{Q:Value->Shared->Prop}(hh:A.handled=none)(hd:(d==sysModules)=false)(x:AJ s.heap d es ep)(hn:es.size<=sizeLine)(q:∀(a:Heap)(c:Nat),(∀b o,s.heap.get? b=some o->a.get? b=some o)->Q (.ref a.objs.size) {s with heap:=a.push {cls:=.type "tuple",data:=.seq (es.toList.map (·.key)).toArray},toks:=c}):wpAny (model P w) A (call (.type "tuple") [.ref d]) Q E s:=
 callType_newIn F.called_tuple (by decide) (F.typeCall_tuple_1 _) (F.newCall_tuple_1 _) (λobj=>F.args_object_init_2 obj _) F.entry_tuple_new (qb hd hn) ⟨hh,x,λa c k=>⟨⟨_,WK _ rfl,rfl⟩,q a c k⟩⟩
end
end L2
namespace Sm
open L2 PyProof.Rows PySem.SeqAt
def IU:Fn:=λb h=>match b with
 | [d]=>(qk d h).map λa=>(.tup (a.map (·.1)),h)
 | _=>none
theorem vG{R:Addr×V->PyData×Addr×Value->Prop}(hR:∀u y,R u y->u.1=y.2.1):∀{us:List (Addr×V)} {a:List (PyData×Addr×Value)},Paired R us a->Vals (us.map λu=>V.ref u.1) (a.map λy=>Value.ref y.2.1)
 | _,_,.nil=>.nil
 | _,_,.cons h t=>.cons (by have:=hR _ _ h;dsimp only;rw[this];rfl) (vG hR t)
def Md(L:X.calm=true):eT X (.type "tuple") IU:=by
 intro f s i H xs us Q I r hh;obtain⟨ρ,h,Y,z,h',S,l,g,k⟩:=hh
 match Y,l,g with
 | [],_,g=>cases g
 | _::_::_,_,g=>cases g
 | [d],l,g=>
  obtain⟨v,rfl,rd⟩:=rep1 l;obtain⟨G,U,T⟩:=eg g;cases T;obtain⟨n,a,rfl,e3,rfl,e4,ob⟩:=nr S rd U;obtain⟨u,rfl,E⟩:=Vals.one r;obtain rfl:u=Value.ref a:=E;obtain⟨us,ps,e,F,r2,p⟩:=ob;obtain⟨⟨t,J,hp,nd,j,q,rfl,o,A,ep,O,N,M,x⟩,_⟩:=I.a8 a _ e;have P:A.size=us.length:=by rw[<-X9,x,Ws,q.length]
  have R:A.toList.map (·.key)=j.map λy=>Value.ref y.2.1:=by rw[x,YD];rfl
  refine td (I.ok.hd L) J ⟨o,O,N,M⟩ (by rw[P];exact t) λc m kp=>?_;rw[R];have C:Inv X f i H {s with heap:=c}:=I.kept (t':=s.toks) kp;have Z:Inv X f i (upd H c.objs.size (.tup (us.map λu=>V.ref u.1))) {s with heap:=c.push {cls:=.type "tuple",data:=.seq (j.map λy=>Value.ref y.2.1).toArray},toks:=m}:=
   C.laid (t':=m) (λb o e=>Wu _ e) (WB _) (show bY X.prog X.w _ _ _ (.tup _) from⟨by rw[Ws];exact t,_,vG (λ_ _ h=>h.1) q,yt.new _ _⟩)
  exact⟨.ref c.objs.size,_,Z,rfl,k _ _ (.tup S F (C.a8.fresh (WB _)))⟩
end Sm
namespace L2
open PyProof.Rows
end L2
namespace Sm
open L2 PyProof.Rows
mutual
noncomputable def M0:D->Bool
 | .bo=>true
 | .bl _=>true
 | .int _=>true
 | .str _=>true
 | .tup xs=>HF xs
 | _=>false
noncomputable def HF:List D->Bool
 | []=>true
 | x::r=>M0 x&&HF r
end
section
variable {K:FR} {ρ ρ':Ad} {H H':Hp} (hh:∀b vs,Rd H b (.tup vs)->¬ρ.has b->Rd H' b (.tup vs)/\¬ρ'.has b)
include hh
mutual
theorem Hh{v:V}{d:D}(r:Rep K ρ H v d)(f:M0 d=true):Rep K ρ' H' v d:=by
 cases r with
 | bo=>exact .bo
 | bl b=>exact .bl b
 | int i=>exact .int i
 | str h=>exact .str h
 | tup h l=>exact .tup (h.elim (λ⟨a,n⟩=>.inl (hh _ _ a n)) .inr) (va l f)
 | _=>cases f
theorem va{vs:List V}{a:List D}(r:aA K ρ H vs a)(f:HF a=true):aA K ρ' H' vs a:=by
 cases r with
 | nil=>exact .nil
 | cons h t=>
  have f:=W3.mp f;exact .cons (Hh h f.1) (va t f.2)
end
end
end Sm
namespace L2
open PyProof.Rows
section
variable {P:Program} {w:World} {A:Around} {E:Value->Shared->Prop} {s:Shared} {d:Addr} {es:Array DictEntry} {ep:Nat}
def ur(hd:(d==sysModules)=false):MeetsIn P w (Builtin.«dict.__len__» ⟨[.ref d],[]⟩) (λ_ R s=>AJ s.heap d es ep/\R (.ok (.ret (.int es.size s.toks))) {s with toks:=s.toks+1}):=
 .of_wp λA R s ⟨⟨o,b,c,a⟩,h⟩=>by
  show wpAny _ _ (dictSize d >>=_) _ _ s;unfold dictSize;refine Wr (Wr (ZY b a (Wt ?_)));show wpAny _ _ (Builtin.Dict.pendingCount d >>=_) _ _ s;refine Wr (wpAny_pendingCount_other hd ?_);refine Abh ?_;rw[Nat.add_zero];exact h
def yi{Q:Value->Shared->Prop}(hd:(d==sysModules)=false)(x:AJ s.heap d es ep)(a:(es.size:Int) < 2^63)(h:Q (.int es.size (s.toks+1)) {s with toks:=s.toks+1+1}):wpAny (model P w) A (call (.builtin "len") [.ref d]) Q E s:=by
 refine Calls.call_function_entry kind_len plain_len entry_len (args_len1 _) ?_;unfold Builtin.«len»;refine Wr (m:=oneArg "len" _) (Wt ?_);refine Wr (m:=callSpecial? (.ref d) (Str.ofString "__len__")) (Xd (name:=Str.ofString "__len__") x.typ F.slot_dict_len
  (call_meetsIn F.slot_dict_len x.typ F.entry_dict_len (F.args_dict_len_1 _) (ur hd) ⟨x,?_⟩))
 show wpAny _ _ _ _ _ {s with toks:=s.toks+1};refine Wr (Xj (Wt ?_));refine Wr (Zr ?_);show wpAny _ _ (if((es.size:Nat):Int) < 0 then _ else _) _ _ _;rw[WE (by omega)];show wpAny _ _ (if((es.size:Nat):Int)≥2^63 then _ else _) _ _ _;rw[WE (by omega)];exact Wr (wpAny_mkInt (Wt ⟨_,rfl,h⟩))
end
structure Tc(K:FR)(mg:Str->Option Value)(nm:Str)(es:List (Option Str)):Prop where
 ex:∃(a:Addr)(o:Obj)(its:Array Value)(n:Nat),mg nm=some (.ref a)/\K.lookup a=some o/\o.cls=.type "tuple"/\o.dict=none/\o.data=.seq its n/\its.size<=sizeLine/\Hd.NF its.toList=some es
noncomputable def VJ:Option Str->V
 | some x=>.str x
 | none=>.bo
theorem wx:∀{d:List Value} {a:List (Option Str)},Hd.NF d=some a->Vals (a.map VJ) d
 | [],_,e=>by cases e;exact .nil
 | v::r,a,e=>by
  cases v <;> first |(cases e;done) | skip
  ·obtain⟨f,c,b⟩:=W0.mp (show(Hd.NF r).map _=some a from e);subst b;exact .cons rfl (wx c)
  ·obtain⟨f,c,b⟩:=W0.mp (show(Hd.NF r).map _=some a from e);subst b;exact .cons ⟨_,rfl⟩ (wx c)
end L2
namespace Hd
open PySem.W PyProof.Rows L2 Sm
def Vk{h:Heap}{mg:Str->Option Value}{c:Str}{v:Value}(g:h.Ns mainGlobals mg)(e:mg c=some v):QO (aF h) c=some v:=by
 obtain⟨o,d,f,a,hd,b,hm⟩:=g;unfold QO;rw[fJ a rfl];dsimp only;rw[hd];dsimp only;rw[<-hm c] at e;unfold nsFind findBy at e;rw[<-Array.find?_toList] at e;rw[show(λe:DictEntry=>e.key.isStr c)=λe=>Value.isStrOf c e.key from funext λx=>by cases x.key <;> rfl] at e;exact e
def Ez{h c:Heap}{nm:Str}{r:List (Option Str)}(k:Sub h c)(x:yJ h nm=some r):yJ c nm=some r:=by
 have d:∀v,h.nsMap mainGlobals nm=some v->c.nsMap mainGlobals nm=some v:=λv e=>by
  unfold Heap.nsMap at e ⊢
  split at e
  ·rename_i o b;rw[k _ _ b];exact e
  ·cases e
 unfold yJ at x ⊢
 split at x
 ·rename_i a f;rw[d _ f];dsimp only
  split at x
  ·rename_i o b;rw[k _ _ b];exact x
  ·cases x
 ·cases x
def Q8{h:Heap}{mg:Str->Option Value}{nm:Str}{d:List (Option Str)}(x:yJ h nm=some d)(g:h.Ns mainGlobals mg):Tc (aF h) mg nm d:=by
 unfold yJ at x
 split at x
 ·rename_i a i
  split at x
  ·rename_i o f
   split at x
   ·rename_i c;rw[WS] at c
    split at x
    ·rename_i b n hd
     split at x
     ·rename_i e;have hm:mg nm=some (.ref a):=by
       obtain⟨l,j,k,g1,g2,_,g3⟩:=g;rw[<-g3 nm,<-i];unfold Heap.nsMap;rw[g1];dsimp only;rw[g2]
      exact⟨a,o,b,n,hm,fJ f rfl,sW c.1,by simpa using c.2,hd,WL e (by decide),x⟩
     ·cases x
    ·cases x
   ·cases x
  ·cases x
 ·cases x
end Hd
namespace Sm
open L2 PyProof.Rows PySem.SeqAt
noncomputable local instance:DecidableEq PyData:=λa b=>Classical.propDecidable _
noncomputable def VL:Option Str->D
 | some x=>.str x
 | none=>.bo
section
variable {X:Cx} {ma mb mk mv:EM} {m:AM}
theorem A9{K:FR}{c:Ad}{H:Hp}:∀{b:List (Option Str)},b.all (λo=>(o.map PyData.strOk).getD true)=true->aA K c H (b.map VJ) (b.map VL)
 | [],_=>.nil
 | x::r,a=>by
  have a:=W3.mp a;cases x with
  | none=>exact .cons .bo (A9 a.2)
  | some y=>exact .cons (.str a.1) (A9 a.2)
def Rw{es:List (Option Str)}(T:Tc X.K X.mg nm es)(c:es.all (λo=>(o.map PyData.strOk).getD true)=true)(d:Gl X nm:=by unfold Gl;ac_nf)(hd:(nm==("__debug__":Str))=false:=by ac_nf):SE X (.Name nm pos) (eK (.tup (es.map VL))):=by
 obtain⟨a,o,b,n,k,j,i,h,g,f,e⟩:=T.ex;exact Bg (DC (v:=.ref a) d k rfl hd) λl H=>.tup (.inr (.inr ⟨o,b,n,j,i,g,f,wx e,h⟩)) (A9 c)
noncomputable def Sv:List (Str×Fn)->Str->Option Fn
 | [],_=>none
 |(a,F)::r,n=>if n=a then some F else Sv r n
structure MC(X:Cx)(k cnt:Nat)(tab:List (Str×Fn)):Prop where
 at_:∀n F,Sv tab n=some F->∃k' ps,k'<=k/\Df X.prog X.w X.K X.mg X.base n k' ps cnt F
def PJ{k cnt:Nat}:MC X k cnt []:=⟨λn F e=>(nomatch e)⟩
def LZ{k b cnt:Nat}{a:Str}{F:Fn}{c:List Str}{r:List (Str×Fn)}(d:Df X.prog X.w X.K X.mg X.base a b c cnt F)(t:MC X k cnt r)(f:b<=k:=by decide):MC X k cnt ((a,F)::r):=⟨λn G e=>by
 unfold Sv at e
 split at e
 ·rename_i z;subst z;cases e;exact⟨b,c,f,d⟩
 ·exact t.at_ n G e⟩
def N4{k cnt:Nat}{b:List Str}{F:Fn}(d:Df X.prog X.w X.K X.mg X.base nm k b cnt F)(e:∀n v,X.mg n=some v->QO X.K n=some v)(c:Gl X nm:=by unfold Gl;ac_nf)(hd:(nm==("__debug__":Str))=false:=by ac_nf):SE X (.Name nm pos) (eK (.fn nm)):=by
 obtain⟨f,i,G,h,j,a⟩:=d.ex;exact Bg (DC (v:=.ref f) c a rfl hd) λg H=>.fn (e _ _ a)
def sR(i:Nat)(a:List (Str×Fn))(m:AM):EM:=λb h=>match (b[i]?).join with
 | some (.fn n)=>(Sv a n).bind λF=>(m b h).bind λp=>F p.1 p.2
 | _=>none
def G1{i k cnt:Nat}{x:Str}{b:List (Str×Fn)}{e:Expr}{j:List Expr}(T:MC X k cnt b)(hK:∀n v,X.mg n=some v->QO X.K n=some v)(hr:eF k X.A)(ha:SA X (e::j) m)(hN:X.N[i]?=some x:=by ac_nf)(hv:Kk X.env.scope x=true:=by ac_nf)(hl:jK m cnt:=by repeat(first | exact aB | refine ae ?_))
  (hd:(x==("__debug__":Str))=false:=by ac_nf) (t:(x==("__classdict__":Str))=false:=by ac_nf) (he:starEach (e::j) X.env=(false,eval e X.env)::starEach j X.env:=by ac_nf) (r:(backTo pos (starEach j X.env)).any (·.1)=false:=by ac_nf):
  SE X (.Call (.Name x p) (e::j) [] pos) (sR i b m):=by
 rintro pins s σ H Q I ⟨M,O,h,d,h',R,S,a,q⟩;unfold sR at a
 split at a
 ·rename_i n hn;obtain⟨F,e1,a⟩:=aZ a;obtain⟨⟨E,z⟩,C,e3⟩:=aZ a;obtain⟨k',ps,hk,D⟩:=T.at_ n F e1;obtain⟨f,fd,G,kf,bf,mf⟩:=D.ex;obtain⟨v,ev,rv⟩:=R.at_ i _ (Zd.mp hn);cases rv with
  | @fn g _ c=>
   rw[hK _ _ mf] at c;cases c;refine Ym (b5 (HU (pos:=p) hN (Gr hv) hd t pins s σ H (λZ y=>Z=.ref f/\y=H) I ⟨_,ev,rfl,rfl⟩) λu s1 u9=>?_);obtain⟨v1,H1,L,r1,Y,U⟩:=u9;subst Y;subst U;obtain rfl:u=Value.ref f:=r1;refine PySem.W.callWith_K (h₀:=X.base) L.ok.mod.T8 kf (b5 (ha pos pins s1 σ H1 (λo w=>EE X.K cnt F (o++[]) w Q E0) L ⟨M,O,h,E,z,R,S,C,λo l w T1 S1 rs=>?_⟩) λus s2 ⟨o,w,J,rr,qq⟩=>⟨J.vJ,?_⟩) he r
   ·rw[XW];exact⟨l,z,E,d,h',S1,rs,hl _ _ _ _ C,e3,λv y P=>q v y (P.step T1)⟩
   ·exact Hf G (hr.mono hk) bf .nil M4 J rr qq
 ·cases a
def mX(e d:D)(h:MH):Option (D×MH):=(qk d h).bind λa=>(B3 e).map λk=>(.bl (!(nX a k).isSome),h)
def vw(R:X.A.units+64 < cLine):nM X (compareOp .NotIn) mX:=by
 intro l s G H x y v u Q I r q hh;obtain⟨J,h,d,e,z,Z,S,rd,t,c,k⟩:=hh;obtain⟨C,F,c⟩:=aZ c;obtain⟨O,o,c⟩:=eg c;cases c;obtain⟨n,a,rfl,hn,rfl,T,ob⟩:=nr S t F;obtain rfl:u=Value.ref a:=q;obtain⟨us,L,N,ea,f,dd,g,P⟩:=D5 I ob;obtain⟨b,rfl,rfl,E⟩:=xM I rd r o;refine wpAny_notIn_heap (knd:=rV X.prog X.w) (show X.A.in1.units+8 < cLine by rw[Zo];lia) E g dd ?_;refine⟨.bl _,H,I.tok _,rfl,k _ _ (.here S ?_)⟩;rcases f.val (mG o).2.1 with⟨j,i⟩ |⟨p,d',M,j,i,Y,U⟩
 ·rw[j,i];exact .bl _
 ·rw[j,i];exact .bl _
def I0:Fn:=λb h=>match b with
 | [d]=>(qk d h).map λa=>(.int (a.length:Int),h)
 | _=>none
def Me:eT X (.builtin "len") I0:=by
 intro g s L H O us Q I r hh;obtain⟨M,h,J,z,T,S,l,c,k⟩:=hh
 match J,l,c with
 | [],_,c=>cases c
 | _::_::_,_,c=>cases c
 | [d],l,c=>
  obtain⟨v,rfl,rd⟩:=rep1 l;obtain⟨b,G,F⟩:=eg c;cases F;obtain⟨n,a,rfl,Z,rfl,Y,ob⟩:=nr S rd G;obtain⟨u,rfl,j⟩:=Vals.one r;obtain rfl:u=Value.ref a:=j;obtain⟨us,R,e,P,f,p⟩:=ob;obtain⟨⟨t,w,hp,nd,N,q,rfl,o,E,U,C,A,y,x⟩,_⟩:=I.a8 a _ e;have i:E.size=b.length:=by
   have:=f.length;rw[Ws,Ws] at this;rw[<-X9,x,Ws,<-q.length,this]
  refine yi w ⟨o,C,A,y⟩ (by rw[i,<-show us.length=b.length by have:=f.length;rw[Ws,Ws] at this;exact this];rw[XR] at t;lia) ⟨.int (b.length:Int),H,I.tok _,⟨_,by rw[i]⟩,k _ _ (.here S (.int _))⟩
def xY(mk mv:EM):EM:=λa h=>(mk a (h++[.dcH []])).bind λp=>(mv a p.2).bind λq=>(mV (.ob h.length) p.1 q.1 q.2).map λb=>(.ob h.length,b)
def yR(hr:eF n X.A)(hk:SE X k mk)(hv:SE X v mv):SE X (.Dict [some k] [v] pos) (xY mk mv):=by
 rintro pins s σ H Q I ⟨E,δ,h,d,h',R,S,p,kq⟩;obtain⟨⟨e,h1⟩,e1,p⟩:=aZ p;obtain⟨⟨c,Z⟩,e2,p⟩:=aZ p;obtain⟨h3,i,p⟩:=eg p;cases p;have hp:H s.heap.objs.size=none:=I.a8.fresh (WB _);have new:ia s.heap.objs.size [] [] X.w (s.heap.push {cls:=.type "dict",data:=.dict #[]}):=by
  refine⟨Xe _,?_,rfl,List.nodup_nil,[],.nil,rfl,_,#[],0,WK _ rfl,⟨rfl,rfl,rfl⟩,rfl,rfl⟩;have:=I.big;simp
  lia
 have I1:=I.laid (a:=s.heap.objs.size) (o:=.Cg (ia s.heap.objs.size [] [])) (t':=s.toks) (λ_ _ q=>Wu _ q) (WB _) ⟨new,L2.ia.stays new⟩;have T0:=cA.made S hp (o:=.Cg (ia s.heap.objs.size [] []));have S0:bC X.K (E.more s.heap.objs.size) (h++[.dcH []]) (upd H s.heap.objs.size (.Cg (ia s.heap.objs.size [] []))):=S.made hp ⟨[],[],aO,.nil,.nil,rfl⟩;have P:(E.more s.heap.objs.size).ob[h.length]?=some s.heap.objs.size:=show(E.ob++[s.heap.objs.size])[h.length]?=_ by rw[<-S.len,W5 (WB _)];simp
 refine wpAny_Dict_any rfl rfl (by simp) (by simp) (b5 (zq hk hv Dz pins _ σ _ (λO J=>∃x y g,O=[(x,y)]/\cA (E.more s.heap.objs.size) (upd H s.heap.objs.size (.Cg (ia s.heap.objs.size [] []))) g J/\bC X.K g Z J/\Rep X.K g J x e/\Rep X.K g J y c) I1 ?_) λws s2 ⟨O,H2,I2,rel,x,y,g,eps,T3,S3,rx,ry⟩=>?_)
 ·refine⟨_,δ,_,e,h1,R.mono T0.toCh,S0,e1,λx H1 u9=>?_⟩;obtain⟨M,T1,S1,r1⟩:=u9;exact⟨M,δ,h1,c,Z,(R.mono T0.toCh).mono T1.toCh,S1,e2,λy H2 u9=>by obtain⟨L,T2,S2,r2⟩:=u9;exact⟨x,y,L,rfl,T1.trans T2,S2,r1.mono T2.toCh,r2⟩⟩
 ·subst eps;cases rel with
  | @cons _ b _ bs hb t=>
  cases t;obtain⟨u,w⟩:=b;obtain⟨hu,hw⟩:=hb;dsimp only at hu hw;unfold mV at i;dsimp only at i;cases q:Z[h.length]? with
  | none=>rw[q] at i;cases i
  | some mo=>
   rw[q] at i;cases mo <;> first |(cases i;done) | skip
   rename_i r;dsimp only at i;obtain⟨F,e4,i⟩:=aZ i
   by_cases z:r.length < sizeLine
   ·rw[WC z] at i;cases i;have G:=T3.pre _ _ P;obtain⟨us,N,O,ea,f,dd,U,hz⟩:=D5 I2 (S3.at_ _ _ _ G q);obtain⟨b,rfl,rfl,ik⟩:=xM I2 rx hu e4;obtain⟨ek,Y,xs,rfl⟩:=mG e4;obtain⟨j,f'⟩:=f.put Y rx ek hw ry;have hl:=f.parts;have l:=f'.parts;unfold storeAll;rw[Za];refine Wr (Wr (wpAny_dictSet_heap (knd:=rV X.prog X.w) (hsz:=by have:=hl.2.2.2.2.2.2;lia) (show X.A.units+8 < cLine by have:=hr.units;lia) ik dd λhh dd' hs=>Wt ?_));refine Wt ?_;obtain⟨o2,es,ep,hq,g2,g3,g4,g5,g6⟩:=dd';have T:cA g H2 g (upd H2 s.heap.objs.size (.Cg (ia s.heap.objs.size j ((storedH N F b w).map (·.1))))):=cA.wrote S3 (Wx G);have C:(xl r F (.tup xs) c).length<=sizeLine:=by
     unfold xl
     split
     ·rw[Ws];lia
     ·rw[WQ];simp;lia
    have new:ia s.heap.objs.size j ((storedH N F b w).map (·.1)) X.w hh:=⟨by rw[l.2.2.2.2.2.1];exact C,U,l.2.2.2.1,g6,_,l.2.2.2.2.1,rfl,o2,es,ep,hq,g2,g3,g4⟩;have fm:=(f'.mono T.toCh).parts;refine⟨.ref s.heap.objs.size,_,gB (ob:=.Cg (ia s.heap.objs.size j ((storedH N F b w).map (·.1)))) I2 (by rw[ea];exact True.intro) hs ⟨o2,hq⟩ ⟨new,L2.ia.stays new⟩,rfl,kq _ _ ⟨g,T0.trans (T3.trans T),S3.wrote G ⟨j,_,aO,fm.1,fm.2.1,fm.2.2.1⟩,.ob G⟩⟩
   ·rw[WE z] at i;cases i
end
end Sm
end
namespace Pg
open PySem Sm L2
abbrev Term:=Str×Int
abbrev Lock:=Str×Term
inductive Row where
 | say (w:Str)
 | call (d:Str) (ts:List Term)
 | within (l:Lock) (b:List Row)
 | all (ls:List Lock) (b:List Row)
 | ask (l:Lock) (b e:List Row)
 | uE (s t:Term) (a b c:List Row)
 | either (a b:List Row)
 | again (a:List Row)
noncomputable def aU(t:Term):D:=.tup [.str t.1,.int t.2]
def aN(l:Lock):D:=.tup [.str l.1,aU l.2]
mutual
noncomputable def aV:Row->D
 | .say w=>.tup [.str "say",.str w]
 | .call d f=>.tup [.str "call",.str d,.tup (f.map aU)]
 | .within l b=>.tup [.str "within",aN l,.tup (cz b)]
 | .all ls b=>.tup [.str "all",.tup (ls.map aN),.tup (cz b)]
 | .ask l b e=>.tup [.str "ask",aN l,.tup (cz b),.tup (cz e)]
 | .uE s t a b c=>.tup [.str "by",aU s,aU t,.tup (cz a),.tup (cz b),.tup (cz c)]
 | .either a b=>.tup [.str "either",.tup (cz a),.tup (cz b)]
 | .again a=>.tup [.str "again",.tup (cz a)]
noncomputable def cz:List Row->List D
 | []=>[]
 | r::rs=>aV r::cz rs
end
theorem gW:∀l:List Row,cz l=l.map aV
 | []=>by simp[cz]
 | r::rs=>by simp[cz,gW rs]
mutual
noncomputable def cnt:Row->Nat
 | .say _=>1
 | .call _ _=>1
 | .within _ b=>1+cL b
 | .all _ b=>1+cL b
 | .ask _ b e=>1+cL b+cL e
 | .uE _ _ a b c=>1+cL a+cL b+cL c
 | .either a b=>1+cL a+cL b
 | .again a=>1+cL a
noncomputable def cL:List Row->Nat
 | []=>0
 | r::rs=>cnt r+cL rs
end
theorem Ap:∀a b:List Row,cL (a++b)=cL a+cL b
 | [],b=>by simp[cL]
 | r::a,b=>by simp[cL,Ap a b];lia
structure Wd where
 names:List Str
 aq:List Str
 params:List (List Str)
def eA(a:List Str)(t:Term):Prop:=(t.1=Str.ofString ""\/t.1∈a)/\-99<=t.2/\t.2<=99
def eZ(W:Wd)(a:List Str)(l:Lock):Prop:=l.1∈W.names/\eA a l.2
mutual
def aX(W:Wd)(f:List Str):Nat->Row->Prop
 | _,.say w=>w∈W.names++W.aq
 | _,.call d g=>(∃(j:Nat)(h:List Str),W.aq[j]?=some d/\W.params[j]?=some h/\g.length=h.length)/\∀t∈g,eA f t
 | n,.within l b=>eZ W f l/\n < 5/\b.length<=12/\bB W f (n+1) b
 | n,.all ls b=>(2<=ls.length/\ls.length<=4/\ls.Nodup/\∀l∈ls,eZ W f l)/\n < 5/\b.length<=12/\bB W f (n+1) b
 | n,.ask l b e=>eZ W f l/\n < 5/\b.length<=12/\e.length<=12/\bB W f (n+1) b/\bB W f (n+1) e
 | n,.uE s t a b c=>eA f s/\eA f t/\n < 5/\a.length<=12/\b.length<=12/\c.length<=12/\bB W f (n+1) a/\bB W f (n+1) b/\bB W f (n+1) c
 | n,.either a b=>n < 5/\a.length<=12/\b.length<=12/\bB W f (n+1) a/\bB W f (n+1) b
 | n,.again a=>n < 5/\a.length<=12/\bB W f (n+1) a
def bB(W:Wd)(a:List Str):Nat->List Row->Prop
 | _,[]=>True
 | n,r::rs=>aX W a n r/\bB W a n rs
end
theorem vy{W:Wd}{c:List Str}{n:Nat}:∀{a b:List Row},bB W c n a->bB W c n b->bB W c n (a++b)
 | [],b,_,h=>h
 | r::a,b,h,d=>by
  unfold bB at h;show bB W c n (r::(a++b));unfold bB;exact⟨h.1,vy h.2 d⟩
theorem jS{W:Wd}{c:List Str}{n:Nat}:∀{a:List Row},bB W c n a->∀r∈a,aX W c n r
 | [],_,_,z=>by cases z
 | r::a,h,x,b=>by
  unfold bB at h;rcases WI.mp b with rfl | b
  ·exact h.1
  ·exact jS h.2 x b
end Pg
set_option hygiene false in
local macro_rules | `(tactic| ac_rfl) => do {let t <- (("|Sm.sv _|Sm.bc|Sm.ak|Sm.aa ? ?|Sm.ab ? ?|Sm.aE ?|Sm.aY ?|Sm.sset _ @ ?|Sm.cE ? ? ?|Sm.bM|Sm.six hr ? ?|Sm.gm @ hr ?|Sm.cy|Sm.wK|Sm.MS|Sm.UD ?|Sm.UE ?|Sm.UC ?|Sm.UG ?|Sm.stp4 ?|Sm.stp5 ?|Sm.UB ?|Sm.Rq ? ? ?|Sm.bN ? ? ?|Sm.cT|Sm.O0 hr.units|Sm.Ii hr.units|Sm.M6|Sm.R6|Sm.Ij|Sm.M8|Sm.OZ|Sm.Lo|Sm.M7 hr.units|Sm.Ih hr.units|Sm.Ie|Sm.sj|Sm.MR Sm.Gs ?|Sm.GS ? ? ?|Sm.Dc|Sm.C8 ?|Sm.fO ? ?|Sm.wJ rfl ?|Sm.fQ ? ?|Sm.qw|Sm.sgn _ @|Sm.uQ Sm.P0 B.Nk Sm.Jz ?|Sm.KG Sm.fX B.dQ Sm.cM ?|Sm.kM ?|Sm.GI ?|Sm.GV ? ? ?|Sm.qu ?|Sm.KC Sm.qQ PySem.F.plainAttrs_list PySem.F.slot_list_append PySem.F.type_list_append Sm.jT ? ?|Sm.Ry Sm.qQ PySem.F.plainAttrs_list PySem.F.slot_list_pop PySem.F.type_list_pop Sm.Ph ?|Sm.qo.lv ?|Sm.qo.ob ?|Sm.UL ?|Sm.UK ?|Sm.UJ ?|Sm.sfl3 ?|Sm.sfl4 ?|Sm.sfl5 ?|Sm.sfl6 ?|Sm.sfl7 ?|Sm.UI ?|Sm.GD ? ?|Sm.MN ? ?|Sm.CW ?|Sm.NO ?|Sm.eX PassesOwn.never rfl ? ? ?|Sm.fP ?|Sm.NR|Sm.uQ Sm.PZ~rfl B.S9 Sm.Ql ?|Sm.uQ Sm.PY~rfl B.S8 Sm.Qk ?|Sm.KG Sm.P1 B.JE Sm.CC ?|Sm.uQ Sm.P5 B.Td Sm.Qo ?|Sm.Ru ? ? ?|Sm.SW.st ?".splitOn "|").drop 1).toArray.mapM (λl => do {let x <- (l.splitOn " ").toArray.mapM (λz => if z == "?" then `(?_) else if z == "_" then `(_) else if z == "@" then `(‹_›) else(let y := (z.splitOn "~").toArray.map (λw => (Lean.mkIdent w.toName : Lean.TSyntax `term));pure (Lean.Syntax.mkApp y[0]! (y.extract 1 y.size))));`(Lean.Parser.Tactic.tacticSeq| refine $(Lean.Syntax.mkApp x[0]! (x.extract 1 x.size)) <;> ac_rfl)});`(tactic| with_reducible first $[| $t]*)}
local macro_rules | `(tactic| walk_at "v") => `(tactic|(conv => arg 2;whnf))
local macro_rules | `(tactic| walk_at "u") => `(tactic|(walk_at "v";ac_rfl))
namespace Mi
open PySem L2 Sm PySem.Spec PyProof.Rows
local macro_rules | `(tactic| walk_at "b") => `(tactic| first | exactλF => F.binds λ_ _ _ _ _ _ => Hd.u1 (λ_ => rfl) | exactλF => F.binds λ_ _ _ _ _ _ => Hd.u2 (λ_ _ => rfl) | exactλF => F.binds λ_ _ _ _ _ _ => Hd.u3 (λ_ _ _ => rfl) | exactλF => F.binds λ_ _ _ _ _ _ => Hd.u4 (λ_ _ _ _ => rfl) | exactλF => F.binds λ_ _ _ _ _ _ => Hd.u5 (λ_ _ _ _ _ => rfl) | exactλF => F.binds λ_ _ _ _ _ _ => Hd.u6 (λ_ _ _ _ _ _ => rfl) | exactλF => F.binds λ_ _ _ _ _ _ => Hd.u7 (λ_ _ _ _ _ _ _ => rfl))
structure Bs(P:Program)(w:World)(K:FR)(mg:Str->Option Value):Prop where
 Td:mg "abs"=none
 Tb:mg "all"=none
 Ta:mg "any"=none
 yq:mg "bool"=none
 Qq:mg "dict"=none
 jD:mg "enumerate"=none
 JE:mg "int"=none
 bq:mg "isinstance"=none
 Nk:mg "len"=none
 CG:mg "list"=none
 S9:mg "max"=none
 S8:mg "min"=none
 dh:mg "range"=none
 tj:mg "sorted"=none
 Nj:mg "str"=none
 dQ:mg "tuple"=none
 Ni:mg "zip"=none
 JQ:Tab P w K mg "SHAPES" jL
 CL:Tc K mg "TOO_MANY" ([some "open",none]:List (Option Str))
 G_:∀n v,mg n=some v->QO K n=some v
abbrev Rc(x:Str)(s:Stmt):Prop:=(recsOf view).find? (λe=>e.name==x)=some (Hd.rQ x s)
abbrev lP:Stmt:=top 45
abbrev mn:List Str:=["_law_script"]
def tY:ao ["_law_script"] mn (ag lP):=by walk_at "s"
def rP:Rc "_law_drawn" lP:=by ac_nf
def fH:Fn:=fq 1
  (aJ (D4 (a3 (ki 0) (D4 (Ek (a1 (kd v0 AN (AO (ki 63)))))) (ki 0))))
abbrev o8:Stmt:=top 46
abbrev pC:List Str:=["_law_state"]
def ig:ao ["_law_state","_law_cells","_law_tour","_law_cell","_law_mixed"] pC (ag o8):=by walk_at "s"
def t8:Rc "_law_load" o8:=by ac_nf
def jI:Fn:=fq 5
  (ah (aL 1 (ai aG v0 (ki 1)))
  (ah (aL 2 (ai aG v0 (ki 2)))
  (ah (en (ai aQ v2 (ki 1)) (uy v0 (ki 2)))
  (ah (aL 3 (ki 0))
  (ah (et (ax (ai qh v1 (iq aT))) (aL 3 (ai aG v1 (ai sN v2 (aj bR (a1 v1))))) bz)
  (et (iU (ax (ai FP v2 (aj bR (a1 v1)))) (ax (ai Sz (aj PU (a1 v3)) (ai IX (ki 10) (ki 18))))) (en (aj PU (a1 v3)) (uy v0 (ki 0))) (ah (aL 4 (ai sN (ai jA (ai aQ (ai aQ (ai sN v3 (ki 2305843009213693951)) (ai jA (ai jA (ki 7919) v2) v2)) (ki 11)) (ki 48271)) (ki 2305843009213693951)))
  (ah (aL 4 (ai sN (ai jA v4 v4) (ki 2305843009213693921)))
  (en (ai aQ (ai sN (ai aQ (ai aQ (ai jA v4 (ki 69621)) v2) (ki 104729)) (ki 2305843009213693951)) (ai IX (ki 10) (ki 9))) (uy v0 (ki 0)))))))))))
abbrev o6:Stmt:=top 47
abbrev pA:List Str:=["_law_state","_law_many"]
def wO:ao ["_law_state","_law_many","_law_found"] pA (ag o6):=by walk_at "s"
def t6:Rc "_law_next" o6:=by ac_nf
def aM:Fn:=fq 3
  (ah (et (ax (ai FP (ai aG v0 (ki 0)) v1)) (gp (aj jI (a1 v0))) bz)
  (ah (aL 2 (ai sN (ai aG v0 (ki 0)) v1))
  (ah (en (ai Jb (ai aG v0 (ki 0)) v1) (uy v0 (ki 0)))
  (aJ v2))))
abbrev uX:Stmt:=top 48
abbrev vt:List Str:=["_law_state","_law_some"]
def Bm:ao ["_law_state","_law_some"] vt (ag uX):=by walk_at "s"
def zi:Rc "_law_of" uX:=by ac_nf
def aI:Fn:=fq 2
  (aJ (ai aG v1 (aj aM (a2 v0 (aj bR (a1 v1))))))
abbrev lN:Stmt:=top 49
abbrev mj:List Str:=["_law_state","_law_many"]
def kl:ao ["_law_state","_law_many","_law_letters","_law_stem","_law_k","_law_at","_law_first","_law_stride"] mj (ag lN):=by walk_at "s"
def rN:Rc "_law_words" lN:=by ac_nf
def dZ:Fn:=fq 8
  (ah (aL 2 (ks "abcdefghijklmnopqrstuvwxyz"))
  (ah (aL 3 (ks ""))
  (ah (j9 (mJ (a1 (aj aI (a2 v0 (eK (.lv [.int 0,.int 1,.int 1,.int 2,.int 3,.int 6])))))) (gN 4) (aL 3 (ai aQ v3 (ai aG v2 (aj aM (a2 v0 (ki 26)))))))
  (ah (aL 5 (aj aM (a2 v0 (ai aQ (aj bR (a1 v3)) (ki 1)))))
  (ah (aL 6 (aj aM (a2 v0 (ki 26))))
  (ah (aL 7 (aj aI (a2 v0 (eK (.lv [.int 1,.int 3,.int 5,.int 7,.int 9,.int 11])))))
  (aJ (iq (dR [none,some 5,some 6,some 2,some 3,some 7] (mJ (a1 v1)) (gN 0) cb (ai aQ (ai aQ (kd v4 AN (AO v1)) (ai aG v3 (ai sN (ai aQ v2 (ai jA v5 v0)) (ki 26)))) (kd v4 (AO v1) AN)))))))))))
abbrev lM:Stmt:=top 50
abbrev mh:List Str:=["_law_state","_law_most","_law_odd"]
def cD:ao ["_law_state","_law_most","_law_odd","_law_names","_law_deeds","_law_params","_law_many","_law_floors"] mh (ag lM):=by walk_at "s"
def rL:Rc "_law_world" lM:=by ac_nf
def iF:Fn:=fq 8
  (ah (aL 3 (aj dZ (a2 v0 (aj aI (a2 v0 (eK (.lv [.int 1,.int 2,.int 2,.int 3,.int 4,.int 6])))))))
  (ah (aL 4 (aj dZ (a2 v0 (aj aI (a2 v0 (eK (.lv [.int 1,.int 1,.int 2,.int 2,.int 3,.int 4,.int 6])))))))
  (ah (aL 5 (aj dZ (a2 v0 (ki 3))))
  (ah (aL 6 (iq (dR [none,some 0] (gY v4) (gN 0) cb (aj aI (a2 v1 (eK (.lv [.int 0,.int 1,.int 1,.int 2,.int 2,.int 3])))))))
  (ah (aL 7 (aj IW (a1 (iq (dR [none,some 3,some 0] (gY v4) (gN 0) cb (aj aM (a2 v2 (aj bR (a1 v1)))))))))
  (ah (aL 5 (iq (dR [none,some 5] (gY v6) (gN 0) cb (kd v1 AN (AO v0)))))
  (aJ (Cn (gV (ks "names") v3 (gV (ks "deeds") v4 (gV (ks "params") v5 (gV (ks "floors") v7 (gV (ks "left") v1 (gV (ks "odd") v2 OX))))))))))))))
abbrev kr:Stmt:=top 51
abbrev kC:List Str:=["_law_state","_law_world_here"]
def qZ:ao ["_law_state","_law_world_here"] kC (ag kr):=by walk_at "s"
def pV:Rc "_law_is_odd" kr:=by ac_nf
def de:Fn:=fq 2
  (aJ (oM (ai Gh (ai aG v1 (ks "odd")) (ki 0)) (ai bL (aj aM (a2 v0 (ai aG v1 (ks "odd")))) (ki 0))))
abbrev oY:Stmt:=top 52
abbrev pv:List Str:=["_law_state","_law_params"]
def wM:ao ["_law_state","_law_params","_law_far"] pv (ag oY):=by walk_at "s"
def t5:Rc "_law_term" oY:=by ac_nf
def bK:Fn:=fq 3
  (ah (aL 2 (ai uB (aj aM (a2 v0 (ki 81))) (ki 40)))
  (ah (et (iU (ax (ai Gh (aj bR (a1 v1)) (ki 0))) (ax (ai Gh (aj aM (a2 v0 (ki 5))) (ki 0)))) (aJ (aj aH (a2 (aj aI (a2 v0 v1)) (aj aI (a2 v0 (iq (af (ki 0) (af (ki 0) (af (ki 0) (af (ki 0) (af (ki 1) (a4 (ki 1) (kG dB (ki 1)) (ki 2) v2)))))))))))) bz)
  (aJ (aj aH (a2 (ks "") (aj aI (a2 v0 (iq (af (ki 0) (af (ki 0) (af (ki 1) (af (ki 1) (a4 (ki 2) (ki 3) (kG dB (ki 1)) v2)))))))))))))
abbrev pb:Stmt:=top 54
abbrev pE:List Str:=["_law_state","_law_world_here","_law_deed","_law_top"]
def fw:ao ["_law_state","_law_world_here","_law_deed","_law_top","_law_some","_law_other","_law_terms"] pE (ag pb):=by walk_at "s"
def ua:Rc "_law_call" pb:=by ac_nf
def gG:Fn:=fq 7
  (ah (aL 4 (iq (dR [none,some 2,some 3,some 1] (mJ (a1 (aj bR (a1 (ai aG v1 (ks "deeds")))))) (gN 0) (iU (ax (ai Gh (ai aG (ai aG v3 (ks "floors")) v0) v2)) (ax (ai Sz v0 v1))) v0)))
  (ah (et (fN (aj de (a2 v0 v1))) (aL 4 (iq (Qs (a1 (aj bR (a1 (ai aG v1 (ks "deeds")))))))) bz)
  (ah (et (ax (ai bL v4 (iq aT))) (aJ (aj aH (a2 (ks "say") (ai aG (ai aG v1 (ks "deeds")) v2)))) bz)
  (ah (aL 5 (aj aI (a2 v0 v4)))
  (ah (aL 6 (iq (dR [none,some 2,some 0,some 1] (gY (ai aG (ai aG v1 (ks "params")) v5)) (gN 0) cb (aj bK (a2 v2 (ai aG (ai aG v3 (ks "params")) v1))))))
  (aJ (aj aH (a3 (ks "call") (ai aG (ai aG v1 (ks "deeds")) v5) (aj bH (a1 v6))))))))))
abbrev o7:Stmt:=top 53
abbrev pB:List Str:=["_law_state","_law_world_here","_law_deed","_law_top","_law_held"]
def lF:ao ["_law_state","_law_world_here","_law_deed","_law_top","_law_held","_law_low","_law_at","_law_name","_law_same_here","_law_word","_law_more"] pB (ag o7):=by walk_at "s"
def t7:Rc "_law_lock" o7:=by ac_nf
def eS:Fn:=fq 11
  (ah (aL 5 (aj xU (a2 v3 (ai aG (ai aG v1 (ks "floors")) v2))))
  (ah (et (ax (ai bL v5 (aj bR (a1 (ai aG v1 (ks "names")))))) (aJ (aj aH (a2 (eK .bo) (eK .bo)))) bz)
  (ah (aL 6 (ai aQ v5 (aj aM (a2 v0 (ai uB (aj bR (a1 (ai aG v1 (ks "names")))) v5)))))
  (ah (et (fN (aj de (a2 v0 v1))) (aL 6 (aj aM (a2 v0 (aj bR (a1 (ai aG v1 (ks "names"))))))) bz)
  (ah (aL 7 (ai aG (ai aG v1 (ks "names")) v6))
  (ah (aL 8 (iq (dR [none,some 7] (gY v4) (gN 0) (ax (ai bL (ai aG v0 (ki 0)) v1)) (ai aG v0 (ki 1)))))
  (ah (et (iU (ax (ai qh v8 (iq aT))) (pP (fN (aj de (a2 v0 v1))))) (ah (en (ai aG v8 (kG dB (ki 1))) (gT 2 (av (gN 9) (av (gN 10) bU))))
  (aJ (aj aH (a2 v6 (aj aH (a2 v7 (aj aH (a2 v9 (aj IY (a2 (ki 99) (ai aQ (ai aQ v10 (ki 1)) (aj aM (a2 v0 (ki 2)))))))))))))) bz)
  (aJ (aj aH (a2 v6 (aj aH (a2 v7 (aj bK (a2 v0 (ai aG (ai aG v1 (ks "params")) v2)))))))))))))))
abbrev rm:Stmt:=top 58
abbrev kU:List Str:=["_law_state","_law_world_here","_law_deed","_law_deep","_law_top","_law_held","_law_most"]
def yY:ao ["_law_state","_law_world_here","_law_deed","_law_deep","_law_top","_law_held","_law_most","_law_rows","_law_k"] kU (ag rm):=by walk_at "s"
def lW:Rc "_law_lot" rm:=by ac_nf
abbrev rj:Stmt:=top 57
abbrev kT:List Str:=["_law_state","_law_world_here","_law_deed","_law_deep","_law_top","_law_held"]
def cG:ao ["_law_state","_law_world_here","_law_deed","_law_deep","_law_top","_law_held","_law_way","_law_one","_law_other","_law_lots","_law_sort"] kT (ag rj):=by walk_at "s"
def lV:Rc "_law_row" rj:=by ac_nf
abbrev ko:Stmt:=top 56
abbrev gJ:List Str:=["_law_state","_law_world_here","_law_deed","_law_deep","_law_top","_law_held","_law_way"]
def cH:ao ["_law_state","_law_world_here","_law_deed","_law_deep","_law_top","_law_held","_law_way","_law_at","_law_lock_here","_law_some","_law_high","_law_turn","_law_low","_law_other","_law_lot_here"] gJ (ag ko):=by walk_at "s"
def iL:Rc "_law_locked" ko:=by ac_nf
abbrev iK:Stmt:=top 55
abbrev eY:List Str:=["_law_state","_law_world_here","_law_deed","_law_deep","_law_top","_law_held"]
def cS:ao ["_law_state","_law_world_here","_law_deed","_law_deep","_law_top","_law_held","_law_low","_law_name","_law_one","_law_other","_law_lots","_law_first","_law_second","_law_inner"] eY (ag iK):=by walk_at "s"
def gr:Rc "_law_two_ways" iK:=by ac_nf
mutual
noncomputable def bw:Nat->Fn
 | 0=>λ_ _=>none
 | n+1=>Kc 9
  (ah (aL 7 (D4 aT))
  (ah (j9 (mJ (a1 (aj aM (a2 v0 (ai aQ (aj aI (a2 v0 (ai aQ (ai L0 (iq (a1 v6)) (ki 15)) (iq (a1 (ki 12)))))) (ki 1)))))) (gN 8) (et (ax (ai Gh (ai aG v1 (ks "left")) (ki 0))) (ah (en (ai uB (ai aG v1 (ks "left")) (ki 1)) (uy v1 (ks "left")))
  (gp (eM dN b9 v7 (a1 (aj (gc n) (af v0 (af v1 (a4 v2 v3 v4 v5)))))))) bz))
  (aJ (aj bH (a1 v7)))))
noncomputable def gc:Nat->Fn
 | 0=>λ_ _=>none
 | n+1=>fq 11
  (ah (aL 6 (aj aM (a2 v0 (ki 16))))
  (ah (et (Gz (ax (ai FP v6 (ki 2))) (iU (ax (ai bL v3 (ki 5))) (ax (ai FP v6 (ki 11))))) (aJ (aj aH (a2 (ks "say") (aj aI (a2 v0 (ai aQ (ai aG v1 (ks "names")) (ai aG v1 (ks "deeds")))))))) bz)
  (ah (et (Gz (ax (ai Gh v6 (ki 12))) (ax (ai bL v3 (ki 5)))) (aJ (aj gG (a4 v0 v1 v2 v4))) bz)
  (ah (et (iU (ax (ai bL v6 (ki 12))) (iU (ax (ai FP v3 (ki 3))) (ax (ai Gh (ai aG v1 (ks "left")) (ki 5))))) (aJ (aj (cB n) (af v0 (af v1 (a4 v2 v3 v4 v5))))) bz)
  (ah (et (Gz (ax (ai bL v6 (ki 11))) (ax (ai bL v6 (ki 12)))) (ah (Bn 7 8 (a2 (aj bK (a2 v0 (ai aG (ai aG v1 (ks "params")) v2))) (aj bK (a2 v0 (ai aG (ai aG v1 (ks "params")) v2)))))
  (ah (aL 9 (iq (dR [none,some 2,some 3,some 5,some 0,some 4,some 1] (mJ (a1 (ki 3))) (gN 0) cb (aj (bw n) (af v4 (af v6 (af v1 (a4 (ai aQ v2 (ki 1)) v5 v3 (ki 2)))))))))
  (aJ (ai aQ (aj aH (a3 (ks "by") v7 v8)) (aj bH (a1 v9)))))) bz)
  (ah (et (ax (ai bL v6 (ki 10))) (ah (aL 9 (iq (dR [none,some 2,some 3,some 5,some 0,some 4,some 1] (mJ (a1 (ki 2))) (gN 0) cb (aj (bw n) (af v4 (af v6 (af v1 (a4 (ai aQ v2 (ki 1)) v5 v3 (ki 2)))))))))
  (aJ (ai aQ (aj aH (a1 (ks "either"))) (aj bH (a1 v9))))) bz)
  (ah (et (ax (ai bL v6 (ki 9))) (aJ (aj aH (a2 (ks "again") (aj (bw n) (af v0 (af v1 (af v2 (a4 (ai aQ v3 (ki 1)) v4 v5 (ki 2))))))))) bz)
  (ah (aL 10 (aj aI (a2 v0 (eK (.lv [.str "within",.str "within",.str "within",.str "within",.str "ask",.str "all"])))))
  (aJ (aj (dc n) (af v0 (af v1 (af v2 (a4 v3 v4 v5 v10))))))))))))))
noncomputable def dc:Nat->Fn
 | 0=>λ_ _=>none
 | n+1=>Kc 15
  (ah (en (aj eS (af v0 (a4 v1 v2 v4 v5))) (gT 2 (av (gN 7) (av (gN 8) bU))))
  (ah (et (ax (ai qi v7 (eK .bo))) (aJ (aj aH (a2 (ks "say") (ai aG (ai aG v1 (ks "deeds")) v2)))) bz)
  (ah (et (ax (ai bL v6 (ks "all"))) (ah (Bn 9 10 (a2 (D4 (a1 v8)) v7))
  (ah (j9 (mJ (a1 (aj aI (a2 v0 (eK (.lv [.int 1,.int 1,.int 2,.int 3])))))) (gN 11) (ah (en (aj eS (af v0 (a4 v1 v2 v4 v5))) (gT 2 (av (gN 12) (av (gN 13) bU))))
  (ah (aL 10 (aj xU (a2 v10 Ui)))
  (aL 9 (D4 (Qt v9 (ai L0 (iq (a1 Uh)) (aj Af (a1 (ai oI Uh v9))))))))))
  (ah (et (ax (ai bL (aj bR (a1 v9)) (ki 1))) (gp (eM dN b9 v9 (a1 (aj aH (a2 (ai aG v8 (ki 0)) (aj aH (a2 (ai aG (ai aG v8 (ki 1)) (ki 0)) (ai uB (ai aQ (ai aG (ai aG v8 (ki 1)) (ki 1)) (ki 1)) (ai jA (ki 2) (aj Af (a1 (ai Gh (ai aG (ai aG v8 (ki 1)) (ki 1)) (ki 90))))))))))))) bz)
  (ah (aL 10 (ai aQ v10 (aj Af (a1 (ai bL (ai aG v1 (ks "odd")) (ki 0))))))
  (aJ (aj aH (a3 (ks "all") (aj bH (a1 v9)) (aj (bw n) (af v0 (af v1 (af v2 (a4 (ai aQ v3 (ki 1)) (aj xU (a2 v4 v10)) (ai aQ v5 v9) (ki 3))))))))))))) bz)
  (ah (aL 14 (aj (bw n) (af v0 (af v1 (af v2 (a4 (ai aQ v3 (ki 1)) (aj xU (a2 v4 v7)) (ai aQ v5 (iq (a1 v8))) (ki 3)))))))
  (ah (et (ax (ai bL v6 (ks "ask"))) (aJ (aj aH (a4 (ks "ask") v8 VI (aj (bw n) (af v0 (af v1 (af v2 (a4 (ai aQ v3 (ki 1)) v4 v5 (ki 2))))))))) bz)
  (aJ (aj aH (a3 (ks "within") v8 VI))))))))
noncomputable def cB:Nat->Fn
 | 0=>λ_ _=>none
 | n+1=>Kc 14
  (ah (aL 6 (aj xU (a2 v4 (ai aG (ai aG v1 (ks "floors")) v2))))
  (ah (et (ax (ai bL v6 (aj bR (a1 (ai aG v1 (ks "names")))))) (aJ (aj aH (a2 (ks "say") (ai aG (ai aG v1 (ks "deeds")) v2)))) bz)
  (ah (et (ax (ai qh (iq (dR [none,some 6,some 1] (gY v5) (gN 0) (ax (ai bL (ai aG v0 (ki 0)) (ai aG (ai aG v2 (ks "names")) v1))) v0)) (iq aT))) (aJ (aj aH (a2 (ks "say") (ai aG (ai aG v1 (ks "deeds")) v2)))) bz)
  (ah (aL 7 (ai aG (ai aG v1 (ks "names")) v6))
  (ah (en (ai uB (ai aG v1 (ks "left")) (ki 5)) (uy v1 (ks "left")))
  (ah (Bn 8 9 (a2 (aj bK (a2 v0 (ai aG (ai aG v1 (ks "params")) v2))) (aj bK (a2 v0 (ai aG (ai aG v1 (ks "params")) v2)))))
  (ah (aL 10 (D4 aT))
  (ah (j9 (gY (iq (a2 (aj aH (a2 v8 v9)) (aj aH (a2 v9 v8))))) (gT 2 (av (gN 11) (av (gN 12) bU))) (ah (aL 13 (aj (bw n) (af v0 (af v1 (af v2 (a4 (ai aQ v3 (ki 3)) v6 (ai aQ v5 (iq (a2 (aj aH (a2 v7 v11)) (aj aH (a2 v7 Ui))))) (ki 2)))))))
  (gp (eM dN b9 v10 (a1 (aj aH (a1 (aj aH (a3 (ks "within") (aj aH (a2 v7 v11)) (aj aH (a1 (aj aH (a3 (ks "within") (aj aH (a2 v7 Ui)) Uh)))))))))))))
  (aJ (aj aH (af (ks "by") (af v8 (a4 v9 (ai aG v10 (ki 0)) (aj aH (a1 (aj aH (a3 (ks "within") (aj aH (a2 v7 v8)) (aj aH aT))))) (ai aG v10 (ki 1)))))))))))))))
end
abbrev je:Stmt:=top 59
abbrev jq:List Str:=["_law_state","_law_most","_law_odd"]
def iI:ao ["_law_state","_law_most","_law_odd","_law_world_here","_law_deeds","_law_k","_law_deed","_law_rows"] jq (ag je):=by walk_at "s"
def oq:Rc "_law_program" je:=by ac_nf
def gd:Fn:=Kc 8
  (ah (aL 3 (aj iF (a3 v0 v1 v2)))
  (ah (aL 4 (D4 aT))
  (ah (j9 (zY (a1 (ai aG v3 (ks "deeds")))) (gT 2 (av (gN 5) (av (gN 6) bU))) (ah (aL 7 (aj (bw 20) (af v0 (af v3 (af v5 (a4 (ki 1) (kG dB (ki 1)) (iq aT) (aj aI (a2 v0 (eK (.lv [.int 1,.int 2,.int 3,.int 4,.int 12]))))))))))
  (gp (eM dN b9 v4 (a1 (aj aH (a3 v6 (aj bH (a1 (ai aG (ai aG v3 (ks "params")) v5))) v7)))))))
  (aJ (aj aH (a2 (aj bH (a1 (aj IV (a1 (ai aG v3 (ks "names")))))) (aj bH (a1 v4))))))))
abbrev oX:Stmt:=top 60
abbrev pj:List Str:=["_law_state","_law_program_here","_law_most"]
def wL:ao ["_law_state","_law_program_here","_law_most","_law_town_here","_law_k","_law_deed","_law_params","_law_rows","_law_far"] pj (ag oX):=by walk_at "s"
def t4:Rc "_law_town" oX:=by ac_nf
def jH:Fn:=Kc 9
  (ah (aL 3 (D4 aT))
  (ah (j9 (mJ (a1 (ai aQ (ki 1) (aj aM (a2 v0 v2))))) (gN 4) (ah (en (aj aI (a2 v0 (ai aG v1 (ki 1)))) (gT 3 (av (gN 5) (av (gN 6) (av (gN 7) bU)))))
  (ah (aL 8 (ai uB (aj aM (a2 v0 (ki 199))) (ki 99)))
  (gp (eM dN b9 v3 (a1 (aj aH (a2 v5 (aj bH (a1 (iq (dR [none,some 8,some 0] (gY v6) (gN 0) cb (aj aI (a2 v2 (iq (af (kG dB (ki 2)) (af (kG dB (ki 1)) (af (ki 0) (af (ki 0) (af (ki 1) (a4 (ki 1) (ki 2) (ki 3) v1)))))))))))))))))))))
  (aJ (aj bH (a1 v3)))))
abbrev o9:Stmt:=top 62
abbrev pD:List Str:=["_law_state"]
def lG:ao ["_law_state","_law_program_here"] pD (ag o9):=by walk_at "s"
def t9:Rc "_law_case" o9:=by ac_nf
def pO:Fn:=fq 2
  (ah (aL 1 (aj gd (a3 v0 (aj aI (a2 v0 (eK (.lv [.int 5,.int 8,.int 8,.int 14,.int 24])))) (aj aI (a2 v0 (eK (.lv [.int 0,.int 12,.int 4,.int 2])))))))
  (aJ (aj aH (a2 v1 (aj jH (a3 v0 v1 (aj aI (a2 v0 (eK (.lv [.int 1,.int 2,.int 2,.int 3,.int 4]))))))))))
abbrev uU:Stmt:=top 6
abbrev vo:List Str:=["row"]
def Bj:ao ["row"] vo (ag uU):=by walk_at "s"
def zf:Rc "lots_of" uU:=by ac_nf
def j6:Fn:=fq 1
  (aJ (kd v0 (AO (ai aG (kG (PL jL) (ai aG v0 (ki 0))) (ki 0))) AN))
abbrev y7:Stmt:=top 12
abbrev zw:List Str:=["rows","path"]
def EN:ao ["rows","path","lot","at"] zw (ag y7):=by walk_at "s"
def Bx:Rc "lot_on" y7:=by ac_nf
def nO:Fn:=fq 4
  (ah (aL 2 v0)
  (ah (j9 (LW (a3 (ki 1) (aj bR (a1 v1)) (ki 2))) (gN 3) (aL 2 (ai aG (aj j6 (a1 (ai aG v2 (ai aG v1 (ai uB v3 (ki 1)))))) (ai aG v1 v3))))
  (aJ v2)))
abbrev yZ:Stmt:=top 13
abbrev zu:List Str:=["rows","path"]
def EL:ao ["rows","path","lot"] zu (ag yZ):=by walk_at "s"
def Bw:Rc "row_on" yZ:=by ac_nf
def hZ:Fn:=fq 3
  (ah (aL 2 (aj nO (a2 v0 v1)))
  (aJ (Aj (ax (ai FP (ai aG v1 (kG dB (ki 1))) (aj bR (a1 v2)))) (ai aG v2 (ai aG v1 (kG dB (ki 1)))) (eK .bo))))
abbrev uS:Stmt:=top 10
abbrev vm:List Str:=["program","deed"]
def Bi:ao ["program","deed"] vm (ag uS):=by walk_at "s"
def zd:Rc "rows_in" uS:=by ac_nf
def hY:Fn:=fq 2
  (aJ (ai aG (ai aG (ai aG v0 (ki 1)) v1) (ki 2)))
abbrev q5:Stmt:=top 14
abbrev se:List Str:=["program","frame"]
def yT:ao ["program","frame","deed","numbers","path"] se (ag q5):=by walk_at "s"
def wY:Rc "row_here" q5:=by ac_nf
def bZ:Fn:=fq 5
  (ah (en v1 (gT 3 (av (gN 2) (av (gN 3) (av (gN 4) bU)))))
  (aJ (aj hZ (a2 (aj hY (a2 v0 v2)) v4))))
abbrev i9:Stmt:=top 15
abbrev jk:List Str:=["program","scene","hand"]
def pR:ao ["program","scene","hand","frames"] jk (ag i9):=by walk_at "s"
def oh:Rc "row_stood_at" i9:=by ac_nf
def dX:Fn:=fq 4
  (ah (aL 3 (ai aG (ai aG v1 v2) (ki 0)))
  (aJ (Aj (fN v3) (aj bZ (a2 v0 (ai aG v3 (kG dB (ki 1))))) (eK .bo))))
abbrev rf:Stmt:=top 7
abbrev sg:List Str:=["row"]
def yV:ao ["row"] sg (ag rf):=by walk_at "s"
def w5:Rc "locks_of" rf:=by ac_nf
def iD:Fn:=fq 1
  (ah (et (ax (ai bL (ai aG v0 (ki 0)) (ks "all"))) (aJ (ai aG v0 (ki 1))) bz)
  (aJ (Aj (ax (ai yz (ai aG v0 (ki 0)) (aj aH (a2 (ks "within") (ks "ask"))))) (aj aH (a1 (ai aG v0 (ki 1)))) (aj aH aT))))
abbrev lI:Stmt:=top 11
abbrev lZ:List Str:=["program","frame"]
def tU:ao ["program","frame","deed","numbers","path"] lZ (ag lI):=by walk_at "s"
def rH:Rc "numbers_in" lI:=by ac_nf
def cV:Fn:=fq 5
  (ah (en v1 (gT 3 (av (gN 2) (av (gN 3) (av (gN 4) bU)))))
  (aJ (Co (a2 (ai aG (ai aG (ai aG v0 (ki 1)) v2) (ki 1)) v3))))
abbrev q0:Stmt:=top 3
abbrev r8:List Str:=["term","numbers"]
def yS:ao ["term","numbers","word","figure"] r8 (ag q0):=by walk_at "s"
def wX:Rc "value_of" q0:=by ac_nf
def bE:Fn:=fq 4
  (ah (en v0 (gT 2 (av (gN 2) (av (gN 3) bU))))
  (aJ (Aj (ax (ai bL v2 (ks ""))) v3 (ai aQ (ai aG v1 v2) v3))))
abbrev lJ:Stmt:=top 22
abbrev l9:List Str:=["program","frame"]
def tV:ao ["program","frame","locks","numbers"] l9 (ag lJ):=by walk_at "s"
def rJ:Rc "locks_told" lJ:=by ac_nf
def cX:Fn:=fq 4
  (ah (aL 2 (aj iD (a1 (aj bZ (a2 v0 v1)))))
  (ah (aL 3 (aj cV (a2 v0 v1)))
  (aJ (aj bH (a1 (Cm [none,none,some 3] (gY v2) (gT 2 (av (gN 0) (av (gN 1) bU))) cb (mP (aj aH (a2 v0 (aj bE (a2 v1 v2)))))))))))
abbrev uV:Stmt:=top 21
abbrev vp:List Str:=["scene","lock"]
def Bk:ao ["scene","lock","hand","frames","held"] vp (ag uV):=by walk_at "s"
def zg:Rc "held_by" uV:=by ac_nf
def fK:Fn:=fq 5
  (ah (j9 (zY (a1 v0)) (gT 2 (av (gN 2) (av (gT 2 (av (gN 3) (av (gN 4) bU))) bU))) (et (fN (aj PQ (a1 (iq (dR [none,some 1] (gY v4) (gN 0) cb (ai yz v1 v0)))))) (aJ v2) bz))
  (aJ (eK .bo)))
abbrev Dj:Stmt:=top 23
abbrev DE:List Str:=["program","scene","hand"]
def G4:ao ["program","scene","hand","row"] DE (ag Dj):=by walk_at "s"
def EV:Rc "waits" Dj:=by ac_nf
def nN:Fn:=fq 4
  (ah (aL 3 (aj dX (a3 v0 v1 v2)))
  (ah (et (Gz (ax (ai qi v3 (eK .bo))) (ax (ai oI (ai aG v3 (ki 0)) (aj aH (a2 (ks "within") (ks "all")))))) (aJ (aj aH aT)) bz)
  (aJ (aj bH (a1 (iq (dR [none,some 1] (gY (aj cX (a2 v0 (ai aG (ai aG (ai aG v1 v2) (ki 0)) (kG dB (ki 1)))))) (gN 0) (ax (ai mW (aj fK (a2 v1 v0)) (eK .bo))) v0)))))))
abbrev lL:Stmt:=top 28
abbrev md:List Str:=["program","scene","hand"]
def tW:ao ["program","scene","hand","frames","row"] md (ag lL):=by walk_at "s"
def rK:Rc "choices_of" lL:=by ac_nf
def bj:Fn:=fq 5
  (ah (aL 3 (ai aG (ai aG v1 v2) (ki 0)))
  (ah (et (pP (fN v3)) (aJ (aj aH aT)) bz)
  (ah (aL 4 (aj bZ (a2 v0 (ai aG v3 (kG dB (ki 1))))))
  (ah (et (iU (ax (ai mW v4 (eK .bo))) (ax (ai yz (ai aG v4 (ki 0)) (aj aH (a2 (ks "either") (ks "again")))))) (aJ (aj aH (a2 (ki 0) (ki 1)))) bz)
  (aJ (Aj (fN (aj nN (a3 v0 v1 v2))) (aj aH aT) (aj aH (a1 (ki 0)))))))))
abbrev Dl:Stmt:=top 29
abbrev DG:List Str:=["program","scene"]
def G6:ao ["program","scene"] DG (ag Dl):=by walk_at "s"
def EX:Rc "moves" Dl:=by ac_nf
def jZ:Fn:=fq 2
  (aJ (aj bH (a1 (Mb [none,none,some 0,some 1] (mJ (a1 (aj bR (a1 v1)))) (gN 0) cb (zO (gY (aj bj (a3 v2 v3 v0))) (gN 1) cb (mL (aj aH (a2 v0 v1)))) [] .lv))))
abbrev rg:Stmt:=top 1
abbrev sh:List Str:=["thing"]
def yW:ao ["thing"] sh (ag rg):=by walk_at "s"
def w9:Rc "is_whole" rg:=by ac_nf
def lj:Fn:=fq 1
  (aJ (oM (aj mZ (a2 v0 (eK (.ty "int")))) (Ma (aj mZ (a2 v0 (eK (.ty "bool")))))))
abbrev km:Stmt:=top 2
abbrev kB:List Str:=["thing","many"]
def qY:ao ["thing","many"] kB (ag km):=by walk_at "s"
def pU:Rc "is_tuple_of" km:=by ac_nf
def kJ:Fn:=fq 2
  (aJ (oM (aj mZ (a2 v0 (eK (.ty "tuple")))) (ai bL (aj bR (a1 v0)) v1)))
abbrev y8:Stmt:=top 30
abbrev zx:List Str:=["program","scene","move"]
def EO:ao ["program","scene","move","hand","choice"] zx (ag y8):=by walk_at "s"
def By:Rc "can_be" y8:=by ac_nf
def nP:Fn:=fq 5
  (ah (et (Gz (pP (fN (aj kJ (a2 v2 (ki 2))))) (Gz (pP (fN (aj lj (a1 (ai aG v2 (ki 0)))))) (pP (fN (aj lj (a1 (ai aG v2 (ki 1)))))))) (aJ (eK (.bl false))) bz)
  (ah (en v2 (gT 2 (av (gN 3) (av (gN 4) bU))))
  (aJ (oM (xZ L4 FP (ki 0) v3 (aj bR (a1 v1))) (ai yz v4 (aj bj (a3 v0 v1 v3)))))))
abbrev rh:Stmt:=top 36
abbrev si:List Str:=["program","scene","hand"]
def yX:ao ["program","scene","hand","row"] si (ag rh):=by walk_at "s"
def xa:Rc "event_of" rh:=by ac_nf
def iE:Fn:=fq 4
  (ah (aL 3 (aj bZ (a2 v0 (ai aG (ai aG (ai aG v1 v2) (ki 0)) (kG dB (ki 1))))))
  (aJ (Aj (iU (ax (ai mW v3 (eK .bo))) (ax (ai bL (ai aG v3 (ki 0)) (ks "say")))) (aj aH (a2 v2 (ai aG v3 (ki 1)))) (eK .bo))))
abbrev y9:Stmt:=top 16
abbrev zy:List Str:=["path"]
def ER:ao ["path"] zy (ag y9):=by walk_at "s"
def Bz:Rc "behind" y9:=by ac_nf
def gb:Fn:=fq 1
  (aJ (ai aQ (kd v0 AN (AO (kG dB (ki 1)))) (aj aH (a1 (ai aQ (ai aG v0 (kG dB (ki 1))) (ki 1))))))
abbrev jc:Stmt:=top 8
abbrev jn:List Str:=["program"]
def pT:ao ["program"] jn (ag jc):=by walk_at "s"
def oo:Rc "deed_numbers" jc:=by ac_nf
def cP:Fn:=fq 1
  (aJ (Mb [none,none] (zY (a1 (ai aG v0 (ki 1)))) (gT 2 (av (gN 0) (av (gN 1) bU))) cb (mD (ai aG v1 (ki 0)) v0) [] .dv))
abbrev jb:Stmt:=top 31
abbrev jm:List Str:=["program","frame"]
def pS:ao ["program","frame","sort","deed","terms","numbers"] jm (ag jb):=by walk_at "s"
def om:Rc "frame_called" jb:=by ac_nf
def dY:Fn:=fq 6
  (ah (en (aj bZ (a2 v0 v1)) (gT 3 (av (gN 2) (av (gN 3) (av (gN 4) bU)))))
  (ah (aL 5 (aj cV (a2 v0 v1)))
  (aJ (aj aH (a3 (ai aG (aj cP (a1 v0)) v3) (aj bH (a1 (iq (dR [none,some 5] (gY v4) (gN 0) cb (aj bE (a2 v0 v1)))))) (aj aH (a1 (ki 0))))))))
abbrev gR:Stmt:=top 32
abbrev gU:List Str:=["row","numbers"]
def dE:ao ["row","numbers","one","other"] gU (ag gR):=by walk_at "s"
def kS:Rc "lot_by_numbers" gR:=by ac_nf
def cW:Fn:=fq 4
  (ah (Bn 2 3 (a2 (aj bE (a2 (ai aG v0 (ki 1)) v1)) (aj bE (a2 (ai aG v0 (ki 2)) v1))))
  (ah (et (ax (ai FP v2 v3)) (aJ (ki 0)) bz)
  (aJ (Aj (ax (ai bL v2 v3)) (ki 1) (ki 2)))))
abbrev q9:Stmt:=top 33
abbrev sf:List Str:=["program","scene","frame","choice"]
def yU:ao ["program","scene","frame","choice","row","sort","lock"] sf (ag q9):=by walk_at "s"
def wZ:Rc "lot_done" q9:=by ac_nf
def iC:Fn:=fq 7
  (ah (aL 4 (aj bZ (a2 v0 v2)))
  (ah (aL 5 (ai aG v4 (ki 0)))
  (ah (et (ax (ai bL v5 (ks "by"))) (aJ (aj cW (a2 v4 (aj cV (a2 v0 v2))))) bz)
  (ah (et (ax (ai bL v5 (ks "either"))) (aJ v3) bz)
  (ah (et (ax (ai bL v5 (ks "again"))) (aJ (Aj (ax (ai bL v3 (ki 1))) (ki 0) (eK .bo))) bz)
  (ah (et (ax (ai bL v5 (ks "ask"))) (ah (aL 6 (ai aG (aj cX (a2 v0 v2)) (ki 0)))
  (aJ (Aj (ax (ai qi (aj fK (a2 v1 v6)) (eK .bo))) (ki 0) (ki 1)))) bz)
  (aJ (Aj (ax (ai yz v5 (aj aH (a2 (ks "within") (ks "all"))))) (ki 0) (eK .bo)))))))))
abbrev Dk:Stmt:=top 34
abbrev DF:List Str:=["sort","lot"]
def G5:ao ["sort","lot"] DF (ag Dk):=by walk_at "s"
def EW:Rc "takes" Dk:=by ac_nf
def qN:Fn:=fq 2
  (aJ (oM (ai yz v0 (eK (.tup [.str "within",.str "all",.str "ask"]))) (ai bL v1 (ki 0))))
abbrev uW:Stmt:=top 35
abbrev vq:List Str:=["program","scene","hand","choice"]
def Bl:ao ["program","scene","hand","choice","frames","held","deed","numbers","path","row","lot"] vq (ag uW):=by walk_at "s"
def zh:Rc "gone_on" uW:=by ac_nf
def cn:Fn:=fq 11
  (ah (en (ai aG v1 v2) (gT 2 (av (gN 4) (av (gN 5) bU))))
  (ah (en (ai aG v4 (kG dB (ki 1))) (gT 3 (av (gN 6) (av (gN 7) (av (gN 8) bU)))))
  (ah (aL 9 (aj bZ (a2 v0 (ai aG v4 (kG dB (ki 1))))))
  (ah (et (ax (ai qi v9 (eK .bo))) (aJ (aj aH (a2 (ai aQ (kd v4 AN (AO (kG dB (ki 1)))) (aj aH (a1 (aj aH (a3 v6 v7 (aj gb (a1 (kd v8 AN (AO (kG dB (ki 2))))))))))) (kd v5 AN (AO (kG dB (ki 1))))))) bz)
  (ah (et (ax (ai bL (ai aG v9 (ki 0)) (ks "call"))) (aJ (aj aH (a2 (ai aQ v4 (aj aH (a1 (aj dY (a2 v0 (ai aG v4 (kG dB (ki 1)))))))) v5))) bz)
  (ah (aL 10 (aj iC (a4 v0 v1 (ai aG v4 (kG dB (ki 1))) v3)))
  (ah (aL 8 (Aj (ax (ai qi v10 (eK .bo))) (aj gb (a1 v8)) (ai aQ v8 (aj aH (a2 v10 (ki 0))))))
  (ah (et (fN (aj qN (a2 (ai aG v9 (ki 0)) v10))) (aL 5 (ai aQ v5 (aj aH (a1 (aj cX (a2 v0 (ai aG v4 (kG dB (ki 1))))))))) bz)
  (aJ (aj aH (a2 (ai aQ (kd v4 AN (AO (kG dB (ki 1)))) (aj aH (a1 (aj aH (a3 v6 v7 v8))))) v5)))))))))))
abbrev iJ:Stmt:=top 17
abbrev iM:List Str:=["row","lot"]
def n6:ao ["row","lot"] iM (ag iJ):=by walk_at "s"
def lT:Rc "stands_at_end" iJ:=by ac_nf
def di:Fn:=fq 2
  (aJ (Vp (ai yz (ai aG v0 (ki 0)) (aj aH (a2 (ks "within") (ks "all")))) (oM (ai bL (ai aG v0 (ki 0)) (ks "ask")) (ai bL v1 (ki 0)))))
abbrev lH:Stmt:=top 18
abbrev lY:List Str:=["rows","path"]
def tT:ao ["rows","path","around","row"] lY (ag lH):=by walk_at "s"
def rG:Rc "path_stood" lH:=by ac_nf
def fF:Fn:=fq 4
  (ah (eW (ax (ai qi (aj hZ (a2 v0 v1)) (eK .bo))) (ah (et (ax (ai bL (aj bR (a1 v1)) (ki 1))) (aJ (eK .bo)) bz)
  (ah (aL 2 (kd v1 AN (AO (kG dB (ki 2)))))
  (ah (aL 3 (aj hZ (a2 v0 v2)))
  (ah (et (fN (aj di (a2 v3 (ai aG v1 (kG dB (ki 2)))))) (aJ v1) bz)
  (aL 1 (Aj (ax (ai bL (ai aG v3 (ki 0)) (ks "again"))) v2 (aj gb (a1 v2)))))))) 1000000)
  (aJ v1))
abbrev ja:Stmt:=top 19
abbrev jl:List Str:=["program","frames"]
def iH:ao ["program","frames","left","deed","numbers","path"] jl (ag ja):=by walk_at "s"
def oj:Rc "frames_stood" ja:=by ac_nf
def cO:Fn:=Kc 6
  (ah (aL 2 (D4 (Ek (a1 v1))))
  (ah (eW (fN v2) (ah (en (eM dN Fp v2 aT) (gT 3 (av (gN 3) (av (gN 4) (av (gN 5) bU)))))
  (ah (aL 5 (aj fF (a2 (aj hY (a2 v0 v3)) v5)))
  (ah (et (ax (ai mW v5 (eK .bo))) (ah (gp (eM dN b9 v2 (a1 (aj aH (a3 v3 v4 v5)))))
  N7) bz)
  (et (fN v2) (ah (en (eM dN Fp v2 aT) (gT 3 (av (gN 3) (av (gN 4) (av (gN 5) bU)))))
  (gp (eM dN b9 v2 (a1 (aj aH (a3 v3 v4 (aj gb (a1 v5)))))))) bz)))) 1000000)
  (aJ (aj bH (a1 v2)))))
abbrev i8:Stmt:=top 37
abbrev jj:List Str:=["program","scene","move"]
def pQ:ao ["program","scene","move","hand","choice","frames","held"] jj (ag i8):=by walk_at "s"
def og:Rc "scene_behind" i8:=by ac_nf
def bS:Fn:=fq 7
  (ah (en v2 (gT 2 (av (gN 3) (av (gN 4) bU))))
  (ah (en (aj cn (a4 v0 v1 v3 v4)) (gT 2 (av (gN 5) (av (gN 6) bU))))
  (aJ (ai aQ (ai aQ (kd v1 AN (AO v3)) (aj aH (a1 (aj aH (a2 (aj cO (a2 v0 v5)) v6))))) (kd v1 (AO (ai aQ v3 (ki 1))) AN)))))
abbrev uR:Stmt:=top 38
abbrev vj:List Str:=["program","scene","move"]
def Bh:ao ["program","scene","move"] vj (ag uR):=by walk_at "s"
def zc:Rc "stepped" uR:=by ac_nf
def eI:Fn:=fq 3
  (ah (et (pP (fN (aj nP (a3 v0 v1 v2)))) Hb bz)
  (aJ (aj aH (a2 (aj bS (a3 v0 v1 v2)) (aj iE (a3 v0 v1 (ai aG v2 (ki 0))))))))
abbrev fg:Stmt:=top 63
abbrev fk:List Str:=["_law_program_here","_law_first","_law_most"]
def cI:ao ["_law_program_here","_law_first","_law_most","_law_scenes","_law_ways","_law_at","_law_move","_law_other"] fk (ag fg):=by walk_at "s"
def iV:Rc "_law_gone_through" fg:=by ac_nf
def c8:Fn:=fq 8
  (ah (Bn 3 4 (a2 (D4 (a1 v1)) (xY v1 (aj aH aT))))
  (ah (aL 5 (ki 0))
  (ah (eW (iU (ax (ai FP v5 (aj bR (a1 v3)))) (ax (ai L4 (aj bR (a1 v3)) v2))) (ah (j9 (gY (aj jZ (a2 v0 (ai aG v3 v5)))) (gN 6) (ah (aL 7 (ai aG (aj eI (a3 v0 (ai aG v3 v5) v6)) (ki 0)))
  (et (ax (ai mX v7 v4)) (ah (en (ai aQ (ai I9 v4 (ai aG v3 v5)) (aj aH (a1 v6))) (DT v4 v7))
  (gp (eM dN b9 v3 (a1 v7)))) bz)))
  (aL 5 (ai aQ v5 (ki 1)))) 300)
  (aJ (aj aH (a2 v3 v4))))))
abbrev Dm:Stmt:=top 20
abbrev DH:List Str:=["program","town"]
def G8:ao ["program","town","numbers_of","scene","deed","numbers","frame"] DH (ag Dm):=by walk_at "s"
def EY:Rc "begun" Dm:=by ac_nf
def gF:Fn:=Kc 7
  (ah (aL 2 (aj cP (a1 v0)))
  (ah (aL 3 (D4 aT))
  (ah (j9 (gY v1) (gT 2 (av (gN 4) (av (gN 5) bU))) (ah (aL 6 (aj aH (a3 (ai aG v2 v4) v5 (aj aH (a1 (ki 0))))))
  (gp (eM dN b9 v3 (a1 (aj aH (a2 (aj cO (a2 v0 (aj aH (a1 v6)))) (aj aH aT))))))))
  (aJ (aj bH (a1 v3))))))
abbrev uT:Stmt:=top 40
abbrev vn:List Str:=["program","scene","most","able"]
def kP:ao ["program","scene","most","able","found","ahead","at","here","move","there"] vn (ag uT):=by walk_at "s"
def ze:Rc "reached" uT:=by ac_nf
def oV:Fn:=fq 10
  (ah (aL 4 (xY v1 (eK .bo)))
  (ah (aL 5 (D4 (a1 v1)))
  (ah (aL 6 (ki 0))
  (ah (eW (iU (ax (ai FP v6 (aj bR (a1 v5)))) (ax (ai L4 (aj bR (a1 v5)) v2))) (ah (aL 7 (ai aG v5 v6))
  (ah (j9 (gY (sR 3 [("moves",jZ)] (a2 v0 v7))) (gN 8) (ah (aL 9 (aj bS (a3 v0 v7 v8)))
  (et (ax (ai mX v9 v4)) (ah (en (aj aH (a2 v7 v8)) (DT v4 v9))
  (gp (eM dN b9 v5 (a1 v9)))) bz)))
  (N8 6 So (ki 1)))) 300)
  (aJ (Aj (ax (ai L4 (aj I0 (a1 v4)) v2)) v4 (eK .bo)))))))
abbrev Ha:Stmt:=top 43
abbrev Ic:List Str:=["program","town","most"]
def Di:ao ["program","town","most","found"] Ic (ag Ha):=by walk_at "s"
def Hk:Rc "book" Ha:=by ac_nf
def tI:Fn:=Kc 4
  (ah (aL 3 (aj oV (a4 v0 (aj gF (a2 v0 v1)) v2 (eK (.fn "moves")))))
  (aJ (Aj (ax (ai qi v3 (eK .bo))) (eK (.tup [.str "open",.bo])) (aj aH (a2 (ks "all") (aj IU (a1 v3)))))))
abbrev oZ:Stmt:=top 61
abbrev jo:List Str:=["_law_one","_law_two"]
def wN:ao ["_law_one","_law_two"] jo (ag oZ):=by walk_at "s"
def kz:Rc "_law_same" oZ:=by ac_nf
def cu:Nat->Fn
 | 0=>λ_ _=>none
 | n+1=>fq 2
  (ah (et (fN (aj mZ (a2 v1 (eK (.ty "tuple"))))) (ah (et (Gz (pP (fN (aj mZ (a2 v0 (eK (.ty "tuple")))))) (ax (ai qh (aj bR (a1 v0)) (aj bR (a1 v1))))) (aJ (eK (.bl false))) bz)
  (aJ (aj PR (a1 (iq (dR [none,none] (PD (a2 v0 v1)) (gT 2 (av (gN 0) (av (gN 1) bU))) cb (aj (cu n) (a2 v0 v1)))))))) bz)
  (ah (et (ax (ai qi v1 (eK .bo))) (aJ (ai qi v0 (eK .bo))) bz)
  (ah (et (fN (aj mZ (a2 v1 (eK (.ty "str"))))) (aJ (oM (aj mZ (a2 v0 (eK (.ty "str")))) (ai bL v0 v1))) bz)
  (ah (et (fN (aj mZ (a2 v1 (eK (.ty "bool"))))) (aJ (oM (aj mZ (a2 v0 (eK (.ty "bool")))) (ai bL v0 v1))) bz)
  (aJ (oM (aj mZ (a2 v0 (eK (.ty "int")))) (oM (Ma (aj mZ (a2 v0 (eK (.ty "bool"))))) (ai bL v0 v1))))))))
abbrev lO:Stmt:=top 64
abbrev mm:List Str:=["_law_program_here","_law_town_here","_law_most","_law_scenes"]
def tX:ao ["_law_program_here","_law_town_here","_law_most","_law_scenes","_law_due"] mm (ag lO):=by walk_at "s"
def rO:Rc "_law_right" lO:=by ac_nf
def fG:Fn:=fq 5
  (ah (aL 4 (aj aH (a2 (ks "open") (eK .bo))))
  (ah (et (ax (ai L4 (aj bR (a1 v3)) v2)) (aL 4 (aj aH (a2 (ks "all") (aj bH (a1 v3))))) bz)
  (aJ (oM (aj (cu 8) (a2 (aj tI (a3 v0 v1 v2)) v4)) (ai bL (aj tI (a3 v0 v1 v2)) v4)))))
abbrev lK:Stmt:=top 65
abbrev M5:List Str:=["_law_script"]
def G7:ao ["_law_script","_law_state","_law_k","_law_program_here","_law_town_here","_law_scenes","_law_ways","_law_some","_law_most"] M5 (ag lK):=by walk_at "s"
def KJ:Rc "law" lK:=by ac_nf
def AL:Fn:=fq 9
  (ah (aL 1 (aj fH (a1 v0)))
  (ah (j9 (mJ (a1 (ki 3))) (gN 2) (ah (en (aj pO (a1 v1)) (gT 2 (av (gN 3) (av (gN 4) bU))))
  (ah (en (aj c8 (a3 v3 (aj gF (a2 v3 v4)) (ki 120))) (gT 2 (av (gN 5) (av (gN 6) bU))))
  (ah (aL 7 (iq (a2 (ki 1) (ai aQ (ki 1) (aj aM (a2 v1 (ki 120)))))))
  (ah (et (ax (ai L4 (aj bR (a1 v5)) (ki 120))) (aL 7 (ai aQ v7 (iq (a3 (aj bR (a1 v5)) (ai uB (aj bR (a1 v5)) (ki 1)) (ai IX (ki 10) (ki 9)))))) bz)
  (j9 (gY v7) (gN 8) (et (iU (ax (ai Gh v8 (ki 0))) (pP (fN (aj fG (a4 v3 v4 v8 v5))))) (aJ (eK (.bl false))) bz)))))))
  (aJ (eK (.bl true)))))
structure Cc where
 l:PySem.W.OpenLaw
 w:World
 h:Heap
 mg:Str->Option Value
 base:Heap
section
variable (c:Cc)
abbrev nJ:Prop:=Df c.l.prog c.w (Hd.aF c.h) c.mg c.base "_law_drawn" 1 mn 1 fH
abbrev pL:Prop:=Df c.l.prog c.w (Hd.aF c.h) c.mg c.base "_law_load" 1 pC 1 jI
abbrev bJ:Prop:=Df c.l.prog c.w (Hd.aF c.h) c.mg c.base "_law_next" 2 pA 2 aM
abbrev cU:Prop:=Df c.l.prog c.w (Hd.aF c.h) c.mg c.base "_law_of" 3 vt 2 aI
abbrev nG:Prop:=Df c.l.prog c.w (Hd.aF c.h) c.mg c.base "_law_words" 4 mj 2 dZ
abbrev nF:Prop:=Df c.l.prog c.w (Hd.aF c.h) c.mg c.base "_law_world" 5 mh 3 iF
abbrev gP:Prop:=Df c.l.prog c.w (Hd.aF c.h) c.mg c.base "_law_is_odd" 3 kC 2 de
abbrev gD:Prop:=Df c.l.prog c.w (Hd.aF c.h) c.mg c.base "_law_term" 4 pv 2 bK
abbrev pN:Prop:=Df c.l.prog c.w (Hd.aF c.h) c.mg c.base "_law_call" 5 pE 4 gG
abbrev pK:Prop:=Df c.l.prog c.w (Hd.aF c.h) c.mg c.base "_law_lock" 5 pB 5 eS
abbrev CM:Prop:=Df c.l.prog c.w (Hd.aF c.h) c.mg c.base "_law_lot" 26 kU 7 (bw 20)
abbrev Qw:Prop:=Df c.l.prog c.w (Hd.aF c.h) c.mg c.base "_law_row" 26 kT 6 (gc 20)
abbrev Ke:Prop:=Df c.l.prog c.w (Hd.aF c.h) c.mg c.base "_law_locked" 26 gJ 7 (dc 20)
abbrev Gi:Prop:=Df c.l.prog c.w (Hd.aF c.h) c.mg c.base "_law_two_ways" 26 eY 6 (cB 20)
abbrev jG:Prop:=Df c.l.prog c.w (Hd.aF c.h) c.mg c.base "_law_program" 27 jq 3 gd
abbrev pJ:Prop:=Df c.l.prog c.w (Hd.aF c.h) c.mg c.base "_law_town" 4 pj 3 jH
abbrev pM:Prop:=Df c.l.prog c.w (Hd.aF c.h) c.mg c.base "_law_case" 28 pD 1 pO
abbrev wg:Prop:=Df c.l.prog c.w (Hd.aF c.h) c.mg c.base "lots_of" 1 vo 1 j6
abbrev AF:Prop:=Df c.l.prog c.w (Hd.aF c.h) c.mg c.base "lot_on" 2 zw 2 nO
abbrev tu:Prop:=Df c.l.prog c.w (Hd.aF c.h) c.mg c.base "row_on" 3 zu 2 hZ
abbrev oQ:Prop:=Df c.l.prog c.w (Hd.aF c.h) c.mg c.base "rows_in" 1 vm 2 hY
abbrev cN:Prop:=Df c.l.prog c.w (Hd.aF c.h) c.mg c.base "row_here" 4 se 2 bZ
abbrev jE:Prop:=Df c.l.prog c.w (Hd.aF c.h) c.mg c.base "row_stood_at" 5 jk 3 dX
abbrev tx:Prop:=Df c.l.prog c.w (Hd.aF c.h) c.mg c.base "locks_of" 1 sg 1 iD
abbrev fD:Prop:=Df c.l.prog c.w (Hd.aF c.h) c.mg c.base "numbers_in" 1 lZ 2 cV
abbrev iz:Prop:=Df c.l.prog c.w (Hd.aF c.h) c.mg c.base "value_of" 1 r8 2 bE
abbrev fE:Prop:=Df c.l.prog c.w (Hd.aF c.h) c.mg c.base "locks_told" 5 l9 2 cX
abbrev oR:Prop:=Df c.l.prog c.w (Hd.aF c.h) c.mg c.base "held_by" 1 vp 2 fK
abbrev El:Prop:=Df c.l.prog c.w (Hd.aF c.h) c.mg c.base "waits" 6 DE 3 nN
abbrev iA:Prop:=Df c.l.prog c.w (Hd.aF c.h) c.mg c.base "choices_of" 7 md 3 bj
abbrev qM:Prop:=Df c.l.prog c.w (Hd.aF c.h) c.mg c.base "moves" 8 DG 2 jZ
abbrev tD:Prop:=Df c.l.prog c.w (Hd.aF c.h) c.mg c.base "is_whole" 1 sh 1 lj
abbrev kI:Prop:=Df c.l.prog c.w (Hd.aF c.h) c.mg c.base "is_tuple_of" 1 kB 2 kJ
abbrev AG:Prop:=Df c.l.prog c.w (Hd.aF c.h) c.mg c.base "can_be" 8 zx 3 nP
abbrev tE:Prop:=Df c.l.prog c.w (Hd.aF c.h) c.mg c.base "event_of" 5 si 3 iE
abbrev nE:Prop:=Df c.l.prog c.w (Hd.aF c.h) c.mg c.base "behind" 1 zy 1 gb
abbrev f7:Prop:=Df c.l.prog c.w (Hd.aF c.h) c.mg c.base "deed_numbers" 1 jn 1 cP
abbrev jF:Prop:=Df c.l.prog c.w (Hd.aF c.h) c.mg c.base "frame_called" 5 jm 2 dY
abbrev hV:Prop:=Df c.l.prog c.w (Hd.aF c.h) c.mg c.base "lot_by_numbers" 2 gU 2 cW
abbrev tw:Prop:=Df c.l.prog c.w (Hd.aF c.h) c.mg c.base "lot_done" 6 sf 4 iC
abbrev Em:Prop:=Df c.l.prog c.w (Hd.aF c.h) c.mg c.base "takes" 1 DF 2 qN
abbrev wj:Prop:=Df c.l.prog c.w (Hd.aF c.h) c.mg c.base "gone_on" 7 vq 4 cn
abbrev iS:Prop:=Df c.l.prog c.w (Hd.aF c.h) c.mg c.base "stands_at_end" 1 iM 2 di
abbrev nD:Prop:=Df c.l.prog c.w (Hd.aF c.h) c.mg c.base "path_stood" 4 lY 2 fF
abbrev f6:Prop:=Df c.l.prog c.w (Hd.aF c.h) c.mg c.base "frames_stood" 5 jl 2 cO
abbrev fZ:Prop:=Df c.l.prog c.w (Hd.aF c.h) c.mg c.base "scene_behind" 8 jj 3 bS
abbrev wc:Prop:=Df c.l.prog c.w (Hd.aF c.h) c.mg c.base "stepped" 9 vj 3 eI
abbrev fu:Prop:=Df c.l.prog c.w (Hd.aF c.h) c.mg c.base "_law_gone_through" 10 fk 3 c8
abbrev yw:Prop:=Df c.l.prog c.w (Hd.aF c.h) c.mg c.base "begun" 6 DH 2 gF
abbrev we:Prop:=Df c.l.prog c.w (Hd.aF c.h) c.mg c.base "reached" 9 vn 4 oV
abbrev JP:Prop:=Df c.l.prog c.w (Hd.aF c.h) c.mg c.base "book" 10 Ic 3 tI
abbrev AH:Prop:=Df c.l.prog c.w (Hd.aF c.h) c.mg c.base "_law_same" 9 jo 2 (cu 8)
abbrev nI:Prop:=Df c.l.prog c.w (Hd.aF c.h) c.mg c.base "_law_right" 11 mm 4 fG
end
section
variable {c:Cc} {mb:Str->Option Value} {mean:ExcName->Option Value} (T:Top view (PySem.W.looseW view (["SHAPES","TOO_MANY"]:List Str)) mean c.mg mb c.h) (B:Bs c.l.prog c.w (Hd.aF c.h) c.mg)
include T B
theorem uq:nJ c:=Hd.aP T rP λF _ _ _=>
 (ar F tY λ_ _ _ _ _ _ hr _=>by walk_at "v";with_reducible exact(aE (aY (qo.ob (fR (aa bc (aa (qo.ob (Dh (by unfold Gl;ac_nf) B.CG yl ∅ (ae aB))) ∅)) (ae (ae (ae aB))))))))
theorem xx:pL c:=Hd.aP T t8 λF _ _ _=>
 (ar F ig λ_ _ _ _ _ _ hr _=>by walk_at "v";with_reducible exact(ab ∅
   (ab ∅
   (ab (fO ∅ (n5 hr.units (sv 0) bc))
   (ab ∅
   (ab ∅
   (aE (cE (SW.st (GD ∅ (CW (nZ M8 ∅ (bN BK bc bc) (sr _))))) (aE (fO ∅ (n5 hr.units (sv 0) bc))) (ab (sset 4 ig.nd (bN sj (bN il (bN cT (bN cT ∅ (bN il (bN il bc (sv 2)) (sv 2))) bc) bc) bc))
   (ab (sset 4 ig.nd (bN sj (bN il (sv 4) (sv 4)) bc))
   (aE (fO (bN cT (bN sj (bN cT (bN cT (bN il (sv 4) bc) (sv 2)) bc) bc) (bN BK bc bc)) (n5 hr.units (sv 0) bc)))))))))))))
theorem xv(a:pL c):bJ c:=Hd.aP T t6 λF _ _ _=>
 (ar F wO λ_ _ _ _ _ _ hr _=>by walk_at "v";with_reducible exact(ab ∅
   (ab ∅
   (ab (fO (bN O1 ∅ (sv 1)) (n5 hr.units (sv 0) bc))
   ∅))))
theorem BS(a:bJ c):cU c:=Hd.aP T zi λF _ _ _=>
 (ar F Bm λ_ _ _ _ _ _ hr _=>by walk_at "u")
theorem um(a:cU c)(b:bJ c):nG c:=Hd.aP T rN λF _ _ _=>
 (ar F kl λ_ _ _ _ _ _ hr _=>by walk_at "v";with_reducible exact(ab ∅
   (ab ∅
   (ab (eX Xz rfl (cC (by unfold Gl;ac_nf) B.dh (aa (gm a hr (aa (sv 0) (aa (cF 9 (by ac_nf)) ak))) ak) (hl:=(ae aB))) ∅ ∅)
   (ab ∅
   (ab ∅
   (ab (sset 7 kl.nd (gm a hr (aa (sv 0) (aa (cF 9 (by ac_nf)) ak))))
   (aE (aY (fv (N':=["_law_k","_law_at","_law_first","_law_letters","_law_stem","_law_stride"]) (caps:=[none,some 5,some 6,some 2,some 3,some 7]) (a9 (by ac_nf)) rfl (cC (by unfold Gl;ac_nf) B.dh ∅ (hl:=(ae aB))) (λ_ _ _ _ _=>(sgn 0 (by show(["_law_k","_law_at","_law_first","_law_letters","_law_stem","_law_stride"]:List Str).Nodup;decide+kernel))) (λ_ _ _ _ _=>cv) (λ_ _ _ _ _=>(bN cT (bN cT ∅ (six hr (sv 3) (bN sj (bN cT (sv 2) (bN il (sv 5) (sv 0))) bc))) ∅))))))))))))
theorem uh(b:nG c)(a:cU c)(e:bJ c):nF c:=Hd.aP T rL λF _ _ _=>
 (ar F cD λ_ _ _ _ _ _ hr _=>by walk_at "v";with_reducible exact(ab (sset 3 cD.nd (gm b hr (aa (sv 0) (aa (gm a hr (aa (sv 0) (aa (cF 9 (by ac_nf)) ak))) ak))))
   (ab (sset 4 cD.nd (gm b hr (aa (sv 0) (aa (gm a hr (aa (sv 0) (aa (cF 9 (by ac_nf)) ak))) ak))))
   (ab ∅
   (ab (jN (i:=6) cD.nd (by ac_nf) (by ac_nf) (N':=["_law_deed","_law_state"]) (caps:=[none,some 0]) (a9 (by ac_nf)) rfl (fP (sv 4)) (λ_ _ _ _ _=>(sgn 0 (by show(["_law_deed","_law_state"]:List Str).Nodup;decide+kernel))) (λ_ _ _ _ _=>cv) (λ_ _ _ _ _=>(gm a hr (aa (sv 1) (aa (cF 9 (by ac_nf)) ak)))))
   (ab (sset 7 cD.nd (uQ Jn B.tj vU (aa (fv (N':=["_law_deed","_law_names","_law_state"]) (caps:=[none,some 3,some 0]) (a9 (by ac_nf)) rfl (fP (sv 4)) (λ_ _ _ _ _=>(sgn 0 (by show(["_law_deed","_law_names","_law_state"]:List Str).Nodup;decide+kernel))) (λ_ _ _ _ _=>cv) (λ_ _ _ _ _=>∅)) ak)))
   (ab (sset 5 cD.nd (fv (N':=["_law_k","_law_params"]) (caps:=[none,some 5]) (a9 (by ac_nf)) rfl (fP (sv 6)) (λ_ _ _ _ _=>(sgn 0 (by show(["_law_k","_law_params"]:List Str).Nodup;decide+kernel))) (λ_ _ _ _ _=>cv) (λ_ _ _ _ _=>∅)))
   (aE (aY (GW (jO cy (sv 3) (jO cy (sv 4) (jO cy (sv 5) (jO cy (sv 7) (jO cy (sv 1) (jO cy (sv 2) NT)))))) (by ac_nf) (by ac_nf) (by simp) λd h=>Lj h (by ac_nf) (by ac_nf) (by simp) (by decide)))))))))))
theorem so(a:bJ c):gP c:=Hd.aP T pV λF _ _ _=>
 (ar F qZ λ_ _ _ _ _ _ hr _=>by walk_at "v";with_reducible exact(aE (aY (fT ∅ (fS ∅)))))
theorem xt(b:bJ c)(a:cU c):gD c:=Hd.aP T t5 λF _ _ _=>
 (ar F wM λ_ _ _ _ _ _ hr _=>by walk_at "v";with_reducible exact(ab ∅
   (ab (cE ∅ (aE (aY (cw (aa ∅ (aa (gm a hr (aa (sv 0) (aa (qo.lv (fR ∅ (ae (ae (ae (ae (ae (ae (ae (ae (ae aB))))))))))) ak))) ak)) (ae (ae aB))))) bM)
   ∅)))
theorem xA(b:gP c)(d:cU c)(a:gD c):pN c:=Hd.aP T ua λF _ _ _=>
 (ar F fw λ_ _ _ _ _ _ hr _=>by walk_at "v";with_reducible exact(ab (jN (i:=4) fw.nd (by ac_nf) (by ac_nf) (N':=["_law_k","_law_deed","_law_top","_law_world_here"]) (caps:=[none,some 2,some 3,some 1]) (a9 (by ac_nf)) rfl (cC (by unfold Gl;ac_nf) B.dh ∅ (hl:=(ae aB))) (λ_ _ _ _ _=>(sgn 0 (by show(["_law_k","_law_deed","_law_top","_law_world_here"]:List Str).Nodup;decide+kernel))) (λ_ _ _ _ _=>(qv ∅)) (λ_ _ _ _ _=>(sv 0)))
   (ab (cE ∅ (aE (sset 4 fw.nd (qo.lv (EG rfl (by unfold Gl;ac_nf) B.CG (by unfold Gl;ac_nf) B.dh yl ∅)))) bM)
   (ab ∅
   (ab ∅
   (ab (jN (i:=6) fw.nd (by ac_nf) (by ac_nf) (N':=["_law_one","_law_deed","_law_state","_law_world_here"]) (caps:=[none,some 2,some 0,some 1]) (a9 (by ac_nf)) rfl ∅ (λ_ _ _ _ _=>(sgn 0 (by show(["_law_one","_law_deed","_law_state","_law_world_here"]:List Str).Nodup;decide+kernel))) (λ_ _ _ _ _=>cv) (λ_ _ _ _ _=>∅))
   ∅))))))
theorem xw(d:bJ c)(b:gP c)(a:gD c):pK c:=Hd.aP T t7 λF _ _ _=>
 (ar F lF λ_ _ _ _ _ _ hr _=>by walk_at "v";with_reducible exact(ab ∅
   (ab ∅
   (ab ∅
   (ab ∅
   (ab ∅
   (ab (jN (i:=8) lF.nd (by ac_nf) (by ac_nf) (N':=["_law_lock_here","_law_name"]) (caps:=[none,some 7]) (a9 (by ac_nf)) rfl (fP (sv 4)) (λ_ _ _ _ _=>(sgn 0 (by show(["_law_lock_here","_law_name"]:List Str).Nodup;decide+kernel))) (λ_ _ _ _ _=>(qv ∅)) (λ_ _ _ _ _=>∅))
   ∅)))))))
theorem DI(f:bJ c)(d:cU c)(g:pN c)(b:gD c)(e:pK c):∀n,Df c.l.prog c.w (Hd.aF c.h) c.mg c.base "_law_lot" (6+n) kU 7 (bw n)/\Df c.l.prog c.w (Hd.aF c.h) c.mg c.base "_law_row" (6+n) kT 6 (gc n)/\Df c.l.prog c.w (Hd.aF c.h) c.mg c.base "_law_locked" (6+n) gJ 7 (dc n)/\Df c.l.prog c.w (Hd.aF c.h) c.mg c.base "_law_two_ways" (6+n) eY 6 (cB n)
 | 0=>⟨Hd.aP T lW λ_ _ _ _=>mB,Hd.aP T lV λ_ _ _ _=>mB,Hd.aP T iL λ_ _ _ _=>mB,Hd.aP T gr λ_ _ _ _=>mB⟩
 | n+1=>by
  obtain⟨a,j,k,m⟩:=DI f d g b e n;refine⟨?_,?_,?_,?_⟩
  ·exact Hd.aP T lW λF _ _ _=>eQ (ar F yY λ_ _ _ _ _ _ hr _=>by walk_at "v";with_reducible exact(ab ∅
   (ab (eX Xz rfl (cC (by unfold Gl;ac_nf) B.dh (aa (gm f hr (aa (sv 0) (aa (bN cT (gm d hr (aa (sv 0) (aa (bN cT (bN Ig ∅ bc) ∅) ak)) (WL (by decide) (Xn _ _))) bc) ak)) (WL (by decide) (Xn _ _))) ak) (hl:=(ae aB))) ∅ (aE (cE ∅ (ab (fO ∅ (n5 hr.units (sv 1) cy))
   (aE (qu (KC (isT:=dN) qQ ZP Zf ZH jT (sv 7) (aa (gm j hr ∅ (WB _)) ak))))) bM)))
   ∅)))
  ·exact Hd.aP T lV λF _ _ _=>(ar F cG λ_ _ _ _ _ _ hr _=>by walk_at "v";with_reducible exact(ab (sset 6 cG.nd (gm f hr ∅ (WL (by decide) (Xn _ _))))
   (ab (cE ∅ (aE (aY (cw (aa cy (aa (gm d hr ∅ (WL (by decide) (Xn _ _))) ak)) (ae (ae aB))))) bM)
   (ab (cE ∅ (aE (aY (gm g hr ∅ (WL (by decide) (Xn _ _))))) bM)
   (ab (cE ∅ (aE (aY (gm m hr ∅ (WB _)))) bM)
   (ab (cE ∅ (ab (GK 7 8 cG.nd (ae (ae aB)) rfl (by decide) (by with_unfolding_all exact(rW rfl cG.nd rfl rfl (by decide) rfl rfl (aa (gm b hr (aa (sv 0) (aa (six hr (six hr (sv 1) cy) (sv 2)) ak)) (WL (by decide) (Xn _ _))) (aa (gm b hr (aa (sv 0) (aa (six hr (six hr (sv 1) cy) (sv 2)) ak)) (WL (by decide) (Xn _ _))) ak)) rfl)))
   (ab (jN (i:=9) cG.nd (by ac_nf) (by ac_nf) (N':=["_law_k","_law_deed","_law_deep","_law_held","_law_state","_law_top","_law_world_here"]) (caps:=[none,some 2,some 3,some 5,some 0,some 4,some 1]) (a9 (by ac_nf)) rfl (cC (by unfold Gl;ac_nf) B.dh ∅ (hl:=(ae aB))) (λ_ _ _ _ _=>(sgn 0 (by show(["_law_k","_law_deed","_law_deep","_law_held","_law_state","_law_top","_law_world_here"]:List Str).Nodup;decide+kernel))) (λ_ _ _ _ _=>cv) (λ_ _ _ _ _=>(gm a hr ∅ (WB _))))
   ∅)) bM)
   (ab (cE ∅ (ab (jN (i:=9) cG.nd (by ac_nf) (by ac_nf) (N':=["_law_k","_law_deed","_law_deep","_law_held","_law_state","_law_top","_law_world_here"]) (caps:=[none,some 2,some 3,some 5,some 0,some 4,some 1]) (a9 (by ac_nf)) rfl (cC (by unfold Gl;ac_nf) B.dh ∅ (hl:=(ae aB))) (λ_ _ _ _ _=>(sgn 0 (by show(["_law_k","_law_deed","_law_deep","_law_held","_law_state","_law_top","_law_world_here"]:List Str).Nodup;decide+kernel))) (λ_ _ _ _ _=>cv) (λ_ _ _ _ _=>(gm a hr ∅ (WB _))))
   ∅) bM)
   (ab (cE ∅ (aE (aY (cw (aa cy (aa (gm a hr ∅ (WB _)) ak)) (ae (ae aB))))) bM)
   (ab (sset 10 cG.nd (gm d hr (aa (sv 0) (aa (cF 9 (by ac_nf)) ak)) (WL (by decide) (Xn _ _))))
   (aE (aY (gm k hr ∅ (WB _)))))))))))))
  ·exact Hd.aP T iL λF _ _ _=>eQ (ar F cH λ_ _ _ _ _ _ hr _=>by walk_at "v";with_reducible exact(ab (fO (gm e hr ∅ (WL (by decide) (Xn _ _))) ∅)
   (ab ∅
   (ab (cE ∅ (ab (GK 9 10 cH.nd (ae (ae aB)) rfl (by decide) (by with_unfolding_all exact(rW rfl cH.nd rfl rfl (by decide) rfl rfl (aa (qo.ob (fR (aa (sv 8) ak) (ae aB))) (aa (sv 7) ak)) rfl)))
   (ab (eX Xz rfl (cC (by unfold Gl;ac_nf) B.dh (aa (gm d hr (aa (sv 0) (aa (cF 9 (by ac_nf)) ak)) (WL (by decide) (Xn _ _))) ak) (hl:=(ae aB))) ∅ (ab (fO (gm e hr ∅ (WL (by decide) (Xn _ _))) ∅)
   (ab ∅
   (aE (sset 9 cH.nd (qo.ob (NX (sv 9) (bN Ig ∅ ∅))))))))
   (ab (cE ∅ (aE (qu (KC (isT:=dN) qQ ZP Zf ZH jT (sv 9) (aa (cw (aa ∅ (aa (cw (aa ∅ (aa (bN Ie ∅ (bN il bc ∅)) ak)) (ae (ae aB))) ak)) (ae (ae aB))) ak)))) bM)
   (ab ∅
   (aE (aY (cw (aa cy (aa ∅ (aa (gm a hr ∅ (WB _)) ak))) (ae (ae (ae aB)))))))))) bM)
   (ab (sset 14 cH.nd (gm a hr ∅ (WB _)))
   (ab (cE ∅ (aE (aY (cw (aa cy (aa (sv 8) (aa (sv 14) (aa (gm a hr ∅ (WB _)) ak)))) (ae (ae (ae (ae aB))))))) bM)
   ∅))))))
  ·exact Hd.aP T gr λF _ _ _=>eQ (ar F cS λ_ _ _ _ _ _ hr _=>by walk_at "v";with_reducible exact(ab ∅
   (ab ∅
   (ab (cE (nZ (Ii hr.units) (fv (N':=["_law_lock_here","_law_low","_law_world_here"]) (caps:=[none,some 6,some 1]) (a9 (by ac_nf)) rfl (fP (sv 5)) (λ_ _ _ _ _=>(sgn 0 (by show(["_law_lock_here","_law_low","_law_world_here"]:List Str).Nodup;decide+kernel))) (λ_ _ _ _ _=>(qv ∅)) (λ_ _ _ _ _=>(sv 0))) ∅ (sr _)) ∅ bM)
   (ab ∅
   (ab (fO ∅ (n5 hr.units (sv 1) cy))
   (ab (GK 8 9 cS.nd (ae (ae aB)) rfl (by decide) (by with_unfolding_all exact(rW rfl cS.nd rfl rfl (by decide) rfl rfl (aa (gm b hr (aa (sv 0) (aa (six hr (six hr (sv 1) cy) (sv 2)) ak)) (WL (by decide) (Xn _ _))) (aa (gm b hr (aa (sv 0) (aa (six hr (six hr (sv 1) cy) (sv 2)) ak)) (WL (by decide) (Xn _ _))) ak)) rfl)))
   (ab ∅
   (ab (eX Xz rfl ∅ ∅ (ab (sset 13 cS.nd (gm a hr ∅ (WB _)))
   ∅))
   ∅)))))))))
theorem qa(d:nF c)(a:CM c)(b:cU c):jG c:=Hd.aP T oq λF _ _ _=>
 eQ (ar F iI λ_ _ _ _ _ _ hr _=>by walk_at "v";with_reducible exact(ab ∅
   (ab ∅
   (ab (eX Xz rfl (wI (by unfold Gl;ac_nf) B.jD ∅ (ae aB)) ∅ (ab (sset 7 iI.nd (gm a hr (aa (sv 0) (aa (sv 3) (aa (sv 5) (aa bc (aa ∅ (aa ∅ (aa (gm b hr (aa (sv 0) (aa (cF 9 (by ac_nf)) ak))) ak)))))))))
   ∅))
   (aE (aY (cw (aa (KG fX B.dQ cM (aa (uQ Jm B.tj vU ∅) ak)) ∅) (ae (ae aB)))))))))
theorem xr(b:bJ c)(a:cU c):pJ c:=Hd.aP T t4 λF _ _ _=>
 eQ (ar F wL λ_ _ _ _ _ _ hr _=>by walk_at "v";with_reducible exact(ab ∅
   (ab (eX Xz rfl (cC (by unfold Gl;ac_nf) B.dh ∅ (hl:=(ae aB))) ∅ (ab ∅
   (ab ∅
   (aE (qu (KC (isT:=dN) qQ ZP Zf ZH jT (sv 3) (aa (cw (aa (sv 5) (aa (KG fX B.dQ cM (aa (fv (N':=["_law_one","_law_far","_law_state"]) (caps:=[none,some 8,some 0]) (a9 (by ac_nf)) rfl (fP (sv 6)) (λ_ _ _ _ _=>(sgn 0 (by show(["_law_one","_law_far","_law_state"]:List Str).Nodup;decide+kernel))) (λ_ _ _ _ _=>cv) (λ_ _ _ _ _=>(gm a hr (aa (sv 2) (aa (qo.lv (fR ∅ (ae (ae (ae (ae (ae (ae (ae (ae (ae aB))))))))))) ak))))) ak)) ak)) (ae (ae aB))) ak)))))))
   ∅)))
theorem xy(d:jG c)(a:cU c)(b:pJ c):pM c:=Hd.aP T t9 λF _ _ _=>
 (ar F lG λ_ _ _ _ _ _ hr _=>by walk_at "v";with_reducible exact(ab (sset 1 lG.nd (gm d hr (aa (sv 0) (aa (gm a hr (aa (sv 0) (aa (cF 9 (by ac_nf)) ak))) (aa (gm a hr (aa (sv 0) (aa (cF 9 (by ac_nf)) ak))) ak)))))
   (aE (aY (cw (aa (sv 1) (aa (gm b hr (aa (sv 0) (aa (sv 1) (aa (gm a hr (aa (sv 0) (aa (cF 9 (by ac_nf)) ak))) ak)))) ak)) (ae (ae aB)))))))
theorem BP:wg c:=Hd.aP T zf λF _ _ _=>
 (ar F Bj λ_ _ _ _ _ _ hr _=>by walk_at "v";with_reducible exact(aE (aY (GS (sv 0) (C8 (six hr (NZ B.JQ ∅) bc)) Dc))))
theorem Fi(a:wg c):AF c:=Hd.aP T Bx λF _ _ _=>
 (ar F EN λ_ _ _ _ _ _ hr _=>by walk_at "v";with_reducible exact(ab ∅
   (ab (eX Xz rfl (EF (by unfold Gl;ac_nf) B.dh ∅ (hl:=(ae (ae (ae aB))))) ∅ ∅)
   ∅)))
theorem Fh(a:AF c):tu c:=Hd.aP T Bw λF _ _ _=>
 (ar F EL λ_ _ _ _ _ _ hr _=>by walk_at "u")
theorem BN:oQ c:=Hd.aP T zd λF _ _ _=>
 (ar F Bi λ_ _ _ _ _ _ hr _=>by walk_at "u")
theorem zB(a:tu c)(b:oQ c):cN c:=Hd.aP T wY λF _ _ _=>
 (ar F yT λ_ _ _ _ _ _ hr _=>by walk_at "u")
theorem p6(a:cN c):jE c:=Hd.aP T oh λF _ _ _=>
 (ar F pR λ_ _ _ _ _ _ hr _=>by walk_at "u")
theorem zD:tx c:=Hd.aP T w5 λF _ _ _=>
 (ar F yV λ_ _ _ _ _ _ hr _=>by walk_at "u")
theorem ue:fD c:=Hd.aP T rH λF _ _ _=>
 (ar F tU λ_ _ _ _ _ _ hr _=>by walk_at "v";with_reducible exact(ab ∅
   (aE (aY (GX rfl (by unfold Gl;ac_nf) B.Qq Mp (by unfold Gl;ac_nf) B.Ni ∅ (ae (ae aB)))))))
theorem zA:iz c:=Hd.aP T wX λF _ _ _=>
 (ar F yS λ_ _ _ _ _ _ hr _=>by walk_at "u")
theorem uf(d:tx c)(a:cN c)(b:fD c)(d2:iz c):fE c:=Hd.aP T rJ λF _ _ _=>
 (ar F tV λ_ _ _ _ _ _ hr _=>by walk_at "v";with_reducible exact(ab ∅
   (ab ∅
   (aE (aY (KG fX B.dQ cM (aa (EI (N':=["name","term","numbers"]) (caps:=[none,none,some 3]) (a9 (by ac_nf)) rfl (by unfold Gl;ac_nf) B.tj hr.units (fP (sv 2)) (λ_ _ _ _ _=>(wJ rfl (fQ (sgn 0 (by show(["name","term","numbers"]:List Str).Nodup;decide+kernel)) (fQ (sgn 1 (by show(["name","term","numbers"]:List Str).Nodup;decide+kernel)) qw)))) (λ_ _ _ _ _=>cv) (λ_ _ _ _ _=>∅)) ak)))))))
theorem BQ:oR c:=Hd.aP T zg λF _ _ _=>
 (ar F Bk λ_ _ _ _ _ _ hr _=>by walk_at "v";with_reducible exact(ab (eX Xz rfl (wI (by unfold Gl;ac_nf) B.jD ∅ (ae aB)) ∅ (aE (cE (kM (uQ (P2 rfl) B.Ta Qm (aa (fv (N':=["block","lock"]) (caps:=[none,some 1]) (a9 (by ac_nf)) rfl (fP (sv 4)) (λ_ _ _ _ _=>(sgn 0 (by show(["block","lock"]:List Str).Nodup;decide+kernel))) (λ_ _ _ _ _=>cv) (λ_ _ _ _ _=>∅)) ak))) ∅ bM)))
   ∅))
theorem Io(d:jE c)(a:fE c)(b:oR c):El c:=Hd.aP T EV λF _ _ _=>
 (ar F G4 λ_ _ _ _ _ _ hr _=>by walk_at "v";with_reducible exact(ab ∅
   (ab ∅
   (aE (aY (KG fX B.dQ cM (aa (fv (N':=["lock","scene"]) (caps:=[none,some 1]) (a9 (by ac_nf)) rfl ∅ (λ_ _ _ _ _=>(sgn 0 (by show(["lock","scene"]:List Str).Nodup;decide+kernel))) (λ_ _ _ _ _=>(qv ∅)) (λ_ _ _ _ _=>(sv 0))) ak)))))))
theorem ug(b:cN c)(a:El c):iA c:=Hd.aP T rK λF _ _ _=>
 (ar F tW λ_ _ _ _ _ _ hr _=>by walk_at "u")
theorem Iq(a:iA c):qM c:=Hd.aP T EX λF _ _ _=>
 (ar F G6 λ_ _ _ _ _ _ hr _=>by walk_at "v";with_reducible exact(aE (aY (KG fX B.dQ cM (aa (EJ (N':=["hand","choice","program","scene"]) (caps:=[none,none,some 0,some 1]) (a9 (by ac_nf)) rfl (cC (by unfold Gl;ac_nf) B.dh ∅ (hl:=(ae aB))) (λ_ _ _ _ _=>(sgn 0 (by show(["hand","choice","program","scene"]:List Str).Nodup;decide+kernel))) (λ_ _ _ _ _=>cv) (λ_ _ _ _ _=>∅) (λ_ _ _ _ _=>(sgn 1 (by show(["hand","choice","program","scene"]:List Str).Nodup;decide+kernel))) (λ_ _ _ _ _=>cv) (λ_ _ _ _ _=>∅)) ak)))))
theorem zE:tD c:=Hd.aP T w9 λF _ _ _=>
 (ar F yW λ_ _ _ _ _ _ hr _=>by walk_at "v";with_reducible exact(aE (aY (fT (uQ fY B.bq bg (aa (sv 0) (aa (GF B.JE CC) ak))) (fS (GU (uQ fY B.bq bg (aa (sv 0) (aa (GF B.yq qJ) ak)))))))))
theorem sm:kI c:=Hd.aP T pU λF _ _ _=>
 (ar F qY λ_ _ _ _ _ _ hr _=>by walk_at "v";with_reducible exact(aE (aY (fT (uQ fY B.bq bg (aa (sv 0) (aa (GF B.dQ cM) ak))) (fS ∅)))))
theorem Fj(b:tD c)(d1:kI c)(a:iA c):AG c:=Hd.aP T By λF _ _ _=>
 (ar F EO λ_ _ _ _ _ _ hr _=>by walk_at "v";with_reducible exact(ab ∅
   (ab ∅
   (aE (aY (fT (G0 Ij M6 bc (sv 3) ∅) (fS ∅)))))))
theorem zF(a:cN c):tE c:=Hd.aP T xa λF _ _ _=>
 (ar F yX λ_ _ _ _ _ _ hr _=>by walk_at "u")
theorem Fm:nE c:=Hd.aP T Bz λF _ _ _=>
 (ar F ER λ_ _ _ _ _ _ hr _=>by walk_at "u")
theorem p9:f7 c:=Hd.aP T oo λF _ _ _=>
 (ar F pT λ_ _ _ _ _ _ hr _=>by walk_at "v";with_reducible exact(aE (aY (GY (N':=["number","deed"]) (caps:=[none,none]) (a9 (by ac_nf)) rfl (wI (by unfold Gl;ac_nf) B.jD ∅ (ae aB)) (λ_ _ _ _ _=>(wJ rfl (fQ (sgn 0 (by show(["number","deed"]:List Str).Nodup;decide+kernel)) (fQ (sgn 1 (by show(["number","deed"]:List Str).Nodup;decide+kernel)) qw)))) (λ_ _ _ _ _=>cv) (λ_ _ _ _ _=>∅) (λ_ _ _ _ _=>(sv 0))))))
theorem p8(a:cN c)(b:fD c)(d2:iz c)(d:f7 c):jF c:=Hd.aP T om λF _ _ _=>
 (ar F pS λ_ _ _ _ _ _ hr _=>by walk_at "v";with_reducible exact(ab ∅
   (ab ∅
   (aE (aY (cw (aa ∅ (aa (KG fX B.dQ cM (aa (fv (N':=["term","numbers"]) (caps:=[none,some 5]) (a9 (by ac_nf)) rfl (fP (sv 4)) (λ_ _ _ _ _=>(sgn 0 (by show(["term","numbers"]:List Str).Nodup;decide+kernel))) (λ_ _ _ _ _=>cv) (λ_ _ _ _ _=>∅)) ak)) ∅)) (ae (ae (ae aB)))))))))
theorem mr(d2:iz c):hV c:=Hd.aP T kS λF _ _ _=>
 (ar F dE λ_ _ _ _ _ _ hr _=>by walk_at "v";with_reducible exact(ab (GK 2 3 dE.nd (ae (ae aB)) rfl (by decide) (by with_unfolding_all exact(rW rfl dE.nd rfl rfl (by decide) rfl rfl (aa (gm d2 hr (aa (six hr (sv 0) bc) (aa (sv 1) ak))) (aa (gm d2 hr (aa (six hr (sv 0) bc) (aa (sv 1) ak))) ak)) rfl)))
   ∅))
theorem zC(e:cN c)(a:hV c)(f:fD c)(b:fE c)(d:oR c):tw c:=Hd.aP T wZ λF _ _ _=>
 (ar F yU λ_ _ _ _ _ _ hr _=>by walk_at "u")
theorem Ip:Em c:=Hd.aP T EW λF _ _ _=>
 (ar F G5 λ_ _ _ _ _ _ hr _=>by walk_at "v";with_reducible exact(aE (aY (fT (GZ (M7 hr.units) (sv 0) (cF 9 (by ac_nf)) (by ac_nf)) (fS ∅)))))
theorem BR(g:cN c)(f:nE c)(d:jF c)(b:tw c)(a:Em c)(e:fE c):wj c:=Hd.aP T zh λF _ _ _=>
 (ar F Bl λ_ _ _ _ _ _ hr _=>by walk_at "u")
theorem oy:iS c:=Hd.aP T lT λF _ _ _=>
 (ar F n6 λ_ _ _ _ _ _ hr _=>by walk_at "v";with_reducible exact(aE (aY (Rx ∅ (fS (fT ∅ (fS ∅)))))))
theorem ud(d:tu c)(a:iS c)(b:nE c):nD c:=Hd.aP T rG λF _ _ _=>
 (ar F tT λ_ _ _ _ _ _ hr _=>by walk_at "v";with_reducible exact(ab (lE (n:=1000000) Xz ∅ ∅)
   ∅))
theorem p7(a:nD c)(d:oQ c)(b:nE c):f6 c:=Hd.aP T oj λF _ _ _=>
 eQ (ar F iH λ_ _ _ _ _ _ hr _=>by walk_at "v";with_reducible exact(ab (sset 2 iH.nd (qo.ob (Dh (by unfold Gl;ac_nf) B.CG yl ∅ (ae aB))))
   (ab (lE (n:=1000000) Xz (kM (sv 2)) ∅)
   ∅)))
theorem p5(a:wj c)(b:f6 c):fZ c:=Hd.aP T og λF _ _ _=>
 (ar F pQ λ_ _ _ _ _ _ hr _=>by walk_at "u")
theorem BM(d:AG c)(b:tE c)(a:fZ c):wc c:=Hd.aP T zc λF _ _ _=>
 (ar F Bh λ_ _ _ _ _ _ hr _=>by walk_at "v";with_reducible exact(ab (cE ∅ (aE GJ) bM)
   ∅))
theorem jr(b:qM c)(a:wc c):fu c:=Hd.aP T iV λF _ _ _=>
 (ar F cI λ_ _ _ _ _ _ hr _=>by walk_at "v";with_reducible exact(ab (GK 3 4 cI.nd (ae (ae aB)) rfl (by decide) (by with_unfolding_all exact(rW rfl cI.nd rfl rfl (by decide) rfl rfl (aa (qo.ob (fR (aa (sv 1) ak) (ae aB))) (aa (yR hr (sv 1) (cw ak aB)) ak)) rfl)))
   (ab ∅
   (ab (lE (n:=300) Xz ∅ (ab (eX Xz rfl ∅ ∅ (ab ∅
   (aE (cE (nZ (vw hr.units) (sv 7) (sv 4) (by ac_nf)) (ab (fO (bN cT (N0 hr (sv 4) ∅) ∅) (Dg hr (sv 4) (sv 7)))
   ∅) bM))))
   ∅))
   ∅))))
theorem Ir(b:f7 c)(a:f6 c):yw c:=Hd.aP T EY λF _ _ _=>
 eQ (ar F G8 λ_ _ _ _ _ _ hr _=>by walk_at "u")
theorem BO(a:qM c)(b:fZ c):we c:=Hd.aP T ze λF _ _ _=>
 (ar F kP λ_ _ _ _ _ _ hr _=>by walk_at "v";with_reducible exact(ab (sset 4 kP.nd (yR hr (sv 1) wK))
   (ab ∅
   (ab ∅
   (ab (lE (n:=300) Xz ∅ (ab ∅
   (ab (eX Xz rfl (fP (G1 (i:=3) (LZ a PJ) B.G_ hr ∅)) ∅ (ab ∅
   (aE (cE (nZ (vw hr.units) (sv 9) (sv 4) (by ac_nf)) (ab (fO ∅ (Dg hr (sv 4) (sv 9)))
   ∅) bM))))
   (aE (UN 6 kP.nd bc LQ)))))
   (aE (aY (GV (nZ Ij (uQ Me B.Nk Jz ∅) (sv 2) (sr _)) (sv 4) wK))))))))
theorem Lu(a:we c)(b:qM c)(d:yw c):JP c:=Hd.aP T Hk λF _ _ _=>
 eQ (ar F Di λ_ _ _ _ _ _ hr _=>by walk_at "v";with_reducible exact(ab (sset 3 Di.nd (gm a hr (aa (sv 0) (aa ∅ (aa (sv 2) (aa (N4 b B.G_) ak))))))
   (aE (aY (GV ∅ (Rw (es:=([some "open",none]:List (Option Str))) B.CL (by decide+kernel)) (cw (aa cy (aa (KG (Md rfl) B.dQ cM ∅) ak)) (ae (ae aB))))))))
theorem mw:∀n,Df c.l.prog c.w (Hd.aF c.h) c.mg c.base "_law_same" (1+n) jo 2 (cu n)
 | 0=>Hd.aP T kz λ_ _ _ _=>mB
 | n+1=>by
  have a:=mw  n;exact Hd.aP T kz λF _ _ _=>(ar F wN λ_ _ _ _ _ _ hr _=>by walk_at "v";with_reducible exact(ab (cE (kM (uQ fY B.bq bg (aa (sv 1) (aa (GF B.dQ cM) ak)))) (ab (cE (SW.st (MN (GI (kM (uQ fY B.bq bg (aa (sv 0) (aa (GF B.dQ cM) ak))))) ∅)) ∅ bM)
   (aE (aY (uQ (P4 rfl) B.Tb Qn (aa (fv (N':=["_law_a","_law_b"]) (caps:=[none,none]) (a9 (by ac_nf)) rfl (NW (by unfold Gl;ac_nf) B.Ni ∅ (ae (ae aB))) (λ_ _ _ _ _=>(wJ rfl (fQ (sgn 0 (by show(["_law_a","_law_b"]:List Str).Nodup;decide+kernel)) (fQ (sgn 1 (by show(["_law_a","_law_b"]:List Str).Nodup;decide+kernel)) qw)))) (λ_ _ _ _ _=>cv) (λ_ _ _ _ _=>(gm a hr ∅ (WB _)))) ak))))) bM)
   (ab ∅
   (ab (cE (kM (uQ fY B.bq bg (aa (sv 1) (aa (GF B.Nj Jy) ak)))) (aE (aY (fT (uQ fY B.bq bg (aa (sv 0) (aa (GF B.Nj Jy) ak))) (fS ∅)))) bM)
   (ab (cE (kM (uQ fY B.bq bg (aa (sv 1) (aa (GF B.yq qJ) ak)))) (aE (aY (fT (uQ fY B.bq bg (aa (sv 0) (aa (GF B.yq qJ) ak))) (fS ∅)))) bM)
   (aE (aY (fT (uQ fY B.bq bg (aa (sv 0) (aa (GF B.JE CC) ak))) (fT (GU (uQ fY B.bq bg (aa (sv 0) (aa (GF B.yq qJ) ak)))) (fS ∅))))))))))
theorem uo(b:JP c)(a:AH c):nI c:=Hd.aP T rO λF _ _ _=>
 (ar F tX λ_ _ _ _ _ _ hr _=>by walk_at "v";with_reducible exact(ab ∅
   (ab ∅
   (aE (aY (fT ∅ (fS ∅)))))))
theorem Pc(F:CO (Hd.aF c.h) "law" "law" lK f fd)(g:nJ c)(d:pM c)(b:fu c)(i:yw c)(e:bJ c)(a:nI c):f9 c.l.prog c.w (Hd.aF c.h) c.mg c.base wm 29 f fd M5 (EE (Hd.aF c.h) 1 AL):=
 (ar F G7 λ_ _ _ _ _ _ hr _=>by walk_at "v";with_reducible exact(ab ∅
   (ab (eX Xz rfl (cC (by unfold Gl;ac_nf) B.dh ∅ (hl:=(ae aB))) ∅ (ab ∅
   (ab ∅
   (ab ∅
   (ab (cE ∅ (aE (sset 7 G7.nd (bN cT (sv 7) (qo.lv (fR (aa ∅ (aa ∅ (aa (bN BK bc bc) ak))) (ae (ae (ae aB)))))))) bM)
   ∅)))))
   ∅)))
theorem Te(F:CO (Hd.aF c.h) "law" "law" lK f fd)(hF:∀ns:List Int,ns.length<=63->∃h',AL [.ro (ns.map D.int)] []=some (.bl true,h')):f9 c.l.prog c.w (Hd.aF c.h) c.mg c.base wm 29 f fd ["_law_script"] (spT (Hd.aF c.h)):=by
 have I:=uq T B;have H:=xx T B;have a:=xv T B H;have b:=BS T B a;have G:=um T B b a;have E:=uh T B G b a;have k:=so T B a;have e:=xt T B a b;have A:=xA T B k b e;have C:=xw T B a k e;obtain⟨z,d45,d44,d43⟩:=DI T B a b A e C 20;have y:=qa T B E z b;have x:=xr T B a b;have u:=xy T B y b x;have d3:=BP T B;have d8:=Fi T B d3;have d9:=Fh T B d8;have d6:=BN T B;have d:=zB T B d9 d6;have d11:=p6 T B d;have d4:=zD T B;have r:=ue T B;have d2:=zA T B;have i:=uf T B d4 d r d2;have o:=BQ T B;have X:=Io T B d11 i o;have n:=ug T B d X;have g:=Iq T B n;have d0:=zE T B;have d1:=sm T B;have U:=Fj T B d0 d1 n;have N:=zF T B d;have j:=Fm T B;have d5:=p9 T B;have S:=p8 T B d r d2 d5;have R:=mr T B d2;have Q:=zC T B d R r i o;have P:=Ip T B;have O:=BR T B d j S Q P i;have Z:=oy T B;have Y:=ud T B d9 Z j;have q:=p7 T B Y d6 j;have m:=p5 T B O q;have M:=BM T B U N m;have t:=jr T B g M;have p:=Ir T B d5 q;have L:=BO T B g m;have J:=Lu T B L g p;have v:=mw T B  8;have s:=uo T B J v;exact LI (Pc T B F I u t p a s) hF
end
def eP:Hd.freeOk view (["SHAPES","TOO_MANY"]:List Str) ["abs","all","any","bool","dict","enumerate","int","isinstance","len","list","max","min","range","sorted","str","tuple","zip"]=true:=by decide+kernel
def all_mk{l:PySem.W.OpenLaw}{w:World}{h:Heap}{mg n:Str->Option Value}{d:ExcName->Option Value}(T:Top view (PySem.W.looseW view (["SHAPES","TOO_MANY"]:List Str)) d mg n h)
  (b:Hd.tabAt h "SHAPES"=some (jL.map λx=>(x.1,hashStr w x.1,x.2)))
  (a:Hd.yJ h "TOO_MANY"=some ([some "open",none]:List (Option Str)))
  (o:∀ns:List Int,ns.length<=63->∃p,AL [.ro (ns.map D.int)] []=some (.bl true,p)):
  ∃(k:Addr)(j:FuncData),mg "law"=some (.ref k)/\(∀(s:Shared)(v:Value),BindsTo s j ⟨[v],[]⟩ [("_law_script",v)])/\∀base:Heap,(Hd.aF h).In base->base.Ns mainGlobals mg->f9 l.prog w (Hd.aF h) mg base wm 29 k j ["_law_script"] (spT (Hd.aF h)):=by
 have B:Bs l.prog w (Hd.aF h) mg:=⟨Hd.bX T eP (Wx (i:=0) rfl),Hd.bX T eP (Wx (i:=1) rfl),Hd.bX T eP (Wx (i:=2) rfl),Hd.bX T eP (Wx (i:=3) rfl),Hd.bX T eP (Wx (i:=4) rfl),Hd.bX T eP (Wx (i:=5) rfl),Hd.bX T eP (Wx (i:=6) rfl),Hd.bX T eP (Wx (i:=7) rfl),Hd.bX T eP (Wx (i:=8) rfl),Hd.bX T eP (Wx (i:=9) rfl),Hd.bX T eP (Wx (i:=10) rfl),Hd.bX T eP (Wx (i:=11) rfl),Hd.bX T eP (Wx (i:=12) rfl),Hd.bX T eP (Wx (i:=13) rfl),Hd.bX T eP (Wx (i:=14) rfl),Hd.bX T eP (Wx (i:=15) rfl),Hd.bX T eP (Wx (i:=16) rfl),Hd.tab_of b T.g (by decide+kernel),Hd.Q8 a T.g,λ_ _ e=>Hd.Vk T.g e⟩;obtain⟨f,j,m,F⟩:=Hd.Na T KJ;exact⟨f,j,m,F.one λ_ _ _ _ _ _ _=>rfl,λbase _ _=>Te (c:=⟨l,w,h,mg,base⟩) T B F o⟩
end Mi
local macro_rules | `(tactic| exists $x:term) => `(tactic|(nofun;refine Sm.rv $x ?_))
local macro_rules | `(tactic| walk_at $s:str) => let k := s.getString.front;let a := "|Sm.SO|Sm.SY|Sm.Qi|Sm.SU|Sm.SR|Sm.Vt|Sm.Vs|Sm.Vw|Sm.Vv|Sm.Vu|Sm.Wm|Sm.Wn|Sm.SX|Sm.SV|Sm.Qf|Sm.Qg|Sm.lX|Sm.Kn|Sm.MY|Sm.MZ|Sm.Hz|Sm.Hw|Sm.MX|Sm.Oo|Sm.RI|Sm.Oq|Sm.r_scont|Sm.xg|Sm.UQ|Sm.RK|Sm.E4|Sm.fU|Sm.vc|Sm.UW|Sm.UU|Sm.US|Sm.r_dv|Sm.r_do|Sm.BC|Sm.Ol|Sm.Om|Sm.Hv|Sm.RF|Sm.RP|Sm.UR|Sm.RJ|Sm.r_sl|Sm.RG|Sm.RH|Sm.E3|Sm.Ow|Sm.gS|Sm.xi|Sm.RN|Sm.Ox|Sm.U9|Sm.Va|Sm.Uk|Sm.Ul|Sm.t_ct|Sm.Vf|Sm.l_ct|Sm.Vg|Sm.Ve|Sm.Oj|Sm.RM";if k != 'o' && k != 'g' && k != 'r' then Lean.Macro.throwUnsupported else do {let t <- (((if k == 'r' then a ++ "|Sm.QX|Sm.QZ|Sm.w_add|Sm.w_sub|Sm.w_lt|Sm.Q1|Sm.Ue|Sm.Ug|Sm.Q6|Sm.Q0|Sm.Q5|Sm.w_neS|Sm.Q4|Sm.Q3|Sm.Q2|Sm.Nw|Sm.Nx|Sm.BB" else a).splitOn "|").drop 1).toArray.mapM (λn => `(Lean.Parser.Tactic.tacticSeq| refine $(Lean.mkIdent n.toName) ?_));if k == 'o' then `(tactic| with_reducible first $[| $t]*) else `(tactic|((repeat with_reducible first $[| $t]*);(try dsimp only)))}
namespace Mi
open PySem Sm
def kR(c:0 < b)(q:Q (.int (a % b),h)):Rn (sN (.int a) (.int b) h) Q:=⟨_,by unfold sN;dsimp only;rw[WC c],q⟩
def Oc(d:0 < b)(c:b<=10^40)(q:Q (.int (a / b),h)):Rn (Jb (.int a) (.int b) h) Q:=⟨_,by unfold Jb;dsimp only;rw[WC ⟨d,c⟩],q⟩
def oa(c:mE a b=true)(q:Q (.int (a*b),h)):Rn (jA (.int a) (.int b) h) Q:=⟨_,by show(if mE a b then _ else _)=_;rw[WC c],q⟩
def mul_r(d:-(2^64) < b)(c:b < 2^64):mE a b=true:=by unfold mE;simp only[Yp,WS,Xo];exact .inr ⟨d,c⟩
def IA(d:-(2^64) < a)(c:a < 2^64):mE a b=true:=by unfold mE;simp only[Yp,WS,Xo];exact .inl ⟨d,c⟩
def Ft{h:MH}{s c:Nat}{cs:List Int}{n t:Int}(d:h[s]?=some (.lst [.int n,.ob c,.int t]))(l:h[c]?=some (.lst (cs.map D.int)))(ne:c≠s)(r:0<=t)(q:t < 2^60):
  Rn (jI [.ob s] h) λp=>∃g,0<=g/\p=(.bo,h.set s (.lst [.int g,.ob c,.int (t+1)])):=by
 have hl:s < h.length:=(Ww.mp d).1;generalize e:h.set s (.lst [.int n,.ob c,.int (t+1)])=H;have o:H[s]?=some (.lst [.int n,.ob c,.int (t+1)]):=by rw[<-e];exact XH hl
 have f:H[c]?=some (.lst (cs.map D.int)):=by rw[<-e,Xy (XJ ne)];exact l
 have GQ:∀v:Int,uC (.ob s) (.int 0) (.int v) H=some (h.set s (.lst [.int v,.ob c,.int (t+1)])):=λv=>by
  rw[xS (p:=0) o rfl,<-e,List.set_set];rfl
 have m:uC (.ob s) (.int 2) (.int (t+1)) h=some H:=by rw[xS (p:=2) d rfl,<-e];rfl
 have j:bR [.ob c] H=some (.int cs.length,H):=by rw[gy f,Ws]
 refine aW ?_;walk_at "g";refine rv (jB d rfl) ?_;walk_at "g";refine rv (jB d rfl) ?_;walk_at "g";refine rv rfl ?_;walk_at "g";refine rv m ?_;walk_at "g";refine rv (FO f) ⟨_,rfl,λb=>?pos,λb=>?neg⟩
 case' pos=>
  have i:0 < cs.length:=by cases cs with | nil=>simp at b | cons _ _=>simp
  walk_at "g";refine rv j (kR (by lia) ?_);obtain⟨z,k⟩:=JH cs (t % (cs.length:Int)) (XX _ (by lia)) (Yj _ (by lia));refine rv (jB f k) ?_
 all_goals
  walk_at "g";refine rv j (rv rfl ⟨_,rfl,?_⟩);refine(λa=>⟨λw=>?thenA,λ_=>⟨λz=>(nomatch z),λ_=>a⟩⟩) ?thenB
  case thenA=>
   walk_at "g";refine rv rfl ?_;walk_at "g";refine rv rfl (rv rfl ⟨_,rfl,λu=>?_,λ_=>a⟩);walk_at "g";refine rv rfl ?_;walk_at "g";refine rv (GQ _) ?_;walk_at "g";exact⟨_,by split <;> lia,rfl⟩
  case thenB=>
   walk_at "g";refine kR (by decide) ?_;walk_at "g";refine oa (IA (by decide) (by decide)) ?_;walk_at "g";refine oa (mul_r (by lia) (by lia)) (rv rfl ?_);walk_at "g";refine rv rfl ?_;walk_at "g";refine oa (mul_r (by decide) (by decide)) ?_;walk_at "g";refine kR (by decide) ?_;walk_at "g";refine oa (IA (Int.lt_of_lt_of_le (by decide) (XX _ (by decide))) (Int.lt_trans (Yj _ (by decide)) (by decide))) ?_;walk_at "g";refine kR (by decide) ?_;walk_at "g";refine oa (mul_r (by decide) (by decide)) ?_;walk_at "g";refine rv rfl ?_;walk_at "g";refine rv rfl ?_;walk_at "g";refine kR (by decide) ?_;walk_at "g";refine rv rfl (rv rfl ?_);walk_at "g";refine rv (GQ _) ?_;walk_at "g";exact⟨_,Int.add_nonneg (XX _ (by decide)) (by decide),rfl⟩
structure St(s c:Nat)(cs:List Int)(R:Nat)(h:MH):Prop where
 st:∃n t:Int,h[s]?=some (.lst [.int n,.ob c,.int t])/\0<=n/\0<=t/\t+R<=2^60
 ce:h[c]?=some (.lst (cs.map D.int))
 ne:c≠s
def tP(s:Nat)(h a:MH):Prop:=a.length=h.length/\∀k,k≠s->a[k]?=h[k]?
def tP.refl(s:Nat)(h:MH):tP s h h:=⟨rfl,λ_ _=>rfl⟩
theorem tP.trans(a:tP s h d)(b:tP s d c):tP s h c:=⟨b.1.trans a.1,λk n=>(b.2 k n).trans (a.2 k n)⟩
theorem tP.set:tP s h (h.set s o):=⟨Yo,λk n=>Xy (XJ n)⟩
section
variable {s c R:Nat} {cs:List Int} {h:MH}
theorem St.le(S:St s c cs R h)(f:R'<=R):St s c cs R' h:=by
 obtain⟨n,t,e,a,b,d⟩:=S.st;exact⟨⟨n,t,e,a,b,by lia⟩,S.ce,S.ne⟩
theorem St.dn(k:Nat)(S:St s c cs (R+k) h):St s c cs R h:=S.le (Xn _ _)
theorem St.set{a:Nat}{n t:Int}(S:St s c cs R h)(f:0<=n)(d:0<=t)(b:t+a<=2^60):St s c cs a (h.set s (.lst [.int n,.ob c,.int t])):=by
 obtain⟨i,g,e,_⟩:=S.st;exact⟨⟨n,t,XH (Ww.mp e).1,f,d,b⟩,by rw[Xy (XJ S.ne)];exact S.ce,S.ne⟩
theorem St.more(S:St s c cs R h)(g:MH):St s c cs R (h++g):=by
 obtain⟨n,t,e,r⟩:=S.st;exact⟨⟨n,t,by rw[WO (Ww.mp e).1];exact e,r⟩,by rw[WO (Ww.mp S.ce).1];exact S.ce,S.ne⟩
theorem St.off(S:St s c cs R h)(b:k≠s)(a:k≠c):St s c cs R (h.set k o):=by
 obtain⟨n,t,e,r⟩:=S.st;exact⟨⟨n,t,by rw[Xy b];exact e,r⟩,by rw[Xy a];exact S.ce,S.ne⟩
theorem St.lt(S:St s c cs R h):s < h.length/\c < h.length:=by
 obtain⟨n,t,e,r⟩:=S.st;exact⟨(Ww.mp e).1,(Ww.mp S.ce).1⟩
structure Sb(s c:Nat)(cs:List Int)(h0:MH)(R:Nat)(h:MH):Prop where
 S:St s c cs R h
 b:tP s h0 h
theorem St.sb(S:St s c cs R h):Sb s c cs h R h:=⟨S,tP.refl _ _⟩
theorem Sb.dn(k:Nat)(A:Sb s c cs h0 (R+k) h):Sb s c cs h0 R h:=⟨A.S.dn k,A.b⟩
theorem Sb.le(A:Sb s c cs h0 R h)(hR:R'<=R):Sb s c cs h0 R' h:=⟨A.S.le hR,A.b⟩
theorem Sb.at_(A:Sb s c cs h0 R h)(e:h0[k]?=some o)(n:k≠s):h[k]?=some o:=(A.b.2 k n).trans e
variable {h0:MH}
theorem dq{m:Int}{Q:D×MH->Prop}(A:Sb s c cs h0 (R+1) h)(i:0 < m)(w:m<=10^40)(k:∀(r:Int)(j:MH),0<=r->r < m->Sb s c cs h0 R j->Q (.int r,j)):Rn (aM [.ob s,.int m] h) Q:=by
 have S:=A.S;obtain⟨n,t,q,C,v,y⟩:=S.st;refine aW ?_;walk_at "g";refine rv (jB q rfl) ?_;walk_at "g";refine rv rfl ⟨_,rfl,λ_=>?pos,λ_=>?neg⟩
 case' pos=>
  walk_at "g";obtain⟨p,x,o,g,rfl⟩:=Ft q S.ce S.ne v (by lia);refine rv x ?_;have l:St s c cs R (h.set s (.lst [.int o,.ob c,.int (t+1)])):=S.set g (by lia) (by lia);have u:tP s h (h.set s (.lst [.int o,.ob c,.int (t+1)])):=tP.set
 case' neg=>
  have l:St s c cs R h:=S.dn 1;have u:tP s h h:=tP.refl s h
 all_goals
  generalize h.set s (MO.lst [D.int _,D.ob c,D.int (t+1)])=j at*;obtain⟨n2,z,a,f,e,d⟩:=l.st;walk_at "g";refine rv (jB a rfl) ?_;walk_at "g";refine kR i ?_;walk_at "g";refine rv (jB a rfl) ?_;walk_at "g";refine Oc i w ?_;walk_at "g";refine rv (xS (p:=0) a rfl) ?_;walk_at "g";exact k _ _ (XX _ (by lia)) (Yj _ i) ⟨l.set (Int.ediv_nonneg f (by lia)) e d,A.b.trans (u.trans tP.set)⟩
theorem Jw(A:Sb s c cs h0 (R+1) h)(hd:d=.lv xs\/d=.tup xs)(o:0 < xs.length)(n:xs.length<=1000000)(k:∀(x:D)(b:MH),x∈xs->Sb s c cs h0 R b->Q (x,b)):Rn (aI [.ob s,d] h) Q:=by
 refine aW ?_;walk_at "g";have l:bR [d] h=some (.int xs.length,h):=by rcases hd with rfl | rfl <;> rfl
 refine rv l ?_;walk_at "g";refine dq A (by lia) (by lia) λr a f e m=>?_;obtain⟨v,j,g⟩:=JG f e;have i:aG d (.int r) a=some (v,a):=by rcases hd with rfl | rfl <;> simp only[aG,c9,cp,WY,j,Xf]
 refine rv i ?_;walk_at "g";exact k v a g m
theorem iR{is:List Int}{Q:D×MH->Prop}(P:Int->Prop)(f:∀i∈is,P i)(A:Sb s c cs h0 (R+1) h)(k:∀(i:Int)(a:MH),P i->i∈is->Sb s c cs h0 R a->Q (.int i,a))(d:0 < is.length:=by simp)(j:is.length<=1000:=by simp):Rn (aI [.ob s,.lv (is.map D.int)] h) Q:=
 Jw A (.inl rfl) (by rw[Ws];exact d) (by rw[Ws];lia) λx a e g=>by
  obtain⟨i,b,rfl⟩:=W6.mp e;exact k i a (f i b) b g
end
def Cq(ns:List Int)(hn:ns.length<=63)(R:Nat)(hR:R<=2^60):∃cs:List Int,fH [.ro (ns.map D.int)] []=some (.ob 1,[.lst (cs.map D.int),.lst [.int 0,.ob 0,.int 0]])/\St 1 0 cs R [.lst (cs.map D.int),.lst [.int 0,.ob 0,.int 0]]:=by
 refine⟨(ns.drop (HT.b8 ns.length 0 none)).take (HT.b8 ns.length ns.length (some 63)-HT.b8 ns.length 0 none),?_,⟨⟨0,0,rfl,by decide,by decide,by lia⟩,rfl,by decide⟩⟩;have e:Rn (fH [.ro (ns.map D.int)] []) λp=>p=(.ob 1,[.lst (((ns.drop (HT.b8 ns.length 0 none)).take (HT.b8 ns.length ns.length (some 63)-HT.b8 ns.length 0 none)).map D.int),.lst [.int 0,.ob 0,.int 0]]):=by
  refine aW ?_;walk_at "g";refine Hy ?_;walk_at "g";refine⟨_,rfl,rv rfl ?_⟩;walk_at "g";refine⟨_,_,_,rfl,rfl,?_⟩;walk_at "g";simp only[cutD,Ws,Aa5,Aam,XO,AaN,AaD,WN]
 obtain⟨p,a,rfl⟩:=e;exact a
end Mi
namespace Mi
open PySem Sm L2
def oJ(hl:a.length+b.length<=10000):aQ (.str a) (.str b) h=some (.str (a++b),h):=by
 show(if a.length+b.length<=sizeLine then some (D.str (a++b),h) else none)=_;rw[WC (by rw[show sizeLine=16777216 from rfl];lia)]
def IZ(hl:a.length<=10000):bR [.str a] h=some (.int a.length,h):=by
 show(if a.length<=sizeLine then some (D.int a.length,h) else none)=_;rw[WC (by rw[show sizeLine=16777216 from rfl];lia)]
def Ae(hl:a.length<=10000):qg (.str a) lo b h=some (.str (Txt.slice a lo b),h):=by
 show(if a.length<=sizeLine then some (D.str (Txt.slice a lo b),h) else none)=_;rw[WC (by rw[show sizeLine=16777216 from rfl];lia)]
def sY(z:Str)(i:Int):Str:=match gg z.cps.toList i with
 | some c=>⟨#[c]⟩
 | none=>""
def L5(hl:z.length<=10000)(b:0<=i)(a:i < z.cps.toList.length):(sY z i).length=1/\aG (.str z) (.int i) h=some (.str (sY z i),h):=by
 obtain⟨v,e,_⟩:=JG (xs:=z.cps.toList) b a;have d:sY z i=⟨#[v]⟩:=by unfold sY;rw[e]
 rw[d];refine⟨rfl,?_⟩;show(if z.length<=sizeLine then(gg z.cps.toList i).map λc=>(D.str ⟨#[c]⟩,h) else none)=_;rw[WC (by rw[show sizeLine=16777216 from rfl];lia),e];rfl
noncomputable def eN:Str:="abcdefghijklmnopqrstuvwxyz"
def kY(b:0<=i)(a:i < 26):(sY eN i).length=1/\aG (.str "abcdefghijklmnopqrstuvwxyz") (.int i) h=some (.str (sY eN i),h):=
 L5 (z:=eN) (by decide) b (by rw[show(eN.cps.toList.length:Int)=26 by decide];exact a)
def low(w:Str):Prop:=∀c∈w.cps,97<=c/\c<=122
def Lz:low "":=λc a=>absurd (show c∈(#[]:Array Nat) from a) (by simp)
def xH(g:low a)(f:low b):low (a++b):=by
 intro c e;have d:c∈a.cps++b.cps:=e;rcases Array.mem_append.mp d with z | z
 ·exact g c z
 ·exact f c z
def vD(l u:Option Int)(h:low x):low (Txt.slice x l u):=by
 unfold Txt.slice
 split
 ·exact h
 ·intro c b;have a:c∈(List.filterMap (x.cps[·]?) (Builtin.Str.strSliceIndices l u 1 x.length)).toArray:=b;rw[List.mem_toArray] at a;obtain⟨i,_,e⟩:=Zt.mp a;exact h c (Z6 e)
def Pk(h:low w):PyData.strOk w=true:=jM.mpr λc a=>by have:=(h c a).2;exact Xk this (by decide)
def B2:eN.cps.toList=(List.range 26).map (97+·):=by decide+kernel
def ye(b:0<=i)(a:i < 26):sY eN i=⟨#[97+i.toNat]⟩:=by
 obtain⟨n,rfl⟩:=Yn b;have:gg eN.cps.toList (n:Int)=some (97+n):=by
  rw[B2];exact ny (by rw[WJ,Aaj (by exact Y8.mp a)];rfl)
 unfold sY;rw[this];rfl
def Au(d:0<=i)(b:i < 26):low (sY eN i):=by
 rw[ye d b];intro c a;have:c=97+i.toNat:=by simpa using a
 lia
def yQ(b:0<=j):(Txt.slice x none (some j)).length<=j.toNat:=by
 have a:(Builtin.Str.strSliceIndices none (some j) 1 x.length).length<=j.toNat:=by
  unfold Builtin.Str.strSliceIndices sliceRange;simp only[show(1:Int) > 0 by decide,Y4,Ws,WX]
  (split <;> (try split) <;> (try split) <;> (try simp only[Abu]) <;> lia)
 unfold Txt.slice
 split
 ·next z=>simp at z;have:x.cps.size=x.length:=rfl;lia
 ·show(List.filterMap _ (Builtin.Str.strSliceIndices none (some j) 1 x.length)).toArray.size<=_;rw[WT];exact WL (ZK _ _) a
def yP(b:0<=j):(Txt.slice x (some j) none).length<=x.length-j.toNat:=by
 have a:(Builtin.Str.strSliceIndices (some j) none 1 x.length).length<=x.length-j.toNat:=by
  unfold Builtin.Str.strSliceIndices sliceRange;simp only[show(1:Int) > 0 by decide,Y4,Ws,WX]
  (split <;> (try split) <;> (try split) <;> (try simp only[Abu]) <;> lia)
 unfold Txt.slice
 split
 ·next z=>simp at z;have:x.cps.size=x.length:=rfl;lia
 ·show(List.filterMap _ (Builtin.Str.strSliceIndices (some j) none 1 x.length)).toArray.size<=_;rw[WT];exact WL (ZK _ _) a
def CH{a b x y:Str}(e:a++x++b=a++y++b):x=y:=by
 have f:(a.cps++x.cps)++b.cps=(a.cps++y.cps)++b.cps:=congrArg Str.cps e;have c:=congrArg Array.toList f;simp only[Array.toList_append] at c;have d:=List.append_cancel_left (List.append_cancel_right c);cases x;cases y;exact congrArg Str.mk (Zi.mp d)
def wordAt(b:Str)(at_ first a:Int)(k:Int):Str:=Txt.slice b none (some at_)++sY eN ((first+a*k) % 26)++Txt.slice b (some at_) none
def Gm{b:Str}{at_ first a:Int}{k j:Nat}(f:a∈[1,3,5,7,9,11])(g:k < 6)(hj:j < 6)(e:wordAt b at_ first a k=wordAt b at_ first a j):k=j:=by
 have c:=CH (show Txt.slice b none (some at_)++_++Txt.slice b (some at_) none=Txt.slice b none (some at_)++_++_ from e);rw[ye (XX _ (by decide)) (Yj _ (by decide)),ye (XX _ (by decide)) (Yj _ (by decide))] at c;have i:97+((first+a*k) % 26).toNat=97+((first+a*j) % 26).toNat:=by injection c with c;injection c with c;injection c
 have h:(first+a*k) % 26=(first+a*j) % 26:=by
  have a1:=XX (first+a*k) (show(26:Int)≠0 by decide);have a2:=XX (first+a*j) (show(26:Int)≠0 by decide);rw[<-Zn a1,<-Zn a2,Nat.add_left_cancel i]
 have d:=Int.emod_eq_emod_iff_emod_sub_eq_zero.mp h;rw[show first+a*(k:Int)-(first+a*(j:Int))=a*((k:Int)-(j:Int)) by rw[Int.mul_sub,Int.add_sub_add_left]] at d;exact(by decide:∀s∈([1,3,5,7,9,11]:List Int),∀k:Nat,k < 6->∀j:Nat,j < 6->(s*((k:Int)-(j:Int))) % 26=0->k=j) a f k g j hj d
def yj{h:MH}{s c R:Nat}{cs:List Int}{m:Int}{q:MH}{Q:D×MH->Prop}(A:Sb s c cs q (R+20) h)(m0:0<=m)(m1:m<=6)
  (kk:∀(p:List Str)(F:MH),p.length=m.toNat->(∀w∈p,1<=w.length/\w.length<=7/\low w)->p.Nodup->Sb s c cs q R F->Q (.lv (p.map D.str),F)):Rn (dZ [.ob s,.int m] h) Q:=by
 refine aW ?_;walk_at "g";refine gH ?_;walk_at "g";refine iR (is:=[0,1,1,2,3,6]) (λi=>0<=i/\i<=6) (by decide) A λk F v _ A1=>?_;walk_at "g";refine⟨k,rfl,by exact X6 (by decide) v.1,by exact YV v.2 (by decide),?_⟩;refine dI (λi l h'=>∃g G,l=[some (.ob s),some (.int m),some (.str "abcdefghijklmnopqrstuvwxyz"),some (.str g),G,none,none,none]/\g.length<=i/\low g/\Sb s c cs q (R+19-i) h')
  ⟨"",_,rfl,WB _,Lz,A1⟩ (λ_ _ _ _ _=>rfl) ?_ ?_
 ·rintro i x l E t ⟨g,G,rfl,o,a8,j⟩;have hi:i < k.toNat:=by
   have:=(Ww.mp t).1
   simpa using this
  rw[show R+19-i=R+19-(i+1)+1 by lia] at j;walk_at "g";refine dq j (by decide) (by decide) λr M J I H=>?_;walk_at "g";obtain⟨L,e4⟩:=kY (h:=M) J I;refine rv e4 ?_;walk_at "g";refine rv (oJ (by lia)) ?_;walk_at "g";exact⟨g++sY eN r,_,rfl,by rw[Zc];lia,xH a8 (Au J I),H⟩
 ·rintro l E ⟨g,G,rfl,o,a8,j⟩;rw[Ws,WX] at o j;have j:Sb s c cs q (R+3) E:=j.le (by lia);walk_at "g";refine rv (IZ (by lia)) ?_;walk_at "g";refine rv (a:=(.int ((g.length:Int)+1),E)) rfl ?_;walk_at "g";refine dq j (by simp) (by lia) λat_ M S a1 H=>?_
  walk_at "g";refine dq H (by decide) (by decide) λfirst h4 f0 f1 A4=>?_
  walk_at "g";refine iR (is:=[1,3,5,7,9,11]) (λi=>0<=i/\i<=11) (by decide) A4 λd C ht T A5=>?_;obtain⟨X,U⟩:=ht;walk_at "g";refine gH ?_;walk_at "g";refine⟨m,rfl,by exact X6 (by decide) m0,by exact YV m1 (by decide),?_⟩;have hw:∀k:Int,1<=(wordAt g at_ first d k).length/\(wordAt g at_ first d k).length<=7/\low (wordAt g at_ first d k):=by
   intro k;have P:=XX (first+d*k) (show(26:Int)≠0 by decide);have O:=Yj (first+d*k) (show(0:Int) < 26 by decide);obtain⟨L,e⟩:=kY (i:=(first+d*k) % 26) (h:=[]) P O;have s1:=yQ (x:=g) S;have Z:=yP (x:=g) S;have Y:low (wordAt g at_ first d k):=xH (xH (vD _ _ a8) (Au P O)) (vD _ _ a8);refine(λ(z:_/\_)=>⟨z.1,z.2,Y⟩) ?_;unfold wordAt;rw[Zc,Zc]
   lia
  refine rv (Dw rfl (λx=>match x with | .int k=>some (.str (wordAt g at_ first d k)) | _=>none) (λl=>∃N,l=[N,some (.int at_),some (.int first),some (.str "abcdefghijklmnopqrstuvwxyz"),some (.str g),some (.int d)]) ⟨_,rfl⟩ ?_) ⟨?_,?_⟩
  ·rintro x t l ⟨N,rfl⟩;obtain⟨k,v,rfl⟩:=W6.mp t;refine rv rfl ⟨rfl,rv rfl ⟨rfl,⟨_,rfl⟩,λ_=>⟨_,rfl,?_⟩,λz=>(nomatch z)⟩⟩;refine xg (xg (BB ?_));walk_at "g";refine⟨_,rfl,rv (Ae (a:=g) (by lia)) ?_⟩;walk_at "g";refine oa (IA (by exact X6 (by decide) X) (by exact YV U (by decide))) ?_;refine rv (a:=(.int (first+d*(k:Int)),C)) rfl ?_;walk_at "g";refine kR (by decide) ?_;obtain⟨L,e⟩:=kY (i:=(first+d*(k:Int)) % 26) (h:=C) (XX _ (by decide)) (Yj _ (by decide));have s1:=Txt.slice_le g none (some at_);have Z:=Txt.slice_le g (some at_) none;refine rv e (rv (oJ (by lia)) ?_);refine BB ?_;walk_at "g";refine⟨_,rfl,?_⟩;walk_at "g";refine rv (Ae (a:=g) (by lia)) (rv (oJ (by rw[Zc];lia)) ?_);rfl
  ·rw[Zu];exact WL (ZK _ _) (by rw[WX,show sizeLine=16777216 from rfl];lia)
  ·walk_at "g";rw[show List.filterMap (λx=>match x with | D.int k=>some (D.str (wordAt g at_ first d k)) | _=>none) ((List.range m.toNat).map λ(k:Nat)=>D.int k)=((List.range m.toNat).map λ(k:Nat)=>wordAt g at_ first d (k:Int)).map D.str by
    rw[Zu,YD];exact congrFun (Abz (f:=D.str∘λ(k:Nat)=>wordAt g at_ first d (k:Int))) _]
   refine kk _ C (by simp) (λw u=>?_) ?_ A5
   ·obtain⟨k,_,rfl⟩:=W6.mp u;exact hw k
   ·rw[AaY,ZD];refine(AaC (n:=m.toNat)).imp_of_mem λ{a b} ha hb y e=>y ?_;have:=Xx.mp ha;have:=Xx.mp hb;exact Gm T (by lia) (by lia) e
def tP.app{s:Nat}{a d:MH}{o:MO}(b:tP s (a++[o]) d)(f:s < a.length):∃c,d=c++[o]/\tP s a c:=by
 have hl:d.length=a.length+1:=by rw[b.1];simp
 refine⟨d.take a.length,?_,by rw[W2];lia,λk g=>?_⟩
 ·refine ZF λk=>?_
  by_cases z:k < a.length
  ·rw[WO (by rw[W2];lia),Xm z]
  ·by_cases e:k=a.length
   ·subst e;rw[b.2 _ (by exact YQ f),W5 (WB _),W5 (by rw[W2];lia),W2];rw[show min a.length d.length=a.length by lia]
   ·rw[Xh (by lia),Xh (by rw[WQ,W2];simp;lia)]
 ·by_cases z:k < a.length
  ·rw[Xm z,b.2 k g,WO z]
  ·rw[Xh (by rw[W2];lia),Xh (by exact XC z)]
def St.cut{s c:Nat}{cs:List Int}{B:Nat}{a g:MH}(S:Mi.St s c cs B (a++g))(f:s < a.length)(d:c < a.length):Mi.St s c cs B a:=by
 obtain⟨n,t,e,r⟩:=S.st;have b:=S.ce;rw[WO f] at e;rw[WO d] at b;exact⟨⟨n,t,e,r⟩,b,S.ne⟩
def Cl(h:MH):Prop:=∀o∈h,AQ h.length o=true
theorem Ec(n:Nat):∀a:List Int,cY n (a.map D.int)=true
 | []=>rfl
 | j::r=>by rw[WG];show(fB n (.int _)&&cY n _)=true;rw[Ec n r];rfl
def Cl.but{s c:Nat}{cs:List Int}{B:Nat}{h d:MH}(C:Cl h)(S:Mi.St s c cs B d)(b:tP s h d):Cl d:=by
 intro o f;obtain⟨k,a⟩:=XT.mp f
 by_cases z:k=s
 ·subst z;obtain⟨n,t,e,_⟩:=S.st;rw[e] at a;cases a;show(true&&(decide (c < d.length)&&(true&&true)))=true;rw[W4 S.lt.2];rfl
 ·rw[b.2 k z] at a;rw[b.1];exact C o (Wx a)
def mF{h a g:MH}{d:D}(hl:a.length=h.length)(C:Cl a)(f:∀n,d≠.ob n)(e:fB h.length d=true):leave h d (a++g)=some (d,a):=by
 have c:Ey h.length (a++g) d=d:=by
  cases d with
  | ob n=>exact absurd rfl (f n)
  | _=>rfl
 unfold leave;rw[c,<-hl,AaG (WB _),X1,hl,e];have:(a.all (AQ h.length))=true:=by
  rw[Yi];intro o b;rw[<-hl];exact C o b
 rw[this,Bool.or_true];rfl
def Vr{n:Nat}{o:MO}{h:MH}(e:h[n]?=some o):ir [(n,o)] h=true:=by
 unfold ir;rw[e];dsimp only;rw[vY];rfl
def Cl.add{h:MH}(C:Cl h){o:MO}(b:AQ (h.length+1) o=true)(up:∀o∈h,AQ h.length o=true->AQ (h.length+1) o=true):Cl (h++[o]):=by
 intro x a;rw[WQ,Yv];rcases Xi.mp a with z | z
 ·exact up x z (C x z)
 ·rw[WD.mp z];exact b
mutual
theorem Jp{n m:Nat}(hm:n<=m):∀d:D,fB n d=true->fB m d=true
 | .bo,_=>rfl
 | .bl _,_=>rfl
 | .int _,_=>rfl
 | .str _,_=>rfl
 | .ty _,_=>rfl
 | .fn _,_=>rfl
 | .ob k,h=>by simp only[fB,Xo] at h ⊢;exact WL h hm
 | .tup xs,h=>by simp only[fB] at h ⊢;exact k8 hm xs h
 | .lv xs,h=>by simp only[fB] at h ⊢;exact k8 hm xs h
 | .ro xs,h=>by simp only[fB] at h ⊢;exact k8 hm xs h
 | .dv xs,h=>by simp only[fB] at h ⊢;exact Cv hm xs h
theorem k8{n m:Nat}(hm:n<=m):∀d:List D,cY n d=true->cY m d=true
 | [],_=>rfl
 | x::r,h=>by
  simp only[cY,WS] at h ⊢;exact⟨Jp hm x h.1,k8 hm r h.2⟩
theorem Cv{n m:Nat}(hm:n<=m):∀d:List (Key×D),Mj n d=true->Mj m d=true
 | [],_=>rfl
 |(_,x)::r,h=>by
  simp only[Mj,WS] at h ⊢;exact⟨Jp hm x h.1,Cv hm r h.2⟩
end
def P9{n m:Nat}(hm:n<=m)(o:MO)(h:AQ n o=true):AQ m o=true:=by
 cases o with
 | lst xs=>exact k8 hm xs h
 | dct xs=>exact Cv hm xs h
 | dcH xs=>have h:=W3.mp h;exact W3.mpr ⟨k8 hm _ h.1,k8 hm _ h.2⟩
def Cl.snoc{h:MH}(C:Cl h){o:MO}(a:AQ (h.length+1) o=true):Cl (h++[o]):=C.add a λx _ z=>P9 (YC _) x z
theorem Cl.set{h:MH}(C:Cl h){n:Nat}{o:MO}(b:AQ h.length o=true):Cl (h.set n o):=by
 intro x a;rw[Yo];rcases Zx a with z | z
 ·exact C x z
 ·rw[z];exact b
theorem Qa{n:Nat}:∀{a:List D},(∀x∈a,fB n x=true)->cY n a=true
 | [],_=>rfl
 | x::r,h=>by
  show(fB n x&&cY n r)=true;rw[h x Wy,Qa λy b=>h y (Wz _ b)];rfl
end Mi
namespace Sm
open PySem L2
theorem D6{e:EM}{h:MH}{t:DS}(f:D->D):∀(a:List D)(o:Option D),(∀x∈a,e (some x::t) h=some (f x,h))->br [] (gN 0) cb e a (o::t) h=some (a.map f,h)
 | [],o,_=>rfl
 | x::r,o,b=>by
  have g:e (some x::t) h=some (f x,h):=b x Wy;have d:=D6 f r (some x) λy c=>b y (Wz _ c);show((some ((o::t).set 0 (some x),h)).bind λq=>(cb q.1 q.2).bind λt=>if t.1=true then(e q.1 t.2).bind λy=>(br [] (gN 0) cb e r q.1 y.2).map λz=>(y.1::z.1,z.2) else br [] (gN 0) cb e r q.1 t.2)=_;show((e (some x::t) h).bind λy=>(br [] (gN 0) cb e r (some x::t) y.2).map λz=>(y.1::z.1,z.2))=_;rw[g];show((br [] (gN 0) cb e r (some x::t) h).map λz=>(f x::z.1,z.2))=_;rw[d];rfl
theorem Ef{a:Type}(f:a->Bool):∀(l:List a),uF (l.map λx=>D.bl (f x))=some (l.map f)
 | []=>rfl
 | x::r=>by show(uF (r.map λx=>D.bl (f x))).map _=_;rw[Ef f r];rfl
def MT{b:Type}{o:Option b}{a:b}(r:Rn o λp=>p=a):o=some a:=let⟨_,e,q⟩:=r;by rw[e,q]
def tt(a:A):(true=true->A)/\(true=false->B):=⟨λ_=>a,λz=>(nomatch z)⟩
def ff(b:B):(false=true->A)/\(false=false->B):=⟨λz=>(nomatch z),λ_=>b⟩
end Sm
namespace Mi
open PySem Sm L2 Pg
noncomputable def nR(W:Wd)(fl:List Int)(left odd:Int):MO:=.dct [(.inr (Str.ofString "names"),.lv (W.names.map D.str)),(.inr (Str.ofString "deeds"),.lv (W.aq.map D.str)),(.inr (Str.ofString "params"),.lv (W.params.map λa=>.lv (a.map D.str))),(.inr (Str.ofString "floors"),.lv (fl.map D.int)),(.inr (Str.ofString "left"),.int left),(.inr (Str.ofString "odd"),.int odd)]
structure CJ(W:Wd)(fl:List Int)(odd:Int):Prop where
 n1:1<=W.names.length
 n2:W.names.length<=6
 d1:1<=W.aq.length
 d2:W.aq.length<=6
 pl:W.params.length=W.aq.length
 p3:∀ps∈W.params,ps.length<=3
 Vn:fl.length=W.aq.length
 f0:∀f∈fl,0<=f/\f < W.names.length
 o0:0<=odd
 o1:odd<=1000
 sn:∀w∈W.names,1<=w.length/\w.length<=7/\low w
 sd:∀w∈W.aq,1<=w.length/\w.length<=7/\low w
 sp:∀ps∈W.params,∀w∈ps,1<=w.length/\w.length<=7/\low w
 nn:W.names.Nodup
 nd:W.aq.Nodup
 np:∀ps∈W.params,ps.Nodup
section
variable {h:MH} {wd:Nat} {W:Wd} {fl:List Int} {left odd:Int}
theorem dC(a:h[wd]?=some (nR W fl left odd)):aG (.ob wd) (.str (Str.ofString "names")) h=some (.lv (W.names.map D.str),h):=by simp only[aG,c9,a,nR];rfl
theorem dD(a:h[wd]?=some (nR W fl left odd)):aG (.ob wd) (.str (Str.ofString "deeds")) h=some (.lv (W.aq.map D.str),h):=by simp only[aG,c9,a,nR];rfl
theorem cQ(b:h[wd]?=some (nR W fl left odd)):aG (.ob wd) (.str (Str.ofString "params")) h=some (.lv (W.params.map λa=>.lv (a.map D.str)),h):=by simp only[aG,c9,b,nR];rfl
theorem nV(a:h[wd]?=some (nR W fl left odd)):aG (.ob wd) (.str (Str.ofString "floors")) h=some (.lv (fl.map D.int),h):=by simp only[aG,c9,a,nR];rfl
theorem qp(a:h[wd]?=some (nR W fl left odd)):aG (.ob wd) (.str (Str.ofString "left")) h=some (.int left,h):=by simp only[aG,c9,a,nR];rfl
theorem AS(a:h[wd]?=some (nR W fl left odd)):aG (.ob wd) (.str (Str.ofString "odd")) h=some (.int odd,h):=by simp only[aG,c9,a,nR];rfl
theorem Gn(a:h[wd]?=some (nR W fl left odd))(v:Int):uC (.ob wd) (.str (Str.ofString "left")) (.int v) h=some (h.set wd (nR W fl v odd)):=by
 have b:(6:Nat) < sizeLine:=by decide
 simp only[uC,a,nR,qc,WY,WN,XO];rw[WC b];rfl
end
section
variable {h h0:MH} {s c wd R:Nat} {cs:List Int} {W:Wd} {fl:List Int} {left odd:Int} {Q:D×MH->Prop}
theorem Jx(A:Sb s c cs h0 (R+1) h)(d:h[wd]?=some (nR W fl left odd))(ok:CJ W fl odd)(k:∀(b:Bool)(a:MH),Sb s c cs h0 R a->Q (.bl b,a)):Rn (de [.ob s,.ob wd] h) Q:=by
 refine aW ?_;exists AS d;nofun;refine⟨_,rfl,λz=>?_,λz=>?_⟩
 ·exists AS d;nofun;refine dq A (Xa z) (by have:=ok.o1;exact X6 this (by decide)) λm a _ _ e=>?_;nofun;exact k _ _ e
 ·nofun;exact k _ _ (A.dn 1)
theorem yk{e:List Str}(A:Sb s c cs h0 (R+4) h)(hp:e.length<=3)(k:∀(t:Term)(n:MH),eA e t->t.2<=40->Sb s c cs h0 R n->Q (aU t,n)):Rn (bK [.ob s,.lv (e.map D.str)] h) Q:=by
 refine aW ?_;nofun;refine dq A (by decide) (by decide) λm n C y o=>?_;nofun;have plain:∀{l:MH} {P:D×MH->Prop},Sb s c cs h0 (R+1) l->(∀(i:Int)(b:MH),-40<=i/\i<=40->Sb s c cs h0 R b->P (.int i,b))->Rn (aI [.ob s,.lv [.int 0,.int 0,.int 1,.int 1,.int 2,.int 3,.int (-1),.int (m-40)]] l) P:=λf p=>
  iR (is:=[0,0,1,1,2,3,-1,m-40]) (λi=>-40<=i/\i<=40) (by intro x g;simp at g;lia) f λi b a _ d=>p i b a d
 refine⟨_,rfl,λz=>?_,λz=>⟨λz=>(nomatch z),λ_=>?_⟩⟩
 ·have z:0 < e.length:=by simpa using z
  nofun;refine dq o (by decide) (by decide) λv l _ _ f=>?_;nofun;refine⟨_,rfl,λ_=>?_,λ_=>?_⟩
  ·nofun;refine Jw f (.inl rfl) (by simpa using z) (by simp;lia) λE b j d=>?_;obtain⟨w,q,rfl⟩:=W6.mp j;nofun;refine iR (is:=[0,0,0,0,1,1,-1,2,m-40]) (λi=>-40<=i/\i<=40) (by intro x g;simp at g;lia) d λi r a _ u=>?_;nofun;exact k (w,i) r ⟨.inr q,by dsimp only;exact X6 (by decide) a.1,by dsimp only;exact X6 a.2 (by decide)⟩ a.2 u
  ·nofun;refine plain (f.dn 1) λi b a d=>?_;nofun;exact k (Str.ofString "",i) b ⟨.inl rfl,by dsimp only;exact X6 (by decide) a.1,by dsimp only;exact X6 a.2 (by decide)⟩ a.2 d
 ·nofun;refine plain (o.dn 2) λi b a d=>?_;nofun;exact k (Str.ofString "",i) b ⟨.inl rfl,by dsimp only;exact X6 (by decide) a.1,by dsimp only;exact X6 a.2 (by decide)⟩ a.2 d
end
def ck{b:Type}{a:List b}{f:b->D}{h:MH}{j:Nat}{x:b}(e:a[j]?=some x):aG (.lv (a.map f)) (.int j) h=some (f x,h):=by
 have hj:j < a.length:=by
  rcases YR j a.length with z | z
  ·exact z
  ·rw[Xh z] at e;cases e
 show((gg (a.map f) j).map λz=>(z,h))=_;have:gg (a.map f) j=some (f x):=by
  unfold gg;rw[show ux (a.map f).length j=some j by unfold ux;simp;exact hj];show(a.map f)[j]?=_;rw[WJ,e];rfl
 rw[this];rfl
def mY(i j:Int)(h:MH):xU [.int i,.int j] h=some (.int (max i j),h):=by
 show some (D.int (if j > i then j else i),h)=_;rw[show(if j > i then j else i)=max i j by split <;> lia]
def L3(i j:Int)(h:MH):IY [.int i,.int j] h=some (.int (min i j),h):=by
 show some (D.int (if j < i then j else i),h)=_;rw[show(if j < i then j else i)=min i j by split <;> lia]
def DO{d:Type}{o:Option Bool}{x y:Option d}{X Y:d->Prop}(r:∃c,o=some c/\(c=true->Rn x Y)/\(c=false->Rn y Y))(f:∀p,Y p->X p):∃c,o=some c/\(c=true->Rn x X)/\(c=false->Rn y X):=
 let⟨c,e,a,b⟩:=r
 ⟨c,e,λz=>(a z).imp f,λz=>(b z).imp f⟩
noncomputable def qT(t:Term):PyData:=.tuple [.str t.1,.int t.2]
theorem vd:∀a:List Term,i0 (a.map aU)=some (a.map qT)
 | []=>rfl
 | c::r=>by simp only[WG,i0,vd r,aU,kA,WY,Xf];rfl
theorem pG:∀a:List Term,PyData.depthAll (a.map qT)<=1
 | []=>by simp[PyData.depthAll]
 | c::r=>by
  have:=pG r;simp only[WG,PyData.depthAll,qT,PyData.depth]
  lia
def B8(a:List Term)(h:MH):qh (.lv (a.map aU)) (.lv []) h=some (.bl (!a.isEmpty),h):=by
 have:=pG a;simp only[qh,Nd,c9,Nc,Ge,vd,kA,i0,Xf,WY];rw[WC ⟨show PyData.depthAll _+1<=64 by exact Xk this (by decide),by decide⟩];cases a <;> rfl
section
variable {h h0:MH} {s c wd R:Nat} {cs:List Int} {W:Wd} {fl:List Int} {left odd:Int} {Q:D×MH->Prop}
theorem Qh{G:List Str}{j:Nat}{top:Int}{n:List Lock}(A:Sb s c cs h0 (R+10) h)(q:h0[wd]?=some (nR W fl left odd))(u:wd≠s)(ok:CJ W fl odd)(hp:W.params[j]?=some G)(hj:j < W.aq.length)(ht:top<=W.names.length)(hh:∀l∈n,eZ W G l)(hl:n.length<=1000)
  (o:∀(k:Int)(l:Lock)(p:MH),max top (fl[j]?.getD 0) < W.names.length->0<=k->k < W.names.length->eZ W G l->Sb s c cs h0 R p->Q (.tup [.int k,aN l],p))
  (H:∀(p:MH),max top (fl[j]?.getD 0)=W.names.length->Sb s c cs h0 R p->Q (.tup [.bo,.bo],p)):Rn (eS [.ob s,.ob wd,.int j,.int top,.lv (n.map aN)] h) Q:=by
 have hw:=A.at_ q u;obtain⟨f,hf⟩:∃f,fl[j]?=some f:=⟨_,WA (by rw[ok.Vn];exact hj)⟩;have N:=ok.f0 f (Wx hf);have n2:=ok.n2;rw[hf] at o H;dsimp only[Option.getD_some] at o H;refine aW ?_;exists nV hw;exists ck hf;exists mY top f h;have Z:0<=max top f:=by lia
 have X:max top f<=W.names.length:=by lia
 generalize max top f=lo at Z X o H ⊢;exists dC hw;nofun;refine⟨_,rfl,λz=>?_,λz=>?_⟩
 ·have z:lo=W.names.length:=by simpa using z
  nofun;exact H h z (A.dn 10)
 have z:lo≠W.names.length:=by simpa using z
 have z0:lo < W.names.length:=by lia
 have o:=λk l p=>o k l p z0;clear H;exists dC hw;nofun;simp only[Ws];refine dq A (by lia) (by lia) λm p m0 m1 A1=>?_;nofun;refine Jx A1 (A1.at_ q u) ok λb h2 A2=>?_;nofun;refine DO (Y:=λr=>∃(k:Int)(F:MH),r=(Fl.nx,[some (.ob s),some (.ob wd),some (.int j),some (.int top),some (.lv (n.map aN)),some (.int lo),some (.int k),none,none,none,none],F)/\0<=k/\k < W.names.length/\Sb s c cs h0 (R+7) F) ?_ ?_
 ·refine⟨b,rfl,λ_=>?_,λ_=>?_⟩
  ·exists dC (A2.at_ q u);nofun;simp only[Ws];refine dq A2 (by exact YV N.1 N.2) (by lia) λk F T o S=>?_;exact⟨k,F,rfl,T,o,S⟩
  ·nofun;exact⟨lo+m,h2,rfl,by lia,by lia,A2.dn 1⟩
 rintro _ ⟨k,F,rfl,T,kL,S⟩;have E:=S.at_ q u;have o:=λl p=>o k l p T kL;obtain⟨kn,rfl⟩:=Yn T;obtain⟨nm,w⟩:∃f,W.names[kn]?=some f:=⟨_,WA (by exact Y8.mp kL)⟩;show Rn _ _;exists dC E;exists ck w;nofun;refine dH ?_;nofun;refine⟨_,_,rfl,?_⟩;obtain⟨⟨ys,h4⟩,e4,J,I,δ4,M,_⟩:=xj (ws:=[]) (g:=gN 0) (c:=ax (ai bL (ai aG (aD 0) (eK (D.int 0))) (aD 1))) (e:=ai aG (aD 0) (eK (D.int 1))) (λx y=>∃l∈n,x=aN l/\y=aU l.2)
  (xs:=n.map aN) (δ:=[none,some (.str nm)]) (h:=F) (λj δ h'=>h'=F/\∃d0,δ=[d0,some (.str nm)]) ⟨rfl,_,rfl⟩ (λ_ _ _ _ _=>rfl) (by
   rintro i x δ h' hx ⟨rfl,d0,rfl⟩;obtain⟨l,hl,rfl⟩:=W6.mp (Wx hx);nofun;refine rv (a:=(.str l.1,_)) rfl ?_;nofun;refine⟨_,rfl,λ_=>?_,λ_=>⟨rfl,_,rfl⟩⟩;nofun;exact rv (a:=(aU l.2,_)) rfl ⟨⟨l,hl,rfl,rfl⟩,rfl,_,rfl⟩)
 dsimp only at M;subst M;refine rv e4 ⟨WL J (by rw[Ws,show sizeLine=16777216 from rfl];exact WL hl (by decide)),?_⟩;obtain⟨C,rfl,htm⟩:∃C:List Term,ys=C.map aU/\∀t∈C,eA G t:=by
  clear e4 J
  induction ys with
  | nil=>exact⟨[],rfl,λ_ z=>(nomatch z)⟩
  | cons y r ih=>
   obtain⟨js,rfl,p⟩:=ih λz hz=>I z (Wz _ hz);obtain⟨x,hx,l,hl,rfl,rfl⟩:=I y Wy;exact⟨l.2::js,rfl,List.forall_mem_cons.mpr ⟨(hh l hl).2,p⟩⟩
 nofun;have pl:=ok.p3 G (Wx hp);refine rv (B8 C _) ⟨_,rfl,λz=>?_,λz=>⟨λz=>(nomatch z),λ_=>?_⟩⟩
 ·nofun;refine Jx S E ok λb' h5 A5=>⟨_,rfl,λ_=>?_,λ_=>?_⟩
  ·have L:C≠[]:=by rintro rfl;cases z
   obtain⟨us,d,rfl⟩:∃us d,C=us++[d]:=⟨C.dropLast,C.getLast L,(AaP L).symm⟩;have v:=htm d (by simp);nofun;refine rv (a:=(aU d,_)) (by
    show((gg ((us++[d]).map aU) (-1)).map λz=>(z,h5))=_;rw[WR];show((gg (us.map aU++[aU d]) (-1)).map λz=>(z,h5))=_;rw[tq];rfl) ?_
   nofun;refine rv (a:=_) rfl ?_;nofun;refine dq A5 (by decide) (by decide) λm6 O m60 m61 P=>?_;exists L3 _ _ _;nofun;exact o (nm,(d.1,min 99 (d.2+1+m6))) O ⟨Wx w,v.1,by dsimp only;have:=v.2;lia,by dsimp only;lia⟩ (P.dn 5)
  ·exists cQ (A5.at_ q u);exists ck hp;nofun;refine yk (A5.dn 2) pl λt O U _ P=>?_;nofun;exact o (nm,t) O ⟨Wx w,U⟩ P
 ·exists cQ E;exists ck hp;nofun;refine yk (S.dn 3) pl λt O U _ P=>?_;nofun;exact o (nm,t) O ⟨Wx w,U⟩ P
end
def Ag(cs:List Int)(h:MH):bL (.lv (cs.map D.int)) (.lv []) h=some (.bl cs.isEmpty,h):=by
 simp only[bL,Nd,c9,Nc,Ge,rT,kA,i0,Xf,WY,PyData.depth,k6];cases cs <;> rfl
def Oy(r:Rn (m a h) λp=>∃j:Int,p.1=[.int j]/\0<=j/\j<=1000/\Q ((List.range j.toNat).map λ(k:Nat)=>D.int (k:Int),p.2)):Rn (Qs m a h) Q:=aS (r.imp λp u9=>by
 obtain⟨j,e,c,b,q⟩:=u9;rw[e];dsimp only;rw[WC ⟨c,b⟩];exact⟨_,rfl,q⟩)
section
variable {h h0:MH} {s c wd R:Nat} {cs:List Int} {W:Wd} {fl:List Int} {left odd:Int} {Q:D×MH->Prop}
theorem Qj{top:Int}(A:Sb s c cs h0 (R+14) h)(d:h0[wd]?=some (nR W fl left odd))(l:wd≠s)(ok:CJ W fl odd)(hp:W.params[j]?=some ps)(hj:j < W.aq.length)
  (kk:∀(r:Row)(T:MH),(∀n,aX W ps n r)->cnt r=1->Sb s c cs h0 R T->Q (aV r,T)):Rn (gG [.ob s,.ob wd,.int j,.int top] h) Q:=by
 have hw:=A.at_ d l;have d2:=ok.d2;have pl:=ok.p3 ps (Wx hp);obtain⟨dj,S⟩:∃f,W.aq[j]?=some f:=⟨_,WA hj⟩;refine aW ?_;nofun;refine gH ?_;exists dD hw;nofun;refine⟨(W.aq.map D.str).length,rfl,by rw[Ws];simp,by rw[Ws];lia,?_⟩;rw[Ws,W7];obtain⟨⟨ys,T⟩,e1,J,hym,δ1,O,_⟩:=xj (ws:=[]) (g:=gN 0) (c:=iU (ax (ai Gh (ai aG (ai aG (aD 3) (eK (.str "floors"))) (aD 0)) (aD 2))) (ax (ai Sz (aD 0) (aD 1)))) (e:=aD 0) (λx y=>y=x)
  (xs:=(List.range W.aq.length).map λ(k:Nat)=>D.int (k:Int)) (δ:=[none,some (.int j),some (.int top),some (.ob wd)]) (h:=h) (λi δ U=>U=h/\∃X,δ=[X,some (.int j),some (.int top),some (.ob wd)]) ⟨rfl,_,rfl⟩ (λ_ _ _ _ _=>rfl) (by
   rintro i x δ U E ⟨rfl,X,rfl⟩;rw[WJ] at E;obtain⟨k,N,G⟩:=W0.mp E;subst G;have o:k < fl.length:=by rw[ok.Vn];exact Xx.mp (Wx N)
   obtain⟨f,hf⟩:∃f,fl[k]?=some f:=⟨_,WA o⟩;exists nV hw;exists ck hf;nofun;refine⟨_,rfl,λ_=>?_,λ_=>⟨λz=>(nomatch z),λ_=>⟨rfl,_,rfl⟩⟩⟩;nofun;refine⟨_,rfl,λ_=>?_,λ_=>⟨rfl,_,rfl⟩⟩;nofun;exact⟨rfl,rfl,_,rfl⟩)
 dsimp only at O;subst O;refine rv e1 ⟨WL J (by rw[Ws,WX,show sizeLine=16777216 from rfl];exact WL d2 (by decide)),?_⟩;have u:∀v:List D,(∀y∈v,∃x,x∈(List.range W.aq.length).map (λ(k:Nat)=>D.int (k:Int))/\y=x)->∃p:List Int,v=p.map D.int/\∀k∈p,0<=k/\k < W.aq.length:=by
  intro v hz
  induction v with
  | nil=>exact⟨[],rfl,λ_ z=>(nomatch z)⟩
  | cons y r ih=>
   obtain⟨p,rfl,q⟩:=ih λz hz'=>hz z (Wz _ hz');obtain⟨x,E,rfl⟩:=hz y Wy;obtain⟨k,N,rfl⟩:=W6.mp E;exact⟨k::p,rfl,λi hi=>by
    rcases WI.mp hi with rfl | hi
    ·have:=Xx.mp N;clear ih;lia
    ·exact q i hi⟩
 have I:ys.length<=6:=by
  have h9:ys.length<=_:=J;rw[Ws,WX] at h9;exact WL h9 d2
 obtain⟨p,rfl,hjs⟩:=u ys hym;rw[Ws] at I;nofun;refine Jx A hw ok λb h2 A2=>?_;have L:=A2.at_ d l;nofun;refine DO (Y:=λr=>∃(ks:List Int),r=(Fl.nx,[some (.ob s),some (.ob wd),some (.int j),some (.int top),some (.lv (ks.map D.int)),none,none],h2)/\ks.length<=6/\∀k∈ks,0<=k/\k < W.aq.length) ?_ ?_
 ·refine⟨b,rfl,λ_=>?_,λ_=>?_⟩
  ·nofun;refine Oy ?_;exists dD L;nofun;refine⟨(W.aq.map D.str).length,rfl,by rw[Ws];simp,by rw[Ws];lia,?_⟩;rw[Ws,W7];obtain⟨ks,M,G⟩:=u _ λy hy=>⟨y,hy,rfl⟩;refine⟨ks,?_,?_,G⟩
   ·show _=_;rw[<-M];rfl
   ·have:=congrArg List.length M;rw[Ws,Ws,WX] at this
    lia
  ·nofun;exact⟨p,rfl,I,hjs⟩
 rintro _ ⟨ks,rfl,kn,hks⟩;show Rn _ _;nofun;refine rv (Ag ks _) ⟨_,rfl,λz=>?_,λz=>?_⟩
 ·exists dD L;exists ck S;nofun;have:=kk (.say dj) h2 (λn=>by unfold aX;exact W9 _ (Wx S)) (by rw[cnt]) (A2.dn 13);rw[aV] at this;exact this
 have z0:0 < ks.length:=by cases ks with | nil=>cases z | cons _ _=>simp
 nofun;refine Jw A2 (.inl rfl) (by simpa using z0) (by simp;lia) λd3 h3 hd3 A3=>?_;have hw3:=A3.at_ d l;obtain⟨k,N,rfl⟩:=W6.mp hd3;obtain⟨k0,k1⟩:=hks k N;obtain⟨m,rfl⟩:=Yn k0;have o:m < W.aq.length:=by exact Y8.mp k1
 obtain⟨dk,P⟩:∃f,W.aq[m]?=some f:=⟨_,WA o⟩;obtain⟨qs,F⟩:∃f,W.params[m]?=some f:=⟨_,WA (by rw[ok.pl];exact o)⟩;have ql:=ok.p3 qs (Wx F);nofun;refine dH ?_;exists cQ hw3;exists ck F;refine⟨_,_,rfl,?_⟩;obtain⟨⟨v,h4⟩,e4,w,δ4,_,Z⟩:=qA (ws:=[]) (g:=gN 0) (e:=aj bK (af (aD 2) (af (ai aG (ai aG (aD 3) (eK (.str "params"))) (aD 1)) aT))) (λ_ y=>∃t:Term,y=aU t/\eA ps t)
  (xs:=qs.map D.str) (δ:=[none,some (.int j),some (.ob s),some (.ob wd)]) (h:=h3) (λi δ U=>(∃X,δ=[X,some (.int j),some (.ob s),some (.ob wd)])/\Sb s c cs h0 (R+4*(3-i)) U) ⟨⟨_,rfl⟩,A3⟩ (λ_ _ _ _ _=>rfl) (by
   rintro i x δ U E ⟨⟨X,rfl⟩,Ai⟩;have hi:i < 3:=by
    have:=(Ww.mp E).1;rw[Ws] at this
    lia
   rw[show R+4*(3-i)=R+4*(3-(i+1))+4 by clear Ai;lia] at Ai;have hwi:=Ai.at_ d l;exists cQ hwi;exists ck hp;nofun;exact yk Ai pl λt h6 tk _ A6=>⟨⟨t,rfl,tk⟩,⟨_,rfl⟩,A6⟩)
 obtain⟨H,rfl,htm⟩:∃H:List Term,v=H.map aU/\∀t∈H,eA ps t:=by
  have hr:=w.right;clear e4 w Z;dsimp only at hr
  induction v with
  | nil=>exact⟨[],rfl,λ_ z=>(nomatch z)⟩
  | cons y r ih=>
   obtain⟨p,rfl,T⟩:=ih λz hz=>hr z (Wz _ hz);obtain⟨x,E,t,rfl,tk⟩:=hr y Wy;exact⟨t::p,rfl,λj hj=>by
    rcases WI.mp hj with rfl | hj
    ·exact tk
    ·exact T j hj⟩
 have C:=w.length;dsimp only at C;rw[Ws,Ws] at C;refine rv e4 ⟨by dsimp only;rw[Ws,show sizeLine=16777216 from rfl];lia,?_⟩;have Z:Sb s c cs h0 R h4:=Z.le (Xn _ _);have hw4:=Z.at_ d l;exists dD hw4;exists ck P;nofun;refine rv (a:=(.tup (H.map aU),_)) rfl ?_;nofun;have:=kk (.call dk H) h4 (λn=>by unfold aX;exact⟨⟨m,qs,P,F,C⟩,htm⟩) (by rw[cnt]) Z;rw[aV] at this;exact this
end
def gj(s wd:Nat)(h a:MH):Prop:=a.length=h.length/\∀k,k≠s->k≠wd->a[k]?=h[k]?
def gj.refl(s wd:Nat)(h:MH):gj s wd h h:=⟨rfl,λ_ _ _=>rfl⟩
theorem gj.trans(a:gj s wd h d)(b:gj s wd d c):gj s wd h c:=⟨b.1.trans a.1,λk n m=>(b.2 k n m).trans (a.2 k n m)⟩
def tP.two(a:tP s h b):gj s wd h b:=⟨a.1,λk n _=>a.2 k n⟩
theorem gj.set:gj s wd h (h.set wd o):=⟨Yo,λk _ n=>Xy (XJ n)⟩
def gj.Vy(b:gj s wd (a++g) d)(i:s < a.length)(h:wd < a.length):∃c,d=c++g/\gj s wd a c:=by
 have hl:d.length=a.length+g.length:=by rw[b.1];simp
 refine⟨d.take a.length,?_,by rw[W2];lia,λk f e=>?_⟩
 ·refine ZF λk=>?_
  by_cases z:k < a.length
  ·rw[WO (by rw[W2];lia),Xm z]
  ·rw[b.2 _ (by lia) (by lia),W5 (by exact XC z),W5 (by rw[W2];lia),W2];rw[show min a.length d.length=a.length by lia]
 ·by_cases z:k < a.length
  ·rw[Xm z,b.2 k f e,WO z]
  ·rw[Xh (by rw[W2];lia),Xh (by exact XC z)]
theorem g8(n:Nat):∀a:List Str,cY n (a.map D.str)=true
 | []=>rfl
 | j::r=>by rw[WG];show(fB n (.str _)&&cY n _)=true;rw[g8 n r];rfl
theorem vT(n:Nat):∀b:List (List Str),cY n (b.map λa=>.lv (a.map D.str))=true
 | []=>rfl
 | j::r=>by rw[WG];show(cY n (j.map D.str)&&cY n _)=true;rw[g8 n j,vT n r];rfl
def Cu(n:Nat)(W:Wd)(fl:List Int)(l odd:Int):AQ n (nR W fl l odd)=true:=by
 show(cY n _&&(cY n _&&(cY n _&&(cY n _&&(true&&(true&&true))))))=true;rw[g8,g8,vT,Ec];rfl
structure En where
 s:Nat
 c:Nat
 wd:Nat
 cs:List Int
 W:Wd
 fl:List Int
 odd:Int
 ok:CJ W fl odd
 ne:wd≠s
 nc:wd≠c
structure Wb(E:En)(h0:MH)(R l:Nat)(h:MH):Prop where
 S:St E.s E.c E.cs R h
 w:h[E.wd]?=some (nR E.W E.fl l E.odd)
 C:Cl h
 b:gj E.s E.wd h0 h
section
variable {E:En} {h0 h h1 h' g:MH} {R R' l l' k:Nat} {Q:D×MH->Prop}
theorem Wb.lt(A:Wb E h0 R l h):E.s < h.length/\E.c < h.length/\E.wd < h.length:=⟨A.S.lt.1,A.S.lt.2,(Ww.mp A.w).1⟩
theorem Wb.by(A:Wb E h0 R l h)(B:Sb E.s E.c E.cs h R' h1):Wb E h0 R' l h1:=⟨B.S,(B.b.2 _ E.ne).trans A.w,A.C.but B.S B.b,A.b.trans B.b.two⟩
theorem Wb.le(A:Wb E h0 R l h)(hR:R'<=R):Wb E h0 R' l h:=⟨A.S.le hR,A.w,A.C,A.b⟩
theorem Wb.here(A:Wb E h0 R l h):Wb E h R l h:=⟨A.S,A.w,A.C,gj.refl _ _ _⟩
theorem Wb.tr(A:Wb E h1 R l h)(b:gj E.s E.wd h0 h1):Wb E h0 R l h:=⟨A.S,A.w,A.C,b.trans A.b⟩
theorem Wb.set(A:Wb E h0 R l h)(v:Nat):Wb E h0 R v (h.set E.wd (nR E.W E.fl v E.odd)):=
 ⟨A.S.off E.ne E.nc,XH A.lt.2.2,A.C.set (Cu _ _ _ _ _),A.b.trans gj.set⟩
theorem Wb.push(A:Wb E h0 R l h)(a:AQ (h.length+1) o=true):Wb E (h++[o]) R l (h++[o]):=⟨A.S.more _,by rw[WO A.lt.2.2];exact A.w,A.C.snoc a,gj.refl _ _ _⟩
theorem P7(C:Cl h)(S:St E.s E.c E.cs R h')(w:h'[E.wd]?=some (nR E.W E.fl l E.odd))(b:gj E.s E.wd h h'):Cl h':=by
 intro o f;obtain⟨k,a⟩:=XT.mp f
 by_cases z:k=E.s
 ·subst z;obtain⟨n,t,e,_⟩:=S.st;rw[e] at a;cases a;show(true&&(decide (E.c < h'.length)&&(true&&true)))=true;rw[W4 S.lt.2];rfl
 ·by_cases d:k=E.wd
  ·subst d;rw[w] at a;cases a;exact Cu _ _ _ _ _
  ·rw[b.2 k z d] at a;rw[b.1];exact C o (Wx a)
theorem Wb.pop(c:Wb E h0 j f h)(A:Wb E (h++g) R l h'):∃a,h'=a++g/\a.length=h.length/\Wb E h0 R l a:=by
 obtain⟨h1,i,d⟩:=c.lt;obtain⟨a,rfl,b⟩:=A.b.Vy h1 d;have e:=b.1;have S:=A.S.cut (by lia) (by lia);have w:=A.w;rw[WO (by lia)] at w;exact⟨a,rfl,e,S,w,P7 c.C S w b,c.b.trans b⟩
theorem w_next(A:Wb E h0 (R+1) l h)(d:0 < m)(c:m<=10^40)(k:∀(r:Int)(h1:MH),0<=r->r < m->Wb E h0 R l h1->Q (.int r,h1)):Rn (aM [.ob E.s,.int m] h) Q:=
 dq A.S.sb d c λr h1 b a e=>k r h1 b a (A.by e)
theorem QY(A:Wb E h0 (R+1) l h)(hd:d=.lv xs\/d=.tup xs)(b:0 < xs.length)(a:xs.length<=1000000)(k:∀(x:D)(h1:MH),x∈xs->Wb E h0 R l h1->Q (x,h1)):Rn (aI [.ob E.s,d] h) Q:=
 Jw A.S.sb hd b a λx h1 c e=>k x h1 c (A.by e)
theorem Gp{is:List Int}(P:Int->Prop)(d:∀i∈is,P i)(A:Wb E h0 (R+1) l h)(k:∀(i:Int)(h1:MH),P i->Wb E h0 R l h1->Q (.int i,h1))(b:0 < is.length:=by simp)(a:is.length<=1000:=by simp):Rn (aI [.ob E.s,.lv (is.map D.int)] h) Q:=
 iR P d A.S.sb (λi h1 c _ e=>k i h1 c (A.by e)) b a
theorem wq(A:Wb E h0 (R+4) l h)(hp:a.length<=3)(k:∀(t:Term)(h1:MH),eA a t->Wb E h0 R l h1->Q (aU t,h1)):Rn (bK [.ob E.s,.lv (a.map D.str)] h) Q:=
 yk A.S.sb hp λt h1 ht _ b=>k t h1 ht (A.by b)
structure Cd(W:Wd)(j:Nat)(ps:List Str)(d:Nat)(top:Int)(held:List Lock):Prop where
 hp:W.params[j]?=some ps
 hj:j < W.aq.length
 d1:1<=d
 ht:top<=W.names.length
 hh:∀x∈held,eZ W ps x
 hl:held.length<=4*d
variable {j d f:Nat} {ps:List Str} {top:Int} {held:List Lock}
theorem Cd.more{W:Wd}{n:Nat}{a:Int}{ls:List Lock}(G:Cd W j ps d top held)(ht:a<=W.names.length)(hl:ls.length<=4*n)(c:∀x∈ls,eZ W ps x):Cd W j ps (d+n) a (held++ls):=
 ⟨G.hp,G.hj,WL G.d1 (Xn _ _),ht,λx b=>(Xi.mp b).elim (G.hh x) (c x),by have:=G.hl;rw[WQ];lia⟩
theorem Cd.deep{W:Wd}(G:Cd W j ps d top held):Cd W j ps (d+1) top held:=⟨G.hp,G.hj,Xu G.d1,G.ht,G.hh,by have:=G.hl;lia⟩
theorem Cd.pl(G:Cd E.W j ps d top held):ps.length<=3:=E.ok.p3 ps (Wx G.hp)
theorem Gq(A:Wb E h0 (R+10) l h)(G:Cd E.W j ps d top held)(hd:d<=5)(n:∀(k:Int)(x:Lock)(h1:MH),max top (E.fl[j]?.getD 0) < E.W.names.length->0<=k->k < E.W.names.length->eZ E.W ps x->Wb E h0 R l h1->Q (.tup [.int k,aN x],h1))
  (m:∀(h1:MH),max top (E.fl[j]?.getD 0)=E.W.names.length->Wb E h0 R l h1->Q (.tup [.bo,.bo],h1)):Rn (eS [.ob E.s,.ob E.wd,.int j,.int top,.lv (held.map aN)] h) Q:=
 Qh A.S.sb A.w E.ne E.ok G.hp G.hj G.ht G.hh (by have:=G.hl;lia) (λk x h1 a b c e i=>n k x h1 a b c e (A.by i)) λh1 a i=>m h1 a (A.by i)
theorem Ny(A:Wb E h0 (R+14) l h)(G:Cd E.W j ps d top held)(k:∀(r:Row)(h1:MH),(∀n,aX E.W ps n r)->cnt r=1->Wb E h0 R l h1->Q (aV r,h1)):Rn (gG [.ob E.s,.ob E.wd,.int j,.int top] h) Q:=
 Qj A.S.sb A.w E.ne E.ok G.hp G.hj λr h1 a b c=>k r h1 a b (A.by c)
abbrev JY(E:En)(h0:MH)(R l:Nat)(ps:List Str)(d:Nat)(Q:D×MH->Prop):Prop:=∀(r:Row)(l':Nat)(h':MH),aX E.W ps d r->l'+cnt r=l+1->Wb E h0 (R+100*l') l' h'->Q (aV r,h')
abbrev VD(E:En)(h0:MH)(R l:Nat)(ps:List Str)(d:Nat)(Q:D×MH->Prop):Prop:=∀(t:List Row)(l':Nat)(h':MH),bB E.W ps d t->t.length<=12->l'+cL t=l->Wb E h0 (R+100*l') l' h'->Q (.tup (cz t),h')
def Gb(E:En)(f:Nat):Prop:=∀{h0 h:MH} {R l j:Nat} {ps:List Str} {d:Nat} {top:Int} {held:List Lock} {a:Int} {Q:D×MH->Prop},Wb E h0 (R+100*l+4) l h->Cd E.W j ps d top held->d<=5->3*(5-d)+2<=f->1<=a->a<=12->VD E h0 R l ps d Q->
 Rn (bw f [.ob E.s,.ob E.wd,.int j,.int d,.int top,.lv (held.map aN),.int a] h) Q
def QB(E:En)(f:Nat):Prop:=∀{h0 h:MH} {R l j:Nat} {ps:List Str} {d:Nat} {top:Int} {held:List Lock} {Q:D×MH->Prop},Wb E h0 (R+100*l+100) l h->Cd E.W j ps d top held->d<=5->3*(5-d)+1<=f->JY E h0 R l ps d Q->
 Rn (gc f [.ob E.s,.ob E.wd,.int j,.int d,.int top,.lv (held.map aN)] h) Q
def JX(E:En)(f:Nat):Prop:=∀{h0 h:MH} {R l j:Nat} {ps:List Str} {d:Nat} {top:Int} {held:List Lock} {a:Str} {Q:D×MH->Prop},Wb E h0 (R+100*l+95) l h->Cd E.W j ps d top held->d < 5->3*(5-d)<=f->a∈[Str.ofString "within",Str.ofString "ask",Str.ofString "all"]->JY E h0 R l ps d Q->
 Rn (dc f [.ob E.s,.ob E.wd,.int j,.int d,.int top,.lv (held.map aN),.str a] h) Q
def Qu(E:En)(f:Nat):Prop:=∀{h0 h:MH} {R l j:Nat} {ps:List Str} {d:Nat} {top:Int} {held:List Lock} {Q:D×MH->Prop},Wb E h0 (R+100*l+95) l h->Cd E.W j ps d top held->d < 3->5 < l->3*(5-d)<=f->JY E h0 R l ps d Q->
 Rn (cB f [.ob E.s,.ob E.wd,.int j,.int d,.int top,.lv (held.map aN)] h) Q
end
def ph(r:Rn (b (entry len ds) h) (ET λp=>Rn (leave h p.1 p.2) Q)):Rn (Kc len b ds h) Q:=by
 obtain⟨p,e,q⟩:=aW r;obtain⟨z,a,k⟩:=q;refine⟨z,?_,k⟩;have e:((b (entry len ds) h).bind KI)=some p:=e;show((b (entry len ds) h).bind KI).bind _=_;rw[e];exact a
def pW{a:D->MH->Bool}{f:Nt}{o:EM}{m:AM}{b:DS}{h:MH}{Q:D×MH->Prop}(r:Rn (o b h) λp=>a p.1 p.2=true/\Rn (m b p.2) λq=>Rn (f p.1 q.1 q.2) Q):Rn (eM a f o m b h) Q:=
 aS (r.imp λp u9=>by obtain⟨e,r⟩:=u9;rw[WC e];exact aS r)
def cg(e:h[n]?=some (.lst xs)):dN (.ob n) h=true:=by unfold dN fV;dsimp only;rw[e];rfl
def cJ(e:h[n]?=some (.lst xs))(hl:xs.length < sizeLine):b9 (.ob n) [y] h=some (.bo,h.set n (.lst (xs++[y]))):=by unfold b9;dsimp only;rw[e];dsimp only;rw[WC hl]
def x6(n:Nat)(t:Term):fB n (aU t)=true:=rfl
def qI(n:Nat)(t:Lock):fB n (aN t)=true:=rfl
theorem dO(n:Nat)(f:α->D)(a:∀x,fB n (f x)=true):∀b:List α,cY n (b.map f)=true
 | []=>rfl
 | x::r=>by rw[WG];show(fB n (f x)&&cY n _)=true;rw[a x,dO n f a r];rfl
mutual
theorem Ct(n:Nat):∀r:Row,fB n (aV r)=true
 | .say w=>by rw[aV];rfl
 | .call d f=>by rw[aV];show(true&&(true&&(cY n _&&true)))=true;rw[dO n _ (x6 n)];rfl
 | .within l b=>by rw[aV];show(true&&(fB n (aN l)&&(cY n _&&true)))=true;rw[qI,dP n b];rfl
 | .all ls b=>by rw[aV];show(true&&(cY n _&&(cY n _&&true)))=true;rw[dO n _ (qI n),dP n b];rfl
 | .ask l b e=>by rw[aV];show(true&&(fB n (aN l)&&(cY n _&&(cY n _&&true))))=true;rw[qI,dP n b,dP n e];rfl
 | .uE s t a b c=>by rw[aV];show(true&&(fB n (aU s)&&(fB n (aU t)&&(cY n _&&(cY n _&&(cY n _&&true))))))=true;rw[x6,x6,dP n a,dP n b,dP n c];rfl
 | .either a b=>by rw[aV];show(true&&(cY n _&&(cY n _&&true)))=true;rw[dP n a,dP n b];rfl
 | .again a=>by rw[aV];show(true&&(cY n _&&true))=true;rw[dP n a];rfl
theorem dP(n:Nat):∀r:List Row,cY n (cz r)=true
 | []=>by rw[cz];rfl
 | r::rs=>by rw[cz];show(fB n _&&cY n _)=true;rw[Ct n r,dP n rs];rfl
end
def mN(e:H.length=n):(H++[a])[n]?=some a:=by rw[<-e];simp
def Kz(e:H.length=n):(H++[a]).set n b=H++[b]:=by rw[<-e];simp
section
variable {E:En} {f:Nat}
theorem BZ(hr:QB E f):Gb E (f+1):=by
 intro h0 h R l j X d top F c Q A G d5 hf m0 m1 k;unfold bw;refine ph ?_;nofun;refine gH ?_;nofun;refine rv (a:=(.lv (List.replicate 15 (D.int c)),_)) rfl ?_;nofun;refine rv (a:=(.lv ((List.replicate 15 c++[12]).map D.int),_)) rfl ?_;nofun;refine Gp (λi=>1<=i/\i<=12) (by intro x N;simp at N;lia) (A.push (o:=.lst []) rfl) λi h2 hi A2=>?_;nofun;refine w_next (m:=i+1) A2 (by lia) (by exact YV hi.2 (by decide)) λm h3 Y n1 U=>?_;nofun;refine⟨m,rfl,by exact X6 (by decide) Y,by lia,?_⟩;obtain⟨e,rfl,b,U⟩:=A.pop U;refine dI (λi J S=>∃(t:List Row)(p:Nat)(T:Option D)(e:MH),J=[some (.ob E.s),some (.ob E.wd),some (.int j),some (.int d),some (.int top),some (.lv (F.map aN)),some (.int c),some (.ob h.length),T]/\S=e++[.lst (cz t)]/\e.length=h.length/\bB E.W X d t/\t.length<=i/\p+cL t=l/\Wb E h0 (R+100*p+2) p e)
  ⟨[],l,_,e,rfl,by rw[cz],b,by unfold bB;trivial,WB _,by simp[cL],U⟩ (λ_ _ _ _ _=>rfl) ?_ ?_
 ·rintro q x J S N ⟨t,p,T,e,rfl,rfl,b,g,u,O,y⟩;have hq:q < 12:=by
   have:=(Ww.mp N).1;simp at this
   lia
  have I:=y.push (o:=.lst (cz t)) (dP _ t);exists qp I.w;nofun;refine⟨_,rfl,λz=>?_,λz=>?_⟩
  ·obtain⟨M,rfl⟩:∃n,p=n+1:=⟨p-1,by have:=Xa z;lia⟩;exists qp I.w;exists Gn I.w _;rw[show((M+1:Nat):Int)-1=(M:Int) by simp];have A6:=I.set M;nofun;refine pW ?_;nofun;refine⟨cg (xs:=cz t) (by rw[Xy (by have:=y.lt;lia)];exact mN b),?_⟩;nofun;refine hr (R:=R+2) (A6.le (by lia)) G d5 (by exact XE hf) λr Z h6 L cr A7=>?_;obtain⟨P,rfl,H,A8⟩:=y.pop A7;nofun;have v:=H.trans b;refine rv (cJ (mN v) (by rw[gW,Ws,show sizeLine=16777216 from rfl];lia)) ?_;rw[Kz v];nofun;have hcn:cL (t++[r])=cL t+cnt r:=by rw[Ap];simp[cL]
   exact⟨t++[r],Z,_,P,rfl,by rw[gW,gW,WR];rfl,v,vy g (by unfold bB;exact⟨L,by unfold bB;trivial⟩),by simp;exact u,by lia,A8.le (by lia)⟩
  ·nofun;exact⟨t,p,_,e,rfl,rfl,b,g,by exact Xu u,O,y⟩
 ·rintro J S ⟨t,p,T,e,rfl,rfl,b,g,u,O,y⟩;rw[Ws,WX] at u;nofun;refine rv (a:=(.tup (cz t),e++[.lst (cz t)])) (by simp only[bH,cp,mN b,Xf]) ?_;nofun;exact rv (mF b y.C (λn z=>(nomatch z)) (dP _ t)) (k t p e g (by lia) O (y.le (by lia)))
end
def KP:∀{f:List D} {b:DS} {h:MH} (J:List D->DS->MH->Prop),J [] b h->(∀c b h,J c b h->ir ws h=true)->
  (∀x c b h,x∈f->c.length < f.length->J c b h->Rn (g x b h) λq=>Rn (e q.1 q.2) λy=>J (c++[y.1]) q.1 y.2)->Rn (br ws g cb e f b h) λp=>p.1.length=f.length/\∃d,J p.1 d p.2:=by
 intro f
 induction f with
 | nil=>
  intro b h J i j _;unfold br;rw[WC (j [] b h i)];exact⟨_,rfl,rfl,b,i⟩
 | cons x f n=>
  intro b h J i j ht;unfold br;rw[WC (j [] b h i)];obtain⟨⟨m,s⟩,t,⟨y,w⟩,l,v⟩:=ht x [] b h Wy (YB _) i;obtain⟨⟨c,r⟩,k,a,d,u⟩:=n (λc=>J (y::c)) v (λc b h=>j (y::c) b h) λx c b h o hl=>ht x (y::c) b h (Wz _ o) (Nat.succ_lt_succ hl);refine⟨(y::c,r),?_,congrArg Nat.succ a,d,u⟩;rw[t];dsimp only[Option.bind_some];show((some (true,s)).bind _)=_;dsimp only[Option.bind_some] at l k ⊢;rw[WC rfl,l];dsimp only[Option.bind_some];rw[k];rfl
def sQ(f:α->D)(b a:List α)(h:MH)(hl:b.length+a.length<=1000):aQ (.lv (b.map f)) (.lv (a.map f)) h=some (.lv ((b++a).map f),h):=by
 rw[WR];simp only[aQ,Cf,fV,WY,Ws];rw[WC (by rw[show sizeLine=16777216 from rfl];exact WL hl (by decide))]
def RL(P:Prop)[Decidable P](e:Rn (t a h) λp=>p=(decide P,h))(c:P->Rn (x a h) Q)(b:¬P->Rn (y a h) Q):Rn (et t x y a h) Q:=by
 refine MX (e.imp ?_);rintro _ rfl;exact⟨λz=>c (Xa z),λz=>b (XZ z)⟩
def fx(P:Prop)[Decidable P](e:Rn (t a h) λp=>p=(decide P,h))(d:P->Rn (x a h) (uL b Q))(c:¬P->Rn (b a h) Q):Rn (ah (et t x bz) b a h) Q:=
 lX (RL P e d λz=>⟨_,rfl,c z⟩)
def dT [Decidable P](p:P)(h:MH):(true,h)=(decide P,h):=by rw[W4 p]
def dF [Decidable P](p:¬P)(h:MH):(false,h)=(decide P,h):=by rw[WW p]
section
variable {E:En} {f:Nat}
theorem vE{n:Nat}(e:Gb E f){r h:MH}{R l j:Nat}{i:List Str}{d:Nat}{top:Int}{b:List Lock}{Q:List D×MH->Prop}
  (A:Wb E r (R+100*l+12) l h) (hn:n<=3) (G:Cd E.W j i d top b) (L:d < 5) (O:3*(5-d)<=f) (k:∀(a:List (List Row)) (c:Nat) (g:MH),a.length=n->(∀t∈a,t.length<=12/\bB E.W i (d+1) t)->c+(a.map cL).sum=l->Wb E r (R+100*c) c g->Q (a.map (λt=>D.tup (cz t)),g)):
  Rn (br [] (gN 0) Sm.cb (aj (bw f) (af (aD 4) (af (aD 6) (af (aD 1) (af (ai aQ (aD 2) (eK (.int 1))) (af (aD 5) (af (aD 3) (af (eK (.int 2)) aT)))))))) ((List.range n).map λ(k:Nat)=>D.int k) [none,some (.int j),some (.int d),some (.lv (b.map aN)),some (.ob E.s),some (.int top),some (.ob E.wd)] h) Q:=by
 refine(KP (ws:=[]) (λC y g=>∃(v:Option D)(a:List (List Row)) (c:Nat),y=[v,some (.int j),some (.int d),some (.lv (b.map aN)),some (.ob E.s),some (.int top),some (.ob E.wd)]/\C=a.map (λt=>D.tup (cz t))/\(∀t∈a,t.length<=12/\bB E.W i (d+1) t)/\c+(a.map cL).sum=l/\Wb E r (R+100*c+(12-4*a.length)) c g) ⟨none,[],l,rfl,rfl,λ_ z=>(nomatch z),by simp,A⟩ (λ_ _ _ _=>rfl) ?_).imp ?_
 ·rintro x _ y g N o ⟨v,a,c,rfl,rfl,a8,H,w⟩;rw[Ws,Ws,WX] at o;nofun;refine e (R:=R+(8-4*a.length)) (d:=d+1) (w.le (by lia)) G.deep L (by lia) (by decide) (by decide) λt J I m q P M=>?_;refine⟨_,a++[t],J,rfl,by rw[WR];rfl,λu z=>?_,by simp;lia,M.le (by rw[WQ,Yv];lia)⟩;rcases Xi.mp z with z | z
  ·exact a8 u z
  ·rw[WD.mp z];exact⟨q,m⟩
 ·rintro⟨C,I⟩ ⟨p,_,v,a,c,_,F,a8,H,w⟩;dsimp only at p F;subst F;rw[Ws,Ws,WX] at p;exact k a c I p a8 H (w.le (by simp))
theorem N9(g:Gb E f)(P:JX E f)(N:Qu E f):QB E (f+1):=by
 intro h0 h R l j ps d top Z Q A G d5 I k;have pl:=G.pl;have n1:=E.ok.n1;have n2:=E.ok.n2;have d2:=E.ok.d2;unfold gc;refine aW ?_;nofun;refine w_next (m:=16) A (by decide) (by decide) λw h1 w0 w1 o=>?_;refine fx (w < 2\/(d=5/\w < 11)) ?_ (λz=>?_) (λz=>?_)
 ·nofun;refine⟨_,rfl,λz=>?_,λz=>?_⟩
  ·have z:w < 2:=by simpa using z
   exact dT (.inl z) _
  ·have z:¬w < 2:=by simpa using z
   nofun;refine⟨_,rfl,λy=>?_,λy=>?_⟩
   ·have y0:(d:Int)=5:=by simpa using y
    have y:d=5:=by lia
    nofun;refine⟨_,rfl,?_⟩;rw[show decide (w < 11)=decide (w < 2\/(d=5/\w < 11)) from AaA.mpr (by lia)]
   ·have y0:(d:Int)≠5:=by simpa using y
    have y:d≠5:=by lia
    exact dF (by lia) _
 ·exists dC o.w;exists dD o.w;exists sQ D.str E.W.names E.W.aq _ (by lia);nofun;refine QY (xs:=(E.W.names++E.W.aq).map D.str) o (.inl rfl) (by simp;lia) (by simp;lia) λx i q b=>?_;obtain⟨H,s,rfl⟩:=W6.mp q;nofun;rw[show D.tup [.str "say",.str H]=aV (.say H) by rw[aV]];exact k (.say H) l i (by unfold aX;exact s) (by rw[cnt]) (b.le (by lia))
 have nd:d=5->11<=w:=by lia
 have w2:2<=w:=by lia
 refine fx (12 < w\/d=5) ?_ (λz=>?_) (λz=>?_)
 ·nofun;refine⟨_,rfl,λy=>?_,λy=>?_⟩
  ·have y:12 < w:=by simpa using y
   exact dT (.inl y) _
  ·have y:¬12 < w:=by simpa using y
   nofun;refine⟨_,rfl,?_⟩;rw[show((d:Int)==5)=decide (12 < w\/d=5) by
    rw[XY];simp only[Yt,Xo];lia]
 ·nofun;refine Ny (R:=R+100*l) (o.le (by simp)) G λr i c p b=>?_;nofun;exact k r l i (c d) (by rw[p]) b
 have u:d < 5:=by lia
 refine fx (w=12/\d < 3/\5 < (l:Int)) ?_ (λz=>?_) (λz=>?_)
 ·nofun;refine⟨_,rfl,λy=>?_,λy=>?_⟩
  ·have y:w=12:=by simpa using y
   nofun;refine⟨_,rfl,λx=>?_,λx=>?_⟩
   ·have T:(d:Int) < 3:=by simpa using x
    have x:d < 3:=by exact Y8.mp T
    exists qp o.w;nofun;refine⟨_,rfl,?_⟩;rw[show decide (5 < (l:Int))=decide (w=12/\d < 3/\5 < (l:Int)) from AaA.mpr (by lia)]
   ·have T:¬(d:Int) < 3:=by simpa using x
    have x:¬d < 3:=by lia
    exact dF (by lia) _
  ·have y:w≠12:=by simpa using y
   exact dF (by clear y z;lia) _
 ·nofun;refine N (R:=R) (o.le (by simp)) G z.2.1 (by exact Y8.mp z.2.2) (by exact XE I) λr C i c p b=>?_;nofun;exact k r C i c p b
 refine fx (w=11\/w=12) ?_ (λz=>?_) (λz=>?_)
 ·nofun;refine⟨_,rfl,λy=>?_,λy=>?_⟩
  ·have y:w=11:=by simpa using y
   exact dT (.inl y) _
  ·have y:w≠11:=by simpa using y
   nofun;refine⟨_,rfl,?_⟩;rw[show(w==12)=decide (w=11\/w=12) by rw[XY];simp only[Yt,Xo];lia]
 ·show Rn (ah _ _ _ _) _;exists cQ o.w;exists ck G.hp;nofun;refine wq o pl λX i L b=>?_;exists cQ b.w;exists ck G.hp;nofun;refine wq b pl λU h3 J S=>?_;nofun;refine⟨_,_,rfl,?_⟩;nofun;refine gH ?_;nofun;refine⟨3,rfl,by lia,by lia,?_⟩;refine vE (n:=3) (R:=R) g (S.le (by simp)) (by lia) G u (by exact XE I) λe l4 h4 hn a8 p A4=>?_
  match e,hn with
  | [x,y,v],_=>
   refine⟨by show 3<=sizeLine;decide,?_⟩;nofun;refine rv (a:=(.tup [.tup (cz x),.tup (cz y),.tup (cz v)],_)) rfl ?_;nofun;refine rv (a:=(aV (.uE X U x y v),_)) (by rw[aV];rfl) ?_;nofun;simp only[WG,Yk,List.sum_cons,List.sum_nil] at p;have q:=a8 x (by simp);have F:=a8 y (by simp);have Y:=a8 v (by simp);exact k (.uE X U x y v) l4 h4 (by unfold aX;exact⟨L,J,u,q.1,F.1,Y.1,q.2,F.2,Y.2⟩) (by rw[cnt];lia) A4
 refine fx (w=10) ?_ (λz=>?_) (λz=>?_)
 ·nofun;refine⟨_,rfl,?_⟩;rw[show(w==10)=decide (w=10) by rw[XY];simp only[Yt,Xo]]
 ·nofun;refine gH ?_;nofun;refine⟨2,rfl,by lia,by lia,?_⟩;refine vE (n:=2) (R:=R) g (o.le (by simp)) (by lia) G u (by exact XE I) λe C i hn a8 p b=>?_
  match e,hn with
  | [x,y],_=>
   refine⟨by show 2<=sizeLine;decide,?_⟩;nofun;refine rv (a:=(.tup [.tup (cz x),.tup (cz y)],_)) rfl ?_;nofun;refine rv (a:=(aV (.either x y),_)) (by rw[aV];rfl) ?_;nofun;simp only[WG,Yk,List.sum_cons,List.sum_nil] at p;have q:=a8 x (by simp);have F:=a8 y (by simp);exact k (.either x y) C i (by unfold aX;exact⟨u,q.1,F.1,q.2,F.2⟩) (by rw[cnt];lia) b
 refine fx (w=9) ?_ (λz=>?_) (λz=>?_)
 ·nofun;refine⟨_,rfl,?_⟩;rw[show(w==9)=decide (w=9) by rw[XY];simp only[Yt,Xo]]
 ·nofun;refine g (R:=R) (d:=d+1) (o.le (by simp)) G.deep u (by clear z;lia) (by decide) (by decide) λt C i M O p b=>?_;nofun;rw[show D.tup [.str "again",.tup (cz t)]=aV (.again t) by rw[aV]];exact k (.again t) C i (by unfold aX;exact⟨u,O,M⟩) (by rw[cnt];lia) b
 nofun;refine QY (xs:=[Str.ofString "within",Str.ofString "within",Str.ofString "within",Str.ofString "within",Str.ofString "ask",Str.ofString "all"].map D.str) o (.inl rfl) (by simp) (by simp) λx i q b=>?_;obtain⟨H,s,rfl⟩:=W6.mp q;nofun;refine P (R:=R) (b.le (by simp)) G u (by exact XE I) (by simp at s ⊢;assumption) λr l3 h3 c p S=>?_;nofun;exact k r l3 h3 c p S
end
def ft(t:Lock):PyData:=.tuple [.str t.1,qT t.2]
def HC(t:Term):kA (aU t)=some (qT t):=by simp only[aU,kA,i0,WY,Xf];rfl
def zm(t:Lock):kA (aN t)=some (ft t):=by simp only[aN,kA,i0,HC,WY,Xf];rfl
theorem ou:∀a:List Lock,i0 (a.map aN)=some (a.map ft)
 | []=>rfl
 | c::r=>by simp only[WG,i0,ou r,zm,WY,Xf]
theorem gz:∀a:List Lock,PyData.depthAll (a.map ft)<=2
 | []=>by simp[PyData.depthAll]
 | c::r=>by
  have:=gz r;simp only[WG,PyData.depthAll,ft,qT,PyData.depth]
  lia
def xT{h:MH}{n:Nat}{a:List Lock}(x:Lock)(e:h[n]?=some (.lst (a.map aN))):oI (aN x) (.ob n) h=some (.bl (!(a.map ft).any λb=>PyData.eqv b (ft x)),h):=by
 have f:=gz a;have d:=gz [x];have c:(ft x).depth<=60:=by
  simp only[WG,Yk,PyData.depthAll] at d
  lia
 unfold oI inD;simp only[c9,e];show((cp (.ob n) h).bind _).map _=_;simp only[cp,e,WY,ou];show(((Ge h (aN x)).bind _).map _)=_;rw[show Ge h (aN x)=some (ft x) from zm x];dsimp only[Option.bind_some];rw[WC ⟨c,by exact WL f (by decide)⟩];rfl
def Oz(r:Rn (f c h) λp=>Rn (e c p.2) λq=>∃b a,fV p.1 q.2=some b/\fV q.1 q.2=some a/\b.length+a.length<=sizeLine/\Q (b++a,q.2)):Rn (Qt f e c h) Q:=
 aS (r.imp λp r=>aS (r.imp λq d=>by obtain⟨b,a,j,i,hl,g⟩:=d;exact⟨_,by rw[j];dsimp only[Option.bind_some];rw[i];dsimp only[Option.bind_some];rw[WC hl],g⟩))
def Jf(x:Lock):PyData.eqv (ft x) (ft x)=true:=by
 simp[ft,qT,PyData.eqv,PyData.eqvAll]
def KH(r:Row)(n:Nat):aV r≠.ob n:=by cases r <;> rw[aV] <;> exactλz=>(nomatch z)
def Wb.ext(A:Wb E h0 R l h)(C:Cl (h++g)):Wb E (h++g) R l (h++g):=⟨A.S.more _,by rw[WO A.lt.2.2];exact A.w,C,gj.refl _ _ _⟩
def Hx(b:gj E.s E.wd h0 h)(k:JY E h0 R l f d Q)(r:Row)(ok:aX E.W f d r)(i:a+cnt r=l+1)(A:Wb E h (R+100*a) a c)(e:aV r=x):Rn (leave h x (c++g)) Q:=
 ⟨_,e ▸ mF A.b.1 A.C (KH r) (Ct _ r),k r a c ok i (A.tr b)⟩
def xf(b:gj E.s E.wd h0 h)(k:JY E h0 R l c d Q)(r:Row)(ok:aX E.W c d r)(f:a+cnt r=l+1)(A:Wb E h (R+100*a) a i)(e:aV r=x):Rn (leave h x i) Q:=by
 have:=Hx (g:=[]) b k r ok f A e
 rwa [XW] at this
section
variable {E:En} {f:Nat}
theorem Fs(I:Gb E f):JX E (f+1):=by
 intro h0 h R l j ps d top m c Q A G Z hf hw k;obtain⟨dj,hdj⟩:∃f,E.W.aq[j]?=some f:=⟨_,WA G.hj⟩;have hl:=G.hl;have ht:=G.ht;have b0:=A.b;replace A:=A.here;unfold dc;refine ph ?_;nofun;refine Gq A G (by exact XQ Z) (λk1 lk h1 hmx k0 k2 N A1=>?_) λh1 _ A1=>?_
 ·nofun;refine rv (a:=(.bl false,_)) rfl ⟨_,rfl,λz=>(nomatch z),λ_=>?_⟩;refine⟨_,rfl,?_⟩;show Rn (ah _ _ _ _) _;refine fx (c=Str.ofString "all") ?_ (λz=>?_) (λz=>?_)
  ·nofun;refine⟨_,rfl,?_⟩;rw[show(c==Str.ofString "all")=decide (c=Str.ofString "all") by rw[XY];simp only[Yt,Xo]]
  ·show Rn (ah _ _ _ _) _;nofun;refine⟨_,_,rfl,?_⟩;nofun;refine gH ?_;nofun;refine Gp (is:=[1,1,2,3]) (λi=>1<=i/\i<=3) (by decide) (A1.push (o:=.lst [aN lk]) rfl) λi h2 hi A2=>?_;obtain⟨hb2,rfl,e2,A2'⟩:=A1.pop A2;nofun;refine⟨i,rfl,by exact X6 (by decide) hi.1,by exact YV hi.2 (by decide),?_⟩;refine dI (λi δ h'=>∃(ls:List Lock)(hi:Int)(n:Nat)(U T S:Option D)(p g:MH),δ=[some (.ob E.s),some (.ob E.wd),some (.int j),some (.int d),some (.int top),some (.lv (m.map aN)),some (.str c),some (.int k1),some (aN lk),some (.ob n),some (.int hi),U,T,S,none]/\h'=p++g/\h'[n]?=some (.lst (ls.map aN))/\h.length<=n/\lk∈ls/\ls.Nodup/\(∀x∈ls,eZ E.W ps x)/\ls.length<=i+1/\0<=hi/\hi < E.W.names.length/\Wb E h (R+100*l+(80-10*i)) l p/\Cl (p++g))
    ⟨[lk],k1,h1.length,none,none,none,hb2,[.lst [aN lk]],rfl,rfl,mN e2,by rw[A1.b.1];exact WB _,by simp,by simp,by simpa using N,WB _,k0,k2,A2'.le (by simp),A2.C⟩ (λ_ _ _ _ _=>rfl) ?_ ?_
   ·rintro q x δ h' O ⟨ls,Y,n,U,T,S,p,g,rfl,rfl,hn,hnl,P,nd,a8,J,hi0,hi1,L,C3⟩;have hq:q < 3:=by
     have:=(Ww.mp O).1;simp at this
     lia
    nofun;refine Gq (R:=R+100*l+(80-10*(q+1))) ((L.ext C3).le (by lia)) G (by lia) (λk4 e h4 _ k40 k41 okk4 A4=>?_) λh1 z4 _=>absurd z4 (by lia)
    ·have hn4:h4[n]?=some (.lst (ls.map aN)):=by
      have:=A.lt;rw[A4.b.2 n (by lia) (by lia)];exact hn
     obtain⟨u,rfl,e4,A4'⟩:=L.pop A4;exists mY _ _ _;nofun;refine Oz ?_;exists xT e hn4;obtain⟨us,v,hv,hus,husl,Kd,hokk⟩:∃(us:List Lock)(v:Int),Af [.bl (!(ls.map ft).any λb=>PyData.eqv b (ft e))] (u++g)=some (.int v,u++g)/\L0 (.lv [aN e]) (.int v) (u++g)=some (.lv (us.map aN),u++g)/\us.length<=1/\(ls++us).Nodup/\∀x∈ls++us,eZ E.W ps x:=by
      cases T9:((ls.map ft).any λb=>PyData.eqv b (ft e)) with
      | true=>exact⟨[],0,rfl,rfl,by simp,by simpa using nd,by simpa using a8⟩
      | false=>
       have hnot:e∉ls:=λz=>by
        rw[List.any_eq_false] at T9;exact T9 (ft e) (List.mem_map_of_mem z) (Jf e)
       refine⟨[e],1,rfl,rfl,by simp,?_,?_⟩
       ·rw[ZE];refine⟨nd,by simp,λx O y hy z=>hnot ?_⟩;rw[WD.mp hy] at z;rw[<-z];exact O
       ·intro x O;rcases Xi.mp O with z | z
        ·exact a8 x z
        ·rw[WD.mp z];exact okk4
     exists hv;exists hus;refine⟨ls.map aN,us.map aN,by simp only[fV,hn4],rfl,by rw[Ws,Ws,show sizeLine=16777216 from rfl];lia,?_⟩;refine⟨ls++us,max Y k4,(u++g).length,_,_,_,u,g++[.lst ((ls++us).map aN)],rfl,by rw[WR];exact XM _ _ _,by rw[WR];simp,?_,Aad _ P,Kd,hokk,by simp;lia,by lia,by lia,A4',?_⟩
     ·have:=A4'.b.1;rw[WQ];lia
     ·rw[<-XM];exact A4.C.snoc (o:=.lst _) (dO _ _ (qI _) _)
   ·rintro δ h' ⟨ls,Y,n,U,T,S,p,g,rfl,rfl,hn,hnl,P,nd,a8,J,hi0,hi1,L,C3⟩;rw[Ws,WX] at J L;replace L:=L.le (R':=R+100*l+10) (by lia);show Rn (ah _ _ _ _) _;refine lX ?_;refine Rn.imp (Q:=λr=>∃(ls:List Lock)(g:MH),r=(Fl.nx,[some (.ob E.s),some (.ob E.wd),some (.int j),some (.int d),some (.int top),some (.lv (m.map aN)),some (.str c),some (.int k1),some (aN lk),some (.ob n),some (.int Y),U,T,S,none],p++g)/\(p++g)[n]?=some (.lst (ls.map aN))/\2<=ls.length/\ls.length<=4/\ls.Nodup/\(∀x∈ls,eZ E.W ps x)/\Cl (p++g)) ?_ ?_
    ·exists gy hn;nofun;refine⟨_,rfl,λz=>?_,λz=>?_⟩
     ·have z:ls.length=1:=by
       have:((ls.map aN).length:Int)=1:=by simpa using z
       rw[Ws] at this
       lia
      obtain⟨x0,rfl⟩:∃x0,ls=[x0]:=YU.mp z;obtain rfl:lk=x0:=WD.mp P;obtain⟨nm,wo,F⟩:=lk;have H:=a8 _ (WD.mpr rfl);nofun;refine pW ?_;nofun;refine⟨cg hn,?_⟩;nofun;refine rv (a:=(.str nm,_)) rfl ?_;nofun;refine rv (a:=(aU (wo,F),_)) rfl ?_;nofun;refine rv (a:=(.str wo,_)) rfl ?_;nofun;refine rv (a:=(aU (wo,F),_)) rfl ?_;nofun;refine rv (a:=(.int F,_)) rfl ?_;nofun;refine rv (a:=(aU (wo,F),_)) rfl ?_;nofun;refine rv (a:=(.int F,_)) rfl ?_;nofun;obtain⟨v,hv,hm,v1,v0⟩:∃v:Int,Af [.bl (decide (90 < F))] (p++g)=some (.int v,p++g)/\jA (.int 2) (.int v) (p++g)=some (.int (2*v),p++g)/\(90 < F->v=1)/\(¬90 < F->v=0):=by
       by_cases z:90 < F
       ·exact⟨1,by rw[W4 z];rfl,rfl,λ_=>rfl,λy=>absurd z y⟩
       ·exact⟨0,by rw[WW z];rfl,rfl,λy=>absurd y z,λ_=>rfl⟩
      refine rv hv ?_;exists hm;exists cJ hn (by rw[Ws,show sizeLine=16777216 from rfl];simp);nofun;have hlen:=L.b.1;rw[Z5 _ _ (by lia)];have X:=H.2;have okn:=H.1;dsimp only at okn;unfold eA at X;dsimp only at X;have hvv:v=0\/v=1:=by by_cases z:90 < F <;> lia
      refine⟨[(nm,wo,F),(nm,wo,F+1-2*v)],_,rfl,?_,by simp,by simp,?_,?_,?_⟩
      ·rw[W5 (by lia),XH]
       ·rfl
       ·have:=(Ww.mp hn).1;rw[WQ] at this
        lia
      ·simp;lia
      ·intro x O;rcases WI.mp O with rfl | O
       ·exact H
       ·rw[WD.mp O];exact⟨okn,X.1,by dsimp only;lia,by dsimp only;lia⟩
      ·rw[<-Z5 _ _ (by lia)];exact C3.set (o:=.lst _) rfl
     ·have z:ls.length≠1:=by
       have:((ls.map aN).length:Int)≠1:=by simpa using z
       rw[Ws] at this
       lia
      have:0 < ls.length:=Abp P;exact⟨_,rfl,ls,g,rfl,hn,by lia,by lia,nd,a8,C3⟩
    rintro _ ⟨ls,g,rfl,hn,l2,l4,nd,a8,C4⟩;have A4:=L.ext C4;show Rn (ah _ _ _ _) _;exists AS A4.w;nofun;obtain⟨v,hv,v0,v1⟩:∃v:Int,Af [.bl (E.odd==0)] (p++g)=some (.int v,p++g)/\0<=v/\v<=1:=by
     cases E.odd==0
     ·exact⟨0,rfl,by lia,by lia⟩
     ·exact⟨1,rfl,by lia,by lia⟩
    refine rv hv ?_;nofun;refine rv (a:=(.tup (ls.map aN),_)) (by simp only[bH,cp,hn,Xf];rfl) ?_;exists mY _ _ _;nofun;refine rv (a:=(.lv ((m++ls).map aN),_)) (by
     rw[WR];simp only[aQ,Cf,fV,hn,WY,Ws];rw[WC (by rw[show sizeLine=16777216 from rfl];lia)]) ?_
    nofun;refine I (R:=R) (d:=d+1) (A4.le (by simp)) (G.more (n:=1) (by lia) (by lia) a8) Z (by lia) (by decide) (by decide) λt l5 h5 M hll5 cr A5=>?_;obtain⟨hb5,rfl,_,A5'⟩:=L.pop A5;nofun;exact Hx b0 k (.all ls t) (by unfold aX;exact⟨⟨l2,l4,nd,a8⟩,Z,hll5,M⟩) (by rw[cnt];lia) A5' (by rw[aV])
  refine lX ?_;exists mY _ _ _;exists sQ aN m [lk] _ (by simp;lia);nofun;refine I (R:=R+10) (d:=d+1) (A1.le (by lia)) (G.more (n:=1) (ls:=[lk]) (by clear hmx;lia) (by simp) (by simpa using N)) Z (by lia) (by decide) (by decide) λt l2 h2 M J cr A2=>?_;refine Rn.imp (Q:=_) (fx (c=Str.ofString "ask") ?_ (λz=>?_) (λz=>?_)) λ_ z=>z
  ·nofun;refine⟨_,rfl,?_⟩;rw[show(c==Str.ofString "ask")=decide (c=Str.ofString "ask") by rw[XY];simp only[Yt,Xo]]
  ·nofun;refine I (R:=R) (d:=d+1) (A2.le (by lia)) G.deep Z (by lia) (by decide) (by decide) λt3 l3 h3 okl3 hll3 cr3 L=>?_;nofun;exact xf b0 k (.ask lk t t3) (by unfold aX;exact⟨N,Z,J,hll3,M,okl3⟩) (by rw[cnt];lia) L (by rw[aV])
  ·nofun;exact xf b0 k (.within lk t) (by unfold aX;exact⟨N,Z,J,M⟩) (by rw[cnt];lia) (A2.le (by lia)) (by rw[aV])
 ·nofun;refine rv (a:=(.bl true,_)) rfl ⟨_,rfl,λ_=>?_,λz=>(nomatch z)⟩;exists dD A1.w;exists ck hdj;nofun;exact xf b0 k (.say dj) (by unfold aX;exact W9 _ (Wx hdj)) (by rw[cnt]) (A1.le (by lia)) (by rw[aV])
end
def Ca(a:List Lock)(h:MH):qh (.lv (a.map aN)) (.lv []) h=some (.bl (!a.isEmpty),h):=by
 have:=gz a;simp only[qh,Nd,c9,Nc,Ge,ou,kA,i0,Xf,WY];rw[WC ⟨show PyData.depthAll _+1<=64 by exact Xk this (by decide),by decide⟩];cases a <;> rfl
section
variable {E:En}
theorem NB{f:Nat}(hlot:Gb E f):Qu E (f+1):=by
 intro h0 h R l j ps d top p Q A G d3 l5 hf k;have pl:=G.pl;have hl:=G.hl;have ht:=G.ht;have b0:=A.b;replace A:=A.here;obtain⟨dj,S⟩:∃f,E.W.aq[j]?=some f:=⟨_,WA G.hj⟩;obtain⟨fj,hfj⟩:∃f,E.fl[j]?=some f:=⟨_,WA (by rw[E.ok.Vn];exact G.hj)⟩;have hfm:=E.ok.f0 fj (Wx hfj);have J:Rn (leave h (.tup [.str "say",.str dj]) h) Q:=xf b0 k (.say dj) (by unfold aX;exact W9 _ (Wx S)) (by rw[cnt]) (A.le (by lia)) (by rw[aV]);unfold cB;refine ph ?_;exists nV A.w;exists ck hfj;exists mY top fj h;have lo0:0<=max top fj:=by lia
 have lo1:max top fj<=E.W.names.length:=by lia
 generalize max top fj=lo at lo0 lo1 ⊢;refine fx (lo=E.W.names.length) ?_ (λz=>?_) (λz=>?_)
 ·exists dC A.w;nofun;refine⟨_,rfl,?_⟩;rw[Ws,show(lo==(E.W.names.length:Int))=decide (lo=E.W.names.length) by rw[XY];simp only[Yt,Xo]]
 ·exists dD A.w;exists ck S;nofun;exact J
 obtain⟨kn,rfl⟩:=Yn lo0;have hkn:kn < E.W.names.length:=by lia
 obtain⟨nm,O⟩:∃f,E.W.names[kn]?=some f:=⟨_,WA hkn⟩;refine lX ?_;nofun;refine dH ?_;nofun;refine⟨_,_,rfl,?_⟩;obtain⟨⟨ys,h4⟩,e4,hyl,hym,δ4,hh4,_⟩:=xj (ws:=[]) (g:=gN 0) (c:=ax (ai bL (ai aG (aD 0) (eK (.int 0))) (ai aG (ai aG (aD 2) (eK (.str "names"))) (aD 1)))) (e:=aD 0) (λx y=>∃l∈p,y=aN l)
  (xs:=p.map aN) (δ:=[none,some (.int kn),some (.ob E.wd)]) (h:=h) (λj δ h'=>h'=h/\∃d0,δ=[d0,some (.int kn),some (.ob E.wd)]) ⟨rfl,_,rfl⟩ (λ_ _ _ _ _=>rfl) (by
   rintro i x δ h' H ⟨rfl,d0,rfl⟩;obtain⟨l,hl,rfl⟩:=W6.mp (Wx H);nofun;refine rv (a:=(.str l.1,_)) rfl ?_;exists dC A.w;exists ck O;nofun;refine⟨_,rfl,λ_=>?_,λ_=>⟨rfl,_,rfl⟩⟩;nofun;exact⟨⟨l,hl,rfl⟩,rfl,_,rfl⟩)
 dsimp only at hh4;subst hh4;refine rv e4 ⟨WL hyl (by rw[Ws,show sizeLine=16777216 from rfl];lia),?_⟩;obtain⟨ts,rfl⟩:∃ts:List Lock,ys=ts.map aN:=by
  clear e4 hyl
  induction ys with
  | nil=>exact⟨[],rfl⟩
  | cons y r ih=>
   obtain⟨js,rfl⟩:=ih λz hz=>hym z (Wz _ hz);obtain⟨x,H,l,hl,rfl⟩:=hym y Wy;exact⟨l::js,rfl⟩
 nofun;refine rv (Ca ts _) ⟨_,rfl,λz=>?_,λz=>?_⟩
 ·exists dD A.w;exists ck S;nofun;exact J
 exists dC A.w;exists ck O;exists qp A.w;exists Gn A.w _;rw[show(l:Int)-5=((l-5:Nat):Int) by lia];have A1:=A.set (l-5);generalize h4.set E.wd (nR E.W E.fl ((l-5:Nat):Int) E.odd)=h5 at A1 ⊢;exists cQ A1.w;exists ck G.hp;nofun;refine wq A1 pl λt1 h2 F A2=>?_;exists cQ A2.w;exists ck G.hp;nofun;refine wq A2 pl λt2 h3 L A3=>?_;nofun;refine⟨_,_,rfl,?_⟩;nofun;refine dH ?_;nofun;refine⟨_,_,rfl,?_⟩;have C:=A3.b.1;have q:=Wx O;refine dI (λi δ h'=>∃(m:List Row)(l':Nat)(Y X U:Option D)(T:MH),δ=[some (.ob E.s),some (.ob E.wd),some (.int j),some (.int d),some (.int top),some (.lv (p.map aN)),some (.int kn),some (.str nm),some (aU t1),some (aU t2),some (.ob h3.length),Y,X,U]/\h'=T++[.lst (m.map λr=>.tup [aV r])]/\m.length=i/\(∀r∈m,aX E.W ps (d+1) r)/\l'+(m.map cnt).sum+5=l+2*i/\Wb E h4 (R+100*l'+(8-4*i)) l' T)
  ⟨[],l-5,_,_,_,h3,rfl,rfl,rfl,λ_ z=>(nomatch z),by simp;lia,A3.le (by lia)⟩ (λ_ _ _ _ _=>rfl) ?_ ?_
 ·rintro i x δ h' H ⟨m,l',Y,X,U,T,rfl,rfl,N,I,hc,A6⟩;have hi:i < 2:=(Ww.mp H).1;obtain⟨u,v,rfl,uk,vk⟩:∃u v:Term,x=.tup [aU u,aU v]/\eA ps u/\eA ps v:=by
   rcases WI.mp (Wx H) with rfl | H
   ·exact⟨t1,t2,rfl,F,L⟩
   ·rw[WD.mp H];exact⟨t2,t1,rfl,L,F⟩
  have hlb:T.length=h3.length:=A6.b.1.trans C.symm;generalize M:m.map (λr=>D.tup [aV r])=rs;have hcl:cY (T.length+1) rs=true:=by rw[<-M];exact dO _ _ (λr=>by show(fB _ (aV r)&&true)=true;rw[Ct];rfl) m
  exists sQ aN p [(nm,u),(nm,v)] _ (by simp;lia);nofun;refine hlot (R:=R+(8-4*(i+1))) (d:=d+3) ((A6.push (o:=.lst rs) hcl).le (by lia)) (G.more (n:=3) (ls:=[(nm,u),(nm,v)]) lo1 (by simp) (by
   intro x H;rcases WI.mp H with rfl | z
   ·exact⟨q,uk⟩
   ·rw[WD.mp z];exact⟨q,vk⟩)) (by lia) (by lia) (by decide) (by decide) λt l7 h7 okl hll cr A7=>?_
  obtain⟨hb7,rfl,e7,A7'⟩:=A6.pop A7;have P:=e7.trans hlb;nofun;refine pW ?_;nofun;refine⟨cg (mN P),?_⟩;exists cJ (mN P) (by rw[<-M,Ws,show sizeLine=16777216 from rfl];lia);rw[Kz P];nofun;have hcn:((m++[Row.within (nm,u) [Row.within (nm,v) t]]).map cnt).sum=(m.map cnt).sum+(2+cL t):=by
   rw[WR,List.sum_append];simp[cnt,cL]
   lia
  refine⟨m++[.within (nm,u) [.within (nm,v) t]],l7,_,_,_,hb7,rfl,?_,by simp[N],?_,by rw[hcn];lia,A7'.le (by lia)⟩
  ·rw[WR,M];simp[aV,cz,aN]
  ·intro r hr;rcases Xi.mp hr with z | z
   ·exact I r z
   ·rw[WD.mp z];simp only[aX,bB];exact⟨⟨q,uk⟩,by exact Xk d3 (by decide),by simp,⟨⟨q,vk⟩,by lia,hll,okl⟩,trivial⟩
 ·rintro δ h' ⟨m,l',Y,X,U,T,rfl,rfl,N,I,hc,A6⟩
  match m,N with
  | [r0,Z],_=>
   have hc:l'+(([r0,Z]:List Row).map cnt).sum+5=l+2*2:=hc;have hat:(T++[MO.lst [.tup [aV r0],.tup [aV Z]]])[h3.length]?=some (.lst [.tup [aV r0],.tup [aV Z]]):=mN (A6.b.1.trans C.symm);show Rn _ _;exists jB hat (d:=.tup [aV r0]) rfl;exists jB hat (d:=.tup [aV Z]) rfl;nofun;refine Hx b0 k (.uE t1 t2 [r0] [.within (nm,t1) []] [Z]) ?_ ?_ (A6.le (by exact WB _)) (by simp[aV,cz,aN])
   ·simp only[aX,bB];exact⟨F,L,by exact WM d3 (by decide),by simp,by simp,by simp,⟨I r0 (by simp),trivial⟩,⟨⟨⟨q,F⟩,by exact Xk d3 (by decide),by simp,trivial⟩,trivial⟩,⟨I Z (by simp),trivial⟩⟩
   ·simp[cnt,cL] at hc ⊢;lia
theorem ring:∀f,Gb E f/\QB E f/\JX E f/\Qu E f
 | 0=>⟨λ_ _ _ z=>absurd z (by lia),λ_ _ _ z=>absurd z (by lia),λ_ _ e z=>absurd z (by lia),λ_ _ e _ z=>absurd z (by lia)⟩
 | f+1=>let⟨a,b,c,d⟩:=ring f;⟨BZ b,N9 a c d,Fs a,NB a⟩
end
theorem qE{P:Int->Prop}:∀{zs:List D},(∀y∈zs,∃i,y=.int i/\P i)->∃a:List Int,zs=a.map D.int/\∀j∈a,P j
 | [],_=>⟨[],rfl,λ_ z=>(nomatch z)⟩
 | y::r,h=>by
  obtain⟨a,rfl,q⟩:=qE (zs:=r) λz b=>h z (Wz _ b);obtain⟨i,rfl,p⟩:=h y Wy;exact⟨i::a,rfl,λj hj=>by
   rcases WI.mp hj with rfl | hj
   ·exact p
   ·exact q j hj⟩
def FN(f:α->D)(a:List α)(k:Nat)(h:MH):qg (.lv (a.map f)) none (some (k:Int)) h=some (.lv ((a.take k).map f),h):=by
 show some (D.lv (cutD (a.map f) none (some (k:Int))),h)=_;unfold cutD;rw[HT.lQ,HT.wR,Zv,Abn,Ws,<-Aam]
 by_cases z:k<=a.length
 ·rw[AaL z]
 ·rw[Nat.min_eq_right (by lia),YS (WB _),YS (by lia)]
def Mn{h O:MH}{s c R:Nat}{cs:List Int}{m odd:Int}{Q:D×MH->Prop}(A:Sb s c cs O (R+80) h)(o0:0<=odd)(o1:odd<=1000)(k:∀(W:Wd)(fl:List Int)(Z:MH),CJ W fl odd->Sb s c cs O R Z->Q (.ob Z.length,Z++[nR W fl m odd])):Rn (iF [.ob s,.int m,.int odd] h) Q:=by
 refine aW ?_;nofun;refine iR (is:=[1,2,2,3,4,6]) (λi=>1<=i/\i<=6) (by decide) A λn1 h1 I _ A1=>?_;nofun;refine yj A1 (by exact Abt I.1) I.2 λns h2 nl nk U A2=>?_;nofun;refine iR (is:=[1,1,2,2,3,4,6]) (λi=>1<=i/\i<=6) (by decide) A2 λn2 h3 H _ A3=>?_;nofun;refine yj A3 (by exact Abt H.1) H.2 λC h4 dl dk dnd A4=>?_;nofun;refine yj A4 (by lia) (by lia) λo h5 pl pk T A5=>?_;nofun;refine dH ?_;nofun;refine⟨_,_,rfl,?_⟩;obtain⟨⟨ys,h6⟩,e6,a6,δ6,_,S⟩:=qA (ws:=[]) (g:=gN 0) (e:=aj aI (af (aD 1) (af (eK (.lv [.int 0,.int 1,.int 1,.int 2,.int 2,.int 3])) aT))) (λ_ y=>∃i,y=.int i/\0<=i/\i<=3)
  (xs:=C.map D.str) (δ:=[none,some (.ob s)]) (h:=h5) (λi δ M=>(∃u,δ=[u,some (.ob s)])/\Sb s c cs O (R+18-i) M) ⟨⟨_,rfl⟩,A5⟩ (λ_ _ _ _ _=>rfl) (by
   rintro i x δ M F ⟨⟨u,rfl⟩,S⟩;have Y:i < 6:=by
    have:=(Ww.mp F).1;rw[Ws] at this
    lia
   nofun;exact iR (R:=R+18-(i+1)) (is:=[0,1,1,2,2,3]) (λi=>0<=i/\i<=3) (by decide) (S.le (by lia)) λi t Y _ E=>⟨⟨i,rfl,Y⟩,⟨_,rfl⟩,E⟩)
 have l6:=a6.length;obtain⟨j,rfl,v⟩:=qE (P:=λi=>0<=i/\i<=3) λy X=>(let⟨_,_,r⟩:=a6.right y X;r);dsimp only at l6;rw[Ws,Ws] at l6;rw[Ws] at S;refine rv e6 ⟨by dsimp only;rw[Ws,show sizeLine=16777216 from rfl];lia,?_⟩;nofun;refine dH ?_;nofun;refine⟨_,_,rfl,?_⟩;obtain⟨⟨ys,t⟩,e7,a7,δ7,_,E⟩:=qA (ws:=[]) (g:=gN 0) (e:=aj aM (af (aD 2) (af (aj bR (af (aD 1) aT)) aT))) (λ_ y=>∃i,y=.int i/\0<=i/\i < ns.length)
  (xs:=C.map D.str) (δ:=[none,some (.lv (ns.map D.str)),some (.ob s)]) (h:=h6) (λi δ M=>(∃u,δ=[u,some (.lv (ns.map D.str)),some (.ob s)])/\Sb s c cs O (R+12-i) M) ⟨⟨_,rfl⟩,S.le (by lia)⟩ (λ_ _ _ _ _=>rfl) (by
   rintro i x δ M F ⟨⟨u,rfl⟩,E⟩;have Y:i < 6:=by
    have:=(Ww.mp F).1;rw[Ws] at this
    lia
   nofun;rw[Ws];exact dq (R:=R+12-(i+1)) (E.le (by clear E F;lia)) (by lia) (by lia) λr h8 r0 r1 A8=>⟨⟨r,rfl,r0,r1⟩,⟨_,rfl⟩,A8⟩)
 have l7:=a7.length;obtain⟨l,rfl,J⟩:=qE (P:=λi=>0<=i/\i < ns.length) λy X=>(let⟨_,_,r⟩:=a7.right y X;r);dsimp only at l7;rw[Ws,Ws] at l7;rw[Ws] at E;refine rv e7 ⟨by dsimp only;rw[Ws,show sizeLine=16777216 from rfl];lia,?_⟩;nofun;refine rv (a:=(.lv ((kj l).map D.int),t)) (by
  show(sG (l.map D.int)).bind _=_;rw[vL];show(if l.length < 64 then _ else _)=_;rw[WC (by lia)]) ?_
 nofun;refine dH ?_;nofun;refine⟨_,_,rfl,?_⟩;have e8:br [] (gN 0) cb (kd (aD 1) AN (AO (aD 0))) (j.map D.int) [none,some (.lv (o.map D.str))] t=some ((j.map D.int).filterMap λd=>match d with | .int k=>some (.lv ((o.take k.toNat).map D.str)) | _=>none,t):=
  Dw rfl _ (λδ=>∃u,δ=[u,some (.lv (o.map D.str))]) ⟨_,rfl⟩ (by
   rintro x F δ ⟨u,rfl⟩;obtain⟨k,N,rfl⟩:=W6.mp F;refine rv rfl ⟨rfl,rv rfl ⟨rfl,⟨_,rfl⟩,λ_=>⟨_,rfl,?_⟩,λz=>(nomatch z)⟩⟩;obtain⟨n,rfl⟩:=Yn (v k N).1;nofun;refine⟨_,rfl,rv (FN D.str o n _) ?_⟩;rfl)
 have e9:((j.map D.int).filterMap λd=>match d with | .int k=>some (D.lv ((o.take k.toNat).map D.str)) | _=>none)=(j.map λk=>o.take k.toNat).map λo=>D.lv (o.map D.str):=by
  rw[Zu,YD];exact congrFun (Abz (f:=(λo:List Str=>D.lv (o.map D.str))∘λk:Int=>o.take k.toNat)) _
 rw[e9] at e8;refine rv e8 ⟨by dsimp only;rw[Ws,Ws,show sizeLine=16777216 from rfl];lia,?_⟩;nofun;have L:∀(a b c d e f:D),Rn (Cn (gV (eK (.str "names")) (aD 3) (gV (eK (.str "deeds")) (aD 4) (gV (eK (.str "params")) (aD 5) (gV (eK (.str "floors")) (aD 7) (gV (eK (.str "left")) (aD 1) (gV (eK (.str "odd")) (aD 2) OX)))))) [some (.ob s),some (.int m),some (.int odd),some a,some b,some c,some d,some e] t) λp=>p=(.ob t.length,t++[.dct [(.inr (Str.ofString "names"),a),(.inr (Str.ofString "deeds"),b),(.inr (Str.ofString "params"),c),(.inr (Str.ofString "floors"),e),(.inr (Str.ofString "left"),.int m),(.inr (Str.ofString "odd"),.int odd)]]):=λa b c d e f=>⟨_,rfl,rfl⟩;refine(L _ _ _ _ _ .bo).imp ?_;rintro _ rfl;nofun;refine k ⟨ns,C,j.map λk=>o.take k.toNat⟩ (kj l) t ⟨?_,?_,?_,?_,?_,?_,?_,?_,o0,o1,nk,dk,?_,U,dnd,?_⟩ (E.le (by lia))
 ·show 1<=ns.length;lia
 ·show ns.length<=6;lia
 ·show 1<=C.length;lia
 ·show C.length<=6;lia
 ·show(j.map _).length=C.length;rw[Ws];lia
 ·intro q G;obtain⟨k,N,rfl⟩:=W6.mp G;rw[W2];have:=pl
  lia
 ·show(kj l).length=C.length;rw[(ib l).length_eq];lia
 ·intro f hf;exact J f ((ib l).mem_iff.mp hf)
 ·intro q G w hw;obtain⟨k,N,rfl⟩:=W6.mp G;exact pk w (Aac hw)
 ·intro q G;obtain⟨k,N,rfl⟩:=W6.mp G;exact T.sublist (Aay _ _)
end Mi
namespace Pg
open PySem Sm L2
abbrev gf:=Str×List Str×List Row
structure Prog where
 names:List Str
 aq:List gf
def g7(d:gf):D:=.tup [.str d.1,.tup (d.2.1.map D.str),.tup (cz d.2.2)]
def au(P:Prog):D:=.tup [.tup (P.names.map D.str),.tup (P.aq.map g7)]
structure VC(W:Wd)(most:Nat)(P:Prog):Prop where
 nm:P.names=iG W.names
 dl:P.aq.length=W.aq.length
 dd:∀(j:Nat)(d:gf),P.aq[j]?=some d->W.aq[j]?=some d.1/\W.params[j]?=some d.2.1/\bB W d.2.1 1 d.2.2/\d.2.2.length<=12
 ct:(P.aq.map λd=>cL d.2.2).sum<=most
end Pg
namespace Mi
open PySem Sm L2 Pg
def yc(n:Nat)(d:gf):fB n (g7 d)=true:=by
 show(true&&(cY n (d.2.1.map D.str)&&(cY n (cz d.2.2)&&true)))=true;rw[g8,dP];rfl
def Mh(n:Nat)(P:Prog):fB n (au P)=true:=by
 show(cY n (P.names.map D.str)&&(cY n (P.aq.map g7)&&true))=true;rw[g8,dO n _ (yc n)];rfl
def D3{c:Type}{f:c->D}{b:List c}{i:Nat}{x:D}(h:(iP 0 (b.map f))[i]?=some x):∃a,b[i]?=some a/\x=.tup [.int (i:Int),f a]:=by
 rw[oK,WJ] at h;cases e:b[i]? with
 | none=>rw[e] at h;cases h
 | some a=>
  rw[e] at h;cases h;exact⟨a,rfl,by rw[Y6]⟩
def Wb.out(C:Cl h)(B:Sb E.s E.c E.cs h r h0)(e:E.wd=h0.length)(A:Wb E (h0++[o]) R l a):∃f j,a=f++[j]/\Sb E.s E.c E.cs h R f/\Cl f:=by
 have b:=A.b;obtain⟨n,q⟩:=B.S.lt;have hl:a.length=h0.length+1:=by rw[b.1];simp
 have m:h0.length < a.length:=by lia
 have g:a=a.take h0.length++[a[h0.length]'m]:=by rw[List.take_append_getElem,YS (by exact Nat.le_of_eq hl)]
 have d:tP E.s h0 (a.take h0.length):=⟨by rw[W2];lia,λk p=>by
  by_cases z:k < h0.length
  ·rw[Xm z,b.2 k p (by lia),WO z]
  ·rw[Xh (by rw[W2];lia),Xh (by exact XC z)]⟩
 have S:=A.S;rw[g] at S;have i:=S.cut (by rw[d.1];exact n) (by rw[d.1];exact q);exact⟨_,_,g,⟨i,B.b.trans d⟩,C.but i (B.b.trans d)⟩
def F3{h h0:MH}{s c R e:Nat}{cs:List Int}{odd:Int}{Q:D×MH->Prop}(A:Sb s c cs h0 (R+100*e+120) h)(C:Cl h)(o0:0<=odd)(o1:odd<=1000)(k:∀(W:Wd)(fl:List Int)(P:Prog)(h1:MH),CJ W fl odd->VC W e P->Sb s c cs h0 R h1->Cl h1->Q (au P,h1)):Rn (gd [.ob s,.int e,.int odd] h) Q:=by
 refine ph ?_;nofun;refine Mn (R:=R+100*e+40) A.S.sb o0 o1 λW fl F ok G=>?_;obtain⟨U,T⟩:=G.S.lt;have d2:=ok.d2;have n1:=ok.n1;have n2:=ok.n2;have I:=G.b.1;let E:En:=⟨s,c,F.length,cs,W,fl,odd,ok,by exact YQ U,by exact YQ T⟩;have B0:Wb E (F++[nR W fl e odd]) (R+100*e+40) e (F++[nR W fl e odd]):=⟨G.S.more _,mN rfl,(C.but G.S G.b).snoc (Cu _ _ _ _ _),gj.refl _ _ _⟩;nofun;refine xh ?_;exists dD (B0.push (o:=.lst []) rfl).w;nofun;refine⟨_,_,_,rfl,rfl,?_⟩;have p:(F++[nR W fl e odd]).length=h.length+1:=by simp[I]
 rw[p];refine dI (λi M h'=>∃(g:List gf)(v:Nat)(d5 d6 d7:Option D)(y:MH),M=[some (.ob s),some (.int e),some (.int odd),some (.ob F.length),some (.ob (h.length+1)),d5,d6,d7]/\h'=y++[.lst (g.map g7)]/\y.length=h.length+1/\g.length=i/\(∀(j:Nat)(d:gf),g[j]?=some d->W.aq[j]?=some d.1/\W.params[j]?=some d.2.1/\bB W d.2.1 1 d.2.2/\d.2.2.length<=12)/\v+(g.map λd=>cL d.2.2).sum=e/\Wb E (F++[nR W fl e odd]) (R+100*v+(40-5*i)) v y)
  ⟨[],e,_,_,_,_,rfl,rfl,p,rfl,λ_ _ z=>by simp at z,by simp,B0⟩ (λ_ _ _ _ _=>rfl) ?_ ?_
 ·rintro i x M h' hx ⟨g,v,d5,d6,d7,y,rfl,rfl,q,m,u,hc,L⟩;obtain⟨dn,J,rfl⟩:=D3 hx;have hi:i < W.aq.length:=(Ww.mp J).1;obtain⟨N,r⟩:∃f,W.params[i]?=some f:=⟨_,WA (by rw[ok.pl];exact hi)⟩;nofun;refine Gp (E:=E) (R:=R+100*v+(39-5*i)) (is:=[1,2,3,4,12]) (λi=>1<=i/\i<=12) (by decide) ((L.push (o:=.lst (g.map g7)) (dO _ _ (yc _) g)).le (by lia)) λmo h7 H A7=>?_;nofun;refine(ring (E:=E) 20).1 (R:=R+(40-5*(i+1))) (d:=1) (held:=[]) (A7.le (by lia)) ⟨r,hi,by decide,show(-1:Int)<=W.names.length by simp,λ_ z=>(nomatch z),by simp⟩ (by decide) (by decide) H.1 H.2 λt l8 h8 O Y cr A8=>?_;have w8:=A8.w;obtain⟨X,rfl,e8,A8'⟩:=L.pop A8;have l:=e8.trans q;nofun;refine pW ?_;nofun;refine⟨cg (mN l),?_⟩;exists cQ w8;exists ck r;nofun;refine rv (a:=(.tup (N.map D.str),_)) rfl ?_;exists cJ (mN l) (by rw[Ws,show sizeLine=16777216 from rfl];lia);rw[Kz l];nofun;have hcn:((g++[(dn,N,t)]).map λd:gf=>cL d.2.2).sum=(g.map λd:gf=>cL d.2.2).sum+cL t:=by
   rw[WR,List.sum_append];simp
  refine⟨g++[(dn,N,t)],l8,_,_,_,X,rfl,by rw[WR];rfl,l,by simp[m],?_,by rw[hcn];lia,A8'.le (by lia)⟩;intro j d hj
  by_cases z:j < g.length
  ·rw[WO z] at hj;exact u j d hj
  ·rw[W5 (by exact XC z)] at hj;have Z:j-g.length=0:=by
    have:=(Ww.mp hj).1;simp at this
    lia
   rw[Z] at hj;cases hj;obtain rfl:j=i:=by lia
   exact⟨J,r,O,Y⟩
 ·rintro M h' ⟨g,v,d5,d6,d7,y,rfl,rfl,q,m,u,hc,L⟩;rw[fA,Ws] at m;have w6:=(L.push (o:=.lst (g.map g7)) (dO _ _ (yc _) g)).w;have hat:(y++[MO.lst (g.map g7)])[h.length+1]?=some (.lst (g.map g7)):=mN q;obtain⟨hb',o',rfl,B9,C9⟩:=Wb.out (E:=E) C G rfl L;exists dC w6;nofun;refine rv (a:=(.lv ((iG W.names).map D.str),_)) (by
   show(qV (W.names.map D.str)).bind _=_;rw[uM];show(if W.names.length < 64 then _ else _)=_;rw[WC (by exact Xk n2 (by decide))]) ?_
  nofun;refine rv (a:=(.tup ((iG W.names).map D.str),_)) rfl ?_;nofun;refine rv (a:=(.tup (g.map g7),_)) (by simp only[bH,cp,hat,Xf];rfl) ?_;nofun;rw[XM];exact rv (mF B9.b.1 C9 (λn z=>(nomatch z)) (Mh _ ⟨iG W.names,g⟩)) (k W fl ⟨iG W.names,g⟩ hb' ok ⟨rfl,m,u,by show _<=_;dsimp only;lia⟩ ⟨B9.S.le (by lia),A.b.trans B9.b⟩ C9)
end Mi
namespace Pg
open PySem Sm L2
def iW(l:List Row):D:=.tup (cz l)
noncomputable def gq:Row->List (List Row)
 | .say _=>[]
 | .call _ _=>[]
 | .within _ b=>[b]
 | .all _ b=>[b]
 | .ask _ b e=>[b,e]
 | .uE _ _ a b c=>[a,b,c]
 | .either a b=>[a,b]
 | .again a=>[a]
noncomputable def ic:Row->Str
 | .say _=>"say"
 | .call _ _=>"call"
 | .within _ _=>"within"
 | .all _ _=>"all"
 | .ask _ _ _=>"ask"
 | .uE _ _ _ _ _=>"by"
 | .either _ _=>"either"
 | .again _=>"again"
mutual
noncomputable def gI(p:List Nat):Row->List (List Nat×Row)
 | .say _=>[]
 | .call _ _=>[]
 | .within _ b=>dM (p++[0]) 0 b
 | .all _ b=>dM (p++[0]) 0 b
 | .ask _ b e=>dM (p++[0]) 0 b++dM (p++[1]) 0 e
 | .uE _ _ a b c=>dM (p++[0]) 0 a++(dM (p++[1]) 0 b++dM (p++[2]) 0 c)
 | .either a b=>dM (p++[0]) 0 a++dM (p++[1]) 0 b
 | .again a=>dM (p++[0]) 0 a
noncomputable def dM(a:List Nat)(k:Nat):List Row->List (List Nat×Row)
 | []=>[]
 | r::rs=>(a++[k],r)::(gI (a++[k]) r++dM a (k+1) rs)
end
mutual
noncomputable def kE:Row->Nat
 | .say _=>0
 | .call _ _=>0
 | .within _ b=>gw b
 | .all _ b=>gw b
 | .ask _ b e=>max (gw b) (gw e)
 | .uE _ _ a b c=>max (gw a) (max (gw b) (gw c))
 | .either a b=>max (gw a) (gw b)
 | .again a=>gw a
noncomputable def gw:List Row->Nat
 | []=>1
 | r::rs=>max (1+kE r) (gw rs)
end
mutual
theorem BH(p:List Nat):∀r:Row,1+(gI p r).length=cnt r
 | .say _=>by simp[gI,cnt]
 | .call _ _=>by simp[gI,cnt]
 | .within _ b=>by simp[gI,cnt,bO (p++[0]) 0 b]
 | .all _ b=>by simp[gI,cnt,bO (p++[0]) 0 b]
 | .ask _ b e=>by simp[gI,cnt,bO (p++[0]) 0 b,bO (p++[1]) 0 e];lia
 | .uE _ _ a b c=>by simp[gI,cnt,bO (p++[0]) 0 a,bO (p++[1]) 0 b,bO (p++[2]) 0 c];lia
 | .either a b=>by simp[gI,cnt,bO (p++[0]) 0 a,bO (p++[1]) 0 b];lia
 | .again a=>by simp[gI,cnt,bO (p++[0]) 0 a]
theorem bO(a:List Nat):∀(k:Nat)(l:List Row),(dM a k l).length=cL l
 | k,[]=>by simp[dM,cL]
 | k,r::rs=>by
  have:=BH (a++[k]) r;have:=bO a (k+1) rs;simp[dM,cL];lia
end
mutual
theorem BU{W:Wd}{i:List Str}:∀(n:Nat)(r:Row),aX W i n r->n<=5->kE r<=5-n
 | n,.say _,_,_=>by simp[kE]
 | n,.call _ _,_,_=>by simp[kE]
 | n,.within _ b,h,hn=>by rw[aX] at h;have:=bP (n+1) b h.2.2.2 h.2.1;rw[kE];lia
 | n,.all _ b,h,hn=>by rw[aX] at h;have:=bP (n+1) b h.2.2.2 h.2.1;rw[kE];lia
 | n,.ask _ b e,h,hn=>by rw[aX] at h;have:=bP (n+1) b h.2.2.2.2.1 h.2.1;have:=bP (n+1) e h.2.2.2.2.2 h.2.1;rw[kE];clear h;lia
 | n,.uE _ _ a b c,h,hn=>by
  rw[aX] at h;obtain⟨_,_,d,_,_,_,f,g,j⟩:=h;have:=bP (n+1) a f d;have:=bP (n+1) b g d;have:=bP (n+1) c j d;rw[kE];lia
 | n,.either a b,h,hn=>by
  rw[aX] at h;obtain⟨d,_,_,f,g⟩:=h;have:=bP (n+1) a f d;have:=bP (n+1) b g d;rw[kE];lia
 | n,.again a,h,hn=>by
  rw[aX] at h;obtain⟨d,_,f⟩:=h;have:=bP (n+1) a f d;rw[kE];lia
theorem bP{W:Wd}{a:List Str}:∀(n:Nat)(l:List Row),bB W a n l->n<=5->gw l<=6-n
 | n,[],_,hn=>by simp[gw];lia
 | n,r::rs,h,hn=>by
  rw[bB] at h;have:=BU n r h.1 hn;have:=bP n rs h.2 hn;rw[gw];lia
end
noncomputable def aw(n:Nat):D:=.int (n:Int)
def rZ(p:List Nat):D:=.tup (p.map aw)
end Pg
namespace Mi
open PySem Sm L2 Pg
def F8(h:MH):yo h h=true:=by
 induction h with
 | nil=>rfl
 | cons o r a=>show(JB o o&&yo r r)=true;rw[vY,a];rfl
def xI(r:Row)(h:MH):j6 [aV r] h=some (.tup ((gq r).map iW),h):=by
 have e:Rn (j6 [aV r] h) λp=>p=(.tup ((gq r).map iW),h):=by
  refine aW ?_;cases r <;> rw[aV] <;> (exists rfl;exists rfl;dsimp only;refine⟨_,rfl,?_⟩;exists rfl;rfl)
 obtain⟨p,a,rfl⟩:=e;exact a
def eC{a ys:List D}{h:MH}(hl:a.length+ys.length<=10000):aQ (.tup a) (.tup ys) h=some (.tup (a++ys),h):=by
 cases a with
 | nil=>rfl
 | cons x a=>
  show(if a.length+1+ys.length<=sizeLine then some (D.tup (x::a++ys),h) else none)=_;rw[WC (by rw[show sizeLine=16777216 from rfl];rw[WN] at hl;exact WL hl (by decide))]
def i7{H:MH}{o a:MO}:(H++[o]).set H.length a=H++[a]:=by
 rw[Z5 _ _ (WB _),Aaw];rfl
def bQ{H:MH}{o:MO}:(H++[o])[H.length]?=some o:=by simp
end Mi
namespace Pg
open PySem Sm L2
end Pg
namespace Mi
open PySem Sm L2 Pg
def Mf{c:Type}{d:W}{g:GM}{e:EM}{h:MH}(i:ir d h=true)(f k:c->D)(J:DS->Prop)(b:List c){a:DS}(s:J a)(ht:∀x∈b,∀a,J a->Rn (g (f x) a h) λq=>q.2=h/\J q.1/\Rn (e q.1 h) λp=>p=(k x,h)):
  br d g cb e (b.map f) a h=some (b.map k,h):=by
 induction b generalizing a with
 | nil=>rw[Yk];unfold br;rw[WC i];rfl
 | cons x r m=>
  rw[WG];unfold br;rw[WC i];obtain⟨⟨l,o⟩,t,rfl,u,p,j,rfl⟩:=ht x Wy a s;rw[t];dsimp only[Option.bind_some] at j ⊢;show((some (true,o)).bind _)=_;dsimp only[Option.bind_some];rw[WC rfl,j];dsimp only[Option.bind_some];rw[m u λy n=>ht y (Wz _ n)];rfl
end Mi
namespace Mi
open PySem Sm L2
def jU{H g:MH}{d:D}(c:∀n,d≠.ob n)(b:fB H.length d=true):leave H d (H++g)=some (d,H):=by
 have a:Ey H.length (H++g) d=d:=by
  cases d with
  | ob n=>exact absurd rfl (c n)
  | _=>rfl
 unfold leave;rw[a,AaG (WB _),X1,b,F8];rfl
def Rr(H:MH)(a b:MO):(H++[a]).set H.length b=H++[b]:=by simp
def getL(H:MH)(a:MO):(H++[a])[H.length]?=some a:=by simp
def KA{h:MH}{n:Nat}{a:List D}(e:h[n]?=some (.lst a)):cp (.ob n) h=some (a,[(n,.lst a)]):=by unfold cp;dsimp only;rw[e]
theorem jQ{c:TM}{b:SM}{Q:SQ}(I:Nat->DS->MH->Prop)(step:∀k a h,I k a h->Rn (c a h) λp=>(p.1=true->Rn (b a p.2) (zQ (λa h=>∃g,g < k/\I g a h) Q))/\(p.1=false->Q (.nx,a,p.2))):
  ∀(n k:Nat)(a:DS)(h:MH),k < n->I k a h->Rn (eW c b n a h) Q
 | 0,k,a,h,l,_=>absurd l (by lia)
 | n+1,k,a,h,l,s=>by
  obtain⟨p,u,r,o⟩:=step k a h s;unfold eW;rw[u];dsimp only[Option.bind_some]
  by_cases z:p.1=true
  ·rw[WC z];obtain⟨⟨f,i,m⟩,t,q⟩:=r z;rw[t];dsimp only[Option.bind_some];cases f with
   | nx=>obtain⟨g,j,e⟩:=q;exact jQ I step n g i m (by lia) e
   | ct=>obtain⟨g,j,e⟩:=q;exact jQ I step n g i m (by lia) e
   | bk=>exact⟨_,rfl,q⟩
   | rt d=>exact⟨_,rfl,q⟩
  ·rw[WE z];exact⟨_,rfl,o (by simpa using z)⟩
end Mi
namespace Mi
open PySem Sm L2 Pg
noncomputable def flat(st:List (Nat×Nat)):List Nat:=st.flatMap λs=>[s.1,s.2]
def dJ(st:List (Nat×Nat))(k:Nat):D:=rZ (flat st++[k])
def QN(l:List Row)(s:Nat×Nat):Option (List Row):=(l[s.1]?).bind λr=>(gq r)[s.2]?
def bV(a:List Row):List (Nat×Nat)->Option (List Row)
 | []=>some a
 | s::r=>(QN a s).bind λl=>bV l r
theorem oC:∀(st:List (Nat×Nat)) (a:List Row) (b:List (Nat×Nat)),bV a (st++b)=(bV a st).bind λl=>bV l b
 | [],_,_=>rfl
 | s::r,a,b=>by
  show((QN a s).bind λl=>bV l (r++b))=((QN a s).bind λl=>bV l r).bind _;cases QN a s with
  | none=>rfl
  | some l=>exact oC r l b
def jz(st:List (Nat×Nat)):(flat st).length=2*st.length:=by
 induction st with
 | nil=>rfl
 | cons s r a=>show([s.1,s.2]++flat r).length=_;rw[WQ,a];simp;lia
def sL(a b:List (Nat×Nat)):flat (a++b)=flat a++flat b:=by unfold flat;rw[List.flatMap_append]
theorem DZ:∀{st:List (Nat×Nat)} {i:Nat} {s:Nat×Nat} (t:List Nat),st[i]?=some s->(flat st++t)[2*i]?=some s.1/\(flat st++t)[2*i+1]?=some s.2
 | x::r,0,s,t,e=>by cases e;exact⟨rfl,rfl⟩
 | x::r,i+1,s,t,e=>by
  have ⟨b,a⟩:=DZ (st:=r) (i:=i) t e;show(x.1::x.2::(flat r++t))[2*(i+1)]?=_/\(x.1::x.2::(flat r++t))[2*(i+1)+1]?=_;rw[show 2*(i+1)=2*i+1+1 by lia,XD,XD,XD,XD];exact⟨b,a⟩
def cK{a:List D}{i:Nat}{d:D}{h:MH}(e:a[i]?=some d):aG (.tup a) (.int (i:Int)) h=some (d,h):=by
 have q:gg a (i:Int)=some d:=ny e;simp only[aG,c9,cp,WY,q,Xf]
def sO{a:List D}{i:Int}{d:D}{h:MH}(q:gg a i=some d):aG (.tup a) (.int i) h=some (d,h):=by
 simp only[aG,c9,cp,WY,q,Xf]
def I8{p:List Nat}{i x:Nat}{h:MH}(e:p[i]?=some x):aG (rZ p) (.int (i:Int)) h=some (aw x,h):=
 cK (by rw[WJ,e];rfl)
def vM{p:List Nat}{i:Int}{j x:Nat}{h:MH}(a:i=(j:Int))(e:p[j]?=some x):aG (rZ p) (.int i) h=some (aw x,h):=by
 subst a;exact I8 e
def D0{l:List Row}{i:Nat}{r:Row}{h:MH}(e:l[i]?=some r):aG (iW l) (aw i) h=some (aV r,h):=
 cK (by rw[gW,WJ,e];rfl)
def GP(n:Nat):(Builtin.Range.rangeSize 1 ((2*n+1:Nat):Int) 2).toNat=n:=by
 unfold Builtin.Range.rangeSize;rw[WC (by decide)]
 split
 ·lia
 ·lia
def Ou{m:AM}{a:DS}{h:MH}{Q:List D×W×MH->Prop}(r:Rn (m a h) λp=>∃i j c,p.1=[.int i,.int j,.int c]/\Kb i j c/\Q ((List.range (Builtin.Range.rangeSize i j c).toNat).map λ(k:Nat)=>D.int (i+(k:Int)*c),[],p.2)):Rn (LW m a h) Q:=by
 obtain⟨⟨d,b⟩,e,i,j,c,rfl,ok,q⟩:=r;refine⟨_,?_,q⟩;unfold LW;rw[e];show(if Kb i j c then _ else _)=_;rw[WC ok]
def zP{b c:List Row}{st:List (Nat×Nat)}{k:Nat}{h:MH}(e:bV b st=some c)(hl:st.length<=1000):nO [iW b,dJ st k] h=some (iW c,h):=by
 have C:Rn (nO [iW b,dJ st k] h) λp=>p=(iW c,h):=by
  refine aW ?_;nofun;refine Ou ?_;nofun;refine rv (a:=(.int ((2*st.length+1:Nat):Int),h)) ?_ ?_
  ·show some (D.int (((flat st++[k]).map aw).length:Int),h)=_;rw[Ws,WQ,jz];rfl
  nofun;refine⟨_,_,_,rfl,?_,?_⟩
  ·unfold Kb;lia
  rw[GP];refine dI (λi g n=>n=h/\∃(l:List Row)(t:Option D),g=[some (iW b),some (dJ st k),some (iW l),t]/\bV l (st.drop i)=some c) ⟨rfl,b,_,rfl,e⟩ (λ_ _ _ _ _=>rfl) ?_ ?_
  ·rintro i x g n v ⟨rfl,l,t,rfl,f⟩;rw[WJ] at v;obtain⟨j,hj,z⟩:=eg v;obtain⟨m,hj⟩:=Ww.mp hj;rw[Aas] at hj;subst hj;rw[WX] at m;cases z;rw[Zy m] at f;have w:st[i]?=some st[i]:=WA m;obtain⟨g1,g2⟩:=DZ [k] w;obtain⟨u,s,q⟩:=aZ f;obtain⟨r,y,o⟩:=aZ s;exists vM (j:=2*i) (by lia) g1;exists D0 y;exists xI r _;exists vM (j:=2*i+1) (by lia) g2;exists cK (d:=iW u) (by rw[WJ,o];rfl);nofun;exact⟨rfl,u,_,rfl,q⟩
  ·rintro g n ⟨rfl,l,t,rfl,f⟩;rw[Ws,WX,List.drop_length] at f;cases f;nofun
 obtain⟨p,A,rfl⟩:=C;exact A
def tZ:Option Row->D
 | none=>.bo
 | some r=>aV r
def ox(st:List (Nat×Nat))(k:Nat)(h:MH):aG (dJ st k) (.int (-1)) h=some (aw k,h):=by
 refine sO ?_;rw[WR];exact tq _ _
def LD(l:List Row)(h:MH):bR [iW l] h=some (.int (l.length:Int),h):=by
 show some (D.int ((cz l).length:Int),h)=_;rw[gW,Ws]
def jf{d b:List Row}{st:List (Nat×Nat)}{k:Nat}{h:MH}(e:bV d st=some b)(hl:st.length<=1000):hZ [iW d,dJ st k] h=some (tZ b[k]?,h):=by
 have i:Rn (hZ [iW d,dJ st k] h) λp=>p=(tZ b[k]?,h):=by
  refine aW ?_;exists zP e hl;exists ox _ _ _;exists LD _ _;nofun;refine rv (a:=(.bl (decide ((k:Int) < (b.length:Int))),h)) rfl ⟨_,rfl,λc=>?_,λc=>?_⟩
  ·have f:k < b.length:=by have:=Xa c;exact Y8.mp this
   have hr:b[k]?=some b[k]:=WA f;rw[hr];exists ox _ _ _;exists D0 hr;rfl
  ·have f:b.length<=k:=by have:=XZ c;lia
   have hr:b[k]?=none:=Xh f;rw[hr];nofun;rfl
 obtain⟨p,g,rfl⟩:=i;exact g
def Mt(a:List D)(u v:D):gg (a++[u,v]) (-2)=some u:=by
 have hl:(a++[u,v]).length=a.length+2:=by simp
 have e:ux (a++[u,v]).length (-2)=some a.length:=by
  unfold ux;rw[hl,WE (by decide),WC (by lia)];congr 1
  lia
 unfold gg;rw[e];simp
def qH{a ys:List D}{h:MH}(b:0 < ys.length):qg (.tup (a++ys)) none (some (-(ys.length:Int))) h=some (.tup a,h):=by
 have e:HT.b8 (a++ys).length (a++ys).length (some (-(ys.length:Int)))=a.length:=by
  show(if(-(ys.length:Int)) < 0 then _ else _)=_;rw[WC (by lia),WQ]
  lia
 show(if HT.b8 (a++ys).length 0 none=0/\HT.b8 (a++ys).length (a++ys).length (some (-(ys.length:Int)))=(a++ys).length then _ else _)=_;rw[e,WE (by rw[WQ];lia)];unfold cutD;rw[e,HT.lQ,Zv,Abn,List.take_left'];rfl
def Fc(st:List (Nat×Nat))(k:Nat)(h:MH):qg (dJ st k) none (some (-1)) h=some (rZ (flat st),h):=by
 unfold dJ rZ;rw[WR];exact qH (ys:=[aw k]) (YB _)
def vi(st:List (Nat×Nat))(a b k:Nat)(h:MH):qg (dJ (st++[(a,b)]) k) none (some (-2)) h=some (dJ st a,h):=by
 unfold dJ rZ;rw[sL,show flat st++flat [(a,b)]++[k]=(flat st++[a])++[b,k] by simp[flat],WR];exact qH (ys:=[aw b,aw k]) (YB _)
def Ia(st:List (Nat×Nat))(a b k:Nat)(h:MH):aG (dJ (st++[(a,b)]) k) (.int (-2)) h=some (aw b,h):=by
 refine sO ?_;rw[sL,show flat st++flat [(a,b)]++[k]=(flat st++[a])++[b,k] by simp[flat],WR];exact Mt _ _ _
def gC(st:List (Nat×Nat))(k:Nat)(h:MH)(hl:st.length<=1000):gb [dJ st k] h=some (dJ st (k+1),h):=by
 have c:Rn (gb [dJ st k] h) λp=>p=(dJ st (k+1),h):=by
  refine aW ?_;nofun;refine⟨_,rfl,rv (Fc st k _) ?_⟩;exists ox _ _ _;nofun;refine rv (a:=(aw (k+1),h)) rfl ?_;exists eC (ys:=[aw (k+1)]) (by rw[Ws,jz];simp;lia);show(D.tup ((flat st).map aw++[aw (k+1)]),h)=(D.tup ((flat st++[k+1]).map aw),h);rw[WR];rfl
 obtain⟨p,b,rfl⟩:=c;exact b
noncomputable def bp(r:Row)(l:Nat):Bool:=match r with
 | .within _ _=>true
 | .all _ _=>true
 | .ask _ _ _=>l==0
 | _=>false
def sP(l:Nat)(i:Int)(h:MH):bL (aw l) (.int i) h=some (.bl ((l:Int)==i),h):=rfl
def yN(r:Row)(l:Nat)(h:MH):di [aV r,aw l] h=some (.bl (bp r l),h):=by
 have c:Rn (di [aV r,aw l] h) λp=>p=(.bl (bp r l),h):=by
  refine aW ?_;cases r with
  | within _ _=>rw[aV];nofun;refine rv (a:=(.bl true,h)) (by ac_nf) ⟨true,rfl,tt ?_⟩;rfl
  | all _ _=>rw[aV];nofun;refine rv (a:=(.bl true,h)) (by ac_nf) ⟨true,rfl,tt ?_⟩;rfl
  | ask _ _ _=>
   rw[aV];nofun;refine rv (a:=(.bl false,h)) (by ac_nf) ⟨false,rfl,ff ?_⟩;nofun;refine⟨true,by ac_nf,tt ?_⟩;exists sP l 0 h;show(D.bl ((l:Int)==0),h)=(D.bl (l==0),h);have:((l:Int)==0)=(l==0):=by cases l <;> rfl
   rw[this]
  | _=>
   rw[aV];nofun;refine rv (a:=(.bl false,h)) (by ac_nf) ⟨false,rfl,ff ?_⟩;nofun;refine⟨false,by ac_nf,ff ?_⟩;rfl
 obtain⟨p,b,rfl⟩:=c;exact b
noncomputable def xO:Row->Bool
 | .again _=>true
 | _=>false
def pX(a:List Row):List (Nat×Nat)->Nat->Option (List (Nat×Nat)×Nat)
 | rs,k=>match (bV a rs.reverse).bind λl=>l[k]? with
  | some _=>some (rs,k)
  | none=>match rs with
   | []=>none
   | s::b=>match (bV a b.reverse).bind λl=>l[s.1]? with
    | some r=>if bp r s.2 then some (s::b,k) else pX a b (if xO r then s.1 else s.1+1)
    | none=>none
def KY:Option (List (Nat×Nat)×Nat)->D
 | none=>.bo
 | some p=>dJ p.1.reverse p.2
def nA(r:Row):∃x,aV r=.tup (.str (ic r)::x)/\(ic r=="again")=xO r:=by
 cases r <;> (rw[aV];exact⟨_,rfl,by ac_nf⟩)
def sA{a b:List Row}{s:Nat×Nat}{rs:List (Nat×Nat)}(e:bV a (s::rs).reverse=some b):∃l r,bV a rs.reverse=some l/\l[s.1]?=some r/\(gq r)[s.2]?=some b:=by
 rw[Xp,oC] at e;obtain⟨l,i,h⟩:=aZ e;obtain⟨j,g,f⟩:=aZ h;cases f;obtain⟨r,d,c⟩:=aZ g;exact⟨l,r,i,d,c⟩
def zU(st:List (Nat×Nat))(k:Nat)(h:MH):bR [dJ st k] h=some (.int ((2*st.length+1:Nat):Int),h):=by
 show some (D.int (((flat st++[k]).map aw).length:Int),h)=_;rw[Ws,WQ,jz];rfl
def mI(o:Option Row)(h:MH):qi (tZ o) .bo h=some (.bl o.isNone,h):=by
 cases o with
 | none=>rfl
 | some r=>obtain⟨x,e,_⟩:=nA r;show qi (aV r) .bo h=_;rw[e];rfl
def ji{a l:List Row}{rs:List (Nat×Nat)}{k:Nat}{r:Row}(e:bV a rs.reverse=some l)(hr:l[k]?=some r):pX a rs k=some (rs,k):=by
 unfold pX;rw[e];simp only[WY,hr]
def xm{a l:List Row}{k:Nat}(e:bV a []=some l)(hr:l[k]?=none):pX a [] k=none:=by
 unfold pX;rw[show([]:List (Nat×Nat)).reverse=[] from rfl,e];simp only[WY,hr]
def BD{a b l:List Row}{s:Nat×Nat}{rs:List (Nat×Nat)}{k:Nat}{r:Row}(e:bV a (s::rs).reverse=some b)(hn:b[k]?=none)(c:bV a rs.reverse=some l)(hr:l[s.1]?=some r):pX a (s::rs) k=if bp r s.2 then some (s::rs,k) else pX a rs (if xO r then s.1 else s.1+1):=by
 rw[pX,e];simp only[WY,hn,c,hr]
def pY{d o:List Row}{rs:List (Nat×Nat)}{k:Nat}{h:MH}(e:bV d rs.reverse=some o)(hl:rs.length<=1000):fF [iW d,dJ rs.reverse k] h=some (KY (pX d rs k),h):=by
 have F:Rn (fF [iW d,dJ rs.reverse k] h) λp=>p=(KY (pX d rs k),h):=by
  refine aW ?_;refine lX ?_;refine jQ (λm z t=>t=h/\∃(b:List (Nat×Nat)) (j:Nat) (d2 C:Option D) (f:List Row),m=b.length/\b.length<=1000/\z=[some (iW d),some (dJ b.reverse j),d2,C]/\bV d b.reverse=some f/\pX d b j=pX d rs k) ?_ _ rs.length _ _ (by exact Xk hl (by decide)) ⟨rfl,rs,k,_,_,o,rfl,hl,rfl,e,rfl⟩;rintro m z t ⟨rfl,b,j,d2,C,f,rfl,g,rfl,v,u⟩;exists jf v (by rw[Xq];exact g);nofun;refine rv (mI _ _) ⟨_,rfl,λc=>?_,λc=>?_⟩
  ·have hn:f[j]?=none:=by cases q:f[j]? with
    | none=>rfl
    | some r=>rw[q] at c;cases c
   cases b with
   | nil=>
    cases v;exists zU _ _ _;nofun;refine⟨true,rfl,tt ?_⟩;rw[<-u,xm rfl hn];nofun;rfl
   | cons s b=>
    obtain⟨l,r,g1,g2,g3⟩:=sA v;have n:=BD v hn g1 g2;exists zU _ _ _;nofun;refine⟨false,by rw[Xq,WN];congr 1,ff ?_⟩;nofun;refine⟨_,rfl,?_⟩;rw[Xp];refine rv (vi b.reverse s.1 s.2 j _) ?_;exists jf g1 (by rw[Xq];rw[WN] at g;exact XQ g);rw[g2];exists Ia b.reverse s.1 s.2 j _;exists yN r s.2 _;nofun;refine⟨_,rfl,λy=>?_,λy=>?_⟩
    ·rw[y,WC rfl] at n;rw[<-u,n];nofun;show(dJ (b.reverse++[s]) j,t)=(dJ (s::b).reverse j,t);rw[Xp]
    ·rw[y,WE W8] at n;obtain⟨x,ex,A⟩:=nA r;nofun;refine rv (a:=(.str (ic r),t)) (by show aG (aV r) _ _=_;rw[ex];exact cK (i:=0) rfl) ?_;nofun;refine⟨_,rfl,λw=>?_,λw=>?_⟩
     ·rw[<-A,w,WC rfl] at n;nofun;exact⟨b.length,YL _,rfl,b,s.1,_,_,l,rfl,ZC g,rfl,g1,n.symm.trans u⟩
     ·rw[<-A,w,WE W8] at n;exists gC b.reverse s.1 _ (by rw[Xq];exact ZC g);exact⟨b.length,YL _,rfl,b,s.1+1,_,_,l,rfl,ZC g,rfl,g1,n.symm.trans u⟩
  ·cases q:f[j]? with
   | none=>rw[q] at c;cases c
   | some r=>
    rw[<-u,ji v q];nofun;rfl
 obtain⟨p,E,rfl⟩:=F;exact E
structure bF where
 bI:Nat
 nums:List Int
 rs:List (Nat×Nat)
 k:Nat
def lr(f:bF):D:=.tup [aw f.bI,.tup (f.nums.map D.int),dJ f.rs.reverse f.k]
def dW(P:Prog)(f:bF):Prop:=∃d a,P.aq[f.bI]?=some d/\bV d.2.2 f.rs.reverse=some a/\f.rs.length<=1000
noncomputable def cc(P:Prog)(i:Nat):List Row:=((P.aq[i]?).map λd=>d.2.2).getD []
def lR{P:Prog}{i:Nat}{d:gf}{h:MH}(e:P.aq[i]?=some d):hY [au P,aw i] h=some (iW (cc P i),h):=by
 have b:Rn (hY [au P,aw i] h) λp=>p=(iW d.2.2,h):=by
  refine aW ?_;unfold au;exists cK (by rw[WJ,e];rfl);unfold g7;nofun;rfl
 obtain⟨p,a,rfl⟩:=b;rw[a];unfold cc;rw[e];rfl
def iX(P:Prog):List bF->bF->List bF
 | [],f=>match pX (cc P f.bI) f.rs f.k with
  | some p=>[{f with rs:=p.1,k:=p.2}]
  | none=>[]
 | g::a,f=>match pX (cc P f.bI) f.rs f.k with
  | some p=>{f with rs:=p.1,k:=p.2}::g::a
  | none=>iX P a {g with k:=g.k+1}
def gL(P:Prog):List bF->List bF
 | []=>[]
 | f::fs=>iX P fs f
def iY(fs:List bF):D:=.tup (fs.reverse.map lr)
theorem gZ{P:Prog}{f:bF}{p:List (Nat×Nat)×Nat}:∀{fs:List bF},pX (cc P f.bI) f.rs f.k=some p->iX P fs f={f with rs:=p.1,k:=p.2}::fs
 | [],e=>by unfold iX;rw[e]
 | _::_,e=>by unfold iX;rw[e]
def jw{P:Prog}{f:bF}(e:pX (cc P f.bI) f.rs f.k=none):iX P [] f=[]:=by unfold iX;rw[e]
def mQ{P:Prog}{f g:bF}{a:List bF}(e:pX (cc P f.bI) f.rs f.k=none):iX P (g::a) f=iX P a {g with k:=g.k+1}:=by rw[iX,e]
def vC{h:MH}{n:Nat}{a:List D}{y:D}(e:h[n]?=some (.lst (a++[y]))):Fp (.ob n) [] h=some (y,h.set n (.lst a)):=by
 unfold Fp;dsimp only;rw[e];dsimp only;rw[WQ,Yv,Nat.add_sub_cancel,W5 (WB _),Aaw,AbD];rfl
theorem x8(n:Nat):∀a:List Int,cY n (a.map D.int)=true
 | []=>rfl
 | j::r=>x8 n r
theorem Ea(n:Nat):∀a:List Nat,cY n (a.map aw)=true
 | []=>rfl
 | j::r=>Ea n r
def SJ(n:Nat)(f:bF):fB n (lr f)=true:=by
 show(true&&(cY n (f.nums.map D.int)&&(cY n ((flat f.rs.reverse++[f.k]).map aw)&&true)))=true;rw[x8,Ea];rfl
theorem x9(n:Nat):∀fs:List bF,cY n (fs.map lr)=true
 | []=>rfl
 | f::r=>by show(fB n (lr f)&&cY n (r.map lr))=true;rw[SJ,x9 n r];rfl
def LN(o:Option (List (Nat×Nat)×Nat))(h:MH):mW (KY o) .bo h=some (.bl o.isSome,h):=by
 cases o with
 | none=>rfl
 | some r=>rfl
def g0{h:MH}{n:Nat}{a:List D}(e:h[n]?=some (.lst a)):bH [.ob n] h=some (.tup a,h):=by
 unfold bH cp;dsimp only;rw[e];rfl
def CV{h:MH}{n:Nat}{a:List D}(e:h[n]?=some (.lst a)):yI (.ob n) h=some (!a.isEmpty):=by
 unfold yI;dsimp only;rw[e]
def sJ(f:bF):lr f=.tup [aw f.bI,.tup (f.nums.map D.int),dJ f.rs.reverse f.k]:=rfl
def jx{P:Prog}{fs:List bF}{h:MH}(ok:∀f∈fs,dW P f)(hl:fs.length<=1000):cO [au P,iY fs] h=some (iY (gL P fs),h):=by
 have M:Rn (cO [au P,iY fs] h) λp=>p=(iY (gL P fs),h):=by
  refine ph ?_;nofun;refine Hy ?_;nofun;refine⟨_,fs.reverse.map lr,_,rfl,rfl,?_⟩;nofun;have v:∀(j:DS)(a:List bF)(r o l:Option D),j=[some (au P),some (iY fs),some (.ob h.length),r,o,l]->a=gL P fs->uL (aJ (aj bH (af (aD 2) aT))) (ET λp=>Rn (leave h p.fst p.snd) λp=>p=(iY (gL P fs),h)) (Fl.nx,j,h++[.lst (a.reverse.map lr)]):=by
   rintro j a r o l rfl rfl;exists g0 bQ;exact rv (jU (λn z=>(nomatch z)) (x9 _ _)) rfl
  refine jQ (λm j y=>∃(a:List bF)(r o l:Option D),m=a.length/\a.length<=1000/\(∀f∈a,dW P f)/\j=[some (au P),some (iY fs),some (.ob h.length),r,o,l]/\y=h++[.lst (a.reverse.map lr)]/\gL P a=gL P fs) ?_ _ fs.length _ _ (by exact Xk hl (by decide)) ⟨fs,_,_,_,rfl,hl,ok,rfl,rfl,rfl⟩;rintro m j y ⟨a,r,o,l,rfl,b,e,rfl,rfl,t⟩;nofun;refine⟨_,CV bQ,λc=>?_,λc=>?_⟩
  ·cases a with
   | nil=>cases c
   | cons f a=>
    obtain⟨d,C,A,I,H⟩:=e f Wy;have J:cc P f.bI=d.2.2:=by unfold cc;rw[A];rfl
    rw[Xp,WR];nofun;refine pW ?_;nofun;refine⟨cg bQ,?_⟩;exists vC bQ;rw[i7,sJ f];exists lR A;exists pY (J ▸ I) H;exists LN _ _;refine⟨_,rfl,λs=>?_,λs=>?_⟩
    ·cases q:pX (cc P f.bI) f.rs f.k with
     | none=>rw[q] at s;cases s
     | some p=>
      nofun;refine pW ?_;nofun;refine⟨cg bQ,?_⟩;exists cJ bQ (by rw[Ws,Xq,show sizeLine=16777216 from rfl];rw[WN] at b;exact WM b (by decide));rw[i7];nofun;have i:List.map lr a.reverse++[D.tup [aw f.bI,D.tup (List.map D.int f.nums),KY (some p)]]=(gL P fs).reverse.map lr:=by
       rw[<-t];show _=(iX P a f).reverse.map lr;rw[gZ q,Xp,WR];rfl
      rw[i];refine rv (g0 bQ) ?_;exact rv (jU (λn z=>(nomatch z)) (x9 _ _)) rfl
    ·cases q:pX (cc P f.bI) f.rs f.k with
     | some p=>rw[q] at s;cases s
     | none=>
      nofun;refine⟨_,CV bQ,λu=>?_,λu=>?_⟩
      ·cases a with
       | nil=>cases u
       | cons g a=>
        obtain⟨N,E,G,F,w⟩:=e g (Wz _ Wy);rw[Xp,WR];nofun;refine pW ?_;nofun;refine⟨cg bQ,?_⟩;exists vC bQ;rw[i7,sJ g];nofun;refine pW ?_;nofun;refine⟨cg bQ,?_⟩;exists gC g.rs.reverse g.k _ (by rw[Xq];exact w);exists cJ bQ (by rw[Ws,Xq,show sizeLine=16777216 from rfl];rw[WN,WN] at b;lia);rw[i7];refine⟨(g::a).length,YL _,{g with k:=g.k+1}::a,_,_,_,rfl,ZC b,λx i=>?_,rfl,?_,?_⟩
        ·rcases WI.mp i with rfl | i
         ·exact⟨N,E,G,F,w⟩
         ·exact e x (Wz _ (Wz _ i))
        ·rw[Xp,WR];rfl
        ·rw[<-t];show iX P a {g with k:=g.k+1}=iX P (g::a) f;rw[mQ q]
      ·cases a with
       | cons g a=>rw[Xp,WR] at u;simp at u
       | nil=>
        nofun;exact⟨0,Z2,[],_,_,_,rfl,Xe _,λx i=>(nomatch i),rfl,rfl,by rw[<-t];exact(jw q).symm⟩
  ·cases a with
   | nil=>exact v _ [] _ _ _ rfl (by rw[<-t];rfl)
   | cons f a=>rw[Xp,WR] at c;simp at c
 obtain⟨p,L,rfl⟩:=M;exact L
def JR(a:List Row)(rs:List (Nat×Nat))(k:Nat):Prop:=∃b,bV a rs.reverse=some b/\((∃r,b[k]?=some r)\/(b[k]?=none/\∃s c l r,rs=s::c/\bV a c.reverse=some l/\l[s.1]?=some r/\bp r s.2=true))
theorem BE{d:List Row}:∀{rs:List (Nat×Nat)} {k:Nat} {a:List Row} {p:List (Nat×Nat)×Nat},bV d rs.reverse=some a->pX d rs k=some p->JR d p.1 p.2/\p.1.length<=rs.length
 | [],k,a,p,e,b=>by
  cases q:a[k]? with
  | none=>rw[xm e q] at b;cases b
  | some r=>rw[ji e q] at b;cases b;exact⟨⟨a,e,.inl ⟨r,q⟩⟩,WB _⟩
 | s::rs,k,a,p,e,b=>by
  cases q:a[k]? with
  | some r=>rw[ji e q] at b;cases b;exact⟨⟨a,e,.inl ⟨r,q⟩⟩,WB _⟩
  | none=>
   obtain⟨l,r,g1,g2,g3⟩:=sA e;rw[BD e q g1 g2] at b
   by_cases c:bp r s.2=true
   ·rw[WC c] at b;cases b;exact⟨⟨a,e,.inr ⟨q,s,rs,l,r,rfl,g1,g2,c⟩⟩,WB _⟩
   ·rw[WE c] at b;obtain⟨g,f⟩:=BE g1 b;exact⟨g,Xu f⟩
def k9(P:Prog)(f:bF):Prop:=∃d,P.aq[f.bI]?=some d/\JR d.2.2 f.rs f.k/\f.rs.length<=1000
def k9.ok{P:Prog}{f:bF}(h:k9 P f):dW P f:=let⟨d,e,⟨a,c,_⟩,b⟩:=h;⟨d,a,e,c,b⟩
def dG{P:Prog}{i:Nat}{d:gf}(h:P.aq[i]?=some d):cc P i=d.2.2:=by unfold cc;rw[h];rfl
def wk(P:Prog):List bF->Prop
 | []=>True
 | f::fs=>k9 P f/\∀g∈fs,dW P g
theorem DW{P:Prog}:∀{fs:List bF} {f:bF},dW P f->(∀g∈fs,dW P g)->wk P (iX P fs f)/\(iX P fs f).length<=fs.length+1
 | fs,f,⟨d,h,f1,f2,r⟩,a=>by
  have e:=dG f1;cases q:pX (cc P f.bI) f.rs f.k with
  | some p=>
   rw[gZ q];obtain⟨c,b⟩:=BE (e ▸ f2) q;exact⟨⟨⟨d,f1,e ▸ c,WL b r⟩,a⟩,WB _⟩
  | none=>
   cases fs with
   | nil=>rw[jw q];exact⟨True.intro,Xe _⟩
   | cons g o=>
    rw[mQ q];obtain⟨s,i,m,l,j⟩:=a g Wy;obtain⟨c,b⟩:=DW (fs:=o) (f:={g with k:=g.k+1}) ⟨s,i,m,l,j⟩ λx n=>a x (Wz _ n);exact⟨c,Xu b⟩
theorem DU{P:Prog}:∀{fs:List bF},(∀g∈fs,dW P g)->wk P (gL P fs)/\(gL P fs).length<=fs.length
 | [],_=>⟨True.intro,WB _⟩
 | f::fs,h=>DW (h f Wy) λg a=>h g (Wz _ a)
def bA(P:Prog)(f:bF):Option Row:=(bV (cc P f.bI) f.rs.reverse).bind λl=>l[f.k]?
def bx{P:Prog}{f:bF}{h:MH}(ok:dW P f):bZ [au P,lr f] h=some (tZ (bA P f),h):=by
 obtain⟨d,e,b,a,g⟩:=ok;have c:=dG b;have j:Rn (bZ [au P,lr f] h) λp=>p=(tZ (bA P f),h):=by
  refine aW ?_;rw[sJ f];exists lR b;exists jf (c ▸ a) (by rw[Xq];exact g);nofun;unfold bA;rw[c,a];rfl
 obtain⟨p,i,rfl⟩:=j;exact i
abbrev Hand:=List bF×List (List az)
def fC(b:List az):D:=.tup (b.map gu)
def b6(x:Hand):D:=.tup [iY x.1,.tup (x.2.map fC)]
def ay(S:List Hand):D:=.tup (S.map b6)
def cj(f:bF)(fs:List bF)(h:MH):aG (iY (f::fs)) (.int (-1)) h=some (lr f,h):=by
 refine sO ?_;rw[Xp,WR];exact tq _ _
def kO{S:List Hand}{i:Nat}{x:Hand}{h:MH}(e:S[i]?=some x):aG (ay S) (aw i) h=some (b6 x,h):=cK (by rw[WJ,e];rfl)
def CU(fs:List bF)(h:MH):yI (iY fs) h=some (!fs.isEmpty):=by
 cases fs with
 | nil=>rfl
 | cons f fs=>
  show some (!((f::fs).reverse.map lr).isEmpty)=_;rw[Xp,WR];simp
def za(P:Prog)(x:Hand):Option Row:=x.1.head?.bind λf=>bA P f
def rq{P:Prog}{S:List Hand}{i:Nat}{x:Hand}{h:MH}(e:S[i]?=some x)(ok:wk P x.1):dX [au P,ay S,aw i] h=some (tZ (za P x),h):=by
 have d:Rn (dX [au P,ay S,aw i] h) λp=>p=(tZ (za P x),h):=by
  refine aW ?_;exists kO e;unfold b6;nofun;refine⟨_,CU _ _,λc=>?_,λc=>?_⟩
  ·obtain⟨fs,a⟩:=x;cases fs with
   | nil=>cases c
   | cons f fs=>
    exists cj f fs _;exists bx ok.1.ok;rfl
  ·obtain⟨fs,a⟩:=x;cases fs with
   | nil=>nofun;rfl
   | cons f fs=>cases c
 obtain⟨p,b,rfl⟩:=d;exact b
noncomputable def fh:Row->List Lock
 | .within l _=>[l]
 | .all ls _=>ls
 | .ask l _ _=>[l]
 | _=>[]
def uw(r:Row)(h:MH):iD [aV r] h=some (.tup ((fh r).map aN),h):=by
 have c:Rn (iD [aV r] h) λp=>p=(.tup ((fh r).map aN),h):=by
  refine aW ?_;cases r with
  | all _ _=>rw[aV];nofun;refine⟨true,by ac_nf,tt ?_⟩;nofun;rfl
  | within _ _=>rw[aV];nofun;refine⟨false,by ac_nf,ff ?_⟩;nofun;refine rv (a:=(.bl true,h)) (by ac_nf) ⟨true,rfl,tt ?_⟩;nofun;rfl
  | ask _ _ _=>rw[aV];nofun;refine⟨false,by ac_nf,ff ?_⟩;nofun;refine rv (a:=(.bl true,h)) (by ac_nf) ⟨true,rfl,tt ?_⟩;nofun;rfl
  | _=>rw[aV];nofun;refine⟨false,by ac_nf,ff ?_⟩;nofun;refine rv (a:=(.bl false,h)) (by ac_nf) ⟨false,rfl,ff ?_⟩;nofun;rfl
 obtain⟨p,b,rfl⟩:=c;exact b
def HE{a:List (Key×D)}{k:Key}{v:D}(h:k∈a.map (·.1)):putD a k v=a.map (λb=>if b.1=k then(b.1,v) else b):=by
 unfold putD;rw[WC];obtain⟨p,hp,e⟩:=W6.mp h;exact Y7.mpr ⟨p,hp,W4 e⟩
def fI{a j:Key}{b:D}{r:List (Key×D)}:dm ((a,b)::r) j=if a=j then some b else dm r j:=by
 by_cases h:a=j
 ·rw[WC h];simp[dm,h]
 ·rw[WE h];simp only[dm,XI,h,decide_false]
theorem qP{k j:Key}{v:D}(hj:j≠k):∀l:List (Key×D),dm (l.map (λd=>if d.1=k then(d.1,v) else d)) j=dm l j
 | []=>rfl
 |(a,b)::r=>by
  rw[WG]
  by_cases c:a=k
  ·rw[WC c,fI,fI,WE (λz=>hj (z.symm.trans c)),WE (λz=>hj (z.symm.trans c))];exact qP hj r
  ·rw[WE c,fI,fI,qP hj r]
theorem valD_map'{k:Key}{v:D}:∀l:List (Key×D),k∈l.map (·.1)->dm (l.map (λd=>if d.1=k then(d.1,v) else d)) k=some v
 | [],h=>(nomatch h)
 |(a,b)::r,h=>by
  rw[WG]
  by_cases c:a=k
  ·rw[WC c,fI,WC c]
  ·rw[WE c,fI,WE c];exact valD_map' r ((WI.mp h).resolve_left λe=>c e.symm)
def yG{a:List (Key×D)}{k j:Key}{v:D}:dm (putD a k v) j=if j=k then some v else dm a j:=by
 by_cases h:k∈a.map (·.1)
 ·rw[HE h]
  by_cases hj:j=k
  ·subst hj;rw[WC rfl];exact valD_map' a h
  ·rw[WE hj];exact qP hj a
 ·rw[zo h]
  by_cases hj:j=k
  ·subst hj;rw[WC rfl];unfold dm;rw[List.find?_append];have:a.find? (λb=>decide (b.1=j))=none:=by
    rw[List.find?_eq_none];intro p hp e;exact h (W6.mpr ⟨p,hp,Xa e⟩)
   rw[this];simp
  ·rw[WE hj];unfold dm;rw[List.find?_append];cases a.find? (λb=>decide (b.1=j)) with
   | some p=>rfl
   | none=>
    simp[XJ hj]
noncomputable def De(a:List Str)(ns:List Int):List (Key×D):=(a.zip ns).map λp=>((.inr p.1:Key),D.int p.2)
theorem Dd:∀(a:List Str)(ns:List Int),uP (a.map D.str) (ns.map D.int)=some (De a ns)
 | [],_=>rfl
 | _::_,[]=>rfl
 | n::ns,r::rs=>by
  rw[WG,WG];show(qc (.str n)).bind (λk=>(uP (ns.map D.str) (rs.map D.int)).map λa=>(k,D.int r)::a)=_;rw[Dd ns rs];rfl
theorem vB{w:Str}:∀(z:List (Str×Int)) (a:List (Key×D)),(w∈z.map (·.1)\/∃v,dm a (.inr w)=some (.int v))->∃v,dm (kW a (z.map λp=>((.inr p.1:Key),D.int p.2))) (.inr w)=some (.int v)
 | [],a,h=>h.resolve_left λz=>(nomatch z)
 | p::z,a,h=>by
  show ∃v,dm (kW (putD a (.inr p.1) (.int p.2)) (z.map λp=>((.inr p.1:Key),D.int p.2))) (.inr w)=some (.int v);refine vB z _ ?_
  by_cases e:w=p.1
  ·exact .inr ⟨p.2,by rw[yG,WC (by rw[e])]⟩
  ·rcases h with h |⟨v,h⟩
   ·exact .inl ((WI.mp h).resolve_left e)
   ·exact .inr ⟨v,by rw[yG,WE (λz=>e (Sum.inr.inj z)),h]⟩
noncomputable def pZ(P:Prog)(i:Nat):List Str:=((P.aq[i]?).map λd=>d.2.1).getD []
def fc(P:Prog)(f:bF):List (Key×D):=kW [] (De (pZ P f.bI) f.nums)
def Iv{P:Prog}{f:bF}{w:Str}(a:w∈pZ P f.bI)(hl:(pZ P f.bI).length<=f.nums.length):∃v,dm (fc P f) (.inr w)=some (.int v):=
 vB _ [] (.inl (by rw[List.map_fst_zip hl];exact a))
def KO{m:AM}{g:DS}{h:MH}{Q:D×MH->Prop}(r:Rn (m g h) λp=>∃d e f c i a b,p.1=[d,e]/\cp d p.2=some (f,i)/\cp e p.2=some (c,a)/\uP f c=some b/\b.length<=1000000/\Q (.dv (kW [] b),p.2)):Rn (Co m g h) Q:=
 aS (r.imp λp j=>by obtain⟨d,e,f,c,i,a,b,s,o,n,l,k,q⟩:=j;exact⟨_,by rw[s];dsimp only;rw[o];dsimp only[Option.bind_some];rw[n];dsimp only[Option.bind_some];rw[l];dsimp only[Option.bind_some];rw[WC k],q⟩)
def fb{P:Prog}{f:bF}{d:gf}{h:MH}(e:P.aq[f.bI]?=some d)(hl:d.2.1.length<=1000):cV [au P,lr f] h=some (.dv (fc P f),h):=by
 have a:pZ P f.bI=d.2.1:=by unfold pZ;rw[e];rfl
 have c:Rn (cV [au P,lr f] h) λp=>p=(.dv (fc P f),h):=by
  refine aW ?_;rw[sJ f];unfold au;nofun;refine KO ?_;exists cK (by rw[WJ,e];rfl);unfold g7;nofun;refine⟨_,_,_,_,_,_,De d.2.1 f.nums,rfl,rfl,rfl,Dd _ _,?_,?_⟩
  ·unfold De;rw[Ws,List.length_zip]
   lia
  ·unfold fc;rw[a];rfl
 obtain⟨p,b,rfl⟩:=c;exact b
noncomputable def vI:Option D->Int
 | some (.int z)=>z
 | _=>0
def fL(a:List (Key×D))(t:Term):Int:=if t.1="" then t.2 else vI (dm a (.inr t.1))+t.2
def du(a:List (Key×D))(t:Term):Prop:=t.1=""\/∃z,dm a (.inr t.1)=some (.int z)
def eJ{a:List (Key×D)}{t:Term}{h:MH}(f:du a t):bE [aU t,.dv a] h=some (.int (fL a t),h):=by
 have e:Rn (bE [aU t,.dv a] h) λp=>p=(.int (fL a t),h):=by
  refine aW ?_;unfold aU;nofun;refine⟨_,rfl,λc=>?_,λc=>?_⟩
  ·have b:t.1="":=by simpa using c
   nofun;unfold fL;rw[WC b]
  ·have b:¬t.1="":=by simpa using c
   obtain⟨z,d⟩:=f.resolve_left b;exists xW rfl d;nofun;unfold fL;rw[WE b,d];rfl
 obtain⟨p,g,rfl⟩:=e;exact g
def sC:EM:=aj aH (af (aD 0) (af (aj bE (af (aD 1) (af (aD 2) aT))) aT))
def LB:GM:=gT 2 (av (gN 0) (av (gN 1) bU))
def iO(b:List (Key×D))(a:List az)(l:Lock):List az:=Ga a (l.1,fL b l.2)
def IE{a:List (Key×D)}{l:Lock}{h:MH}(b:du a l.2):sC [some (.str l.1),some (aU l.2),some (.dv a)] h=some (gu (l.1,fL a l.2),h):=by
 have e:Rn (sC [some (.str l.1),some (aU l.2),some (.dv a)] h) λp=>p=(gu (l.1,fL a l.2),h):=by
  unfold sC;exists eJ b;nofun;rfl
 obtain⟨p,c,rfl⟩:=e;exact c
def AD(a:List az)(k:az):(Ga a k).length<=a.length+1:=by unfold Ga;split <;> simp
theorem DJ{a:List (Key×D)}{h:MH}:∀(f:List Lock)(g d1:Option D)(b:List az),(∀l∈f,du a l.2)->b.length+f.length<=4->
  ∃d c,cZ [] LB cb (mP sC) (f.map aN) [g,d1,some (.dv a)] h b=some ([d,c,some (.dv a)],h,f.foldl (iO a) b)
 | [],g,d1,b,_,_=>⟨g,d1,rfl⟩
 | l::f,g,d1,b,hw,hl=>by
  have k:=AD b (l.1,fL a l.2);rw[WN] at hl;obtain⟨d,c,e⟩:=DJ (h:=h) f (some (.str l.1)) (some (aU l.2)) (iO a b l) (λx i=>hw x (Wz _ i)) (by unfold iO;lia);refine⟨d,c,?_⟩;have j:mP sC [some (.str l.1),some (aU l.2),some (.dv a)] h b=some ([some (.str l.1),some (aU l.2),some (.dv a)],h,iO a b l):=by
   unfold mP;rw[IE (hw l Wy)];show(if b.length<=3 then _ else _)=_;rw[WC (by lia)];rfl
  rw[WG,AaO];show(if ir [] h then(LB (aN l) [g,d1,some (.dv a)] h).bind _ else none)=_;rw[WC (show ir [] h=true from rfl),show LB (aN l) [g,d1,some (.dv a)] h=some ([some (.str l.1),some (aU l.2),some (.dv a)],h) from rfl];show(mP sC [some (.str l.1),some (aU l.2),some (.dv a)] h b).bind _=_;rw[j];exact e
def tN(P:Prog)(f:bF):List az:=j8 (((bA P f).map fh).getD [] |>.foldl (iO (fc P f)) [])
theorem jX(b:List (Key×D)):∀(c:List Lock)(a:List az),(c.foldl (iO b) a).length<=a.length+c.length
 | [],_=>WB _
 | l::c,a=>by
  have e:=AD a (l.1,fL b l.2);have d:=jX b c (iO b a l);rw[AaO,WN];unfold iO at d ⊢
  lia
def fe{P:Prog}{f:bF}{d:gf}{r:Row}{h:MH}(ok:dW P f)(e:P.aq[f.bI]?=some d)(hl:d.2.1.length<=1000)(c:bA P f=some r)(g:∀l∈fh r,du (fc P f) l.2)(b:(fh r).length<=4):cX [au P,lr f] h=some (fC (tN P f),h):=by
 have k:Rn (cX [au P,lr f] h) λp=>p=(fC (tN P f),h):=by
  refine aW ?_;exists bx ok;rw[c];exists uw r _;exists fb e hl;nofun;obtain⟨m,d1,i⟩:=DJ (h:=h) (fh r) none none [] g (by simpa using b);refine rv (a:=(.lv ((tN P f).map gu),h)) ?_ ?_
  ·show((cZ [] LB cb (mP sC) ((fh r).map aN) [none,none,some (.dv (fc P f))] h []).bind _)=_;rw[i];show(if((fh r).foldl (iO (fc P f)) []).length<=4 then _ else _)=_;rw[WC (by have:=jX (fc P f) (fh r) [];simp at this;exact WL this b)];unfold tN;rw[c];rfl
  ·exists rfl;rfl
 obtain⟨p,j,rfl⟩:=k;exact j
theorem Dx:∀b:List az,i0 (b.map gu)=some (b.map gv)
 | []=>rfl
 | k::r=>by
  show(kA (gu k)).bind (λa=>(i0 (r.map gu)).map λbs=>a::bs)=_;rw[Dx r];rfl
theorem vR:∀b:List az,PyData.depthAll (b.map gv)<=2
 | []=>by simp[PyData.depthAll]
 | k::r=>by
  have:=vR r;simp only[WG,PyData.depthAll,gv,PyData.depth];simp
  lia
def Je(k l:az):PyData.eqv (gv k) (gv l)=decide (k=l):=by
 show((k.1==l.1)&&((k.2==l.2)&&true))=_;rw[Bool.and_true,XY,WS,Yt,Yt,YO];constructor
 ·rintro⟨b,a⟩;exact Prod.ext b a
 ·rintro rfl;exact⟨rfl,rfl⟩
def D1(l:az)(b:List az)(h:MH):yz (gu l) (fC b) h=some (.bl (decide (l∈b)),h):=by
 have c:inD (gu l) (fC b) h=some (decide (l∈b)):=by
  show((i0 (b.map gu)).bind λbs=>if(gv l).depth<=60/\PyData.depthAll bs<=60 then some (bs.any λx=>PyData.eqv x (gv l)) else none)=_;rw[Dx];show(if(gv l).depth<=60/\PyData.depthAll (b.map gv)<=60 then some ((b.map gv).any λx=>PyData.eqv x (gv l)) else none)=_;rw[WC ⟨by simp[gv,PyData.depth,PyData.depthAll],WL (vR b) (by decide)⟩,Abs];congr 1;rw[XY,Y7,YO];constructor
  ·rintro⟨x,a,e⟩;have e:PyData.eqv (gv x) (gv l)=true:=e;rw[Je] at e;exact Xa e ▸ a
  ·intro a;exact⟨l,a,by show PyData.eqv (gv l) (gv l)=true;rw[Je];simp⟩
 unfold yz;rw[c];rfl
noncomputable def zZ(l:az)(x:Hand):Bool:=x.2.any λb=>decide (l∈b)
def PH:Option Nat->D
 | none=>.bo
 | some i=>aw i
def Qr{a:Type}(p:a->Bool)(l:List a)(h:MH):PQ [.lv (l.map λw=>D.bl (p w))] h=some (.bl (l.any p),h):=by
 show(uF (l.map λx=>D.bl (p x))).map (λbs=>(D.bl (bs.any id),h))=_;rw[Ef];show some (D.bl ((l.map p).any id),h)=_;rw[Abs];rfl
def FH{l:az}{bs:List (List az)}{h:MH}:br [] (gN 0) cb (ai yz (aD 1) (aD 0)) (bs.map fC) [none,some (gu l)] h=some (bs.map (λb=>D.bl (decide (l∈b))),h):=by
 have:=D6 (e:=ai yz (aD 1) (aD 0)) (t:=[some (gu l)]) (h:=h) (λd=>match yz (gu l) d h with | some (z,_)=>z | none=>.bo) (bs.map fC) none (λy a=>by
  obtain⟨b,c,rfl⟩:=W6.mp a;show yz (gu l) (fC b) h=_;rw[D1])
 rw[this,YD];congr 2;refine List.map_congr_left λb c=>?_;show(match yz (gu l) (fC b) h with | some (z,_)=>z | none=>.bo)=_;rw[D1]
def fz(x:Hand):b6 x=.tup [iY x.1,.tup (x.2.map fC)]:=rfl
def mK{S:List Hand}{l:az}{h:MH}(r:∀x∈S,x.2.length<=1000):fK [ay S,gu l] h=some (PH (S.findIdx? (zZ l)),h):=by
 have v:Rn (fK [ay S,gu l] h) λp=>p=(PH (S.findIdx? (zZ l)),h):=by
  refine aW ?_;unfold ay;nofun;refine xh ?_;nofun;refine⟨_,_,_,rfl,rfl,?_⟩;refine dI (λi f e=>e=h/\(∃(d2 q o:Option D),f=[some (.tup (S.map b6)),some (gu l),d2,q,o])/\∀(j:Nat)(x:Hand),j < i->S[j]?=some x->zZ l x=false) ⟨rfl,⟨_,_,_,rfl⟩,λj x hj=>absurd hj (Yz _)⟩ (λ_ _ _ _ _=>rfl) ?_ ?_
  ·rintro i x f e n ⟨rfl,⟨d2,q,o,rfl⟩,b⟩;obtain⟨y,m,rfl⟩:=D3 n;have g:=Wx m;rw[fz y];nofun;refine rv (a:=(y.2.map fC,[],e)) rfl ?_;refine rv FH ⟨by rw[Ws,show sizeLine=16777216 from rfl];have:=r y g;exact WL this (by decide),?_⟩;nofun;refine rv (Qr _ _ _) ⟨_,rfl,λc=>?_,λc=>?_⟩
   ·have t:S.findIdx? (zZ l)=some i:=by
     rw[List.findIdx?_eq_some_iff_getElem];obtain⟨s,k⟩:=Ww.mp m;refine⟨s,by rw[k];exact c,λj hj=>?_⟩;have:=b j (S[j]'(by lia)) hj (WA _);rw[this];exact W8
    rw[t];nofun;rfl
   ·nofun;refine⟨rfl,⟨_,_,_,rfl⟩,λj x hj d=>?_⟩;rcases Nat.lt_succ_iff_lt_or_eq.mp hj with z | z
    ·exact b j x z d
    ·subst z;rw[m] at d;cases d;exact c
  ·rintro f e ⟨rfl,⟨d2,q,o,rfl⟩,b⟩;rw[fA,Ws] at b;have:S.findIdx? (zZ l)=none:=by
    rw[List.findIdx?_eq_none_iff];intro x n;obtain⟨j,hj⟩:=XT.mp n;exact b j x (Ww.mp hj).1 hj
   rw[this];nofun;rfl
 obtain⟨p,u,rfl⟩:=v;exact u
def jv(S:List Hand)(l:az):Bool:=(S.findIdx? (zZ l)).isSome
def MJ:TM:=ax (ai mW (aj fK (af (aD 1) (af (aD 0) aT))) (eK .bo))
def Nv{S:List Hand}{l:az}{h:MH}(a:∀x∈S,x.2.length<=1000):MJ [some (gu l),some (ay S)] h=some (jv S l,h):=by
 have e:Rn (MJ [some (gu l),some (ay S)] h) λp=>p=(jv S l,h):=by
  unfold MJ;exists mK a;nofun;unfold jv;cases S.findIdx? (zZ l) with
  | none=>exact rv rfl ⟨_,rfl,rfl⟩
  | some i=>exact rv rfl ⟨_,rfl,rfl⟩
 obtain⟨p,b,rfl⟩:=e;exact b
theorem CQ{S:List Hand}{h:MH}(d:∀x∈S,x.2.length<=1000):∀(a:List az)(o:Option D),br [] (gN 0) MJ (aD 0) (a.map gu) [o,some (ay S)] h=some ((a.filter (jv S)).map gu,h)
 | [],o=>rfl
 | l::a,o=>by
  have b:=CQ d a (some (gu l)) (h:=h);rw[WG];show(if ir [] h then(MJ [some (gu l),some (ay S)] h).bind (λt=>if t.1 then(some (gu l,t.2)).bind λy=>(br [] (gN 0) MJ (aD 0) (a.map gu) [some (gu l),some (ay S)] y.2).map λz=>(y.1::z.1,z.2) else br [] (gN 0) MJ (aD 0) (a.map gu) [some (gu l),some (ay S)] t.2) else none)=_;rw[WC (show ir [] h=true from rfl),Nv d];cases c:jv S l with
  | true=>
   rw[List.filter_cons_of_pos c];show(br [] (gN 0) MJ (aD 0) (a.map gu) [some (gu l),some (ay S)] h).map _=_;rw[b];rfl
  | false=>
   rw[List.filter_cons_of_neg (by rw[c];exact W8)];exact b
noncomputable def qe:Row->Bool
 | .within _ _=>true
 | .all _ _=>true
 | _=>false
structure JS(P:Prog)(f:bF)(r:Row):Prop where
 Wj:∃d,P.aq[f.bI]?=some d/\d.2.1.length<=1000
 lk:∀l∈fh r,du (fc P f) l.2
 four:(fh r).length<=4
def Gk(P:Prog)(S:List Hand)(x:Hand):List az:=match x.1 with
 | []=>[]
 | f::_=>match bA P f with
  | none=>[]
  | some r=>if qe r then(tN P f).filter (jv S) else[]
def Oa(r:Row)(h:MH):oI (.str (ic r)) (.tup [.str "within",.str "all"]) h=some (.bl (!qe r),h):=by
 cases r <;> ac_nf
def zI(o:Option Row)(h:MH):mW (tZ o) .bo h=some (.bl o.isSome,h):=by
 cases o with
 | none=>rfl
 | some r=>obtain⟨x,e,_⟩:=nA r;show mW (aV r) .bo h=_;rw[e];rfl
def cq(r:Row)(h:MH):aG (aV r) (.int 0) h=some (.str (ic r),h):=by
 obtain⟨x,e,_⟩:=nA r;rw[e];exact cK (i:=0) rfl
def AU{P:Prog}{S:List Hand}{i:Nat}{x:Hand}{h:MH}(e:S[i]?=some x)(ok:wk P x.1)(j:∀x∈S,x.2.length<=1000)(k:∀f fs r,x.1=f::fs->bA P f=some r->JS P f r):nN [au P,ay S,aw i] h=some (fC (Gk P S x),h):=by
 have m:Rn (nN [au P,ay S,aw i] h) λp=>p=(fC (Gk P S x),h):=by
  refine aW ?_;exists rq e ok;exists mI _ _;cases a:za P x with
  | none=>
   refine⟨true,rfl,tt (tt ?_)⟩;nofun;obtain⟨fs,hd⟩:=x;cases fs with
   | nil=>rfl
   | cons f fs=>
    have a:bA P f=none:=a;show(fC [],h)=(fC (Gk P S (f::fs,hd)),h);unfold Gk;dsimp only;rw[a]
  | some r=>
   obtain⟨fs,hd⟩:=x;cases fs with
   | nil=>cases a
   | cons f fs=>
    have a:bA P f=some r:=a;obtain⟨⟨d,d1,d2⟩,g,b⟩:=k f fs r rfl a;refine⟨false,rfl,ff ?_⟩;exists cq r _;exists Oa r _;cases c:qe r with
    | false=>
     refine⟨true,rfl,tt ?_⟩;nofun;show(fC [],h)=(fC (Gk P S (f::fs,hd)),h);unfold Gk;dsimp only;rw[a];dsimp only;rw[c];rfl
    | true=>
     refine⟨false,rfl,ff ?_⟩;nofun;refine dH ?_;exists kO e;rw[fz];exists cj f fs _;exists fe ok.1.ok d1 d2 a g b;refine⟨(tN P f).map gu,[],rfl,?_⟩;refine rv (CQ j (tN P f) none) ⟨?_,?_⟩
     ·have o:=List.length_filter_le (jv S) (tN P f);have n:(tN P f).length<=4:=by
       unfold tN;rw[a,(dz _).length_eq];have:=jX (fc P f) (fh r) [];simp at this ⊢;exact WL this b
      rw[Ws,show sizeLine=16777216 from rfl]
      lia
     exists rfl;show(fC ((tN P f).filter (jv S)),h)=(fC (Gk P S (f::fs,hd)),h);unfold Gk;dsimp only;rw[a];dsimp only;rw[c];rfl
 obtain⟨p,l,rfl⟩:=m;exact l
noncomputable def zV:Row->Bool
 | .either _ _=>true
 | .again _=>true
 | _=>false
def oN(P:Prog)(S:List Hand)(x:Hand):List Nat:=match x.1 with
 | []=>[]
 | f::_=>if((bA P f).map zV).getD false then[0,1] else if(Gk P S x).isEmpty then[0] else[]
def Ob(r:Row)(h:MH):yz (.str (ic r)) (.tup [.str "either",.str "again"]) h=some (.bl (zV r),h):=by
 cases r <;> ac_nf
def yd{P:Prog}{S:List Hand}{i:Nat}{x:Hand}{h:MH}(e:S[i]?=some x)(ok:wk P x.1)(m:∀x∈S,x.2.length<=1000)(n:∀f fs r,x.1=f::fs->bA P f=some r->JS P f r):bj [au P,ay S,aw i] h=some (.tup ((oN P S x).map aw),h):=by
 have l:=λh=>AU (h:=h) e ok m n;have q:Rn (bj [au P,ay S,aw i] h) λp=>p=(.tup ((oN P S x).map aw),h):=by
  refine aW ?_;exists kO e;rw[fz];nofun;obtain⟨fs,hd⟩:=x;cases fs with
  | nil=>
   refine⟨false,rfl,tt ?_⟩;nofun;rfl
  | cons f fs=>
   refine⟨true,CU _ _,ff ?_⟩;exists cj f fs _;exists bx ok.1.ok;exists zI _ _;have d:∀(g:DS),g=[some (au P),some (ay S),some (aw i),some (iY (f::fs)),some (tZ (bA P f))]->((bA P f).map zV).getD false=false->Rn (aJ (Aj (fN (aj nN (af (aD 0) (af (aD 1) (af (aD 2) aT))))) (aj aH aT) (aj aH (af (eK (.int 0)) aT))) g h) (ET λp=>p=(.tup ((oN P S (f::fs,hd)).map aw),h)):=by
    rintro g rfl ce;exists l _;have j:oN P S (f::fs,hd)=if(Gk P S (f::fs,hd)).isEmpty then[0] else[]:=by
     unfold oN;dsimp only;rw[ce,WE W8]
    rw[j];cases Gk P S (f::fs,hd) with
    | nil=>refine⟨false,rfl,ff ?_⟩;nofun;rfl
    | cons a b=>refine⟨true,rfl,tt ?_⟩;nofun;rfl
   cases k:bA P f with
   | none=>
    rw[k] at d;refine⟨false,rfl,ff (ff (rv rfl (d _ rfl rfl)))⟩
   | some r=>
    rw[k] at d;refine⟨true,rfl,tt ?_⟩;exists cq r _;exists Ob r _;cases c:zV r with
    | false=>
     exact⟨false,rfl,ff (rv rfl (d _ rfl c))⟩
    | true=>
     refine⟨true,rfl,tt ?_⟩;nofun;have j:oN P S (f::fs,hd)=[0,1]:=by
      unfold oN;dsimp only;rw[k];show(if zV r=true then _ else _)=_;rw[WC c]
     rw[j];rfl
 obtain⟨p,o,rfl⟩:=q;exact o
def nS(m:Nat×Nat):D:=.tup [aw m.1,aw m.2]
def Lx(P:Prog)(S:List Hand)(i:Nat):List (Nat×Nat):=(((S[i]?).map (oN P S)).getD []).map λc=>(i,c)
def qD(P:Prog)(S:List Hand):List (Nat×Nat):=(List.range S.length).flatMap (Lx P S)
def zM:EM:=aj aH (af (aD 0) (af (aD 1) aT))
theorem M9{i:Nat}{dp ds:Option D}{h:MH}:∀(cs:List Nat)(o:Option D)(a:List D),a.length+cs.length<=10000->∃b,cZ [] (gN 1) cb (mL zM) (cs.map aw) [some (aw i),o,dp,ds] h a=some ([some (aw i),b,dp,ds],h,a++cs.map λc=>nS (i,c))
 | [],o,a,_=>⟨o,by rw[Yk,Yk,XW];rfl⟩
 | c::cs,o,a,hl=>by
  rw[WN] at hl;obtain⟨b,e⟩:=M9 (i:=i) (dp:=dp) (ds:=ds) (h:=h) cs (some (aw c)) (a++[nS (i,c)]) (by rw[WQ,Yv];lia);refine⟨b,?_⟩;have d:mL zM [some (aw i),some (aw c),dp,ds] h a=some ([some (aw i),some (aw c),dp,ds],h,a++[nS (i,c)]):=by
   show(if a.length < sizeLine then _ else _)=_;rw[WC (by rw[show sizeLine=16777216 from rfl];lia)];rfl
  rw[WG,WG];show(mL zM [some (aw i),some (aw c),dp,ds] h a).bind _=_;rw[d];show cZ [] (gN 1) cb (mL zM) (cs.map aw) [some (aw i),some (aw c),dp,ds] h (a++[nS (i,c)])=_;rw[e,XM];rfl
def Sf:MK (List D):=zO (gY (aj bj (af (aD 2) (af (aD 3) (af (aD 0) aT))))) (gN 1) cb (mL zM)
def Ed(P:Prog)(S:List Hand)(x:Hand):(oN P S x).length<=2:=by
 unfold oN
 split
 ·exact Xe _
 ·split
  ·exact WB _
  ·split <;> simp
theorem Iz{P:Prog}{S:List Hand}{h:MH}(k:∀(i:Nat)(x:Hand),S[i]?=some x->bj [au P,ay S,aw i] h=some (.tup ((oN P S x).map aw),h)):∀(b:List Nat)(o0 o1:Option D)(a:List D),(∀i∈b,i < S.length)->a.length+2*b.length<=10000->
  ∃d,cZ [] (gN 0) cb Sf (b.map aw) [o0,o1,some (au P),some (ay S)] h a=some (d,h,a++(b.flatMap (Lx P S)).map nS)
 | [],o0,o1,a,_,_=>⟨_,by rw[Yk,List.flatMap_nil,Yk,XW];rfl⟩
 | i::b,o0,o1,a,l,hl=>by
  rw[WN] at hl;have f:=l i Wy;have g:S[i]?=some S[i]:=WA f;have q:=Ed P S S[i];obtain⟨e,p⟩:=M9 (i:=i) (dp:=some (au P)) (ds:=some (ay S)) (h:=h) (oN P S S[i]) o1 a (by lia);have m:Lx P S i=(oN P S S[i]).map λc=>(i,c):=by unfold Lx;rw[g];rfl
  obtain⟨d,o⟩:=Iz k b (some (aw i)) e (a++(oN P S S[i]).map λc=>nS (i,c)) (λj hj=>l j (Wz _ hj)) (by rw[WQ,Ws];lia);refine⟨d,?_⟩;have n:Sf [some (aw i),o1,some (au P),some (ay S)] h a=some ([some (aw i),e,some (au P),some (ay S)],h,a++(oN P S S[i]).map λc=>nS (i,c)):=by
   show((bj [au P,ay S,aw i] h).bind _).bind _=_;rw[k i _ g];exact p
  rw[WG,List.flatMap_cons,WR,m,YD];show(Sf [some (aw i),o1,some (au P),some (ay S)] h a).bind _=_;rw[n];show cZ [] (gN 0) cb Sf (b.map aw) [some (aw i),e,some (au P),some (ay S)] h _=_;rw[o,XM];rfl
def BX{P:Prog}{S:List Hand}{h:MH}(hl:S.length<=1000)(c:∀(i:Nat)(x:Hand),S[i]?=some x->bj [au P,ay S,aw i] h=some (.tup ((oN P S x).map aw),h)):jZ [au P,ay S] h=some (.tup ((qD P S).map nS),h):=by
 have j:Rn (jZ [au P,ay S] h) λp=>p=(.tup ((qD P S).map nS),h):=by
  refine aW ?_;obtain⟨k,e⟩:=Iz c (List.range S.length) none none [] (λi d=>Xx.mp d) (by rw[WX];simp;lia);nofun;refine rv (a:=(.lv ((qD P S).map nS),h)) ?_ ?_
  ·have g:mJ (af (aj bR (af (aD 1) aT)) aT) (entry 2 [au P,ay S]) h=some ((List.range S.length).map aw,[],h):=by
    have f:af (aj bR (af (aD 1) aT)) aT (entry 2 [au P,ay S]) h=some ([.int (S.length:Int)],h):=by
     show some ([D.int ((S.map b6).length:Int)],h)=_;rw[Ws]
    obtain⟨p,b,rfl⟩:Rn (mJ (af (aj bR (af (aD 1) aT)) aT) (entry 2 [au P,ay S]) h) λp=>p=((List.range S.length).map aw,[],h):=gH ⟨_,f,(S.length:Int),rfl,by lia,by lia,by rw[W7];rfl⟩;exact b
   unfold Mb;rw[g];show(cZ [] (gN 0) cb Sf ((List.range S.length).map aw) [none,none,some (au P),some (ay S)] h []).map _=_;rw[e,AaN];rfl
  ·exists rfl;rfl
 obtain⟨p,b,rfl⟩:=j;exact b
def QR(i:Nat):Option Row->D
 | some (.say w)=>.tup [aw i,.str w]
 | _=>.bo
def Ci{P:Prog}{S:List Hand}{i:Nat}{f:bF}{fs:List bF}{hd:List (List az)}{h:MH}(e:S[i]?=some (f::fs,hd))(ok:dW P f):iE [au P,ay S,aw i] h=some (QR i (bA P f),h):=by
 have c:Rn (iE [au P,ay S,aw i] h) λp=>p=(QR i (bA P f),h):=by
  refine aW ?_;exists kO e;rw[fz];exists cj f fs _;exists bx ok;exists zI _ _;cases d:bA P f with
  | none=>refine⟨false,rfl,ff ?_⟩;exact ff (rv rfl rfl)
  | some r=>
   refine⟨true,rfl,tt ?_⟩;exists cq r _;nofun;cases r with
   | say w=>
    refine⟨true,by ac_nf,tt ?_⟩;nofun;refine rv (a:=(.str w,h)) (by show aG (aV (.say w)) _ _=_;rw[aV];exact cK (i:=1) rfl) ?_;nofun;rfl
   | _=>
    refine⟨false,by ac_nf,ff ?_⟩;nofun;rfl
 obtain⟨p,b,rfl⟩:=c;exact b
def QS(a:List (Key×D))(s t:Term):Nat:=if fL a s < fL a t then 0 else if fL a s=fL a t then 1 else 2
def Mo{d:List (Key×D)}{s t:Term}{a b c:List Row}{h:MH}(f:du d s)(e:du d t):cW [aV (.uE s t a b c),.dv d] h=some (aw (QS d s t),h):=by
 have i:Rn (cW [aV (.uE s t a b c),.dv d] h) λp=>p=(aw (QS d s t),h):=by
  refine aW ?_;rw[aV];exists eJ f;exists eJ e;nofun;refine⟨_,_,rfl,?_⟩;nofun;unfold QS
  by_cases z:fL d s < fL d t
  ·rw[WC z];refine⟨true,by rw[W4 z],tt ?_⟩;nofun;rfl
  ·rw[WE z];refine⟨false,by rw[WW z],ff ?_⟩;nofun
   by_cases y:fL d s=fL d t
   ·rw[WC y];refine⟨true,by rw[Yt.mpr y],tt ?_⟩;nofun;rfl
   ·rw[WE y];refine⟨false,by rw[Zk.mpr y],ff ?_⟩;nofun;rfl
 obtain⟨p,g,rfl⟩:=i;exact g
def qU(r:Row)(o:Option Nat)(h:MH):qN [.str (ic r),PH o] h=some (.bl ((qe r||bp r 0)&&decide (o=some 0)),h):=by
 have d:Rn (qN [.str (ic r),PH o] h) λp=>p=(.bl ((qe r||bp r 0)&&decide (o=some 0)),h):=by
  refine aW ?_;nofun;refine rv (a:=(.bl (qe r||bp r 0),h)) (by cases r <;> ac_nf) ?_;cases c:(qe r||bp r 0) with
  | false=>exact⟨false,rfl,ff rfl⟩
  | true=>
   refine⟨true,rfl,tt ?_⟩;nofun;cases o with
   | none=>exact rv rfl rfl
   | some j=>
    refine rv (sP j 0 _) ?_;show(D.bl ((j:Int)==0),h)=(D.bl (true&&decide (some j=some 0)),h);cases j with
    | zero=>rfl
    | succ j=>
     rw[Zj,WW (λz=>by cases z)];congr 2
 obtain⟨p,b,rfl⟩:=d;exact b
def iN(P:Prog)(S:List Hand)(f:bF)(c:Nat):Row->Option Nat
 | .uE s t _ _ _=>some (QS (fc P f) s t)
 | .either _ _=>some c
 | .again _=>if c=1 then some 0 else none
 | .ask _ _ _=>some (if(tN P f).any (jv S) then 1 else 0)
 | .within _ _=>some 0
 | .all _ _=>some 0
 | _=>none
def Vx(a:List (Key×D)):Row->Prop
 | .uE s t _ _ _=>du a s/\du a t
 | _=>True
def DK{P:Prog}{f:bF}{l:Lock}{a b:List Row}(c:bA P f=some (.ask l a b)):tN P f=[(l.1,fL (fc P f) l.2)]:=by
 unfold tN;rw[c];rfl
def uu{P:Prog}{S:List Hand}{f:bF}{r:Row}{c:Nat}{h:MH}(ok:dW P f)(e:bA P f=some r)(T:JS P f r)(B:Vx (fc P f) r)(m:∀x∈S,x.2.length<=1000):iC [au P,ay S,lr f,aw c] h=some (PH (iN P S f c r),h):=by
 obtain⟨⟨d,d1,d2⟩,k,g⟩:=T;have o:Rn (iC [au P,ay S,lr f,aw c] h) λp=>p=(PH (iN P S f c r),h):=by
  refine aW ?_;exists bx ok;rw[e];exists cq r _;nofun;cases r with
  | uE s t a b z=>
   refine⟨true,by ac_nf,tt ?_⟩;exists fb d1 d2;exists Mo B.1 B.2;rfl
  | either a b=>
   refine⟨false,by ac_nf,ff ?_⟩;nofun;refine⟨true,by ac_nf,tt ?_⟩;nofun;rfl
  | again a=>
   refine⟨false,by ac_nf,ff ?_⟩;nofun;refine⟨false,by ac_nf,ff ?_⟩;nofun;refine⟨true,by ac_nf,tt ?_⟩;exists sP c 1 _;show ∃x,D.bl ((c:Int)==1)=D.bl x/\_
   by_cases z:c=1
   ·subst z;refine⟨true,rfl,tt ?_⟩;nofun;rfl
   ·refine⟨false,by rw[Zk.mpr (λy=>z (by lia))],ff ?_⟩;nofun;show(D.bo,h)=(PH (if c=1 then some 0 else none),h);rw[WE z];rfl
  | ask l a b=>
   refine⟨false,by ac_nf,ff ?_⟩;nofun;refine⟨false,by ac_nf,ff ?_⟩;nofun;refine⟨false,by ac_nf,ff ?_⟩;nofun;refine⟨true,by ac_nf,tt ?_⟩;exists fe ok d1 d2 e k g;rw[DK e];exists cK (i:=0) (d:=gu (l.1,fL (fc P f) l.2)) rfl;exists mK m;nofun;show Rn _ _;have hl:iN P S f c (.ask l a b)=some (if jv S (l.1,fL (fc P f) l.2) then 1 else 0):=by
    unfold iN;rw[DK e];simp
   rw[hl];unfold jv;cases S.findIdx? (zZ (l.1,fL (fc P f) l.2)) with
   | none=>refine rv rfl ⟨true,rfl,tt ?_⟩;nofun;rfl
   | some j=>refine rv rfl ⟨false,rfl,ff ?_⟩;nofun;rfl
  | within l a=>
   refine⟨false,by ac_nf,ff ?_⟩;nofun;refine⟨false,by ac_nf,ff ?_⟩;nofun;refine⟨false,by ac_nf,ff ?_⟩;nofun;refine⟨false,by ac_nf,ff ?_⟩;nofun;refine rv (a:=(.bl true,h)) (by ac_nf) ⟨true,rfl,tt ?_⟩;nofun;rfl
  | all l a=>
   refine⟨false,by ac_nf,ff ?_⟩;nofun;refine⟨false,by ac_nf,ff ?_⟩;nofun;refine⟨false,by ac_nf,ff ?_⟩;nofun;refine⟨false,by ac_nf,ff ?_⟩;nofun;refine rv (a:=(.bl true,h)) (by ac_nf) ⟨true,rfl,tt ?_⟩;nofun;rfl
  | _=>
   refine⟨false,by ac_nf,ff ?_⟩;nofun;refine⟨false,by ac_nf,ff ?_⟩;nofun;refine⟨false,by ac_nf,ff ?_⟩;nofun;refine⟨false,by ac_nf,ff ?_⟩;nofun;refine rv (a:=(.bl false,h)) (by ac_nf) ⟨false,rfl,ff ?_⟩;nofun;rfl
 obtain⟨p,n,rfl⟩:=o;exact n
def nums:Nat->List Str->List (Key×D)
 | _,[]=>[]
 | k,w::r=>(.inr w,aw k)::nums (k+1) r
theorem zH:∀(k:Nat)(x y:List Str),nums k (x++y)=nums k x++nums (k+x.length) y
 | k,[],y=>by simp[nums]
 | k,w::x,y=>by simp only[AaD,nums,zH (k+1) x y,WN];congr 3;lia
theorem vz:∀(k:Nat)(x:List Str),(nums k x).map (·.1)=x.map Sum.inr
 | _,[]=>rfl
 | k,w::r=>by rw[nums,WG,WG,vz (k+1) r]
theorem zG:∀(k:Nat)(x:List Str),(nums k x).length=x.length
 | _,[]=>rfl
 | k,w::r=>by rw[nums,WN,WN,zG (k+1) r]
theorem xB:∀(k i:Nat)(x:List Str)(w:Str),x.Nodup->x[i]?=some w->dm (nums k x) (.inr w)=some (aw (k+i))
 | k,0,v::r,w,_,e=>by
  cases e;unfold dm nums;rw[List.find?_cons_of_pos (by simp)];rfl
 | k,i+1,v::r,w,hn,e=>by
  have a:v≠w:=λz=>(YA.mp hn).1 (z ▸ Wx (by simpa using e));have:=xB (k+1) i r w (YA.mp hn).2 (by simpa using e);unfold dm at this ⊢;rw[nums,Abq (by simpa using a),this];congr 2
  lia
def nj{h:MH}{a:D}{b:List D}{c:List Str}(hd:b.length=c.length)(u:∀(i:Nat)(d:D),b[i]?=some d->∃(w:Str)(f:List D),c[i]?=some w/\d=D.tup (.str w::f))(hn:c.Nodup)(hl:c.length<=1000):
  cP [.tup [a,.tup b]] h=some (.dv (nums 0 c),h):=by
 refine MT (aW ?_);nofun;refine RO (xh ?_);nofun;refine⟨_,_,_,rfl,rfl,?_⟩;refine KQ (iP 0 b) (λr l p k=>∃i v0 v1,i<=b.length/\r=iP i (b.drop i)/\p=h/\l=[v0,v1]/\k=nums 0 (c.take i)) _ _ _ ⟨0,_,_,Xe _,by rw[Zv],rfl,rfl,by rw[List.take_zero];rfl⟩ ?_ ?_
 ·rintro x r l p k ⟨i,v0,v1,v,hr,rfl,rfl,rfl⟩;have g:i < b.length:=by
   rcases YR i b.length with z | z
   ·exact z
   ·rw[Abr z] at hr;cases hr
  rw[Zy g] at hr;obtain⟨w,f,q,F⟩:=u i b[i] (WA g);rw[F] at hr;injection hr with t hr
  subst t;refine⟨rfl,?_⟩;nofun;refine⟨_,rfl,?_⟩;dsimp only;rw[WC rfl];refine UT ?_;nofun;have n:w∉c.take i:=λm=>by
   obtain⟨j,hj⟩:=XT.mp m;rw[List.getElem?_take] at hj
   by_cases z:j < i
   ·rw[WC z] at hj;have E:=(Ww.mp hj);have C:=(Ww.mp q);obtain⟨a1,H⟩:=E;obtain⟨a2,G⟩:=C;have:=(List.pairwise_iff_getElem.mp hn) j i a1 a2 z;exact this (H.trans G.symm)
   ·rw[WE z] at hj;cases hj
  refine⟨.inr w,rfl,by rw[zG,W2,XR];lia,i+1,_,_,g,hr,rfl,rfl,?_⟩;show putD (nums 0 (c.take i)) (.inr w) (aw i)=_;have o:(c.take i).length=i:=by rw[W2];lia
  rw[zo (by rw[vz];intro m;obtain⟨y,s,e⟩:=W6.mp m;cases e;exact n s),take_snoc q,zH,o,Y6];rfl
 ·rintro l p k ⟨i,v0,v1,v,hr,rfl,rfl,rfl⟩;have A:i=b.length:=by
   rcases YR i b.length with z | z
   ·rw[Zy z] at hr;cases hr
   ·lia
  refine⟨rfl,?_⟩;show _=_;dsimp only;rw[A,hd,X1]
theorem yE{kvs:List (Key×D)}{h:MH}:∀(a:List Term)(o:Option D),(∀t∈a,du kvs t)->br [] (gN 0) cb (aj bE (af (aD 0) (af (aD 1) aT))) (a.map aU) [o,some (.dv kvs)] h=some ((a.map (fL kvs)).map D.int,h)
 | [],o,_=>rfl
 | t::a,o,hw=>by
  have b:=yE a (some (aU t)) (λx c=>hw x (Wz _ c)) (kvs:=kvs) (h:=h);rw[WG];show(bE [aU t,.dv kvs] h).bind (λy=>(br [] (gN 0) cb (aj bE (af (aD 0) (af (aD 1) aT))) (a.map aU) [some (aU t),some (.dv kvs)] y.2).map λz=>(y.1::z.1,z.2))=_;rw[eJ (hw t Wy)];show(br [] (gN 0) cb (aj bE (af (aD 0) (af (aD 1) aT))) (a.map aU) [some (aU t),some (.dv kvs)] h).map _=_;rw[b];rfl
def CB(P:Prog)(f:bF)(j:Nat)(a:List Term):bF:={bI:=j,nums:=a.map (fL (fc P f)),rs:=[],k:=0}
def mx{P:Prog}{h:MH}(nd:(P.aq.map (·.1)).Nodup)(hl:P.aq.length<=1000):cP [au P] h=some (.dv (nums 0 (P.aq.map (·.1))),h):=
 nj (by rw[Ws,Ws]) (λi d e=>by
  rw[WJ] at e;obtain⟨x,a,rfl⟩:=eg e;exact⟨x.1,_,by rw[WJ,a];rfl,rfl⟩) nd (by rw[Ws];exact hl)
def mS{P:Prog}{f:bF}{w:Str}{b:List Term}{j:Nat}{d:gf}{h:MH}(ok:dW P f)(e:bA P f=some (.call w b))(nd:(P.aq.map (·.1)).Nodup)(hl:P.aq.length<=1000)(g:(P.aq.map (·.1))[j]?=some w)(d1:P.aq[f.bI]?=some d)(d2:d.2.1.length<=1000)(c:∀t∈b,du (fc P f) t)(ht:b.length<=1000):dY [au P,lr f] h=some (lr (CB P f j b),h):=by
 have k:Rn (dY [au P,lr f] h) λp=>p=(lr (CB P f j b),h):=by
  refine aW ?_;exists bx ok;rw[e];show Rn _ _;unfold tZ;dsimp only;rw[aV];exists fb d1 d2;exists mx nd hl;exists xW rfl (xB 0 j _ w nd g);rw[Y6];nofun;refine rv (a:=(b.map aU,[],h)) rfl ?_;refine rv (yE b none c) ⟨by rw[Ws,Ws,show sizeLine=16777216 from rfl];lia,?_⟩;exists rfl;nofun;rfl
 obtain⟨p,i,rfl⟩:=k;exact i
def qF(f:bF)(fs:List bF)(h:MH):qg (iY (f::fs)) none (some (-1)) h=some (iY fs,h):=by
 unfold iY;rw[Xp,WR];exact qH (ys:=[lr f]) (YB _)
def mR(f:bF)(fs:List bF)(h:MH)(hl:fs.length<=1000):aQ (iY fs) (.tup [lr f]) h=some (iY (f::fs),h):=by
 unfold iY;rw[eC (by rw[Ws,Xq];simp;lia),Xp,WR];rfl
noncomputable def AV(f:bF):bF:=match f.rs with
 | []=>f
 | s::rs=>{f with rs:=rs,k:=s.1+1}
def gone(P:Prog)(S:List Hand)(x:Hand)(c j:Nat):Hand:=match x.1 with
 | []=>x
 | f::fs=>match bA P f with
  | none=>(AV f::fs,x.2.dropLast)
  | some r=>match r with
   | .call _ a=>(CB P f j a::f::fs,x.2)
   | r=>match iN P S f c r with
    | none=>({f with k:=f.k+1}::fs,x.2)
    | some l=>({f with rs:=(f.k,l)::f.rs,k:=0}::fs,if(qe r||bp r 0)&&decide (l=0) then x.2++[tN P f] else x.2)
def gone_none{P:Prog}{S:List Hand}{i c j:Nat}{f:bF}{fs:List bF}{hd:List (List az)}{h:MH}(e:S[i]?=some (f::fs,hd))(st:k9 P f)(g:bA P f=none)(hl:fs.length<=1000)(b:List az)(t:List (List az))(x:hd=t++[b]):cn [au P,ay S,aw i,aw c] h=some (b6 (gone P S (f::fs,hd) c j),h):=by
 have ok:=st.ok;obtain⟨d,d1,⟨n,v,u⟩,C⟩:=st;have A:Rn (cn [au P,ay S,aw i,aw c] h) λp=>p=(b6 (gone P S (f::fs,hd) c j),h):=by
  refine aW ?_;exists kO e;rw[fz];exists cj f fs _;rw[sJ f];exists cj f fs _;exists bx ok;exists mI _ _;rw[g];refine⟨true,rfl,tt ?_⟩;nofun;refine⟨_,rfl,rv (qF f fs _) ?_⟩;nofun;have q:n[f.k]?=none:=by
   unfold bA at g;rw[dG d1,v] at g;exact g
  obtain⟨s,rs,l,r,m,G,F,E⟩:∃s a l r,f.rs=s::a/\bV d.2.2 a.reverse=some l/\l[s.1]?=some r/\bp r s.2=true:=by
   rcases u with⟨r,z⟩ |⟨_,z⟩
   ·rw[q] at z;cases z
   ·exact z
  have o:AV f={f with rs:=rs,k:=s.1+1}:=by unfold AV;rw[m]
  refine⟨_,rfl,?_⟩;rw[m,Xp];refine rv (vi rs.reverse s.1 s.2 f.k _) ?_;exists gC rs.reverse s.1 _ (by rw[Xq];rw[m,WN] at C;lia);nofun;have w:=mR {f with rs:=rs,k:=s.1+1} fs h hl;refine rv w ?_;nofun;refine⟨_,rfl,?_⟩;rw[x,WR];refine rv (qH (ys:=[fC b]) (YB _)) ?_;nofun;show(b6 ({f with rs:=rs,k:=s.1+1}::fs,t),h)=_;unfold gone;dsimp only;rw[g];dsimp only;rw[o,AbD]
 obtain⟨p,y,rfl⟩:=A;exact y
def FK{P:Prog}{S:List Hand}{i c j:Nat}{f:bF}{fs:List bF}{hd:List (List az)}{w:Str}{a:List Term}{d:gf}{h:MH}(e:S[i]?=some (f::fs,hd))(ok:dW P f)(b:bA P f=some (.call w a))(hl:fs.length < 1000)(nd:(P.aq.map (·.1)).Nodup)(hp:P.aq.length<=1000)(k:(P.aq.map (·.1))[j]?=some w)(d1:P.aq[f.bI]?=some d)(d2:d.2.1.length<=1000)(g:∀t∈a,du (fc P f) t)(ht:a.length<=1000):cn [au P,ay S,aw i,aw c] h=some (b6 (gone P S (f::fs,hd) c j),h):=by
 have m:Rn (cn [au P,ay S,aw i,aw c] h) λp=>p=(b6 (gone P S (f::fs,hd) c j),h):=by
  refine aW ?_;exists kO e;rw[fz];exists cj f fs _;rw[sJ f];exists cj f fs _;exists bx ok;exists mI _ _;rw[b];refine⟨false,rfl,ff ?_⟩;exists cq _ _;nofun;refine⟨true,by ac_nf,tt ?_⟩;exists cj f fs _;exists mS ok b nd hp k d1 d2 g ht;exists mR (CB P f j a) (f::fs) _ hl;nofun;show(b6 (CB P f j a::f::fs,hd),h)=_;unfold gone;dsimp only;rw[b]
 obtain⟨p,l,rfl⟩:=m;exact l
def Ln(rs:List (Nat×Nat))(k l:Nat)(h:MH)(hl:rs.length<=1000):aQ (dJ rs.reverse k) (.tup [aw l,.int 0]) h=some (dJ ((k,l)::rs).reverse 0,h):=by
 have:dJ ((k,l)::rs).reverse 0=.tup ((flat rs.reverse++[k]).map aw++[aw l,.int 0]):=by
  unfold dJ rZ;rw[Xp,sL];simp[flat,aw]
 rw[this];exact eC (by rw[Ws,WQ,jz,Xq];simp;lia)
noncomputable def Fz:Row->Bool
 | .call _ _=>true
 | _=>false
def Mm(r:Row):(ic r=="call")=Fz r:=by cases r <;> ac_nf
def xQ{P:Prog}{S:List Hand}{c j:Nat}{f:bF}{fs:List bF}{hd:List (List az)}{r:Row}(b:bA P f=some r)(a:Fz r=false):gone P S (f::fs,hd) c j=match iN P S f c r with
    | none=>({f with k:=f.k+1}::fs,hd)
    | some l=>({f with rs:=(f.k,l)::f.rs,k:=0}::fs,if(qe r||bp r 0)&&decide (l=0) then hd++[tN P f] else hd):=by
 unfold gone;dsimp only;rw[b];cases r with
 | call _ _=>cases a
 | _=>rfl
def IP{P:Prog}{S:List Hand}{i c j:Nat}{f:bF}{fs:List bF}{hd:List (List az)}{r:Row}{h:MH}(e:S[i]?=some (f::fs,hd))(ok:dW P f)(a:bA P f=some r)(b:Fz r=false)(hl:fs.length<=1000)(hh:hd.length<=1000)(T:JS P f r)(B:Vx (fc P f) r)(q:∀x∈S,x.2.length<=1000):cn [au P,ay S,aw i,aw c] h=some (b6 (gone P S (f::fs,hd) c j),h):=by
 have s:=T;obtain⟨⟨d,d1,d2⟩,n,m⟩:=T;have g:f.rs.length<=1000:=let⟨_,_,_,_,z⟩:=ok;z;rw[xQ a b];have u:Rn (cn [au P,ay S,aw i,aw c] h) λp=>p=(b6 (match iN P S f c r with
    | none=>({f with k:=f.k+1}::fs,hd)
    | some l=>({f with rs:=(f.k,l)::f.rs,k:=0}::fs,if(qe r||bp r 0)&&decide (l=0) then hd++[tN P f] else hd)),h):=by
  refine aW ?_;exists kO e;rw[fz];exists cj f fs _;rw[sJ f];exists cj f fs _;exists bx ok;exists mI _ _;rw[a];refine⟨false,rfl,ff ?_⟩;exists cq _ _;nofun;refine⟨false,by rw[Mm,b],ff ?_⟩;exists cj f fs _;exists uu ok a s B q;nofun;cases iN P S f c r with
  | none=>
   refine rv rfl ⟨true,rfl,tt ?_⟩;exists gC f.rs.reverse f.k _ (by rw[Xq];exact g);exists cq _ _;exists qU r none _;rw[WW (λz=>by cases z),Aag];refine⟨false,rfl,ff ?_⟩;nofun;refine⟨_,rfl,rv (qF f fs _) ?_⟩;exists mR {f with k:=f.k+1} fs _ hl;nofun;rfl
  | some l=>
   refine rv rfl ⟨false,rfl,ff ?_⟩;exists Ln f.rs f.k l _ g;exists cq _ _;exists qU r (some l) _;have o:decide (some l=some 0)=decide (l=0):=by simp
   rw[o];cases ct:((qe r||bp r 0)&&decide (l=0)) with
   | false=>
    refine⟨false,rfl,ff ?_⟩;nofun;refine⟨_,rfl,rv (qF f fs _) ?_⟩;exists mR {f with rs:=(f.k,l)::f.rs,k:=0} fs _ hl;nofun;rfl
   | true=>
    refine⟨true,rfl,tt ?_⟩;exists cj f fs _;exists fe ok d1 d2 a n m;exists eC (ys:=[fC (tN P f)]) (by rw[Ws];simp;lia);nofun;refine⟨_,rfl,rv (qF f fs _) ?_⟩;exists mR {f with rs:=(f.k,l)::f.rs,k:=0} fs _ hl;nofun;rw[WC rfl,fz,WR];rfl
 obtain⟨p,t,rfl⟩:=u;exact t
def PX(a:List D)(k:Nat)(h:MH):qg (.tup a) none (some (k:Int)) h=some (.tup (a.take k),h):=by
 show(if HT.b8 a.length 0 none=0/\HT.b8 a.length a.length (some (k:Int))=a.length then some (D.tup a,h) else some (D.tup (cutD a none (some (k:Int))),h))=_;unfold cutD;rw[HT.lQ,HT.wR]
 by_cases z:k < a.length
 ·rw[WE (by lia),AaL (by lia),Zv,Abn]
 ·rw[WC (by lia),YS (by lia)]
def Jk(a:List D)(k:Nat)(h:MH):qg (.tup a) (some (k:Int)) none h=some (.tup (a.drop k),h):=by
 show(if HT.b8 a.length 0 (some (k:Int))=0/\HT.b8 a.length a.length none=a.length then some (D.tup a,h) else some (D.tup (cutD a (some (k:Int)) none),h))=_;unfold cutD;rw[HT.lQ,HT.wR]
 by_cases z:min k a.length=0
 ·rw[WC ⟨z,rfl⟩];have:a.drop k=a:=by
   rcases Nat.eq_zero_or_pos k with y | y
   ·rw[y,Zv]
   ·have:a=[]:=List.length_eq_zero_iff.mp (by lia);rw[this,List.drop_nil]
  rw[this]
 ·rw[WE (λq=>z q.1)]
  by_cases y:k<=a.length
  ·rw[AaL y,YS (by rw[YM];exact WB _)]
  ·rw[Nat.min_eq_right (by lia),Aaw,List.take_zero,Abr (by lia)]
def gn{P:Prog}{S:List Hand}{i c:Nat}{g:Hand}{h:MH}(b:i < S.length)(hl:S.length<=1000)(d:∀h,cn [au P,ay S,aw i,aw c] h=some (b6 g,h))(ok:∀f∈g.1,dW P f)(e:g.1.length<=1000):bS [au P,ay S,nS (i,c)] h=some (ay (S.set i (gL P g.1,g.2)),h):=by
 have k:Rn (bS [au P,ay S,nS (i,c)] h) λp=>p=(ay (S.set i (gL P g.1,g.2)),h):=by
  refine aW ?_;unfold nS;exists d _;rw[fz];nofun;refine⟨_,rfl,rv (PX (S.map b6) i _) ?_⟩;exists jx ok e;exists eC (ys:=[b6 (gL P g.1,g.2)]) (by rw[W2,Ws];simp;lia);nofun;refine rv (a:=(aw (i+1),h)) rfl ?_;refine⟨_,rfl,rv rfl (rv (Jk (S.map b6) (i+1) _) ?_)⟩;exists eC (by rw[WQ,W2,YM,Ws];simp;lia);show(D.tup _,h)=(D.tup ((S.set i (gL P g.1,g.2)).map b6),h);rw[List.set_eq_take_append_cons_drop,WC b,WR,WG,Aam,Aa5,XM];rfl
 obtain⟨p,j,rfl⟩:=k;exact j
theorem zl:∀b:List Nat,i0 (b.map aw)=some (b.map λ(n:Nat)=>PyData.int (n:Int))
 | []=>rfl
 | k::r=>by
  show(kA (aw k)).bind (λa=>(i0 (r.map aw)).map λbs=>a::bs)=_;rw[zl r];rfl
theorem sS:∀b:List Nat,PyData.depthAll (b.map λ(n:Nat)=>PyData.int (n:Int))<=2
 | []=>by simp[PyData.depthAll]
 | k::r=>by
  have:=sS r;simp only[WG,PyData.depthAll,PyData.depth]
  lia
def Ja(l:Nat)(b:List Nat)(h:MH):yz (aw l) (.tup (b.map aw)) h=some (.bl (decide (l∈b)),h):=by
 have c:inD (aw l) (.tup (b.map aw)) h=some (decide (l∈b)):=by
  show((i0 (b.map aw)).bind λbs=>if(PyData.int (l:Int)).depth<=60/\PyData.depthAll bs<=60 then some (bs.any λx=>PyData.eqv x (.int (l:Int))) else none)=_;rw[zl];show(if(PyData.int (l:Int)).depth<=60/\PyData.depthAll (b.map λ(n:Nat)=>PyData.int (n:Int))<=60 then some ((b.map λ(n:Nat)=>PyData.int (n:Int)).any λx=>PyData.eqv x (.int (l:Int))) else none)=_;rw[WC ⟨by simp[PyData.depth],WL (sS b) (by decide)⟩,Abs];congr 1;rw[XY,Y7,YO];constructor
  ·rintro⟨x,a,e⟩;have e:((x:Int)==(l:Int))=true:=e;have:x=l:=by have:=eq_of_beq e;lia
   exact this ▸ a
  ·intro a;exact⟨l,a,by show((l:Int)==(l:Int))=true;simp⟩
 unfold yz;rw[c];rfl
def Aw{P:Prog}{S:List Hand}{i c:Nat}{x:Hand}{h:MH}(e:S[i]?=some x)(hl:S.length<=1000)(b:∀h,bj [au P,ay S,aw i] h=some (.tup ((oN P S x).map aw),h)):nP [au P,ay S,nS (i,c)] h=some (.bl (decide (c∈oN P S x)),h):=by
 have g:i < S.length:=(Ww.mp e).1;have f:Rn (nP [au P,ay S,nS (i,c)] h) λp=>p=(.bl (decide (c∈oN P S x)),h):=by
  refine aW ?_;unfold nS;nofun;refine rv (a:=(.bl true,h)) rfl ⟨true,rfl,ff ?_⟩;nofun;refine rv (a:=(.bl true,h)) rfl ⟨true,rfl,ff ?_⟩;nofun;refine rv (a:=(.bl true,h)) rfl ⟨true,rfl,ff ?_⟩;nofun;refine rv (a:=(.bl true,h)) ?_ ⟨true,rfl,tt ?_⟩
  ·refine MT (HA (rv rfl (rv rfl (rv (a:=(.bl true,h)) ?_ ⟨true,rfl,?_⟩))))
   ·show some (D.bl (decide ((0:Int)<=(i:Int))),h)=_;rw[W4 (by lia)]
   ·rw[WC rfl];refine rv (a:=(.int (S.length:Int),h)) (by show some (D.int ((S.map b6).length:Int),h)=_;rw[Ws]) ?_;refine rv (a:=(.bl true,h)) ?_ rfl;show some (D.bl (decide ((i:Int) < (S.length:Int))),h)=_;rw[W4 (by lia)]
  exists b _;exists Ja _ _ _;rfl
 obtain⟨p,d,rfl⟩:=f;exact d
def wC{P:Prog}{S:List Hand}{i c j:Nat}{f:bF}{fs:List bF}{hd:List (List az)}{h:MH}(e:S[i]?=some (f::fs,hd))(hl:S.length<=1000)(m:dW P f)(l:∀h,bj [au P,ay S,aw i] h=some (.tup ((oN P S (f::fs,hd)).map aw),h))(q:c∈oN P S (f::fs,hd)){g:Hand}(d:∀h,cn [au P,ay S,aw i,aw c] h=some (b6 g,h))(ok:∀f∈g.1,dW P f)(k:g.1.length<=1000):
  eI [au P,ay S,nS (i,c)] h=some (.tup [ay (S.set i (gL P g.1,g.2)),QR i (bA P f)],h):=by
 have b:i < S.length:=(Ww.mp e).1;have o:Rn (eI [au P,ay S,nS (i,c)] h) λp=>p=(.tup [ay (S.set i (gL P g.1,g.2)),QR i (bA P f)],h):=by
  refine aW ?_;exists Aw e hl l;rw[W4 q];refine⟨true,rfl,ff ?_⟩;exists gn b hl d ok k;nofun;refine rv (a:=(aw i,h)) (cK (i:=0) rfl) ?_;exists Ci e m;nofun
 obtain⟨p,n,rfl⟩:=o;exact n
def Pl{P:Prog}{S:List Hand}{f:bF}{c l:Nat}{r:Row}(d:zV r=true->c<=1)(e:iN P S f c r=some l):l < (gq r).length:=by
 cases r with
 | uE s t a b z=>
  cases e;show QS _ _ _ < 3;unfold QS
  split
  ·decide
  ·split <;> decide
 | either a b=>cases e;exact Nat.lt_succ_of_le (d rfl)
 | again a=>
  have e:(if c=1 then some 0 else none)=some l:=e
  split at e
  ·cases e;exact Z2
  ·cases e
 | ask k a b=>
  cases e;show(if _ then 1 else 0) < 2
  split <;> decide
 | within _ _=>cases e;exact Z2
 | all _ _=>cases e;exact Z2
 | _=>cases e
def LY{P:Prog}{S:List Hand}{c j:Nat}{f:bF}{fs:List bF}{hd:List (List az)}{t:gf}(st:k9 P f)(os:∀g∈fs,dW P g)(hj:P.aq[j]?=some t)(hr:f.rs.length < 1000)(C:∀r,bA P f=some r->zV r=true->c<=1):∀g∈(gone P S (f::fs,hd) c j).1,dW P g:=by
 have ok:=st.ok;obtain⟨d,d1,⟨b,n,A⟩,u⟩:=st;have a:bA P f=b[f.k]?:=by unfold bA;rw[dG d1,n];rfl
 have two:∀{q:bF},dW P q->∀g∈q::fs,dW P g:=λ{q} h g e=>by
  rcases WI.mp e with rfl | e
  ·exact h
  ·exact os g e
 cases i:bA P f with
 | none=>
  have:gone P S (f::fs,hd) c j=(AV f::fs,hd.dropLast):=by unfold gone;dsimp only;rw[i]
  rw[this];rw[a] at i;rcases A with⟨r,z⟩ |⟨_,s,rs,l,r,v,y,G,F⟩
  ·rw[i] at z;cases z
  ·have o:AV f={f with rs:=rs,k:=s.1+1}:=by unfold AV;rw[v]
   rw[o];exact two ⟨d,l,d1,y,by rw[v,WN] at u;show rs.length<=1000;exact XQ u⟩
 | some r=>
  by_cases m:Fz r=true
  ·cases r with
   | call w x=>
    have:gone P S (f::fs,hd) c j=(CB P f j x::f::fs,hd):=by unfold gone;dsimp only;rw[i]
    rw[this];intro g e;rcases WI.mp e with rfl | e
    ·exact⟨t,t.2.2,hj,rfl,Xe _⟩
    ·exact two ok g e
   | _=>cases m
  ·rw[xQ i (by simpa using m)];cases E:iN P S f c r with
   | none=>exact two ⟨d,b,d1,n,u⟩
   | some l=>
    have p:=Pl (C r i) E;refine two ⟨d,(gq r)[l],d1,?_,hr⟩;show bV d.2.2 ((f.k,l)::f.rs).reverse=_;rw[Xp,oC,n];show(QN b (f.k,l)).bind _=_;unfold QN;rw[<-a,i];show((gq r)[l]?).bind _=_;rw[WA p];rfl
abbrev AE:=List (Str×List Int)
noncomputable def NC(t:AE):D:=.tup (t.map λp=>.tup [.str p.1,.tup (p.2.map D.int)])
def CF(P:Prog)(num:Str->Nat)(p:Str×List Int):Hand:=(gL P [{bI:=num p.1,nums:=p.2,rs:=[],k:=0}],[])
def Eb(n:Nat)(x:Hand):fB n (b6 x)=true:=by
 have c:∀bs:List (List az),cY n (bs.map fC)=true:=λbs=>by
  induction bs with
  | nil=>rfl
  | cons b r a=>
   have hp:∀b:List az,cY n (b.map gu)=true:=λb=>by
    induction b with
    | nil=>rfl
    | cons k r a=>exact a
   show(cY n (b.map gu)&&cY n (r.map fC))=true;rw[hp,a];rfl
 show(cY n (x.1.reverse.map lr)&&(cY n (x.2.map fC)&&true))=true;rw[x9,c];rfl
theorem As(n:Nat):∀S:List Hand,cY n (S.map b6)=true
 | []=>rfl
 | x::r=>by show(fB n (b6 x)&&cY n (r.map b6))=true;rw[Eb,As n r];rfl
def CD{P:Prog}{t:AE}{num:Str->Nat}{h:MH}(nd:(P.aq.map (·.1)).Nodup)(hp:P.aq.length<=1000)(ht:t.length<=1000)(hn:∀p∈t,(P.aq.map (·.1))[num p.1]?=some p.1):gF [au P,NC t] h=some (ay (t.map (CF P num)),h):=by
 have s:Rn (gF [au P,NC t] h) λp=>p=(ay (t.map (CF P num)),h):=by
  refine ph ?_;exists mx nd hp;nofun;refine dH ?_;nofun;refine⟨_,_,rfl,?_⟩;refine dI (λi c g=>∃(m l j:Option D),c=[some (au P),some (NC t),some (.dv (nums 0 (P.aq.map (·.1)))),some (.ob h.length),m,l,j]/\g=h++[.lst (((t.take i).map (CF P num)).map b6)]) ⟨_,_,_,rfl,rfl⟩ (λ_ _ _ _ _=>rfl) ?_ ?_
  ·rintro i x c g o ⟨m,l,j,rfl,rfl⟩;rw[WJ] at o;obtain⟨p,a,rfl⟩:=eg o;have b:=Wx a;obtain⟨d,hd⟩:∃d,P.aq[num p.1]?=some d:=by
    have:=hn p b;rw[WJ] at this;obtain⟨d,hd,_⟩:=eg this;exact⟨d,hd⟩
   have u:i < t.length:=(Ww.mp a).1;have e:t.take (i+1)=t.take i++[p]:=by rw[Zs,a];rfl
   exists xW rfl (xB 0 _ _ p.1 nd (hn p b));rw[Y6];nofun;refine pW ?_;nofun;refine⟨cg bQ,?_⟩;nofun;refine rv (jx (P:=P) (fs:=[{bI:=num p.1,nums:=p.2,rs:=[],k:=0}]) (λf q=>by
    rw[WD] at q;subst q;exact⟨d,d.2.2,hd,rfl,Xe _⟩) (by simp)) ?_
   exists cJ bQ (by rw[Ws,Ws,W2,show sizeLine=16777216 from rfl];lia);rw[i7];nofun;refine⟨_,_,_,rfl,?_⟩;rw[e,WR,WR];rfl
  ·rintro c g ⟨m,l,j,rfl,rfl⟩;rw[Ws,X1];exists g0 bQ;exact rv (jU (λn z=>(nomatch z)) (As _ _)) rfl
 obtain⟨p,r,rfl⟩:=s;exact r
def MP(a:List Row)(rs:List (Nat×Nat))(s:Nat×Nat):Bool:=(((bV a rs.reverse).bind λl=>l[s.1]?).map λr=>bp r s.2).getD false
def x5(a:List Row):List (Nat×Nat)->Nat
 | []=>0
 | s::rs=>(MP a rs s).toNat+x5 a rs
theorem Dy{rows:List Row}:∀{rs:List (Nat×Nat)} {k:Nat} {a:List Row},bV rows rs.reverse=some a->x5 rows rs=((pX rows rs k).map λp=>x5 rows p.1).getD 0
 | [],k,a,e=>by
  cases q:a[k]? with
  | none=>rw[xm e q];rfl
  | some r=>rw[ji e q];rfl
 | s::rs,k,a,e=>by
  cases q:a[k]? with
  | some r=>rw[ji e q];rfl
  | none=>
   obtain⟨l,r,g1,g2,g3⟩:=sA e;rw[BD e q g1 g2]
   by_cases c:bp r s.2=true
   ·rw[WC c];rfl
   ·have b:MP rows rs s=false:=by
     unfold MP;rw[g1,WY,g2]
     simpa using c
    rw[WE c,<-Dy g1];show(MP rows rs s).toNat+x5 rows rs=_;rw[b];exact Y6 _
def Aq(P:Prog)(f:bF):Nat:=x5 (cc P f.bI) f.rs
def x4(P:Prog)(fs:List bF):Nat:=(fs.map (Aq P)).sum
def dA(P:Prog)(f:bF)(fs:List bF):x4 P (f::fs)=Aq P f+x4 P fs:=rfl
theorem Ab{P:Prog}:∀{fs:List bF} {f:bF},dW P f->(∀g∈fs,dW P g)->x4 P (iX P fs f)=Aq P f+x4 P fs
 | fs,f,⟨d,c,f1,f2,r⟩,b=>by
  have n:=dG f1;have a:=Dy (rows:=cc P f.bI) (k:=f.k) (n ▸ f2);cases q:pX (cc P f.bI) f.rs f.k with
  | some p=>
   rw[q] at a;rw[gZ q,dA];show x5 (cc P f.bI) p.1+_=x5 (cc P f.bI) f.rs+_;rw[a];rfl
  | none=>
   rw[q] at a;have a:Aq P f=0:=a;rw[a,Y6];cases fs with
   | nil=>rw[jw q]
   | cons g m=>
    obtain⟨o,e,j,i,h⟩:=b g Wy;rw[mQ q,Ab (fs:=m) (f:={g with k:=g.k+1}) ⟨o,e,j,i,h⟩ λx l=>b x (Wz _ l)];rfl
theorem z9{P:Prog}:∀{fs:List bF},(∀g∈fs,dW P g)->x4 P (gL P fs)=x4 P fs
 | [],_=>rfl
 | f::fs,h=>Ab (h f Wy) λg a=>h g (Wz _ a)
structure Gd(P:Prog)(n:Nat)(f:bF):Prop where
 nm:(pZ P f.bI).length<=f.nums.length
 rs:f.rs.length<=n
theorem DX{P:Prog}{n:Nat}:∀{fs:List bF} {f:bF},dW P f->(∀g∈fs,dW P g)->Gd P n f->(∀g∈fs,Gd P n g)->∀g∈iX P fs f,Gd P n g
 | fs,f,⟨d,e,f1,f2,u⟩,b,hf,hn,x,a=>by
  have r:=dG f1;cases q:pX (cc P f.bI) f.rs f.k with
  | some p=>
   rw[gZ q] at a;obtain⟨t,m⟩:=BE (r ▸ f2) q;rcases WI.mp a with rfl | a
   ·exact⟨hf.nm,WL m hf.rs⟩
   ·exact hn x a
  | none=>
   cases fs with
   | nil=>rw[jw q] at a;cases a
   | cons g o=>
    rw[mQ q] at a;obtain⟨s,h,l,j,i⟩:=b g Wy;have c:=hn g Wy;exact DX (fs:=o) (f:={g with k:=g.k+1}) ⟨s,h,l,j,i⟩ (λx a=>b x (Wz _ a)) ⟨c.nm,c.rs⟩ (λx a=>hn x (Wz _ a)) x a
theorem DV{P:Prog}{n:Nat}:∀{fs:List bF},(∀g∈fs,dW P g)->(∀g∈fs,Gd P n g)->∀g∈gL P fs,Gd P n g
 | [],_,_=>λ_ z=>(nomatch z)
 | f::fs,h,hn=>DX (h f Wy) (λg a=>h g (Wz _ a)) (hn f Wy) λg a=>hn g (Wz _ a)
def Gx{P:Prog}{S:List Hand}{f:bF}{c l:Nat}{r:Row}(e:iN P S f c r=some l):bp r l=((qe r||bp r 0)&&decide (l=0)):=by
 cases r with
 | within _ _=>cases e;rfl
 | all _ _=>cases e;rfl
 | ask _ _ _=>show(l==0)=(true&&decide (l=0));rw[Zj];rfl
 | _=>rfl
def D7{P:Prog}{f:bF}(st:k9 P f)(g:bA P f=none):Aq P f=1+Aq P (AV f)/\(AV f).rs.length<=f.rs.length:=by
 obtain⟨d,d1,⟨c,n,m⟩,o⟩:=st;have hr:=dG d1;have a:bA P f=c[f.k]?:=by unfold bA;rw[hr,n];rfl
 rw[a] at g;rcases m with⟨r,z⟩ |⟨_,s,rs,l,r,b,j,i,h⟩
 ·rw[g] at z;cases z
 ·have e:AV f={f with rs:=rs,k:=s.1+1}:=by unfold AV;rw[b]
  rw[e];refine⟨?_,by rw[b,WN];exact YC _⟩;show x5 (cc P f.bI) f.rs=1+x5 (cc P f.bI) rs;rw[b];show(MP (cc P f.bI) rs s).toNat+_=_;have:MP (cc P f.bI) rs s=true:=by
   unfold MP;rw[hr,j,WY,i];exact h
  rw[this];rfl
def B6{P:Prog}{S:List Hand}{n c j:Nat}{f:bF}{fs:List bF}{hd:List (List az)}(st:k9 P f)(hn:∀g∈f::fs,Gd P n g)(m:x4 P (f::fs)=hd.length)(hj:∀w d,bA P f=some (.call w d)->(pZ P j).length<=d.length):
  (∀g∈(gone P S (f::fs,hd) c j).1,Gd P (n+1) g)/\(gone P S (f::fs,hd) c j).1.length<=fs.length+2/\(gone P S (f::fs,hd) c j).2.length<=hd.length+1/\x4 P (gone P S (f::fs,hd) c j).1=(gone P S (f::fs,hd) c j).2.length:=by
 have b:=hn f Wy;have t:∀g∈fs,Gd P (n+1) g:=λg a=>let z:=hn g (Wz _ a);⟨z.nm,Xu z.rs⟩;have two:∀{p:bF},Gd P (n+1) p->∀g∈p::fs,Gd P (n+1) g:=λ{p} h g a=>by
  rcases WI.mp a with rfl | a
  ·exact h
  ·exact t g a
 rw[dA] at m;cases e:bA P f with
 | none=>
  have:gone P S (f::fs,hd) c j=(AV f::fs,hd.dropLast):=by unfold gone;dsimp only;rw[e]
  rw[this];obtain⟨s,x⟩:=D7 st e;have v:=b.rs;have q:(AV f).bI=f.bI/\(AV f).nums=f.nums:=by unfold AV;split <;> exact⟨rfl,rfl⟩
  refine⟨two ⟨by rw[q.1,q.2];exact b.nm,by lia⟩,by simp,by rw[Aae];clear m;lia,?_⟩;rw[dA,Aae]
  lia
 | some r=>
  by_cases i:Fz r=true
  ·cases r with
   | call w d=>
    have:gone P S (f::fs,hd) c j=(CB P f j d::f::fs,hd):=by unfold gone;dsimp only;rw[e]
    rw[this];refine⟨λg a=>?_,by simp,YC _,?_⟩
    ·rcases WI.mp a with rfl | a
     ·refine⟨?_,Xe _⟩;show(pZ P j).length<=(d.map _).length;rw[Ws];exact hj w d e
     ·exact two ⟨b.nm,Xu b.rs⟩ g a
    ·rw[dA,dA,m];exact Y6 _
   | _=>cases i
  ·rw[xQ e (by simpa using i)];cases u:iN P S f c r with
   | none=>exact⟨two ⟨b.nm,Xu b.rs⟩,by simp,YC _,by rw[dA];exact m⟩
   | some l=>
    have ht:=Gx u;have o:MP (cc P f.bI) f.rs (f.k,l)=bp r l:=by
     show((bA P f).map λr=>bp r l).getD false=_;rw[e];rfl
    have s:Aq P {f with rs:=(f.k,l)::f.rs,k:=0}=(bp r l).toNat+Aq P f:=by rw[<-o];rfl
    refine⟨two ⟨b.nm,Yh b.rs⟩,by simp,?_,?_⟩
    ·dsimp only
     split
     ·rw[WQ];exact WB _
     ·exact YC _
    ·dsimp only;rw[dA,s,<-ht];cases bp r l with
     | true=>
      rw[WC rfl,WQ];show 1+_+_=hd.length+1
      lia
     | false=>
      rw[WE W8];show 0+_+_=_
      lia
structure hW(P:Prog)(n:Nat)(x:Hand):Prop where
 fr:wk P x.1
 nm:∀f∈x.1,Gd P n f
 fl:x.1.length<=n+1
 hl:x.2.length<=n
 ct:x4 P x.1=x.2.length
def hW.up{P:Prog}{n:Nat}{x:Hand}(h:hW P n x):hW P (n+1) x:=⟨h.fr,λf a=>⟨(h.nm f a).nm,Xu (h.nm f a).rs⟩,Xu h.fl,Xu h.hl,h.ct⟩
def hW.next{P:Prog}{S:List Hand}{n c j:Nat}{f:bF}{fs:List bF}{hd:List (List az)}{a:gf}(h:hW P n (f::fs,hd))(hn:n<=900)(hj:∀w b,bA P f=some (.call w b)->(pZ P j).length<=b.length)(a:P.aq[j]?=some a)(m:∀r,bA P f=some r->zV r=true->c<=1):
  hW P (n+1) (gL P (gone P S (f::fs,hd) c j).1,(gone P S (f::fs,hd) c j).2)/\(∀g∈(gone P S (f::fs,hd) c j).1,dW P g)/\(gone P S (f::fs,hd) c j).1.length<=1000:=by
 have hl:=h.fl;have hh:=h.hl;dsimp only at hl hh;rw[WN] at hl;have ok:=LY (S:=S) (hd:=hd) h.fr.1 h.fr.2 a (by have:=(h.nm f Wy).rs;lia) m;obtain⟨e,l,k,d⟩:=B6 (S:=S) (c:=c) h.fr.1 h.nm h.ct hj;generalize gone P S (f::fs,hd) c j=g at ok e l k d ⊢;obtain⟨i,o⟩:=DU ok;exact⟨⟨i,DV ok e,by dsimp only;lia,by dsimp only;lia,by dsimp only;rw[z9 ok];exact d⟩,ok,by lia⟩
def BV{W:Wd}{f:List Str}{n:Nat}{r:Row}{l:List Row}(h:aX W f n r)(hl:l∈gq r):bB W f (n+1) l:=by
 cases r with
 | say _=>cases hl
 | call _ _=>cases hl
 | within _ b=>rw[aX] at h;rw[WD.mp hl];exact h.2.2.2
 | all _ b=>rw[aX] at h;rw[WD.mp hl];exact h.2.2.2
 | ask _ a b=>
  rw[aX] at h;obtain⟨_,_,_,_,e,d⟩:=h;rcases WI.mp hl with rfl | hl
  ·exact e
  ·rw[WD.mp hl];exact d
 | uE _ _ a b c=>
  rw[aX] at h;obtain⟨_,_,_,_,_,_,e,d,g⟩:=h;rcases WI.mp hl with rfl | hl
  ·exact e
  ·rcases WI.mp hl with rfl | hl
   ·exact d
   ·rw[WD.mp hl];exact g
 | either a b=>
  rw[aX] at h;obtain⟨_,_,_,e,d⟩:=h;rcases WI.mp hl with rfl | hl
  ·exact e
  ·rw[WD.mp hl];exact d
 | again a=>rw[aX] at h;rw[WD.mp hl];exact h.2.2
theorem oB{W:Wd}{c:List Str}:∀(st:List (Nat×Nat)) (n:Nat) (a b:List Row),bB W c n a->bV a st=some b->∃m,bB W c m b
 | [],n,a,b,h,e=>by cases e;exact⟨n,h⟩
 | s::st,n,a,b,h,e=>by
  obtain⟨d,j,i⟩:=aZ e;obtain⟨r,f,g⟩:=aZ j;exact oB st (n+1) d b (BV (jS h r (Wx f)) (Wx g)) i
def FV{W:Wd}{m:Nat}{P:Prog}(o:VC W m P):P.aq.map (·.1)=W.aq:=by
 refine ZF λj=>?_;rw[WJ];cases e:P.aq[j]? with
 | some d=>rw[(o.dd j d e).1];rfl
 | none=>
  have:=List.getElem?_eq_none_iff.mp e;rw[Xh (by rw[<-o.dl];exact this)];rfl
def xp{P:Prog}{i:Nat}{d:gf}(h:P.aq[i]?=some d):pZ P i=d.2.1:=by unfold pZ;rw[h];rfl
noncomputable def my(P:Prog)(w:Str):Nat:=(P.aq.map (·.1)).idxOf w
structure Dr(P:Prog):Prop where
 ex:∃W fl odd,CJ W fl odd/\VC W 60 P
section
variable {P:Prog} (D:Dr P)
include D
theorem Dr.nd:(P.aq.map (·.1)).Nodup:=let⟨_,_,_,ok,o⟩:=D.ex;by rw[FV o];exact ok.nd
theorem Dr.six:P.aq.length<=6:=let⟨_,_,_,ok,o⟩:=D.ex;by rw[o.dl];exact ok.d2
theorem Dr.pos:0 < P.aq.length:=let⟨_,_,_,ok,o⟩:=D.ex;by rw[o.dl];exact ok.d1
theorem Dr.par{i:Nat}{d:gf}(e:P.aq[i]?=some d):d.2.1.length<=3:=let⟨_,_,_,ok,o⟩:=D.ex;ok.p3 _ (Wx (o.dd i d e).2.1)
theorem Dr.num{i:Nat}{d:gf}(e:P.aq[i]?=some d):my P d.1=i:=by
 have c:(P.aq.map (·.1))[i]?=some d.1:=by rw[WJ,e];rfl
 obtain⟨b,a⟩:=Ww.mp c;unfold my;rw[<-a];exact D.nd.idxOf_getElem i b
theorem Dr.row{n:Nat}{f:bF}{d:gf}{r:Row}(e:P.aq[f.bI]?=some d)(I:Gd P n f)(q:bA P f=some r):JS P f r/\Vx (fc P f) r/\∀w m,r=.call w m->(∃v,P.aq[my P w]?=some v/\v.1=w/\v.2.1.length=m.length)/\m.length<=3/\∀t∈m,du (fc P f) t:=by
 have J:=D.par e;have p:=@Dr.num P D;obtain⟨W,fl,odd,ok,o⟩:=D.ex;have hp:=xp e;obtain⟨k,g⟩:∃k,aX W d.2.1 k r:=by
  unfold bA at q;rw[dG e] at q;obtain⟨C,M,L⟩:=aZ q;obtain⟨k,H⟩:=oB _ 1 _ _ (o.dd _ d e).2.2.1 M;exact⟨k,jS H r (Wx L)⟩
 have h:∀t:Term,eA d.2.1 t->du (fc P f) t:=λt ht=>by
  rcases ht.1 with z | z
  ·exact .inl z
  ·exact .inr (Iv (by rw[hp];exact z) I.nm)
 have i:∀l:Lock,eZ W d.2.1 l->du (fc P f) l.2:=λl hl=>h _ hl.2;refine⟨⟨⟨d,e,by exact WL J (by decide)⟩,?_,?_⟩,?_,?_⟩
 ·intro l hl;cases r with
  | within E b=>rw[aX] at g;rw[WD.mp hl];exact i _ g.1
  | all ls b=>rw[aX] at g;exact i l (g.1.2.2.2 l hl)
  | ask E a b=>rw[aX] at g;rw[WD.mp hl];exact i _ g.1
  | _=>cases hl
 ·cases r with
  | all ls b=>rw[aX] at g;exact g.1.2.1
  | _=>simp[fh]
 ·cases r with
  | uE s t a b c=>rw[aX] at g;exact⟨h _ g.1,h _ g.2.1⟩
  | _=>trivial
 ·rintro w m rfl;rw[aX] at g;obtain⟨⟨j,x,A,y,G⟩,F⟩:=g;have hj:j < P.aq.length:=by rw[o.dl];exact(Ww.mp A).1
  have u:P.aq[j]?=some P.aq[j]:=WA hj;obtain⟨g1,g2,_⟩:=o.dd j _ u;rw[A] at g1;rw[y] at g2;have g1:w=P.aq[j].1:=Option.some.inj g1;have g2:x=P.aq[j].2.1:=Option.some.inj g2;have N:x.length<=3:=ok.p3 _ (Wx y);refine⟨⟨P.aq[j],by rw[g1,p u];exact u,g1.symm,by rw[<-g2,G]⟩,by lia,λt ht=>h t (F t ht)⟩
end
def IH(P:Prog)(x:Hand):Nat:=match za P x with
 | some (.call w _)=>my P w
 | _=>0
def Kd(P:Prog)(S:List Hand)(x:Hand)(c:Nat):Hand:=(gL P (gone P S x c (IH P x)).1,(gone P S x c (IH P x)).2)
structure nK(P:Prog)(n:Nat)(S:List Hand):Prop where
 h:∀x∈S,hW P n x
 l:S.length<=10
def Qb{P:Prog}{S:List Hand}{x:Hand}{c:Nat}(h:c∈oN P S x):c<=1:=by
 unfold oN at h
 split at h
 ·cases h
 ·split at h
  ·rcases WI.mp h with rfl | h
   ·exact Xe _
   ·rw[WD.mp h];exact WB _
  ·split at h
   ·rw[WD.mp h];exact Xe _
   ·cases h
section
variable {P:Prog} (D:Dr P) {n:Nat} {S:List Hand} (s:nK P n S) (hn:n<=900)
include D s hn
theorem nK.Ee{i:Nat}{x:Hand}(e:S[i]?=some x)(h:MH):bj [au P,ay S,aw i] h=some (.tup ((oN P S x).map aw),h):=by
 have a:=s.h x (Wx e);refine yd e a.fr (λy g=>by have:=(s.h y g).hl;lia) λf fs r ex j=>?_;have c:=a.fr;have b:=a.nm;rw[ex] at c b;obtain⟨d,hd,_⟩:=c.1;exact(D.row hd (b f Wy) j).1
theorem nK.moves(h:MH):jZ [au P,ay S] h=some (.tup ((qD P S).map nS),h):=
 BX (by have:=s.l;lia) λi x e=>s.Ee D hn e h
theorem nK.gone{i c:Nat}{f:bF}{fs:List bF}{hd:List (List az)}(e:S[i]?=some (f::fs,hd))(h:MH):cn [au P,ay S,aw i,aw c] h=some (b6 (Mi.gone P S (f::fs,hd) c (IH P (f::fs,hd))),h):=by
 have g:=s.h _ (Wx e);have hl:=g.fl;have hh:=g.hl;have m:=g.ct;dsimp only at hl hh m;rw[WN] at hl;rw[dA] at m;have a:=g.fr.1;obtain⟨d,b,_⟩:=g.fr.1;have A:=D.par b;cases j:bA P f with
 | none=>
  have k:hd≠[]:=by
   rintro rfl;have:=(D7 a j).1;rw[XO] at m
   lia
  exact gone_none e a j (by lia) (hd.getLast k) hd.dropLast (AaP k).symm
 | some r=>
  obtain⟨T,B,C⟩:=D.row b (g.nm f Wy) j
  by_cases l:Fz r=true
  ·cases r with
   | call w o=>
    obtain⟨⟨z,t,q,x⟩,v,p⟩:=C w o rfl;have hj:IH P (f::fs,hd)=my P w:=by
     unfold IH;rw[show za P (f::fs,hd)=bA P f from rfl,j]
    rw[hj];exact FK e a.ok j (by lia) D.nd (by have:=D.six;lia) (by rw[WJ,t,<-q];rfl) b (by lia) p (by lia)
   | _=>cases l
  ·exact IP e a.ok j (by simpa using l) (by lia) (by lia) T B λy u=>by have:=(s.h y u).hl;lia
theorem nK.GG{i c:Nat}{x:Hand}(e:S[i]?=some x)(q:c∈oN P S x):(∀h,eI [au P,ay S,nS (i,c)] h=some (.tup [ay (S.set i (Kd P S x c)),QR i (za P x)],h))/\nK P (n+1) (S.set i (Kd P S x c))/\∀h,bS [au P,ay S,nS (i,c)] h=some (ay (S.set i (Kd P S x c)),h):=by
 have b:=s.h _ (Wx e);obtain⟨fs,hd⟩:=x;cases fs with
 | nil=>cases q
 | cons f fs=>
  obtain⟨d,p,_⟩:=b.fr.1;have hp:=D.pos;obtain⟨k,o,m⟩:∃k,P.aq[IH P (f::fs,hd)]?=some k/\∀w a,bA P f=some (.call w a)->(pZ P (IH P (f::fs,hd))).length<=a.length:=by
   have hr:za P (f::fs,hd)=bA P f:=rfl;cases g:bA P f with
   | none=>exact⟨P.aq[0],by unfold IH;rw[hr,g];exact WA hp,λ_ _ z=>(nomatch z)⟩
   | some r=>
    obtain⟨T,B,C⟩:=D.row p (b.nm f Wy) g;cases r with
    | call w a=>
     obtain⟨⟨k,v,L,F⟩,J,I⟩:=C w a rfl;have hj:IH P (f::fs,hd)=my P w:=by unfold IH;rw[hr,g]
     rw[hj];exact⟨k,v,λH A z=>by cases z;rw[xp v,F];exact WB _⟩
    | _=>exact⟨P.aq[0],by unfold IH;rw[hr,g];exact WA hp,λ_ _ z=>(nomatch z)⟩
  obtain⟨E,u,t⟩:=b.next (S:=S) (c:=c) hn m o λ_ _ _=>Qb q;refine⟨λh=>wC (j:=0) e (by have:=s.l;lia) b.fr.1.ok (s.Ee D hn e) q (s.gone D hn e) u t,⟨λy G=>?_,by rw[Yo];exact s.l⟩,λh=>gn (Ww.mp e).1 (by have:=s.l;lia) (s.gone D hn e) u t⟩;rcases Zx G with z | z
  ·exact(s.h y z).up
  ·rw[z];exact E
theorem nK.step{i c:Nat}{x:Hand}(e:S[i]?=some x)(a:c∈oN P S x):(∀h,eI [au P,ay S,nS (i,c)] h=some (.tup [ay (S.set i (Kd P S x c)),QR i (za P x)],h))/\nK P (n+1) (S.set i (Kd P S x c)):=⟨(s.GG D hn e a).1,(s.GG D hn e a).2.1⟩
end
def xD{P:Prog}{S:List Hand}{m:Nat×Nat}:m∈qD P S↔∃x,S[m.1]?=some x/\m.2∈oN P S x:=by
 unfold qD;rw[List.mem_flatMap];constructor
 ·rintro⟨i,b,hm⟩;have hl:=Xx.mp b;unfold Lx at hm;rw[WA hl] at hm;obtain⟨c,d,rfl⟩:=W6.mp hm;exact⟨S[i],WA hl,d⟩
 ·rintro⟨x,a,hm⟩;refine⟨m.1,Xx.mpr (Ww.mp a).1,?_⟩;unfold Lx;rw[a];exact W6.mpr ⟨m.2,hm,rfl⟩
def Dp(n:Nat)(d:D):Prop:=∃p,kA d=some p/\p.depth<=n/\PyData.eqv p p=true
def j7(n:Nat)(b:List D):Prop:=∃a,i0 b=some a/\PyData.depthAll a<=n/\PyData.eqvAll a a=true
def j7.nil{n:Nat}:j7 n []:=⟨[],rfl,by simp[PyData.depthAll],rfl⟩
def j7.cons{n:Nat}{x:D}{c:List D}(a:Dp n x)(b:j7 n c):j7 n (x::c):=by
 obtain⟨p,j,i,h⟩:=a;obtain⟨d,g,f,e⟩:=b;refine⟨p::d,?_,?_,?_⟩
 ·show(kA x).bind (λa=>(i0 c).map λb=>a::b)=_;rw[j,g];rfl
 ·rw[PyData.depthAll];exact Nat.max_le.mpr ⟨i,f⟩
 ·rw[PyData.eqvAll,h,e];rfl
theorem j7.map{b:Type}{n:Nat}{f:b->D}:∀{a:List b},(∀x∈a,Dp n (f x))->j7 n (a.map f)
 | [],_=>j7.nil
 | x::a,h=>j7.cons (h x Wy) (j7.map λy c=>h y (Wz _ c))
theorem Dp.tup{n:Nat}{b:List D}(a:j7 n b):Dp (n+1) (.tup b):=by
 obtain⟨c,f,e,d⟩:=a;refine⟨.tuple c,?_,?_,?_⟩
 ·show(i0 b).map _=_;rw[f];rfl
 ·rw[PyData.depth];exact Yh e
 ·rw[PyData.eqv];exact d
theorem Dp.int{n:Nat}(i:Int):Dp n (.int i):=⟨.int i,rfl,by simp[PyData.depth],by simp[PyData.eqv]⟩
theorem Dp.str{n:Nat}(w:Str):Dp n (.str w):=⟨.str w,rfl,by simp[PyData.depth],by simp[PyData.eqv]⟩
theorem Dp.bo{n:Nat}:Dp n .bo:=⟨.none,rfl,by simp[PyData.depth],rfl⟩
def Dp.up{n m:Nat}{d:D}(h:Dp n d)(hm:n<=m):Dp m d:=let⟨p,a,b,c⟩:=h;⟨p,a,WL b hm,c⟩
def Dp.UM(S:List Hand):Dp 5 (ay S):=
 Dp.tup (j7.map λx _=>Dp.tup (j7.cons (Dp.tup (j7.map λf _=>Dp.tup (j7.cons (Dp.int _) (j7.cons (Dp.tup (j7.map λi _=>Dp.int i)) (j7.cons (Dp.tup (j7.map λi _=>Dp.int _)) j7.nil))))) (j7.cons (Dp.tup (j7.map λb _=>Dp.tup (j7.map λk _=>Dp.tup (j7.cons (Dp.str _) (j7.cons (Dp.int _) j7.nil))))) j7.nil)))
noncomputable def QK(p:Str×List Int):D:=.tup [.str p.1,.tup (p.2.map D.int)]
def Mx(P:Prog)(t:AE):Prop:=∀p∈t,∃d∈P.aq,d.1=p.1/\d.2.1.length=p.2.length
theorem Ng(n:Nat):∀t:AE,cY n (t.map QK)=true
 | []=>rfl
 | p::t=>by
  show((true&&(cY n (p.2.map D.int)&&true))&&cY n (t.map QK))=true;rw[x8,Ng n t];rfl
def Qe{h h0:MH}{s c R:Nat}{cs:List Int}{P:Prog}{f:Int}{Q:D×MH->Prop}(dr:Dr P)(A:Sb s c cs h0 (R+30) h)(C:Cl h)(m0:0 < f)(m1:f<=4)(k:∀(t:AE)(L:MH),Mx P t->t.length<=4->Sb s c cs h0 R L->Cl L->Q (NC t,L)):Rn (jH [.ob s,au P,.int f] h) Q:=by
 obtain⟨U,G⟩:=A.S.lt;have h6:=dr.six;have w:=dr.pos;refine ph ?_;nofun;refine gH ?_;nofun;refine dq (R:=R+29) (A.S.more [.lst []]).sb m0 (by exact X6 m1 (by decide)) λr L r0 r1 A1=>?_;obtain⟨Vj,rfl,b1⟩:=A1.b.app U;have S1:=A1.S.cut (by rw[b1.1];exact U) (by rw[b1.1];exact G);nofun;refine⟨1+r,rfl,by lia,by lia,?_⟩;refine dI (λi δ u=>∃(t:AE)(v4 v5 v6 v7 v8:Option D)(l:MH),δ=[some (.ob s),some (au P),some (.int f),some (.ob h.length),v4,v5,v6,v7,v8]/\u=l++[.lst (t.map QK)]/\t.length=i/\Mx P t/\Sb s c cs h (R+29-5*i) l)
  ⟨[],_,_,_,_,_,Vj,rfl,rfl,rfl,λ_ z=>(nomatch z),⟨S1,b1⟩⟩ (λ_ _ _ _ _=>rfl) ?_ ?_
 ·rintro i x δ u J ⟨t,v4,v5,v6,v7,v8,l,rfl,rfl,hl,N,B⟩;have hi:i < 4:=by
   have:=(Ww.mp J).1;rw[Ws,WX] at this;clear J;lia
  have o:s < l.length:=by rw[B.b.1];exact U
  have Z:c < l.length:=by rw[B.b.1];exact G
  nofun;refine rv (a:=(.tup (P.aq.map g7),_)) rfl ?_;nofun;refine Jw (R:=R+28-5*i) ((B.S.more [.lst (t.map QK)]).le (by lia)).sb (.inr rfl) (by rw[Ws];exact w) (by rw[Ws];exact WL h6 (by decide)) λx h2 T A2=>?_;obtain⟨d,hd,rfl⟩:=W6.mp T;obtain⟨jd,X⟩:=XT.mp hd;have Y:=dr.par X;unfold g7;nofun;refine dq (R:=R+27-5*i) (A2.le (by lia)) (by decide) (by decide) λq h3 f0 f1 A3=>?_;nofun;obtain⟨I,rfl,b3⟩:=A3.b.app o;have m:I.length=h.length:=b3.1.trans B.b.1;refine pW ?_;nofun;refine⟨cg (mN m),?_⟩;nofun;refine dH ?_;nofun;refine⟨_,_,rfl,?_⟩;obtain⟨⟨ys,h4⟩,e4,a4,δ4,_,v⟩:=qA (ws:=[]) (g:=gN 0) (e:=aj aI (af (aD 2) (af (iq (af (kG dB (eK (.int 2))) (af (kG dB (eK (.int 1))) (af (eK (.int 0)) (af (eK (.int 0)) (af (eK (.int 1)) (af (eK (.int 1)) (af (eK (.int 2)) (af (eK (.int 3)) (af (aD 1) aT)))))))))) aT))) (λ_ y=>∃i,y=.int i/\True)
   (xs:=d.2.1.map D.str) (δ:=[none,some (.int (q-99)),some (.ob s)]) (h:=I++[.lst (t.map QK)]) (λj δ u=>(∃d0,δ=[d0,some (.int (q-99)),some (.ob s)])/\Sb s c cs (l++[.lst (t.map QK)]) (R+27-5*i-j) u) ⟨⟨_,rfl⟩,A3⟩ (λ_ _ _ _ _=>rfl) (by
    rintro j x δ u J ⟨⟨d0,rfl⟩,v⟩;have hj:j < 3:=by
     have:=(Ww.mp J).1;rw[Ws] at this;exact WL this Y
    nofun;exact iR (R:=R+27-5*i-(j+1)) (is:=[-2,-1,0,0,1,1,2,3,q-99]) (λ_=>True) (λ_ _=>trivial) (v.le (by clear v;lia)) λi h7 _ _ A7=>⟨⟨i,rfl,trivial⟩,⟨_,rfl⟩,A7⟩)
  have O:=a4.length;obtain⟨js,rfl,_⟩:=qE (P:=λ_=>True) λy hy=>(let⟨_,_,r⟩:=a4.right y hy;r);dsimp only at O;rw[Ws,Ws] at O;rw[Ws] at v;refine rv e4 ⟨by dsimp only;rw[Ws,show sizeLine=16777216 from rfl];lia,?_⟩;obtain⟨H,rfl,M⟩:=v.b.app o;have F:H.length=h.length:=M.1.trans B.b.1;have S4:=v.S.cut (by rw[M.1];exact o) (by rw[M.1];exact Z);nofun;refine rv (a:=(.tup (js.map D.int),_)) rfl ?_;exists cJ (mN F) (by rw[Ws,show sizeLine=16777216 from rfl];lia);rw[Kz F];nofun;refine⟨t++[(d.1,js)],_,_,_,_,_,H,rfl,by rw[WR];rfl,by rw[WQ,hl];rfl,λp hp=>?_,⟨S4.le (by lia),B.b.trans M⟩⟩;rcases Xi.mp hp with z | z
  ·exact N p z
  ·rw[WD.mp z];exact⟨d,hd,rfl,O.symm⟩
 ·rintro δ u ⟨t,v4,v5,v6,v7,v8,l,rfl,rfl,hl,N,B⟩;rw[Ws,WX] at hl B;have m:t.length<=4:=by lia
  have E:=B.b.1;have Cb:=C.but B.S B.b;exists g0 (mN E);exact rv (mF E Cb (λn z=>(nomatch z)) (Ng _ t)) (k t l N m ⟨B.S.le (by lia),A.b.trans B.b⟩ Cb)
end Mi
namespace Pg
open PySem Sm L2
def plain:Nat->D->Prop
 | 0,_=>False
 | n+1,.tup xs=>xs.length<=100000/\∀x∈xs,plain n x
 | _+1,.str _=>True
 | _+1,.int _=>True
 | _+1,.bo=>True
 | _+1,.bl _=>True
 | _+1,_=>False
def eu{b:Type}{n:Nat}{f:b->D}{a:List b}(hl:a.length<=100000)(h:∀x∈a,plain n (f x)):plain (n+1) (.tup (a.map f)):=
 ⟨by rw[Ws];exact hl,λy c=>by obtain⟨x,d,rfl⟩:=W6.mp c;exact h x d⟩
end Pg
namespace Mi
open PySem Sm L2 Pg
theorem uH:∀a:List D,nU a a=a.map λx=>.tup [x,x]
 | []=>rfl
 | x::r=>by rw[WG,<-uH r];rfl
theorem Ax{b:Type}:∀a:List b,uF (a.map λ_=>D.bl true)=some (a.map λ_=>true)
 | []=>rfl
 | x::r=>by rw[WG];show(uF (r.map _)).map _=_;rw[Ax r];rfl
def Jc{b:Type}(a:List b)(h:MH):PR [.lv (a.map λ_=>D.bl true)] h=some (.bl true,h):=by
 show(uF (a.map λ_=>D.bl true)).map _=_;rw[Ax];simp
theorem same_refl:∀(n:Nat)(d:D)(h:MH),plain n d->cu n [d,d] h=some (.bl true,h)
 | 0,_,_,hp=>hp.elim
 | n+1,d,h,hp=>by
  have e:Rn (cu (n+1) [d,d] h) λp=>p=(.bl true,h):=by
   unfold cu;refine aW ?_;cases d with
   | tup xs=>
    nofun;refine rv rfl ⟨true,rfl,λ_=>?_,λz=>(nomatch z)⟩;nofun;refine rv rfl ⟨true,rfl,λz=>(nomatch z),λ_=>?_⟩;nofun;refine⟨false,by simp,λz=>(nomatch z),λ_=>?_⟩;nofun;refine Ot ?_;nofun;refine⟨_,_,_,_,_,_,rfl,rfl,rfl,?_⟩;rw[uH];refine rv (Mf rfl (λx=>.tup [x,x]) (λ_=>.bl true) (λc=>∃a b,c=[a,b]) xs ⟨_,_,rfl⟩ ?_) ⟨?_,?_⟩
    ·rintro x f c ⟨a,b,rfl⟩;nofun;refine⟨rfl,⟨_,_,rfl⟩,?_⟩;nofun;exact rv (same_refl n x h (hp.2 x f)) rfl
    ·dsimp only;rw[Ws,show sizeLine=16777216 from rfl];have:=hp.1
     lia
    ·exists Jc xs h;nofun
   | str x=>
    nofun;refine rv rfl ⟨false,rfl,λz=>(nomatch z),λ_=>?_⟩;nofun;refine rv rfl ⟨false,rfl,λz=>(nomatch z),λ_=>?_⟩;nofun;refine rv rfl ⟨true,rfl,λ_=>?_,λz=>(nomatch z)⟩;nofun;refine rv rfl ⟨true,rfl,λ_=>?_,λz=>(nomatch z)⟩;nofun;simp
   | int x=>
    nofun;refine rv rfl ⟨false,rfl,λz=>(nomatch z),λ_=>?_⟩;nofun;refine rv rfl ⟨false,rfl,λz=>(nomatch z),λ_=>?_⟩;nofun;refine rv rfl ⟨false,rfl,λz=>(nomatch z),λ_=>?_⟩;nofun;refine rv rfl ⟨false,rfl,λz=>(nomatch z),λ_=>?_⟩;nofun;refine rv rfl ⟨true,rfl,λ_=>?_,λz=>(nomatch z)⟩;nofun;refine rv rfl ⟨false,rfl,⟨_,rfl,λ_=>?_,λz=>(nomatch z)⟩⟩;nofun;simp
   | bo=>
    nofun;refine rv rfl ⟨false,rfl,λz=>(nomatch z),λ_=>?_⟩;nofun;refine rv rfl ⟨true,rfl,λ_=>?_,λz=>(nomatch z)⟩;nofun;exact rv rfl rfl
   | bl x=>
    nofun;refine rv rfl ⟨false,rfl,λz=>(nomatch z),λ_=>?_⟩;nofun;refine rv rfl ⟨false,rfl,λz=>(nomatch z),λ_=>?_⟩;nofun;refine rv rfl ⟨false,rfl,λz=>(nomatch z),λ_=>?_⟩;nofun;refine rv rfl ⟨true,rfl,λ_=>?_,λz=>(nomatch z)⟩;nofun;refine rv rfl ⟨true,rfl,λ_=>?_,λz=>(nomatch z)⟩;exists L6 x x h;nofun;simp
   | lv _=>exact hp.elim
   | ro _=>exact hp.elim
   | dv _=>exact hp.elim
   | ob _=>exact hp.elim
   | ty _=>exact hp.elim
   | fn _=>exact hp.elim
  obtain⟨p,g,rfl⟩:=e;exact g
noncomputable local instance:DecidableEq PyData:=λa b=>Classical.propDecidable _
def nQ(S:List Hand):Prop:=∀x∈S,(∀f∈x.1,f.nums.length<=3)/\∀b∈x.2,b.length<=4/\∀l∈b,PyData.strOk l.1=true
def Dr.VP{P:Prog}(D:Dr P){f:bF}{d:gf}{r:Row}(e:P.aq[f.bI]?=some d)(g:bA P f=some r):(∀l∈fh r,PyData.strOk l.1=true)/\(fh r).length<=4:=by
 obtain⟨W,fl,odd,ok,o⟩:=D.ex;obtain⟨k,c⟩:∃k,aX W d.2.1 k r:=by
  unfold bA at g;rw[dG e] at g;obtain⟨h,p,n⟩:=aZ g;obtain⟨k,m⟩:=oB _ 1 _ _ (o.dd _ d e).2.2.1 p;exact⟨k,jS m r (Wx n)⟩
 have nm:∀w∈W.names,PyData.strOk w=true:=λw j=>Pk (ok.sn w j).2.2;cases r with
 | within i b=>rw[aX] at c;exact⟨λl hl=>by rw[WD.mp hl];exact nm _ c.1.1,by show 1<=4;decide⟩
 | all ls b=>rw[aX] at c;exact⟨λl hl=>nm _ (c.1.2.2.2 l hl).1,c.1.2.1⟩
 | ask i a b=>rw[aX] at c;exact⟨λl hl=>by rw[WD.mp hl];exact nm _ c.1.1,by show 1<=4;decide⟩
 | _=>exact⟨λ_ hl=>(nomatch hl),Xe _⟩
theorem wb{b:List (Key×D)}:∀{ls:List Lock} {acc:List az},(∀l∈ls,PyData.strOk l.1=true)->(∀k∈acc,PyData.strOk k.1=true)->∀k∈ls.foldl (iO b) acc,PyData.strOk k.1=true
 | [],_,_,h=>h
 | l::ls,acc,hl,h=>by
  refine wb (ls:=ls) (acc:=iO b acc l) (λx c=>hl x (Wz _ c)) λk a=>?_;unfold iO Ga at a
  split at a
  ·exact h k a
  ·rcases Xi.mp a with a | a
   ·exact h k a
   ·rw[WD.mp a];exact hl l Wy
def Fu{P:Prog}(D:Dr P){f:bF}{d:gf}(e:P.aq[f.bI]?=some d):∀k∈tN P f,PyData.strOk k.1=true:=by
 intro k a;have a:=(dz _).mem_iff.mp (show k∈j8 _ from a);refine wb (acc:=[]) (λl hl=>?_) (λ_ z=>(nomatch z)) k a;cases b:bA P f with
 | none=>rw[b] at hl;cases hl
 | some r=>rw[b] at hl;exact(D.VP e b).1 l hl
def LC{P:Prog}(D:Dr P){f:bF}{d:gf}(e:P.aq[f.bI]?=some d):(tN P f).length<=4:=by
 unfold tN;rw[(dz _).length_eq];refine WL (jX _ _ _) ?_;cases a:bA P f with
 | none=>exact Xe _
 | some r=>have:=(D.VP e a).2;show 0+(fh r).length<=4;lia
theorem Aa{P:Prog}:∀{fs:List bF} {f:bF},(∀g∈f::fs,g.nums.length<=3)->∀g∈iX P fs f,g.nums.length<=3
 | fs,f,h,x,a=>by
  have e:=h f Wy;have c:=λg d=>h g (Wz _ d);cases q:pX (cc P f.bI) f.rs f.k with
  | some p=>
   rw[gZ q] at a;rcases WI.mp a with rfl | a
   ·exact e
   ·exact c x a
  | none=>cases fs with
   | nil=>rw[jw q] at a;cases a
   | cons g i=>
    rw[mQ q] at a;refine Aa (fs:=i) (f:={g with k:=g.k+1}) (λy b=>?_) x a;rcases WI.mp b with rfl | b
    ·exact c g Wy
    ·exact c y (Wz _ b)
theorem z8{P:Prog}:∀{fs:List bF},(∀g∈fs,g.nums.length<=3)->∀g∈gL P fs,g.nums.length<=3
 | [],_=>λ_ z=>(nomatch z)
 | _::_,h=>Aa h
def FJ{P:Prog}{S:List Hand}{f:bF}{fs:List bF}{hd:List (List az)}{c j:Nat}(i:∀w b,bA P f=some (.call w b)->b.length<=3)(h:∀g∈f::fs,g.nums.length<=3):∀g∈(gone P S (f::fs,hd) c j).1,g.nums.length<=3:=by
 have d:=h f Wy;have k:=λg a=>h g (Wz _ a);have put:∀e:bF,e.nums.length<=3->∀g∈e::fs,g.nums.length<=3:=λe l g a=>by
  rcases WI.mp a with rfl | a
  ·exact l
  ·exact k g a
 unfold gone;dsimp only
 split
 ·refine put _ ?_;unfold AV
  split <;> exact d
 ·rename_i r m
  split
  ·rename_i w b;intro g a;rcases WI.mp a with rfl | a
   ·have:=i w b m;show(b.map _).length<=3;rw[Ws];exact this
   ·exact h g a
  ·split
   ·exact put _ d
   ·exact put _ d
def IQ{P:Prog}{S:List Hand}{f:bF}{fs:List bF}{hd:List (List az)}{c j:Nat}:∀b∈(gone P S (f::fs,hd) c j).2,b∈hd\/b=tN P f:=by
 intro b a;unfold gone at a;dsimp only at a
 split at a
 ·exact .inl ((List.dropLast_sublist _).subset a)
 ·split at a
  ·exact .inl a
  ·split at a
   ·exact .inl a
   ·dsimp only at a
    split at a
    ·rcases Xi.mp a with z | z
     ·exact .inl z
     ·exact .inr (WD.mp z)
    ·exact .inl a
def JU(n:Nat)(d:D):Prop:=∃p,kA d=some p/\bG n p=true
def QE(n:Nat)(b:List D):Prop:=∃a,i0 b=some a/\a.all (bG n)=true
def QE.cons{n:Nat}{x:D}{c:List D}(a:JU n x)(b:QE n c):QE n (x::c):=by
 obtain⟨p,h,g⟩:=a;obtain⟨d,f,e⟩:=b;refine⟨p::d,by rw[i0,h,WY,f];rfl,by rw[YH,g,e];rfl⟩
theorem QE.map{b:Type}{n:Nat}{f:b->D}:∀{a:List b},(∀x∈a,JU n (f x))->QE n (a.map f)
 | [],_=>⟨[],rfl,rfl⟩
 | x::a,h=>.cons (h x Wy) (QE.map λy c=>h y (Wz _ c))
theorem JU.tup{n:Nat}{b:List D}(a:QE n b):JU (n+1) (.tup b):=by
 obtain⟨c,e,d⟩:=a;exact⟨.tuple c,by rw[kA,e];rfl,by rw[bG];exact d⟩
theorem JU.int{n:Nat}(i:Int):JU n (.int i):=⟨.int i,rfl,by cases n <;> rfl⟩
theorem JU.str{n:Nat}{w:Str}(h:PyData.strOk w=true):JU n (.str w):=⟨.str w,rfl,by cases n <;> exact h⟩
def JU.UM{S:List Hand}(b:nQ S):JU 8 (ay S):=by
 refine .tup (.map λx a=>.tup (.cons (.tup (.map λf _=>.tup (.cons (.int _) (.cons (.tup (.map λ_ _=>.int _)) (.cons (.tup (.map λ_ _=>.int _)) ⟨[],rfl,rfl⟩))))) (.cons (.tup (.map λk c=>.tup (.map λl hl=>.tup (.cons (.str (((b x a).2 k c).2 l hl)) (.cons (.int _) ⟨[],rfl,rfl⟩))))) ⟨[],rfl,rfl⟩)))
def jV(S:List Hand):PyData:=(kA (ay S)).getD .none
def xk{S:List Hand}(b:nQ S):kA (ay S)=some (jV S)/\bG 8 (jV S)=true:=by
 obtain⟨p,c,a⟩:=JU.UM b;unfold jV;rw[c];exact⟨rfl,a⟩
def xK{S:List Hand}(b:nQ S):B3 (ay S)=some (jV S):=by
 obtain⟨c,a⟩:=xk b;show(kA (ay S)).bind (λp=>if bG 8 p=true then some p else none)=_;rw[c,WY,WC a]
def L8{S T:List Hand}(b:nQ S)(t:nQ T):Ck (jV S) (ay T)=decide (jV T=jV S):=by
 unfold Ck;rw[(xk t).1];exact qG (xk t).2 (xk b).2
theorem qL{S:List Hand}(b:nQ S):∀{a:List (D×D)} {L:List (List Hand)},a.map (·.1)=L.map ay->(∀T∈L,nQ T)->(a.any λkv=>Ck (jV S) kv.1)=decide (jV S∈L.map jV)
 | [],[],_,_=>rfl
 | [],_::_,e,_=>by cases e
 | _::_,[],e,_=>by cases e
 | kv::a,T::L,e,h=>by
  rw[WG,WG] at e;obtain⟨f,d⟩:=List.cons.inj e;rw[YG,qL b d (λT c=>h T (Wz _ c)),f,L8 b (h T Wy),WG]
  by_cases z:jV T=jV S
  ·have:jV S∈jV T::L.map jV:=by rw[z];exact Wy
   rw[W4 z,W4 this];rfl
  ·rw[WW z,Aa8];refine AaA.mpr ⟨Wz _,λw=>?_⟩;rcases WI.mp w with w | w
   ·exact absurd w.symm z
   ·exact w
def lD(a:List (D×D))(k:PyData):(nX a k).isSome=a.any λb=>Ck k b.1:=by
 unfold nX;rw[ZA,XY,List.find?_isSome,Y7]
def HD{a:List (D×D)}{k:PyData}{d v:D}(h:(nX a k).isSome=false):xl a k d v=a++[(d,v)]:=by
 unfold xl;rw[<-lD,h,WE W8]
def bh(P:Prog)(S:List Hand)(m:Nat×Nat):List Hand:=S.set m.1 (Kd P S ((S[m.1]?).getD ([],[])) m.2)
def qm(L:List (List Hand))(T:List Hand):List (List Hand):=if jV T∈L.map jV then L else L++[T]
def kZ(P:Prog)(S:List Hand)(a:List (Nat×Nat))(L:List (List Hand)):List (List Hand):=a.foldl (λL m=>qm L (bh P S m)) L
def Ls(P:Prog)(S:List Hand):Nat->List (List Hand)
 | 0=>[S]
 | k+1=>match (Ls P S k)[k]? with
  | some T=>kZ P T (qD P T) (Ls P S k)
  | none=>Ls P S k
theorem nQ.bh{P:Prog}(D:Dr P){n:Nat}{S:List Hand}(s:nK P n S)(b:nQ S){m:Nat×Nat}(hm:m∈qD P S):nQ (bh P S m):=by
 obtain⟨x,ex,p⟩:=xD.mp hm;intro y e;unfold Mi.bh at e;rw[ex] at e;rcases Zx e with z | z
 ·exact b y z
 ·rw[z];have i:=b x (Wx ex);have c:=s.h x (Wx ex);have l:=c.fr;have g:=c.nm;obtain⟨fs,hd⟩:=x;cases fs with
  | nil=>cases p
  | cons f fs=>
   obtain⟨d,a,_⟩:=l.1;refine⟨z8 (FJ (λw j o=>((D.row a (g f Wy) o).2.2 w j rfl).2.1) i.1),λk c=>?_⟩;rcases IQ k c with z | z
   ·exact i.2 k z
   ·rw[z];exact⟨LC D a,Fu D a⟩
theorem nK.bh{P:Prog}(D:Dr P){n:Nat}{S:List Hand}(s:nK P n S)(hn:n<=900){m:Nat×Nat}(hm:m∈qD P S):(∀h,∃a,eI [au P,ay S,nS m] h=some (.tup [ay (bh P S m),a],h))/\nK P (n+1) (bh P S m):=by
 obtain⟨x,ex,d⟩:=xD.mp hm;obtain⟨c,b⟩:=s.step D hn ex d;unfold Mi.bh;rw[ex];exact⟨λh=>⟨_,c h⟩,b⟩
theorem nK.up{P:Prog}{n:Nat}{S:List Hand}(s:nK P n S):∀{m:Nat},n<=m->nK P m S
 | m,h=>by
  obtain⟨k,rfl⟩:=AaF h;clear h
  induction k with
  | zero=>exact s
  | succ k a=>exact⟨λx b=>(a.h x b).up,s.l⟩
def xC(P:Prog)(S:List Hand):(qD P S).length<=2*S.length:=by
 have b:∀l:List Nat,(l.flatMap (Lx P S)).length<=2*l.length:=λl=>by
  induction l with
  | nil=>exact Xe _
  | cons k l c=>
   rw[List.flatMap_cons,WQ,WN];have:(Lx P S k).length<=2:=by
    unfold Lx;rw[Ws];cases S[k]? with
    | none=>exact Xe _
    | some x=>exact Ed P S x
   lia
 have a:=b (List.range S.length);rw[WX] at a;exact a
def JN(L:List (List Hand))(T:List Hand):L <+:qm L T:=by
 unfold qm
 split
 ·exact ZS _
 ·exact List.prefix_append _ _
def JO(L:List (List Hand))(T:List Hand):(qm L T).length<=L.length+1:=by
 unfold qm
 split <;> simp
theorem jC(P:Prog)(S:List Hand):∀(a:List (Nat×Nat)) (L:List (List Hand)),L <+:kZ P S a L/\(kZ P S a L).length<=L.length+a.length
 | [],L=>⟨ZS _,WB _⟩
 | m::a,L=>by
  obtain⟨b,c⟩:=jC P S a (qm L (bh P S m));have:=JO L (bh P S m);exact⟨(JN _ _).trans b,by show(kZ P S a (qm L (bh P S m))).length<=_;rw[WN];lia⟩
def QG(P:Prog)(S:List Hand):∀{i j:Nat},i<=j->Ls P S i <+:Ls P S j:=λ{i j} h=>by
 obtain⟨k,rfl⟩:=AaF h;clear h
 induction k with
 | zero=>exact ZS _
 | succ k a=>
  refine a.trans ?_;show _ <+:Ls P S (i+k+1);rw[Ls]
  split
  ·exact(jC _ _ _ _).1
  ·exact ZS _
def yx{P:Prog}{S:List Hand}{i:Nat}(h:¬i < (Ls P S i).length):∀{j:Nat},i<=j->Ls P S j=Ls P S i:=λ{j} hj=>by
 obtain⟨k,rfl⟩:=AaF hj;clear hj
 induction k with
 | zero=>rfl
 | succ k a=>
  show Ls P S (i+k+1)=_;rw[Ls,a,Xh (by lia)]
theorem D2{P:Prog}(D:Dr P){n:Nat}{S:List Hand}(s:nK P n S)(b:nQ S)(hn:n<=900):∀(c:List (Nat×Nat)) (L:List (List Hand)),(∀m∈c,m∈qD P S)->(∀T∈L,nK P (n+1) T/\nQ T)->∀T∈kZ P S c L,nK P (n+1) T/\nQ T
 | [],L,_,d=>d
 | m::c,L,hm,d=>D2 D s b hn c _ (λk e=>hm k (Wz _ e)) λT a=>by
  have a:T∈qm L (Mi.bh P S m):=a;unfold qm at a
  split at a
  ·exact d T a
  ·rcases Xi.mp a with z | z
   ·exact d T z
   ·rw[WD.mp z];have h:=hm m Wy;exact⟨(s.bh D hn h).2,b.bh D s h⟩
theorem Ep{P:Prog}(D:Dr P){S:List Hand}(s:nK P 0 S)(b:nQ S):∀{k:Nat},k<=900->(∀T∈Ls P S k,nK P k T/\nQ T)/\(Ls P S k).length<=1+20*k
 | 0,_=>⟨λT d=>by rw[WD.mp d];exact⟨s,b⟩,WB _⟩
 | k+1,g=>by
  obtain⟨c,n⟩:=Ep D s b (k:=k) (by lia);rw[Ls]
  split
  ·rename_i T d;obtain⟨e,f⟩:=c T (Wx d);refine⟨D2 D e f (by lia) _ _ (λm hm=>hm) λU a=>⟨(c U a).1.up (by lia),(c U a).2⟩,?_⟩;have j:=(jC P T (qD P T) (Ls P S k)).2;have i:=xC P T;have h:=e.l
   lia
  ·exact⟨λU a=>⟨(c U a).1.up (by lia),(c U a).2⟩,by lia⟩
def HN{f:bF}(c:f.nums.length<=3)(b:f.rs.length<=1000):plain 3 (lr f):=by
 refine⟨by show 3<=100000;decide,λx a=>?_⟩;rcases WI.mp a with rfl | a
 ·trivial
 ·rcases WI.mp a with rfl | a
  ·exact eu (by lia) λ_ _=>trivial
  ·rw[WD.mp a];refine eu ?_ λ_ _=>trivial;rw[WQ,jz,Xq];show _+1<=_
   lia
def E7{P:Prog}{n:Nat}{S:List Hand}(s:nK P n S)(hn:n<=900)(hm:nQ S):plain 6 (ay S):=by
 refine eu (by have:=s.l;lia) λx g=>⟨by show 2<=100000;decide,λy d=>?_⟩;have e:=s.h x g;obtain⟨j,i⟩:=hm x g;rcases WI.mp d with rfl | d
 ·refine eu (by rw[Xq];have:=e.fl;lia) λf a=>?_;have a:=List.mem_reverse.mp a;exact HN (j f a) (by have:=(e.nm f a).rs;lia)
 ·rw[WD.mp d];refine eu (by have:=e.hl;lia) λb k=>eu (by have:=(i b k).1;lia) λp _=>⟨by show 2<=100000;decide,λz c=>?_⟩;rcases WI.mp c with rfl | c
  ·trivial
  ·rw[WD.mp c];trivial
noncomputable local instance:DecidableEq PyData:=λa b=>Classical.propDecidable _
def Du{o i:EM}{v:D}{a:DS}{h:MH}{Q:DS×MH->Prop}(r:Rn (o a h) λp=>Rn (i a p.2) λq=>Rn (mV p.1 q.1 v q.2) λb=>Q (a,b)):Rn (DT o i v a h) Q:=aS (r.imp λ_ r=>aS (r.imp λ_ r=>Br r))
def Dv{mk b:EM}{a:DS}{h:MH}{Q:D×MH->Prop}(r:Rn (mk a (h++[.dcH []])) λp=>Rn (b a p.2) λq=>Rn (mV (.ob h.length) p.1 q.1 q.2) λc=>Q (.ob h.length,c)):Rn (xY mk b a h) Q:=aS (r.imp λ_ r=>aS (r.imp λ_ r=>Br r))
def KR{a:List (Str×Fn)}{i:Nat}{n:Str}{F:Fn}{b:DS}{h:MH}{m:AM}{Q:D×MH->Prop}(e:(b[i]?).join=some (.fn n))(c:Sv a n=some F)(r:Rn (m b h) λp=>Rn (F p.1 p.2) Q):Rn (sR i a m b h) Q:=by
 unfold sR;rw[e];dsimp only;rw[c,WY];exact aS r
structure KV(L:List (List Hand))(kvs:List (D×D)):Prop where
 k:kvs.map (·.1)=L.map ay
 b:∀T∈L,nQ T
def KV.len{L:List (List Hand)}{a:List (D×D)}(x:KV L a):a.length=L.length:=by
 have:=congrArg List.length x.k
 rwa [Ws,Ws] at this
def KV.VO{L:List (List Hand)}{a:List (D×D)}(x:KV L a){h:MH}{n:Nat}(e:h[n]?=some (.dcH a)){T:List Hand}(t:nQ T):mX (ay T) (.ob n) h=some (.bl (!decide (jV T∈L.map jV)),h):=by
 unfold mX qk;dsimp only;rw[e];dsimp only[Option.bind_some];rw[xK t,Xf,lD,qL t x.k x.b]
def KV.put{L:List (List Hand)}{kvs:List (D×D)}(x:KV L kvs){h:MH}{n:Nat}(e:h[n]?=some (.dcH kvs)){T:List Hand}(t:nQ T)(hn:jV T∉L.map jV)(hl:L.length<=1000000)(v:D):mV (.ob n) (ay T) v h=some (h.set n (.dcH (kvs++[(ay T,v)]))):=by
 unfold mV;dsimp only;rw[e];dsimp only;rw[xK t,WY,WC (by rw[x.len,XR];lia),HD (by rw[lD,qL t x.k x.b];exact WW hn)]
def KV.add{L:List (List Hand)}{a:List (D×D)}(x:KV L a){T:List Hand}(t:nQ T)(v:D):KV (L++[T]) (a++[(ay T,v)]):=by
 refine⟨by rw[WR,WR,x.k];rfl,λU c=>?_⟩;rcases Xi.mp c with z | z
 ·exact x.b U z
 ·rw[WD.mp z];exact t
def KV.one{S:List Hand}(b:nQ S)(v:D):KV [S] [(ay S,v)]:=⟨rfl,λT a=>by rw[WD.mp a];exact b⟩
def KV.at_{L:List (List Hand)}{a:List (D×D)}(x:KV L a){h:MH}{n:Nat}(e:h[n]?=some (.dcH a)){T:List Hand}(f:T∈L):∃d∈a,I9 (.ob n) (ay T) h=some (d.2,h):=by
 have t:=x.b T f;have i:(nX a (jV T)).isSome=true:=by
  rw[lD,qL t x.k x.b];exact W4 (W6.mpr ⟨T,f,rfl⟩)
 obtain⟨v,g⟩:=ZJ.mp i;have c:=g;unfold nX at c;obtain⟨d,j,rfl⟩:=W0.mp c;refine⟨d,Aa1 j,?_⟩;unfold I9 qk;dsimp only;rw[e];dsimp only[Option.bind_some];rw[xK t,WY,g];rfl
def vO(P:Prog)(S:List Hand)(a:List (Nat×Nat))(m:Nat×Nat)(L:List (List Hand)):kZ P S (a++[m]) L=qm (kZ P S a L) (bh P S m):=by
 unfold kZ;rw[List.foldl_append];rfl
def ML{a:Type}{l:List a}{i:Nat}{x:a}(e:l[i]?=some x):l.take (i+1)=l.take i++[x]:=by
 rw[List.take_add_one,e];rfl
def qR{H:MH}{a b:MO}:(H++[a,b])[H.length]?=some a:=by simp
def AW{H:MH}{a b:MO}:(H++[a,b])[H.length+1]?=some b:=by simp
def GQ{H:MH}{a b x:MO}:(H++[a,b]).set H.length x=H++[x,b]:=by simp
def Rt{H:MH}{a b x:MO}:(H++[a,b]).set (H.length+1) x=H++[a,x]:=by simp
def xV{h:MH}{n i:Nat}{a:List D}{d:D}(e:h[n]?=some (.lst a))(q:a[i]?=some d):aG (.ob n) (aw i) h=some (d,h):=by
 have b:c9 (.ob n) h=none:=by unfold c9;dsimp only;rw[e]
 unfold aG;rw[b];show((cp (.ob n) h).bind λp=>(gg p.1 (i:Int)).map λz=>(z,h))=_;rw[KA e];show((gg a (i:Int)).map λz=>(z,h))=_;rw[ny q];rfl
def JI{h:MH}{n:Nat}{a:List D}{d:D}(e:h[n]?=some (.lst a))(hl:a.length<=1000000):b9 (.ob n) [d] h=some (.bo,h.set n (.lst (a++[d])))/\dN (.ob n) h=true:=by
 constructor
 ·unfold b9;dsimp only;rw[e];dsimp only;rw[WC (by rw[XR];lia)]
 ·exact cg e
def DP{i j m n k:Nat}{L:List D}{b:Int}{d:DS}{h:MH}{Q:Bool×MH->Prop}(l:d[i]?=some (some (aw k)))(f:d[j]?=some (some (.ob n)))(g:d[m]?=some (some (.int b)))(e:h[n]?=some (.lst L))(q:Q (decide (k < L.length)&&decide ((L.length:Int)<=b),h)):
  Rn (iU (ax (ai FP (aD i) (aj bR (af (aD j) aT)))) (ax (ai L4 (aj bR (af (aD j) aT)) (aD m))) d h) Q:=by
 refine Hv (BC (xg (eO l (E4 (fU (eO f (vc (rv (gy e) (w_lt (a:=(k:Int)) ⟨_,rfl,λc=>?_,λc=>?_⟩)))))))))
 ·refine BC (xg (E4 (fU (eO f (vc (rv (gy e) (eO g (Q1 ⟨_,rfl,?_⟩))))))));have c:(k:Int) < (L.length:Int):=Xa c;rw[W4 (show k < L.length by lia),Zj] at q;exact q
 ·have c:¬(k:Int) < (L.length:Int):=XZ c;rw[WW (show ¬k < L.length by lia),Aa0] at q;exact q
def nK.behind{P:Prog}(D:Dr P){n:Nat}{S:List Hand}(s:nK P n S)(hn:n<=900){m:Nat×Nat}(hm:m∈qD P S)(h:MH):bS [au P,ay S,nS m] h=some (ay (Mi.bh P S m),h):=by
 obtain⟨x,ex,a⟩:=xD.mp hm;unfold Mi.bh;rw[ex];exact(s.GG D hn ex a).2.2 h
def AB{L:List (List Hand)}{T:List Hand}(h:jV T∉L.map jV):qm L T=L++[T]:=WE h
def AA{L:List (List Hand)}{T:List Hand}(h:jV T∈L.map jV):qm L T=L:=WC h
def Eo{P:Prog}{S:List Hand}{k:Nat}(h:k < (Ls P S k).length):Ls P S (k+1)=kZ P (Ls P S k)[k] (qD P (Ls P S k)[k]) (Ls P S k):=by
 rw[Ls,WA h]
noncomputable local instance:DecidableEq PyData:=λa b=>Classical.propDecidable _
def hR(H:MH)(a:List (D×D))(L:List (List Hand)):MH:=H++[.dcH a,.lst (L.map ay)]
section
variable {P:Prog} (dr:Dr P) {S:List Hand} (s:nK P 0 S) (b:nQ S)
include dr s b
theorem xb{d:Int}(w:∀k,k < (Ls P S k).length->((Ls P S k).length:Int)<=d->k<=120)(H:MH):
  Rn (oV [au P,ay S,.int d,.fn "moves"] H) λp=>∃k kvs,k<=121/\KV (Ls P S k) kvs/\(¬k < (Ls P S k).length\/¬((Ls P S k).length:Int)<=d)/\p=(if((Ls P S k).length:Int)<=d then .ob H.length else .bo,hR H kvs (Ls P S k)):=by
 refine aW ?_;nofun;refine Dv ?_;exists KV.put (L:=[]) (kvs:=[]) ⟨rfl,λ_ h=>nomatch h⟩ (getL H _) b (by simp) (by simp) _;rw[Rr];nofun;refine jQ (λm g h=>∃k kvs v7 v8 v9,m=200-k/\k<=121/\KV (Ls P S k) kvs/\h=hR H kvs (Ls P S k)/\g=[some (au P),some (ay S),some (.int d),some (.fn "moves"),some (.ob H.length),some (.ob (H.length+1)),some (aw k),v7,v8,v9]) ?_ 300 200 _ _ (by decide) ⟨0,[(ay S,.bo)],none,none,none,rfl,by decide,KV.one b _,?_,?_⟩
 ·rintro m g h ⟨k,kvs,v7,v8,v9,rfl,r,X,rfl,rfl⟩;obtain⟨ok,len⟩:=Ep dr s b (k:=k) (by lia);refine DP (k:=k) rfl rfl rfl AW ⟨λc=>?_,λc=>?_⟩
  ·rw[Ws,WS] at c;have n:=Xa c.1;have y:=Xa c.2;have v:=w k n y;obtain⟨j,A⟩:=ok _ (YN n);exists xV AW (by rw[WJ,WA n];rfl);nofun;refine dH ?_;refine KR rfl rfl ?_;exists j.moves dr (by lia) _;refine⟨_,_,rfl,?_⟩;nofun;refine dI (λi g h=>∃e v8 v9,KV (kZ P (Ls P S k)[k] ((qD P (Ls P S k)[k]).take i) (Ls P S k)) e/\h=hR H e (kZ P (Ls P S k)[k] ((qD P (Ls P S k)[k]).take i) (Ls P S k))/\g=[some (au P),some (ay S),some (.int d),some (.fn "moves"),some (.ob H.length),some (.ob (H.length+1)),some (aw k),some (ay (Ls P S k)[k]),v8,v9]) ⟨kvs,v8,v9,X,rfl,rfl⟩ (λ_ _ _ _ _=>rfl) ?_ ?_
   ·rintro i x g h o ⟨e,v8,v9,X,rfl,rfl⟩;rw[WJ] at o;obtain⟨m,t,rfl⟩:=W0.mp o;have hm:=Wx t;exists j.behind dr (by lia) hm _;have f:=A.bh dr j hm;have hl:=(jC P (Ls P S k)[k] ((qD P (Ls P S k)[k]).take i) (Ls P S k)).2;have u:((qD P (Ls P S k)[k]).take i).length<=20:=by
     have:=xC P (Ls P S k)[k];have:=j.l;rw[W2]
     lia
    rw[ML t,vO];generalize kZ P (Ls P S k)[k] ((qD P (Ls P S k)[k]).take i) (Ls P S k)=L at X hl ⊢;nofun;refine rv (X.VO qR f) ⟨_,rfl,λc=>?_,λc=>?_⟩
    ·have hn:jV (bh P (Ls P S k)[k] m)∉L.map jV:=λz=>by rw[W4 z] at c;cases c
     rw[AB hn];nofun;refine Du ?_;exists X.put qR f hn (by lia) _;nofun;refine pW ?_;nofun;rw[GQ];refine⟨cg AW,?_⟩;nofun;refine rv (JI AW (by rw[Ws];lia)).1 ?_;rw[Rt];nofun;exact⟨_,_,_,X.add f _,by unfold hR;rw[WR];rfl,rfl⟩
    ·have hn:jV (bh P (Ls P S k)[k] m)∈L.map jV:=Classical.not_not.mp λz=>by rw[WW z] at c;cases c
     rw[AA hn];nofun;exact⟨_,_,_,X,rfl,rfl⟩
   ·rintro g h ⟨e,v8,v9,X,rfl,rfl⟩;rw[Ws,X1] at X ⊢;rw[<-Eo n] at X ⊢;nofun;exact⟨_,rfl,_,by lia,k+1,e,_,_,_,rfl,by lia,X,rfl,rfl⟩
  ·rw[Ws,AbA] at c;have c:¬k < (Ls P S k).length\/¬((Ls P S k).length:Int)<=d:=c.imp XZ XZ;nofun;refine rv (a:=(.int (kvs.length:Int),hR H kvs (Ls P S k))) (by unfold I0 qk hR;dsimp only;rw[qR];rfl) ?_;nofun;rw[X.len];refine⟨_,rfl,λq=>?_,λq=>?_⟩
   ·nofun;exact⟨k,kvs,r,X,c,by rw[WC (Xa q)]⟩
   ·nofun;exact⟨k,kvs,r,X,c,by rw[WE (XZ q)]⟩
 ·unfold hR Ls;rw[XM];rfl
 ·rw[WQ];rfl
end
noncomputable local instance:DecidableEq PyData:=λa b=>Classical.propDecidable _
def hG(H:MH)(a:List (D×D))(L:List (List Hand)):MH:=H++[.lst (L.map ay),.dcH a]
def WV(a:List (D×D)):Prop:=∀c∈a,∃b:List (Nat×Nat),c.2=.tup (b.map nS)/\b.length < a.length
def WV.add{a:List (D×D)}(w:WV a){d:D}{b:List (Nat×Nat)}(h:b.length < a.length)(m:Nat×Nat):WV (a++[(d,.tup (b.map nS++[nS m]))]):=by
 intro f g;rw[WQ];rcases Xi.mp g with z | z
 ·obtain⟨c,e,l⟩:=w f z;exact⟨c,e,WM l (Xn _ _)⟩
 ·rw[WD.mp z];exact⟨b++[m],by rw[WR];rfl,by rw[WQ];exact Nat.add_lt_add_right h 1⟩
def OI{a:Type}{L b:List a}{k:Nat}{x:a}(p:L <+:b)(e:L[k]?=some x):b[k]?=some x:=by
 obtain⟨t,rfl⟩:=p;rw[WO (Ww.mp e).1,e]
section
variable {P:Prog} (dr:Dr P) {S:List Hand} (s:nK P 0 S) (b:nQ S)
include dr s b
theorem mM(H:MH):
  Rn (c8 [au P,ay S,.int 120] H) λp=>∃k kvs,k<=121/\KV (Ls P S k) kvs/\WV kvs/\(¬k < (Ls P S k).length\/¬(Ls P S k).length<=120)/\p=(.tup [.ob H.length,.ob (H.length+1)],hG H kvs (Ls P S k)):=by
 refine aW ?_;nofun;refine Dv ?_;exists KV.put (L:=[]) (kvs:=[]) ⟨rfl,λ_ h=>nomatch h⟩ (getL _ _) b (by simp) (by simp) _;rw[Rr];nofun;refine⟨_,_,rfl,?_⟩;nofun;refine jQ (λm j h=>∃k kvs v6 v7,m=200-k/\k<=121/\KV (Ls P S k) kvs/\WV kvs/\h=hG H kvs (Ls P S k)/\j=[some (au P),some (ay S),some (.int 120),some (.ob H.length),some (.ob (H.length+1)),some (aw k),v6,v7]) ?_ 300 200 _ _ (by decide) ⟨0,[(ay S,.tup [])],none,none,rfl,by decide,KV.one b _,?_,?_,?_⟩
 ·rintro m j h ⟨k,kvs,v6,v7,rfl,G,X,W,rfl,rfl⟩;obtain⟨ok,len⟩:=Ep dr s b (k:=k) (by lia);refine DP (k:=k) rfl rfl rfl qR ⟨λc=>?_,λc=>?_⟩
  ·rw[Ws,WS] at c;have r:=Xa c.1;have N:=Xa c.2;have F:k<=120:=by lia
   obtain⟨q,I⟩:=ok _ (YN r);nofun;refine dH ?_;exists xV qR (by rw[WJ,WA r];rfl);exists q.moves dr (by lia) _;refine⟨_,_,rfl,?_⟩;nofun;refine dI (λi j h=>∃d v6 v7,KV (kZ P (Ls P S k)[k] ((qD P (Ls P S k)[k]).take i) (Ls P S k)) d/\WV d/\h=hG H d (kZ P (Ls P S k)[k] ((qD P (Ls P S k)[k]).take i) (Ls P S k))/\j=[some (au P),some (ay S),some (.int 120),some (.ob H.length),some (.ob (H.length+1)),some (aw k),v6,v7]) ⟨kvs,v6,v7,X,W,rfl,rfl⟩ (λ_ _ _ _ _=>rfl) ?_ ?_
   ·rintro i x j h A ⟨d,v6,v7,X,W,rfl,rfl⟩;rw[WJ] at A;obtain⟨m,C,rfl⟩:=W0.mp A;have hm:=Wx C;have g:=I.bh dr q hm;obtain⟨pre,hl⟩:=jC P (Ls P S k)[k] ((qD P (Ls P S k)[k]).take i) (Ls P S k);have E:((qD P (Ls P S k)[k]).take i).length<=20:=by
     have:=xC P (Ls P S k)[k];have:=q.l;rw[W2]
     lia
    have here:=OI pre (WA r);rw[ML C,vO];generalize kZ P (Ls P S k)[k] ((qD P (Ls P S k)[k]).take i) (Ls P S k)=L at X hl here ⊢;have y:∀{h:MH} {n:Nat},h[n]?=some (.lst (L.map ay))->aG (.ob n) (aw k) h=some (ay (Ls P S k)[k],h):=λe=>xV e (by rw[WJ,here];rfl);obtain⟨M,u⟩:=(q.bh dr (by lia) hm).1 (hG H d L);exists y qR;exists u;nofun;refine rv (X.VO AW g) ⟨_,rfl,λc=>?_,λc=>?_⟩
    ·have hn:jV (bh P (Ls P S k)[k] m)∉L.map jV:=λz=>by rw[W4 z] at c;cases c
     obtain⟨w,f,o⟩:=X.at_ (h:=hG H d L) AW (Wx here);obtain⟨J,v,t⟩:=W w f;rw[v] at o;have:=X.len;rw[AB hn];exists y qR;exists o;exists eC (by rw[Ws,Yv];lia);refine Du ?_;exists X.put AW g hn (by lia) _;nofun;refine pW ?_;nofun;rw[Rt];refine⟨cg qR,?_⟩;nofun;refine rv (JI qR (by rw[Ws];lia)).1 ?_;rw[GQ];nofun;exact⟨_,_,_,X.add g _,W.add t m,by unfold hG;rw[WR];rfl,rfl⟩
    ·have hn:jV (bh P (Ls P S k)[k] m)∈L.map jV:=Classical.not_not.mp λz=>by rw[WW z] at c;cases c
     rw[AA hn];nofun;exact⟨_,_,_,X,W,rfl,rfl⟩
   ·rintro j h ⟨d,v6,v7,X,W,rfl,rfl⟩;rw[Ws,X1] at X ⊢;rw[<-Eo r] at X ⊢;nofun;refine rv (a:=(aw (k+1),hG H d (Ls P S (k+1)))) rfl ?_;exact⟨_,by lia,k+1,d,_,_,rfl,by lia,X,W,rfl,rfl⟩
  ·rw[Ws,AbA] at c;have c:¬k < (Ls P S k).length\/¬(Ls P S k).length<=120:=c.imp XZ λz=>by have:=XZ z;lia
   nofun;exact⟨k,kvs,G,X,W,c,rfl⟩
 ·intro w f;rw[WD.mp f];exact⟨[],rfl,YB 0⟩
 ·unfold hG Ls;rw[XM];rfl
 ·rw[WQ];rfl
end
noncomputable local instance:DecidableEq PyData:=λa b=>Classical.propDecidable _
def Cs(n:Nat)(S:List Hand):fB n (ay S)=true:=dO n b6 (Eb n) S
def oU{P:Prog}{S:List Hand}{i j:Nat}(h:i<=j):(Ls P S i).length<=(Ls P S j).length:=(QG P S h).length_le
def G9{P:Prog}{S:List Hand}{k g:Nat}{a:Int}(b:¬k < (Ls P S k).length\/¬((Ls P S k).length:Int)<=a)(c:¬g < (Ls P S g).length\/a < ((Ls P S g).length:Int)):
  (((Ls P S k).length:Int)<=a↔((Ls P S g).length:Int)<=a)/\(((Ls P S g).length:Int)<=a->Ls P S k=Ls P S g):=by
 rcases Abo k g with h | h
 ·have l:=oU (P:=P) (S:=S) h;rcases b with b | b
  ·have e:=yx b h;rw[e];exact⟨Iff.rfl,λ_=>rfl⟩
  ·exact⟨⟨λz=>absurd z b,λz=>by lia⟩,λz=>by lia⟩
 ·have l:=oU (P:=P) (S:=S) h;rcases c with c | c
  ·have e:=yx c h;rw[e];exact⟨Iff.rfl,λ_=>rfl⟩
  ·exact⟨⟨λz=>by lia,λz=>by lia⟩,λz=>by lia⟩
def vV(a:Int)(L:List (List Hand)):D:=if(L.length:Int)<=a then .tup [.str "all",.tup (L.map ay)] else .tup [.str "open",.bo]
def SK(n:Nat)(a:Int)(L:List (List Hand)):fB n (vV a L)=true:=by
 unfold vV
 split
 ·show(fB n (.str "all")&&(fB n (.tup (L.map ay))&&true))=true;rw[show fB n (.tup (L.map ay))=true from dO n ay (Cs n) L];rfl
 ·rfl
section
variable {P:Prog} (dr:Dr P) {S:List Hand} (s:nK P 0 S) (b:nQ S) {t:D} (eb:∀h,gF [au P,t] h=some (ay S,h))
include dr s b eb
theorem F5{d:Int}{g:Nat}(o:∀k,k < (Ls P S k).length->((Ls P S k).length:Int)<=d->k<=120)(m:¬g < (Ls P S g).length\/d < ((Ls P S g).length:Int))(H:MH):tI [au P,t,.int d] H=some (vV d (Ls P S g),H):=by
 have e:Rn (tI [au P,t,.int d] H) λp=>p=(vV d (Ls P S g),H):=by
  refine ph ?_;exists eb _;nofun;obtain⟨p,r,k,i,v,X,c,rfl⟩:=xb dr s b o H;refine rv r ?_;obtain⟨j,l⟩:=G9 c m;nofun;have f:Rn (leave H (vV d (Ls P S g)) (hR H i (Ls P S k))) λp=>p=(vV d (Ls P S g),H):=
   rv (jU (λn z=>by unfold vV at z;split at z <;> cases z) (SK _ _ _)) rfl
  by_cases z:((Ls P S g).length:Int)<=d
  ·rw[WC (j.mpr z)];refine rv (a:=(.bl false,_)) rfl ⟨false,rfl,ff ?_⟩;nofun;refine rv (a:=(.tup ((Ls P S k).map ay),hR H i (Ls P S k))) (by unfold IU qk hR;dsimp only;rw[qR];dsimp only[Option.map_some];rw[X.k]) ?_;nofun;have:vV d (Ls P S g)=.tup [.str "all",.tup ((Ls P S k).map ay)]:=by unfold vV;rw[WC z,l z]
   rw[this] at f;rw[this];exact f
  ·rw[WE (λq=>z (j.mp q))];refine rv (a:=(.bl true,_)) rfl ⟨true,rfl,tt ?_⟩;nofun;have:vV d (Ls P S g)=.tup [.str "open",.bo]:=by unfold vV;rw[WE z]
   rw[this] at f;rw[this];exact f
 obtain⟨p,u,rfl⟩:=e;exact u
end
noncomputable local instance:DecidableEq PyData:=λa b=>Classical.propDecidable _
def vN{b:List D}{h:MH}(a:Dp 64 (.tup b)):bL (.tup b) (.tup b) h=some (.bl true,h):=by
 obtain⟨p,e,c,d⟩:=a;show(Nc (.tup b) (.tup b) h).map _=_;unfold Nc;show(((kA (.tup b)).bind λa=>(kA (.tup b)).bind _).map _)=_;rw[e];show((if p.depth<=64/\p.depth<=64 then some (PyData.eqv p p) else none).map _)=_;rw[WC ⟨c,c⟩,d];rfl
def Mq{most:Int}{P:Prog}{g:Nat}{L:List (List Hand)}(c:g<=900)(d:L.length<=100000)(h:∀T∈L,nK P g T/\nQ T)(H:MH):cu 8 [vV most L,vV most L] H=some (.bl true,H)/\bL (vV most L) (vV most L) H=some (.bl true,H):=by
 unfold vV
 split
 ·exact⟨same_refl 8 _ _ ⟨by show 2<=100000;decide,λx a=>by
   rcases WI.mp a with rfl | a
   ·trivial
   ·rw[WD.mp a];exact eu (n:=6) d λT b=>E7 (h T b).1 c (h T b).2⟩,vN ((Dp.tup (n:=6) (j7.cons (Dp.str _) (j7.cons (Dp.tup (n:=5) (j7.map λT _=>Dp.UM T)) j7.nil))).up (by decide))⟩
 ·exact⟨same_refl 8 _ _ ⟨by show 2<=100000;decide,λx a=>by
   rcases WI.mp a with rfl | a
   ·trivial
   ·rw[WD.mp a];trivial⟩,vN ((Dp.tup (n:=0) (j7.cons (Dp.str _) (j7.cons Dp.bo j7.nil))).up (by decide))⟩
section
variable {P:Prog} (dr:Dr P) {S:List Hand} (s:nK P 0 S) (b:nQ S) {t:D} (eb:∀h,gF [au P,t] h=some (ay S,h))
include dr s b eb
theorem rD{most:Int}{g f:Nat}(m:∀k,k < (Ls P S k).length->((Ls P S k).length:Int)<=most->k<=120)(l:¬g < (Ls P S g).length\/most < ((Ls P S g).length:Int))(g1:g<=121){H:MH}(j:H[f]?=some (.lst ((Ls P S g).map ay))):fG [au P,t,.int most,.ob f] H=some (.bl true,H):=by
 have e:Rn (fG [au P,t,.int most,.ob f] H) λp=>p=(.bl true,H):=by
  obtain⟨ok,len⟩:=Ep dr s b (k:=g) (by lia);have bk:=F5 dr s b eb m l H;obtain⟨d,a⟩:=Mq (most:=most) (g:=g) (by lia) (by lia) ok H;refine aW ?_;exists gy j;nofun;rw[Ws];refine⟨_,rfl,λc=>?_,λc=>?_⟩
  ·have c:=Xa c;have i:D.tup [.str "all",.tup ((Ls P S g).map ay)]=vV most (Ls P S g):=by unfold vV;rw[WC c]
   rw[<-i] at d a bk;exists g0 j;exists bk;exists d;nofun;refine⟨true,rfl,tt ?_⟩;exists bk;exists a;rfl
  ·have c:=XZ c;have i:D.tup [.str "open",.bo]=vV most (Ls P S g):=by unfold vV;rw[WE c]
   rw[<-i] at d a bk;exists bk;exists d;nofun;refine⟨true,rfl,tt ?_⟩;exists bk;exists a;rfl
 obtain⟨p,n,rfl⟩:=e;exact n
end
def JD{P:Prog}(f:Dr P){t:AE}(i:Mx P t)(hl:t.length<=10):(∀h,gF [au P,NC t] h=some (ay (t.map (CF P (my P))),h))/\nK P 0 (t.map (CF P (my P))):=by
 have hd:∀p∈t,∃d,P.aq[my P p.1]?=some d/\d.1=p.1/\d.2.1.length=p.2.length:=λp hp=>by
  obtain⟨d,hd,a,b⟩:=i p hp;obtain⟨j,hj⟩:=XT.mp hd;exact⟨d,by rw[<-a,f.num hj];exact hj,a,b⟩
 refine⟨λh=>CD f.nd (by have:=f.six;exact WL this (by decide)) (WL hl (by decide)) λp hp=>?_,λx n=>?_,by rw[Ws];exact hl⟩
 ·obtain⟨d,a,b,_⟩:=hd p hp;rw[WJ,a,<-b];rfl
 ·obtain⟨p,hp,rfl⟩:=W6.mp n;obtain⟨d,a,b,o⟩:=hd p hp;have e:∀g∈[({bI:=my P p.1,nums:=p.2,rs:=[],k:=0}:bF)],dW P g:=λg c=>by
   rw[WD.mp c];exact⟨d,d.2.2,a,rfl,Xe _⟩
  have fn:∀g∈[({bI:=my P p.1,nums:=p.2,rs:=[],k:=0}:bF)],Gd P 0 g:=λg c=>by
   rw[WD.mp c];exact⟨by rw[xp a,o];exact WB _,WB _⟩
  obtain⟨m,l⟩:=DU e;exact⟨m,DV e fn,l,WB _,(z9 e).trans rfl⟩
noncomputable local instance:DecidableEq PyData:=λa b=>Classical.propDecidable _
def Wq(cs:List Int):Cl [.lst (cs.map D.int),.lst [.int 0,.ob 0,.int 0]]:=by
 intro o a;rcases WI.mp a with rfl | a
 ·exact dO _ D.int (λ_=>rfl) _
 ·rw[WD.mp a];rfl
def P8{n:Nat}:∀{a:List D},(∀x∈a,fB n x=true)->cY n a=true:=by
 intro a
 induction a with
 | nil=>intro _;rfl
 | cons x a b=>
  intro h;show(fB n x&&cY n a)=true;rw[h x Wy,b λy c=>h y (Wz _ c)];rfl
theorem Cl.hG{H:MH}(C:Cl H){a:List (D×D)}{L:List (List Hand)}(X:KV L a)(W:WV a):Cl (Mi.hG H a L):=by
 have h:=(C.snoc (o:=.lst (L.map ay)) (dO _ ay (Cs _) L)).snoc (o:=.dcH a) (by
  show(cY _ (a.map (·.1))&&cY _ (a.map (·.2)))=true;rw[X.k,dO _ ay (Cs _) L,P8 λx d=>?_]
  ·rfl
  ·obtain⟨c,f,rfl⟩:=W6.mp d;obtain⟨b,e,_⟩:=W c f;rw[e];exact dO _ nS (λ_=>rfl) b)
 rwa [XM] at h
def nQ.Wo{P:Prog}(e:Dr P){t:AE}(a:Mx P t):nQ (t.map (CF P (my P))):=λx b=>by
 obtain⟨p,hp,rfl⟩:=W6.mp b;refine⟨z8 (P:=P) (fs:=[{bI:=my P p.1,nums:=p.2,rs:=[],k:=0}]) λg c=>?_,λ_ z=>(nomatch z)⟩;rw[WD.mp c];obtain⟨d,hd,_,f⟩:=a p hp;obtain⟨j,hj⟩:=XT.mp hd;have:=e.par hj;dsimp only
 lia
def Kg(P:Prog)(S:List Hand)(g:Nat)(m:Int):Prop:=(∀k,k < (Ls P S k).length->((Ls P S k).length:Int)<=m->k<=120)/\(¬g < (Ls P S g).length\/m < ((Ls P S g).length:Int))
def Kg.low{P:Prog}{S:List Hand}{g:Nat}{m:Int}(c:¬g < (Ls P S g).length\/¬(Ls P S g).length<=120)(h:m<=120):Kg P S g m:=
 ⟨λk b a=>by lia,c.imp id λz=>by lia⟩
def Kg.UH{P:Prog}{S:List Hand}{g:Nat}{m:Int}(c:¬g < (Ls P S g).length\/¬(Ls P S g).length<=120)(h:(Ls P S g).length<=120):Kg P S g m:=by
 have c:¬g < (Ls P S g).length:=c.resolve_right λz=>z h;refine⟨λk a _=>?_,.inl c⟩;rcases Abo k g with z | z
 ·have:=oU (P:=P) (S:=S) z
  lia
 ·rw[yx c z] at a
  lia
def law_true(ns:List Int)(hn:ns.length<=63):∃h',AL [.ro (ns.map D.int)] []=some (.bl true,h'):=by
 have e:Rn (AL [.ro (ns.map D.int)] []) λp=>p.1=.bl true:=by
  obtain⟨cs,ed,S0⟩:=Cq ns hn 90000 (by decide);refine aW ?_;exists ed;nofun;refine gH ?_;nofun;refine⟨_,rfl,by lia,by lia,?_⟩;refine dI (λi f h=>∃(v2 v3 v4 v5 v6 v7 v8:Option D),f=[some (.ro (ns.map D.int)),some (.ob 1),v2,v3,v4,v5,v6,v7,v8]/\St 1 0 cs (90000-10000*i) h/\Cl h)
   ⟨_,_,_,_,_,_,_,rfl,S0,Wq cs⟩ (λ_ _ _ _ _=>rfl) ?_ ?_
  ·rintro i x f h U ⟨v2,v3,v4,v5,v6,v7,v8,rfl,S,C⟩;have hi:i < 3:=by
    have:=(Ww.mp U).1;rw[Ws,WX] at this;exact this
   nofun;refine aW ?_;nofun;refine iR (R:=90000-10000*(i+1)+9000) (is:=[5,8,8,14,24]) (λi=>0<=i/\i<=24) (by decide) ((S.le (by lia)).sb) λn h1 hm _ A1=>?_;nofun;refine iR (R:=90000-10000*(i+1)+8000) (is:=[0,12,4,2]) (λi=>0<=i/\i<=12) (by decide) (A1.le (by lia)) λodd h2 Y _ J=>?_;nofun;obtain⟨n,rfl⟩:=Yn hm.1;have Z:n<=24:=by lia
   refine F3 (R:=90000-10000*(i+1)+1000) (J.le (by lia)) (C.but J.S J.b) Y.1 (by lia) λW fl P h3 ok k A3 C3=>?_;have u:Dr P:=⟨W,fl,odd,ok,k.nm,k.dl,k.dd,WL k.ct (by lia)⟩;clear ok k;nofun;refine iR (R:=90000-10000*(i+1)+950) (is:=[1,2,2,3,4]) (λi=>1<=i/\i<=4) (by decide) ((A3.S.le (by lia)).sb) λWj h4 hf _ I=>?_;nofun;refine Qe (R:=90000-10000*(i+1)+900) u (I.le (by lia)) (C3.but I.S I.b) (by lia) (by lia) λt l L tl T C5=>?_;obtain⟨z,v⟩:=JD u L (by lia);have A:=nQ.Wo u L;generalize t.map (CF P (my P))=d at z v A;exists z _;nofun;obtain⟨p,ep,g,s,g1,X,Wv,c,rfl⟩:=mM u v A l;refine rv ep ?_;nofun;have Q:=Cl.hG C5 X Wv;have N:St 1 0 cs _ (hG l s (Ls P d g)):=T.S.more _;have l5:=T.S.lt.1;have o:(hG l s (Ls P d g))[l.length]?=some (.lst ((Ls P d g).map ay)):=qR;generalize hG l s (Ls P d g)=h6 at Q N o ⊢;refine dq (R:=90000-10000*(i+1)+800) ((N.le (by lia)).sb) (by decide) (by decide) λr w r0 r1 E=>?_;have o:=E.at_ o (by lia);have O:=Q.but E.S E.b;have M:=E.S;exists gy o;nofun;rw[Ws];have G:∀m:Int,m<=120->Kg P d g m:=λm=>Kg.low c;refine⟨_,rfl,λq=>?_,λq=>?_⟩
   ·have q:=Xa q;have F:∀m:Int,Kg P d g m:=λm=>Kg.UH c (by lia);exists gy o;exists gy o;nofun;refine rv (a:=(.int 1000000000,w)) (by ac_nf) ?_;nofun;refine rv (a:=(.lv [.int 1,.int (1+r),.int ((Ls P d g).map ay).length,.int (((Ls P d g).map ay).length-1),.int 1000000000],w)) rfl ?_;nofun;refine dH ?_;nofun;refine⟨_,_,rfl,?_⟩;refine dI (λj f h=>∃v8,f=[some (.ro (ns.map D.int)),some (.ob 1),some x,some (au P),some (NC t),some (.ob l.length),some (.ob (l.length+1)),some (.lv [.int 1,.int (1+r),.int ((Ls P d g).map ay).length,.int (((Ls P d g).map ay).length-1),.int 1000000000]),v8]/\h=w) ⟨_,rfl,rfl⟩ (λ_ _ _ _ _=>rfl) ?_ ?_
    ·rintro j y f h H ⟨v8,rfl,rfl⟩;obtain⟨m,rfl,hm⟩:∃m:Int,y=.int m/\Kg P d g m:=by
      have:=Wx H;simp only[WI,List.not_mem_nil,or_false] at this;rcases this with rfl | rfl | rfl | rfl | rfl <;> exact⟨_,rfl,F _⟩
     nofun;refine⟨_,rfl,λc=>?_,λc=>ff ?_⟩
     ·nofun;refine rv (rD u v A z hm.1 hm.2 g1 o) ⟨true,rfl,ff ?_⟩;nofun;exact⟨_,rfl,rfl⟩
     ·nofun;exact⟨_,rfl,rfl⟩
    ·rintro f h ⟨v8,rfl,rfl⟩;nofun;exact⟨_,_,_,_,_,_,_,rfl,M.le (by lia),O⟩
   ·nofun;refine dH ?_;nofun;refine⟨_,_,rfl,?_⟩;refine dI (λj f h=>∃v8,f=[some (.ro (ns.map D.int)),some (.ob 1),some x,some (au P),some (NC t),some (.ob l.length),some (.ob (l.length+1)),some (.lv [.int 1,.int (1+r)]),v8]/\h=w) ⟨_,rfl,rfl⟩ (λ_ _ _ _ _=>rfl) ?_ ?_
    ·rintro j y f h H ⟨v8,rfl,rfl⟩;obtain⟨m,rfl,hm⟩:∃m:Int,y=.int m/\Kg P d g m:=by
      have:=Wx H;simp only[WI,List.not_mem_nil,or_false] at this;rcases this with rfl | rfl <;> exact⟨_,rfl,G _ (by lia)⟩
     nofun;refine⟨_,rfl,λc=>?_,λc=>ff ?_⟩
     ·nofun;refine rv (rD u v A z hm.1 hm.2 g1 o) ⟨true,rfl,ff ?_⟩;nofun;exact⟨_,rfl,rfl⟩
     ·nofun;exact⟨_,rfl,rfl⟩
    ·rintro f h ⟨v8,rfl,rfl⟩;nofun;exact⟨_,_,_,_,_,_,_,rfl,M.le (by lia),O⟩
  ·rintro f h ⟨v2,v3,v4,v5,v6,v7,v8,rfl,_,_⟩;nofun
 obtain⟨p,e1,e2⟩:=e;exact⟨p.2,by rw[e1,<-e2]⟩
end Mi
open PySem PySem.W PyProof.Rows
def Mi.Vi:defOf Mi.view "law"=some (Hd.rQ "law" Mi.lK,[]):=by ac_nf
def Mi.hp:PySem.Program.theDef Mi.pw "law"=some (L2.ni Mi.lK,L2.gA Mi.lK,L2.ag Mi.lK):=by ac_nf
theorem PySem.Challenge.cw_neverstuck_k28_books_holds : PySem.Challenge.rw_neverstuck_k28_books.Holds := by
 refine holds_law Mi.N5 λN5=>?_;refine PySem.W.holds_open (q:=Mi.view) (loose:=["SHAPES","TOO_MANY"]) (Xt:=Mi.Xt) (XP:=XL Mi.view []) (Yf:=Mi.Yf) (Ya:=Mi.ya) (YP:=λw h=>Hd.tabAt h "SHAPES"=(Mi.ya w).1/\Hd.yJ h "TOO_MANY"=(Mi.ya w).2) (N:=20000) (d:=Hd.rQ "law" Mi.lK) (kwd:=[]) Mi.left (λ_ _ e=>⟨congrArg (λz=>z.1) e,congrArg (λz=>z.2) e⟩) (λ_ _ _ y k=>⟨Hd.Ba k y.1,Hd.Ez k y.2⟩) (λs e=>xl_of s (W3.mp e).1) XL.keeps Mi.Vi Mi.hp (by ac_nf) (λs e=>recFacts_of (W3.mp e).2) (by ac_nf) N5 (by decide+kernel) ⟨rfl,rfl,rfl,rfl,rfl,by decide+kernel⟩ (by w_witness2) ?_;exact Hd.PF (k:=29) (by ac_nf) (by ac_nf) ⟨rfl,by decide,by decide⟩ λw s₀ mg a h G Y=>Mi.all_mk G.T Y.1 Y.2 Mi.law_true
