import PyProof.Rows.All
import KE.KEqDict
import KE.KIsAll
import KE.KLam
import KE.KMinKey
import PySem.Challenge.RW_neverstuck_k78_whole_put_in_and_out
set_option Elab.async false
set_option linter.all false
set_option maxRecDepth 100000
set_option maxHeartbeats 4000000
set_option compiler.small 0
set_option compiler.extract_closed false
set_option compiler.reuse false
noncomputable section
local macro_rules | `(∅) => `(by ac_rfl)
local macro_rules | `(tactic| ac_nf) => `(tactic| kernel_rfl)
local macro_rules | `(tactic| nofun) => `(tactic| walk_at "r")
abbrev VT:=@PySem.wpAny_bind
abbrev VU:=@List.length_map
abbrev VW:=@List.getElem?_eq_some_iff
abbrev VX:=@List.mem_of_getElem?
abbrev VY:=@PySem.wpAny_pure
abbrev VZ:=@Nat.le_refl
abbrev V0:=@PySem.Heap.get?_push_of_some
abbrev V1:=@if_pos
abbrev V2:=@Nat.le_trans
abbrev V3:=@List.mem_cons_self
abbrev V4:=@if_neg
abbrev V5:=@List.mem_cons_of_mem
abbrev V6:=@List.map_cons
abbrev V7:=@List.getElem?_eq_getElem
abbrev V8:=@PySem.Heap.lt_size
abbrev V9:=@List.length_cons
abbrev Wa:=@List.getElem?_map
abbrev Wc:=@List.getElem?_append_left
abbrev We:=@List.getElem?_append_right
abbrev Wf:=@List.mem_append_right
abbrev Wg:=@List.mem_singleton
abbrev Wh:=@List.mem_cons
abbrev Wi:=@List.size_toArray
abbrev Wj:=@List.length_append
abbrev Wk:=@Nat.ne_of_lt
abbrev Wl:=@Option.map_eq_some_iff
abbrev Wm:=@Bool.and_eq_true
abbrev Wn:=@PySem.Heap.get?_push_size
abbrev Wq:=@List.map_append
abbrev Ws:=@Nat.lt_of_lt_of_le
abbrev Wt:=@Bool.and_eq_true_iff
abbrev Wu:=@Nat.le_add_right
abbrev Wv:=@List.length_range
abbrev Ww:=@List.mem_map
abbrev Wx:=@List.length_take
abbrev Wy:=@of_decide_eq_true
abbrev Wz:=@List.mem_append
abbrev WA:=@PySem.wpAny_mono
abbrev WB:=@decide_eq_true
abbrev WC:=@Option.map_some
abbrev WD:=@List.take_left
abbrev WE:=@PySem.wpAny_holding
abbrev WG:=@List.getElem?_set_self
abbrev WH:=@Bool.false_eq_true
abbrev WI:=@PySem.mem_of_lookup
abbrev WJ:=@Option.bind_some
abbrev WK:=@List.lookup_cons
abbrev WL:=@List.getElem?_cons_succ
abbrev WM:=@decide_eq_false
abbrev WN:=@Array.getElem?_eq_getElem
abbrev WO:=@List.sum_cons
abbrev WQ:=@List.getElem?_take_of_lt
abbrev WR:=@List.getElem?_set_ne
abbrev WS:=@decide_eq_true_eq
abbrev WT:=@List.take_length
abbrev WU:=@List.mem_append_left
abbrev WV:=@PySem.PassesOwn.never
abbrev WW:=@List.append_nil
abbrev WX:=@List.all_eq_true
abbrev WY:=@List.append_assoc
abbrev WZ:=@PyProof.Rows.slot_tuple_getitem
abbrev W0:=@Bool.false_ne_true
abbrev W2:=@PySem.wpAny_newObj_type
abbrev W3:=@List.sum_append
abbrev W4:=@List.getElem?_eq_none
abbrev W5:=@PySem.wpAny_standAt
abbrev W6:=@PySem.W.kia_one
abbrev W7:=@PySem.wpAny_truthy_bool
abbrev W8:=@Array.mem_toList_iff
abbrev W9:=@Array.getElem?_eq_some_iff
abbrev Xa:=@List.length_set
abbrev Xb:=@Nat.zero_le
abbrev Xc:=@List.take_append_drop
abbrev Xd:=@Int.emod_nonneg
abbrev Xe:=@PyProof.Rows.callWith_type1
abbrev Xf:=@Nat.zero_add
abbrev Xg:=@Nat.sub_self
abbrev Xh:=@List.map_map
abbrev Xi:=@Int.le_trans
abbrev Xj:=@List.filterMap_cons
abbrev Xk:=@if_false
abbrev Xl:=@PySem.Heap.get?_update_other
abbrev Xm:=@beq_self_eq_true
abbrev Xo:=@Int.emod_lt_of_pos
abbrev Xp:=@PySem.wpAny_field
abbrev Xq:=@PySem.sizeLine_eq
abbrev Xs:=@Nat.lt_irrefl
abbrev Xu:=@PySem.W.hideAll_none
abbrev Xv:=@PySem.wpAny_call_entry
abbrev Xw:=@PySem.wpAny_Call_Name_kw
abbrev Xx:=@PySem.F.plainAttrs_list
abbrev Xy:=@Int.eq_ofNat_of_zero_le
abbrev Xz:=@beq_iff_eq
abbrev XA:=@PySem.Heap.size_push
abbrev XB:=@PySem.Around.under_plainId
abbrev XD:=@List.replicate_succ
abbrev XF:=@Array.length_toList
abbrev XG:=@Nat.le_of_lt
abbrev XH:=@List.map_nil
abbrev XI:=@PySem.wpAny_callSpecial?_slot
abbrev XJ:=@PySem.codeAny_builtin
abbrev XN:=@List.length_drop
abbrev XO:=@List.cons_append
abbrev XR:=@Nat.lt_of_le_of_lt
abbrev XT:=@List.mem_range
abbrev XU:=@List.mem_filterMap
abbrev XW:=@Int.lt_of_le_of_lt
abbrev XX:=@Ne.symm
abbrev XY:=@List.set_append_right
abbrev XZ:=@PySem.wpAny_execs_cons
abbrev X0:=@List.nodup_cons
abbrev X1:=@Bool.or_eq_true
abbrev X2:=@Bool.eq_iff_iff
abbrev X3:=@Nat.le_succ
abbrev X4:=@List.nodup_append
abbrev X5:=@Int.toNat_natCast
abbrev X6:=@PySem.F.plain_max_loop
abbrev X7:=@Nat.succ_le_succ
abbrev X8:=@Nat.le_of_not_lt
abbrev X9:=@List.drop_append
abbrev Yb:=@List.take_of_length_le
abbrev Yc:=@List.length_eq_one_iff
abbrev Yd:=@List.drop_of_length_le
abbrev Ye:=@PySem.wpAny_seqItems
abbrev Yg:=@Nat.not_lt_zero
abbrev Yh:=@Nat.min_le_left
abbrev Yi:=@List.nil_append
abbrev Yj:=@List.length_nil
abbrev Yk:=@List.find?_cons
abbrev Yl:=@Nat.add_assoc
abbrev Ym:=@Bool.not_true
abbrev Yn:=@List.mem_iff_getElem?
abbrev Yo:=@Array.getElem?_toList
abbrev Yp:=@List.flatten_cons
abbrev Yq:=@PySem.wpAny_rule
abbrev Yr:=@PySem.codeAny_mono
abbrev Ys:=@if_true
abbrev Yt:=@PySem.Heap.get?_update_self
abbrev Yu:=@PySem.F.slot_enumerate_next
abbrev Yv:=@Nat.lt_or_ge
abbrev Yw:=@List.cons_ne_nil
abbrev Yx:=@List.any_eq_true
abbrev Yy:=@Classical.byContradiction
abbrev Yz:=@List.mem_map_of_mem
abbrev YA:=@PySem.F.slot_tuple_iterator_next
abbrev YB:=@Option.isSome_iff_exists
abbrev YC:=@List.any_cons
abbrev YD:=@Nat.min_eq_left
abbrev YE:=@List.foldl_cons
abbrev YF:=@PySem.F.called_set
abbrev YG:=@PySem.Str.length_append
abbrev YH:=@Option.bind_eq_some_iff
abbrev YI:=@PySem.wpAny_comprehension_free
abbrev YJ:=@PySem.plainId_quiet
abbrev YK:=@PySem.SeqAt.eqAt_reads
abbrev YL:=@Nat.lt_trans
abbrev YM:=@Nat.le_succ_of_le
abbrev YN:=@Nat.le_of_lt_succ
abbrev YO:=@List.take_zero
abbrev YQ:=@Array.all_eq_true_iff_forall_mem
abbrev YR:=@PySem.wpAny_specialOf
abbrev YS:=@PySem.wpAny_execs_nil
abbrev YT:=@PySem.wpAny_pyIter_tuple
abbrev YU:=@PySem.wpAny_getItem_str_slice
abbrev YV:=@List.length_singleton
abbrev YW:=@decide_eq_decide
abbrev YX:=@List.all_cons
abbrev YY:=@PySem.SetTable.insertAt_perm
abbrev YZ:=@PySem.F.slot_tuple_hash
abbrev Y0:=@List.take_append_of_le_length
abbrev Y1:=@List.mem_of_mem_take
abbrev Y2:=@List.getElem?_of_mem
abbrev Y3:=@PySem.hashByValue_scannable
abbrev Y4:=@PySem.W.hideAll_get
abbrev Y5:=@Int.toNat_of_nonneg
abbrev Y6:=@PySem.wpAny_forIn_list
abbrev Y7:=@Nat.ne_of_gt
abbrev Y8:=@of_decide_eq_false
abbrev Y9:=@PySem.W.of_hideAll
abbrev Za:=@PySem.F.excBase_ValueError
abbrev Zb:=@List.take_succ
abbrev Zc:=@List.filterMap_map
abbrev Zd:=@Array.forIn_toList
abbrev Ze:=@PySem.wpAny_passesOwn
abbrev Zf:=@Nat.lt_succ_of_lt
abbrev Zg:=@List.take_sublist
abbrev Zh:=@List.take_add_one
abbrev Zi:=@PySem.F.args_tuple_add_2
abbrev Zj:=@List.length_filterMap_le
abbrev Zk:=@List.Perm.eq_of_pairwise
abbrev Zl:=@PySem.wpAny_tryCatch
abbrev Zm:=@PySem.tupleKind_room_in1
abbrev Zn:=@PySem.F.entry_tuple_add
abbrev Zo:=@Option.join_eq_some_iff
abbrev Zp:=@Nat.add_sub_cancel_left
abbrev Zq:=@PySem.F.slot_tuple_add
abbrev Zr:=@Int.ofNat_lt
abbrev Zs:=@PySem.wpAny_setState_of
abbrev Zt:=@PySem.wpAny_letGo
abbrev Zu:=@PySem.F.slot_list_extend
abbrev Zv:=@PySem.F.slot_list_append
abbrev Zw:=@Array.mem_of_getElem?
abbrev Zx:=@List.nodup_nil
abbrev Zy:=@List.forall_mem_cons
abbrev Zz:=@PySem.wpAny_Name
abbrev ZA:=@PySem.call_meets
abbrev ZC:=@List.take_succ_cons
abbrev ZD:=@PySem.post_val_or_str
abbrev ZE:=@List.map_take
abbrev ZF:=@List.getElem_range
abbrev ZG:=@PySem.wpAny_newFunctionEnv
abbrev ZH:=@PySem.wpAny_loadName_local
abbrev ZI:=@PySem.codeAny_call_builtin
abbrev ZJ:=@Option.isSome_map
abbrev ZK:=@Nat.add_left_comm
abbrev ZL:=@Nat.add_comm
abbrev ZM:=@List.foldl_append
abbrev ZN:=@List.ext_getElem?
abbrev ZO:=@PyProof.Rows.F.plain_set_update_loop
abbrev ZP:=@PySem.wpAny_loadName_cell
abbrev ZQ:=@PySem.Heap.SameBut.update
abbrev ZR:=@List.getElem_mem
abbrev ZS:=@PySem.wpAny_attempt
abbrev ZT:=@PySem.Calls.spliced_cons
abbrev ZU:=@List.of_mem_zip
abbrev ZV:=@List.mem_filter
abbrev ZW:=@PySem.wpAny_typeOf
abbrev ZX:=@PySem.wpAny_loadPart_at
abbrev ZY:=@PySem.wpAny_assign_Name
abbrev ZZ:=@PySem.eqIsQuiet_byValue
abbrev Z0:=@PySem.Calls.spliced_nil
abbrev Z1:=@List.drop_zero
abbrev Z2:=@PySem.F.slot_dict_getitem
abbrev Z3:=@List.mem_of_find?_eq_some
abbrev Z4:=@PySem.noFill_tuple_add
abbrev Z5:=@PySem.F.type_list_extend
abbrev Z6:=@PySem.F.type_list_append
abbrev Z7:=@PySem.F.entry_max_loop
abbrev Z8:=@List.map_drop
abbrev Z9:=@Bool.true_and
abbrev Aaa:=@decide_eq_false_iff_not
abbrev Aab:=@PySem.F.slot_list_index
abbrev Aac:=@PySem.F.slot_list_count
abbrev Aad:=@List.pairwise_mergeSort
abbrev Aae:=@List.getElem?_replicate
abbrev Aaf:=@PySem.wpAny_updateSeq
abbrev Aag:=@PySem.codeAny_of_tree
abbrev Aah:=@PySem.W.cellsFrom_some
abbrev Aai:=@PySem.F.args_tuple_iterator_next_1
abbrev Aaj:=@Nat.sub_zero
abbrev Aak:=@Nat.le_of_eq
abbrev Aal:=@List.length_pos_of_mem
abbrev Aam:=@List.find?_cons_of_neg
abbrev Aan:=@Int.ediv_one
abbrev Aao:=@PySem.F.entry_tuple_iterator_next
abbrev Aap:=@PyProof.Rows.assignInOrder_cons
abbrev Aaq:=@List.length_filter_le
abbrev Aar:=@List.getElem?_toArray
abbrev Aas:=@List.filterMap_eq_map
abbrev Aat:=@PySem.wpAny_newFunctionEnv_cells
abbrev Aaw:=@PySem.Calls.Name_function_global
abbrev Aax:=@Nat.pow_le_pow_right
abbrev Aay:=@Array.getElem_of_mem
set_option hygiene false
set_option hygiene true
abbrev FR:=PySem.W.Frag
namespace Hd
open PySem PySem.W PySem.Spec PyProof.Rows
noncomputable def Ec:List Value->Option (List Int)
 | []=>some []
 | .int i _::r=>(Ec r).map λa=>i::a
 | _=>none
noncomputable def Er(v:Value)(t:String):Bool:=match v with
 | .type s=>decide (s=t)
 | _=>false
def rowAt(h:Heap)(e:DictEntry):Option (Str×Int×List Int):=match e.key with
 | .str x _=>match e.val with
  | .ref t=>match h.get? t with
   | some u=>if Er u.cls "tuple"&&u.dict.isNone then(match u.data with
     | .seq a _=>if a.size<=100 then(Ec a.toList).map λb=>(x,e.hash,b) else none
     | _=>none) else none
   | none=>none
  | _=>none
 | _=>none
def mJ(h:Heap):List DictEntry->Option (List (Str×Int×List Int))
 | []=>some []
 | e::r=>(rowAt h e).bind λx=>(mJ h r).map λa=>x::a
def tabAt(h:Heap)(nm:Str):Option (List (Str×Int×List Int)):=match h.nsMap mainGlobals nm with
 | some (.ref a)=>if a==sysModules then none else(match h.get? a with
  | some o=>if Er o.cls "dict"&&o.dict.isNone&&decide (o.slots=#[]) then(match o.data with
    | .dict b _=>mJ h b.toList
    | _=>none) else none
  | none=>none)
 | _=>none
noncomputable def xx(h:Heap)(ns:Addr)(name:Str):Option (Option Value):=match h.get? ns with
 | some ⟨_,_,.dict a _,_⟩=>(match a.toList.find? (·.key.isStr name) with
   | some e=>some (some e.val)
   | none=>if a.toList.any (·.refKey) then none else some none)
 | _=>none
def kS(h:Heap)(name:Str):Value->Option (Option Value)
 | .type n=>some (fastBuiltinOwn n name)
 | .ref a=>(match h.get? a with
   | some ⟨_,_,.cls cd,_⟩=>xx h cd.ns name
   | _=>none)
 | _=>some none
def cV(h:Heap)(name:Str):List Value->Option (Option Value)
 | []=>some none
 | c::r=>match kS h name c with
  | some (some v)=>some (some v)
  | some none=>cV h name r
  | none=>none
noncomputable def clsAt(h:Heap)(c:Str):Option (Addr×ClassData):=match h.nsMap mainGlobals c with
 | some (.ref C)=>match h.get? C with
  | some ⟨.type "type",_,.cls cd,_⟩=>some (C,cd)
  | _=>none
 | _=>none
def isAt(h:Heap)(a:ClassData)(n:Str):Option Bool:=(clsAt h n).map λp=>a.mro.contains (.ref p.1)
def mz(h:Heap)(ns:List Str)(c:Str):Option (List (Option Bool)):=(clsAt h c).bind λp=>
 if(cV h "__getattribute__" p.2.mro==some (some (.builtin "BaseException.__getattribute__"))&&cV h "__getattr__" p.2.mro==some none&&cV h "__class__" p.2.mro==some (some (.builtin "object.__class__"))&&
  p.2.mro.contains (.type "object")&&p.2.mro.contains (.type "BaseException")&&p.2.mro.contains (.type "ValueError")&&p.2.mro.contains (.ref p.1))=true then some (ns.map (isAt h p.2)) else none
def sD(h:Heap)(cs ns:List Str):List (Option (List (Option Bool))):=cs.map (mz h ns)
theorem LD(b:String)(j:∀w:World,(fencedOpening treeTable p w N).map (λs₀=>(topFrom treeTable p (w.withFollow b false) N s₀).map (λs=>(openSeen q loose (importedModules p.main.body) Xt true s,Yf s)))=some (some (openGood q loose,g (w.withFollow b false))))(i:∀w:World,(fencedOpening treeTable p w N).map (λs₀=>(topFrom treeTable p (w.withFollow b true) N s₀).map (λs=>(openSeen q loose (importedModules p.main.body) Xt true s,Yf s)))=some (some (openGood q loose,g (w.withFollow b true)))):LeftO p q loose Xt Yf g N true:=λw=>by
 obtain⟨s₀,a,f⟩:=Wl.mp (j w);obtain⟨c,a1,d⟩:=Wl.mp (i w);have e:=World.withFollow_self w b;unfold openEnds;cases h:w.params.followText b <;> rw[h] at e
 ·rw[a];rw[e] at f;exact f
 ·rw[a1];rw[e] at d;exact d
end Hd
namespace Mi
open PySem
abbrev pw:Program:=PySem.Challenge.pw_neverstuck_k78_whole_put_in_and_out
noncomputable def top(i:Nat):Stmt:=pw.main.body.getD i (.Pass ⟨0,0,0,0⟩)
noncomputable def eC:List (Str×List Int):=[("say",[2,0]),("call",[3,0]),("within",[2,1]),("all",[2,1]),("ask",[2,2]),("by",[3,3]),("either",[1,2]),("again",[1,1])]
noncomputable def iA:List (Str×List Str):=[("NoRow",["NoRow","StuckError","ValueError"]),("NoLock",["NoLock","StuckError","ValueError"])]
noncomputable def sy:List Str:=["StuckError","NoStep","NoRow","NoLock","NoText","NoLine"]
noncomputable def rP:List Str:=["NoRow","NoLock"]
def view:Program:={pw with main:={pw.main with body:=[top 1,top 2,top 3,top 4,top 5,top 6,top 8,top 9,top 10,top 11,top 12,top 13,top 14,top 15,top 17,top 18,top 19,top 20,top 21,top 22,top 23,top 24,top 25,top 26,top 27,top 28,top 29,top 30,top 31,top 32,top 33,top 34,top 35,top 36,top 37,top 38,top 39,top 41,top 42,top 44,top 45,top 46,top 47,top 48,top 49,top 50,top 51,top 53,top 54,top 56,top 57,top 58,top 59,top 60,top 61,top 62,top 63,top 64,top 65,top 66,top 67,top 68,top 69,top 70,top 71,top 72,top 73,top 74]}}
end Mi
local macro_rules | `(tactic| walk_at "s") => `(tactic| exact⟨rfl, rfl, rfl, by decide +kernel, rfl, by decide +kernel, by decide +kernel⟩)
namespace Mi
open PySem PySem.W PyProof.Rows
abbrev ext:List (Option (List (Option Bool))):=iA.map λp=>some (sy.map λn=>some (decide (n∈p.2)))
abbrev ya(w:World):=(some (eC.map λx:Str×List Int=>(x.1,hashStr w x.1,x.2)),ext)
abbrev Xt:Shared->Bool:=λs=>xlAt view [] s&&recOk (RowW.records (OpenRow.toRowW PySem.Challenge.rw_neverstuck_k78_whole_put_in_and_out.row)) s
abbrev Yf:Shared->Option (List (Str×Int×List Int))×List (Option (List (Option Bool))):=λs=>(Hd.tabAt s.heap "SHAPES",Hd.sD s.heap (iA.map (·.1)) sy)
def IZ{c b g e d:Type}{o:Option c}{t:c->Option b}{f:b->g×e}{k:b->d}{x:g×e}{y:d}(h:(o.map λs=>(t s).map λu=>((f u).1,k u))=some (some (x.1,y)))(a:(o.map λs=>(t s).map λu=>(f u).2)=some (some x.2)):(o.map λs=>(t s).map λu=>(f u,k u))=some (some (x,y)):=by
 obtain⟨s,rfl,n⟩:=Wl.mp h;obtain⟨u,m,l⟩:=Wl.mp n;rw[WC,m] at a ⊢;injection l with j i
 injection a with a
 injection a with a
 exact congrArg (λz=>some (some z)) (Prod.ext (Prod.ext j a) i)
abbrev tO(b:Bool)(w:World){α:Type}(f:Shared->α):Option (Option α):=(fencedOpening treeTable pw w 20000).map λs₀=>(topFrom treeTable pw (w.withFollow "special-get-raises" b) 20000 s₀).map f
abbrev bb:List Str:=["SHAPES"]
abbrev oS(s:Shared):=openSeen view bb (importedModules pw.main.body) Xt true s
abbrev oG:=openGood view bb
def ad{c b g e r d:Type}{o:Option c}{t:c->Option b}{f:b->g×e×r}{k:b->d}{x:g×e×r}{y:d}(h:(o.map λs=>(t s).map λu=>((f u).1,k u))=some (some (x.1,y)))(a:(o.map λs=>(t s).map λu=>((f u).2.2,(f u).2.1))=some (some (x.2.2,x.2.1))):(o.map λs=>(t s).map λu=>(f u,k u))=some (some (x,y)):=by
 obtain⟨s,rfl,n⟩:=Wl.mp h;obtain⟨u,m,l⟩:=Wl.mp n;rw[WC,m] at a ⊢;injection l with j i
 injection a with a
 injection a with a
 injection a with a q
 exact congrArg (λz=>some (some z)) (Prod.ext (Prod.ext j (Prod.ext q a)) i)
abbrev al:=(true,pinGoodD (drecsOf view),plainGoodE view (looseW view bb),plainGoodD view bb,wideGood view,clsGoodW view bb)
def Tj(w:World):tO false w (λs=>(oS s).2.2.2)=some (some al):=by ac_nf
def Po(w:World):tO true w (λs=>(oS s).2.2.2)=some (some al):=by ac_nf
def am(w:World):tO false w (λs=>((oS s).2.2.1,(oS s).2.1))=some (some (true,bltViewBooted)):=by ac_nf
def ap(w:World):tO true w (λs=>((oS s).2.2.1,(oS s).2.1))=some (some (true,bltViewBooted)):=by ac_nf
def VF(w:World):tO false w (λs=>((oS s).1,Yf s))=some (some (oG.1,ya (w.withFollow "special-get-raises" false))):=by ac_nf
def VE(w:World):tO true w (λs=>((oS s).1,Yf s))=some (some (oG.1,ya (w.withFollow "special-get-raises" true))):=by ac_nf
def RS(w:World):tO false w (λs=>(oS s,Yf s))=some (some (oG,(ya) (w.withFollow "special-get-raises" false))):=ad (x:=oG) (VF w) (IZ (x:=(true,al)) (am w) (Tj w))
def RQ(w:World):tO true w (λs=>(oS s,Yf s))=some (some (oG,(ya) (w.withFollow "special-get-raises" true))):=ad (x:=oG) (VE w) (IZ (x:=(true,al)) (ap w) (Po w))
theorem left:LeftO pw view bb Xt Yf (ya) 20000:=Hd.LD "special-get-raises" RS RQ
theorem NU:PySem.Challenge.rw_neverstuck_k78_whole_put_in_and_out.wellSaid=true:=by
 unfold OpenLaw.wellSaid
 repeat(with_reducible refine look_both ?_ (by decide+kernel))
 unfold OpenRow.wellSaid
 repeat(with_reducible refine look_both ?_ (by decide+kernel))
 unfold OpenRow.partSaid
 repeat(with_reducible refine look_both ?_ (by decide+kernel))
 unfold looksOpen
 repeat(with_reducible refine look_both ?_ (by decide+kernel))
 decide+kernel
end Mi
def ck{a:Type}{p:a}{C:Prop}(h:none=some p):C:=nomatch h
section
open PySem PySem.Spec
namespace L2
open PyProof.Rows
abbrev Key:=Sum Int Str
noncomputable def xI:Key->Value->Bool
 | .inl k,v=>Value.isInt k v
 | .inr x,v=>Value.isStrOf x v
noncomputable def Pc(w:World):Key->Int
 | .inl k=>hashInt k
 | .inr x=>hashStr w x
theorem cF:∀{k:Key} {v:Value},xI k v=true->(∃i t,k=Sum.inl i/\v=Value.int i t)\/(∃x t,k=Sum.inr x/\v=Value.str x t)
 | .inl i,v,h=>by
  obtain⟨t,e⟩:=Value.isInt_shape (k:=i) (v:=v) h;exact .inl ⟨i,t,rfl,e⟩
 | .inr x,v,h=>by
  obtain⟨t,e⟩:=Value.isStrOf_shape (x:=x) (v:=v) h;exact .inr ⟨x,t,rfl,e⟩
def FQ(i:Int)(t:Tok):xI (.inl i) (.int i t)=true:=by simp[xI,Value.isInt]
def FP(x:Str)(t:Tok):xI (.inr x) (.str x t)=true:=by simp[xI,Value.isStrOf]
def Pb(a b:Int):decide ((Sum.inl a:Key)=Sum.inl b)=(a==b):=by
 by_cases e:a=b
 ·subst e;simp
 ·have h:¬(Sum.inl a:Key)=Sum.inl b:=λq=>e (Sum.inl.inj q);rw[WM h];exact(beq_eq_false_iff_ne.mpr e).symm
def O8(a b:Str):decide ((Sum.inr a:Key)=Sum.inr b)=decide (a=b):=by
 by_cases e:a=b
 ·subst e;simp
 ·have h:¬(Sum.inr a:Key)=Sum.inr b:=λq=>e (Sum.inr.inj q);rw[WM h,WM e]
def Pa(a:Int)(b:Str):decide ((Sum.inl a:Key)=Sum.inr b)=false:=WM (λq=>nomatch q)
def O9(a:Str)(b:Int):decide ((Sum.inr a:Key)=Sum.inl b)=false:=WM (λq=>nomatch q)
def bM(prog:Program)(w:World):PySem.KeyKind prog w Key where
 is:=xI
 hash:=Pc w
 inj:=λv a b l f=>by
  rcases cF l with⟨i,t,rfl,rfl⟩ |⟨x,t,rfl,rfl⟩
  ·rcases cF f with⟨j,u,rfl,e⟩ |⟨y,u,rfl,e⟩
   ·injection e with c _;rw[c]
   ·exact nomatch e
  ·rcases cF f with⟨j,u,rfl,e⟩ |⟨y,u,rfl,e⟩
   ·exact nomatch e
   ·injection e with c _;rw[c]
 byValue:=λk v h=>by
  rcases cF h with⟨i,t,rfl,rfl⟩ |⟨x,t,rfl,rfl⟩ <;> rfl
 pyHash:=λd h=>by
  rcases cF d with⟨i,t,rfl,rfl⟩ |⟨x,t,rfl,rfl⟩
  ·exact wpAny_pyHash_int h
  ·exact wpAny_pyHash_str h
 eqBool:=λg d h=>by
  rcases cF g with⟨i,t,rfl,rfl⟩ |⟨x,t,rfl,rfl⟩
  ·rcases cF d with⟨j,u,rfl,rfl⟩ |⟨y,u,rfl,rfl⟩
   ·rw[Pb] at h;exact wpAny_eqBool_int h
   ·rw[Pa] at h;exact SeqAt.EqAt.int_str i t y u _ _ _ _ h
  ·rcases cF d with⟨j,u,rfl,rfl⟩ |⟨y,u,rfl,rfl⟩
   ·rw[O9] at h;exact SeqAt.EqAt.str_int x t j u _ _ _ _ h
   ·rw[O8] at h;exact wpAny_eqBool_str h
 «strs»:=λk x t v h=>by
  rcases cF h with⟨i,u,rfl,e⟩ |⟨y,u,rfl,e⟩
  ·exact nomatch e
  ·injection e with c _
   subst c;cases v <;> rfl
def rJ(prog:Program)(w:World)(i:Int)(t:Tok):(bM prog w).is (.inl i) (.int i t)=true:=FQ i t
def rH(prog:Program)(w:World)(x:Str)(t:Tok):(bM prog w).is (.inr x) (.str x t)=true:=FP x t
inductive V where
 | cu | bl (b:Bool) | int (i:Int) | str (x:Str) | byt (b:Array UInt8) | Qt (b:UInt64) | ref (a:Addr) | ty (n:String)
 deriving DecidableEq
def RelV:V->Value->Prop
 | .cu,u=>u=Value.none
 | .bl b,u=>u=Value.bool b
 | .int i,u=>∃t,u=Value.int i t
 | .str x,u=>∃t,u=Value.str x t
 | .byt b,u=>∃t,u=Value.bytes b t
 | .Qt b,u=>∃t,u=Value.float b t
 | .ref a,u=>u=Value.ref a
 | .ty n,u=>u=Value.type n
abbrev Vals:List V->List Value->Prop:=Paired RelV
theorem Vals.length(r:Vals xs us):xs.length=us.length:=Paired.length r
theorem Vals.get:∀{a:List V} {us:List Value} {i:Nat} {x:V},Vals a us->a[i]?=some x->∃u,us[i]?=some u/\RelV x u
 | _,_,_,_,.nil,e=>by simp at e
 | _,_,0,_,.cons r _,e=>by simp at e;subst e;exact⟨_,rfl,r⟩
 | _,_,i+1,x,.cons _ t,e=>by
  obtain⟨u,c,b⟩:=Vals.get (i:=i) (x:=x) t (by simpa using e);exact⟨u,by simpa using c,b⟩
theorem Vals.set(r:RelV x u):∀{a:List V} {us:List Value} (i:Nat),Vals a us->Vals (a.set i x) (us.set i u)
 | _,_,_,.nil=>.nil
 | _,_,0,.cons _ t=>.cons r t
 | _,_,i+1,.cons q t=>.cons q (Vals.set r i t)
def Vals.append{c b:List V}{us d:List Value}(a:Vals c us)(s:Vals b d):Vals (c++b) (us++d):=by
 induction a with
 | nil=>exact s
 | cons r t e=>exact .cons r e
theorem Vals.take:∀{a:List V} {us:List Value} (n:Nat),Vals a us->Vals (a.take n) (us.take n)
 | _,_,0,_=>.nil
 | _,_,_+1,.nil=>.nil
 | _,_,n+1,.cons r t=>.cons r (Vals.take n t)
theorem Vals.drop:∀{a:List V} {us:List Value} (n:Nat),Vals a us->Vals (a.drop n) (us.drop n)
 | _,_,0,r=>r
 | _,_,_+1,.nil=>.nil
 | _,_,n+1,.cons _ t=>Vals.drop n t
def vG:Option V->Option Value->Prop
 | some v,some u=>RelV v u
 | none,none=>True
 | _,_=>False
def KV{a:Type}:List (a×V)->List (a×Value)->Prop:=Paired λ(p:a×V)(q:a×Value)=>p.1=q.1/\RelV p.2 q.2
noncomputable def kV:Key->V
 | .inl i=>.int i
 | .inr x=>.str x
inductive HO where
 | lst (xs:List V)
 | tup (xs:List V)
 | dK (kvs:List (Key×V)) | dT (kvs:List (List Key×V))
 | set (S:Int->Bool) (n:Nat)
 | ins (C dx:Addr) (fs:List (Str×V))
 | own (x:Addr)
 | xd (fs:List (Str×V))
 | met (f x:Addr)
 | Tg (lo hi:Int)
 | nD (o:Obj) (u:HO)
 | Mw (ps:Array Value)
 | ext (φ:Heap->Prop)
 | El (φ:World->Heap->Prop)
 | tb
abbrev Hp:=Addr->Option HO
noncomputable def upd(H:Hp)(a:Addr)(o:HO):Hp:=λb=>if b=a then some o else H b
def aP:upd H a o a=some o:=by unfold upd;rw[V1 rfl]
def aB(h:b≠a):upd H a o b=H b:=by unfold upd;rw[V4 h]
def RI{H:Hp}{a b:Addr}{o u:HO}(h:H a=some o)(c:H b=some u)(d:o≠u):a≠b:=by
 intro e;subst e;rw[h] at c;exact d (Option.some.inj c)
def aQ{H:Hp}{a b:Addr}{o:HO}(h:H a=some o)(c:H b=none):a≠b:=by
 intro e;subst e;rw[h] at c;cases c
def BA(h:Heap)(a:Addr)(b:Array Value):Prop:=∃o,h.get? a=some o/\o.cls=.type "tuple"/\(∃n,o.data=.seq b n)/\o.dict=none
def BA.tup(x:BA h a items):IsTup h a items:=let⟨o,e,c,d,_⟩:=x;⟨o,e,c,d⟩
def BA.new(h:Heap)(a:Array Value):BA (h.push {cls:=.type "tuple",data:=.seq a}) h.objs.size a:=⟨_,Wn _ rfl,rfl,⟨_,rfl⟩,rfl⟩
section
variable (P:Program) (w:World)
def bQ(H:Hp)(h:Heap)(a:Addr):HO->Prop
 | .lst e=>e.length<=sizeLine/\∃(d:List Value)(n:Nat),Vals e d/\h.get? a=some {cls:=.type "list",data:=.seq d.toArray n}
 | .tup e=>e.length<=sizeLine/\∃d:List Value,Vals e d/\BA h a d.toArray
 | .dK b=>b.length<=sizeLine/\(a==sysModules)=false/\∃j,KV b j/\h.DictOf (bM P w) a j
 | .dT b=>b.length<=sizeLine/\(a==sysModules)=false/\∃e:List (List Key×Addr×Value),
   Paired (λ(p:List Key×V)(q:List Key×Addr×Value)=>p.1=q.1/\H q.2.1=some (.tup (p.1.map kV))/\RelV p.2 q.2.2) b e/\
   ∃o z F,h.get? a=some o/\o.ExactDict/\o.data=.dict z F/\z.toList=e.map (entryOfKey (tupleKind (bM P w)))/\(e.map (·.1)).Nodup
 | .set S n=>h.SetOf (intKind P w) a S n
 | .ins C r fs=>H r=some (.own a)/\fs.length<=1000/\r≠a/\h.get? a=some (PySem.W.instObj C r)/\
   ∃i,h.Ns1 r i/\(∀f,vG (fs.lookup f) (i f))/\PySem.Within i (fs.map (·.1))
 | .own _=>∃o,h.get? a=some o
 | .xd fs=>∃i,h.Ns1 a i/\∀f,vG (fs.lookup f) (i f)
 | .Tg lo E=>∃t u v,h.get? a=some {cls:=.type "range",data:=.fields #[.int lo t,.int E u,.int 1 v]}
 | .nD o u=>h.get? a=some o/\bQ H h a u
 | .Mw k=>h.get? a=some {cls:=.none,data:=.fields k}
 | .met f x=>h.get? a=some (PySem.W.methodObj (.ref f) (.ref x))
 | .ext g=>g h/\(∃o,h.get? a=some o)/\∀m l:Heap,g m->(∀o,m.get? a=some o->l.get? a=some o)->g l
 | .El g=>g w h/\(∃o,h.get? a=some o)/\∀m l:Heap,g w m->(∀o,m.get? a=some o->l.get? a=some o)->g w l
 | .tb=>∃k:Array Value,h.get? a=some {cls:=.none,data:=.fields k}/\TriplesOk k.toList/\∀s c,codeAmong s k.toList=some c->∃A y j q t,c=.ref A/\H A=some (.nD y (.own a))/\y.data=.fields j/\j[1]?=some (.str q t)
def ll(H:Hp)(h:Heap):Prop:=∀a o,H a=some o->bQ P w H h a o
end
theorem bQ.lt(x:bQ P w H h a o):a < h.objs.size:=by
 cases o with
 | lst xs=>obtain⟨_,_,_,_,e⟩:=x;exact V8 e
 | tup xs=>obtain⟨_,_,_,p⟩:=x;exact p.tup.lt
 | dK b=>obtain⟨_,_,_,_,o,_,_,e,_⟩:=x;exact V8 e
 | dT b=>obtain⟨_,_,_,_,o,_,_,e,_⟩:=x;exact V8 e
 | set S n=>obtain⟨o,_,_,_,e,_⟩:=x;exact V8 e
 | ins C i fs=>obtain⟨_,_,_,e,_⟩:=x;exact V8 e
 | own y=>obtain⟨_,e⟩:=x;exact V8 e
 | xd fs=>obtain⟨_,⟨_,_,_,e,_⟩,_⟩:=x;exact V8 e
 | Tg lo g=>obtain⟨_,_,_,e⟩:=x;exact V8 e
 | nD ob u=>obtain⟨e,_⟩:=x;exact V8 e
 | Mw d=>exact V8 (show h.get? a=some _ from x)
 | met f y=>exact V8 (show h.get? a=some _ from x)
 | ext c=>obtain⟨_,⟨_,e⟩,_⟩:=x;exact V8 e
 | El c=>obtain⟨_,⟨_,e⟩,_⟩:=x;exact V8 e
 | tb=>obtain⟨_,e,_⟩:=x;exact V8 e
def Paired.RK{g e:Type}{F G:g->e->Prop}{d:List g}{c:List e}(a:Paired F d c)(f:∀a b,F a b->G a b):Paired G d c:=by
 induction a with
 | nil=>exact .nil
 | cons r t h=>exact .cons (f _ _ r) h
def bQ.pN(x:bQ P w H h a o)(k:∀b u,(b=a\/H b=some (.own a))->h.get? b=some u->I.get? b=some u)
  (R:∀b,H b=some (.own a)->L b=some (.own a)) (ht:∀b l,H b=some (.tup l)->L b=some (.tup l)) (T:∀b o,H b=some (.nD o (.own a))->L b=some (.nD o (.own a)):=by exactλ_ _ q=>q):bQ P w L I a o:=by
 induction o with
 | lst l=>obtain⟨z,j,n,r,e⟩:=x;exact⟨z,j,n,r,k _ _ (.inl rfl) e⟩
 | tup l=>obtain⟨z,j,r,ob,e,c⟩:=x;exact⟨z,j,r,ob,k _ _ (.inl rfl) e,c⟩
 | dK G=>obtain⟨z,y,s,r,ob,g,i,e,c⟩:=x;exact⟨z,y,s,r,ob,g,i,k _ _ (.inl rfl) e,c⟩
 | dT G=>
  obtain⟨z,y,l,r,ob,g,i,e,c⟩:=x;exact⟨z,y,l,Paired.RK r λp q z=>⟨z.1,ht _ _ z.2.1,z.2.2⟩,ob,g,i,k _ _ (.inl rfl) e,c⟩
 | set S n=>obtain⟨ob,g,i,t,e,c⟩:=x;exact⟨ob,g,i,t,k _ _ (.inl rfl) e,c⟩
 | ins C dx fs=>
  obtain⟨d,z,ne,e,F,⟨E,g,i,J,c⟩,r⟩:=x;exact⟨R _ d,z,ne,k _ _ (.inl rfl) e,F,⟨E,g,i,k _ _ (.inr d) J,c⟩,r⟩
 | own y=>obtain⟨ob,e⟩:=x;exact⟨ob,k _ _ (.inl rfl) e⟩
 | xd fs=>obtain⟨F,⟨E,g,i,e,c⟩,r⟩:=x;exact⟨F,⟨E,g,i,k _ _ (.inl rfl) e,c⟩,r⟩
 | Tg lo Z=>obtain⟨t,u,v,e⟩:=x;exact⟨t,u,v,k _ _ (.inl rfl) e⟩
 | nD ob u Q=>obtain⟨e,q⟩:=x;exact⟨k _ _ (.inl rfl) e,Q q⟩
 | Mw m=>
  have e:h.get? a=some {cls:=.none,data:=.fields m}:=x;show I.get? a=some {cls:=.none,data:=.fields m};exact k a _ (.inl rfl) e
 | met f y=>
  have e:h.get? a=some (PySem.W.methodObj (.ref f) (.ref y)):=x;show I.get? a=some (PySem.W.methodObj (.ref f) (.ref y));exact k a _ (.inl rfl) e
 | ext M=>obtain⟨p,⟨o,e⟩,st⟩:=x;exact⟨st _ _ p λo q=>k _ _ (.inl rfl) q,⟨o,k _ _ (.inl rfl) e⟩,st⟩
 | El M=>obtain⟨p,⟨o,e⟩,st⟩:=x;exact⟨st _ _ p λo q=>k _ _ (.inl rfl) q,⟨o,k _ _ (.inl rfl) e⟩,st⟩
 | tb=>
  obtain⟨m,e,t,f⟩:=x;exact⟨m,k _ _ (.inl rfl) e,t,λA c U=>let⟨Y,O,s,q,N,X,J,r⟩:=f A c U;⟨Y,O,s,q,N,X,T _ _ J,r⟩⟩
theorem ll.lt(x:ll P w H h)(e:H a=some o):a < h.objs.size:=(x a o e).lt
def ll.fresh(x:ll P w H h)(e:h.objs.size<=a):H a=none:=by
 cases q:H a with
 | none=>rfl
 | some u=>exact absurd (Ws (x.lt q) e) (Xs _)
def ll.kept(x:ll P w H h)(k:∀b u,h.get? b=some u->h'.get? b=some u):ll P w H h':=λa o e=>
 (x a o e).pN (λb u _ q=>k b u q) (λ_ q=>q) λ_ _ q=>q
def ll.laid(x:ll P w H h)(k:∀b u,h.get? b=some u->h'.get? b=some u)(hp:h.objs.size<=a)(new:bQ P w (upd H a o) h' a o):ll P w (upd H a o) h':=λb u e=>by
 have hn:=x.fresh hp
 by_cases d:b=a
 ·subst d;rw[aP] at e;cases e;exact new
 ·rw[aB d] at e;exact(x b u e).pN (λc v _ q=>k c v q) (λc q=>by rw[aB (aQ q hn)];exact q) (λc f q=>by rw[aB (aQ q hn)];exact q) λc f q=>by rw[aB (aQ q hn)];exact q
def Rd(H:Hp)(a:Addr)(u:HO):Prop:=H a=some u\/∃o,H a=some (.nD o u)
def Rd.ok(r:Rd H a u)(x:ll P w H h):bQ P w H h a u:=by
 rcases r with r |⟨o,r⟩
 ·exact x a u r
 ·obtain⟨_,q⟩:=x a _ r;exact q
def SX:Option HO->Prop
 | some (.lst _)=>True
 | some (.dK _)=>True
 | some (.dT _)=>True
 | some (.set _ _)=>True
 | some (.ins _ _ _)=>True
 | some (.ext _)=>True
 | some (.El _)=>True
 | _=>False
def ll.write(ok:ll P w H h)(f:SX (H x))(s:e=x\/H e=some (.own x))(k:∀b u,b≠e->h.get? b=some u->m.get? b=some u)(l:∃u,m.get? e=some u)
  (new:bQ P w (upd H x p) m x p):ll P w (upd H x p) m:=λb u q=>by
 have d:∀c y,H c=some (.own y)->c≠x:=λc y r z=>by subst z;rw[r] at f;exact f
 have g:∀c i,H c=some (.tup i)->c≠x:=λc i r z=>by subst z;rw[r] at f;exact f
 by_cases j:b=x
 ·subst j;rw[aP] at q;cases q;exact new
 ·rw[aB j] at q
  by_cases a:b=e
  ·have n:H b=some (.own x):=by
    rcases s with z | z
    ·exact absurd (a.trans z) j
    ·rw[a];exact z
   rw[q] at n;cases n;obtain⟨v,t⟩:=l;exact⟨v,by rw[a];exact t⟩
  ·refine(ok b u q).pN (λc v hc r=>k c v ?_ r) (λc r=>by rw[aB (d c b r)];exact r) (λc i r=>by rw[aB (g c i r)];exact r) λc o r=>by rw[aB (λz=>by subst z;rw[r] at f;exact f)];exact r
   rcases hc with rfl | hc
   ·exact a
   ·rintro rfl;rcases s with z | z
    ·exact d c b hc z
    ·rw[hc] at z;cases z;exact j rfl
structure Un(fs ex:List Addr)(H H':Hp)(h h':Heap):Prop where
 keep:∀b o,h.get? b=some o->H b=none->b∉fs->b∉ex->h'.get? b=some o
 slot:∀b o,h.get? b=some o->H b=none->b∈fs->b∉ex->∃sl,h'.get? b=some {o with slots:=sl}
 free:∀b o,h.get? b=some o->H b=none->b∉ex->H' b=none
 there:∀b o,h.get? b=some o->b∉ex->∃o',h'.get? b=some o'
 pG:∀b xs,H b=some (.tup xs)->H' b=some (.tup xs)
 oK:∀b o u,H b=some (.nD o u)->H' b=some (.nD o u)
 pH:∀b ps,H b=some (.Mw ps)->∃more,H' b=some (.Mw (ps++more))
def Un.any(u:Un fs ex H H1 h e)(q:h.get? b=some ob)(n:H b=none)(a:b∉ex):∃d,e.get? b=some {ob with slots:=d}:=by
 by_cases c:b∈fs
 ·exact u.slot b ob q n c a
 ·exact⟨ob.slots,u.keep b ob q n c a⟩
def Un.kept(k:∀b u,h.get? b=some u->h'.get? b=some u):Un fs ex H H h h':=
 ⟨λb ob q _ _ _=>k b ob q,λb ob q _ _ _=>⟨ob.slots,k b ob q⟩,λ_ _ _ n _=>n,λb ob q _=>⟨ob,k b ob q⟩,λ_ _ q=>q,λ_ _ _ q=>q,λ_ a q=>⟨#[],by rw[q];simp⟩⟩
def Un.refl:Un fs ex H H h h:=Un.kept λ_ _ q=>q
def Un.laid(k:∀b u,h.get? b=some u->h'.get? b=some u)(hp:h.objs.size<=a)(hn:H a=none):Un fs ex H (upd H a o) h h' where
 keep:=λb u q _ _ _=>k b u q
 slot:=λb u q _ _ _=>⟨u.slots,k b u q⟩
 free:=λb u q n _=>by rw[aB (Wk (Ws (V8 q) hp))];exact n
 there:=λb u q _=>⟨u,k b u q⟩
 pG:=λb c q=>by rw[aB (aQ q hn)];exact q
 oK:=λb u c q=>by rw[aB (aQ q hn)];exact q
 pH:=λb d q=>⟨#[],by rw[aB (aQ q hn),q];simp⟩
def Un.write(c:SX (H x))(l:e=x\/H e=some (.own x))(k:∀b u,b≠e->h.get? b=some u->i.get? b=some u)(d:∃u,i.get? e=some u):Un fs ex H (upd H x o) h i:=by
 have f:∀b,H b=none->b≠x:=λb n z=>by subst z;rw[n] at c;exact c
 have g:∀b,H b=none->b≠e:=λb n z=>by
  subst z;rcases l with r | r
  ·exact f b n r
  ·rw[n] at r;cases r
 have hm:∀b u,H b=some u->¬SX (some u)->b≠x:=λb u q nm z=>by subst z;rw[q] at c;exact nm c
 refine⟨λb u q n _ _=>k b u (g b n) q,λb u q n _ _=>⟨u.slots,k b u (g b n) q⟩,λb u q n _=>by rw[aB (f b n)];exact n,λb u q _=>?_,
  λb j q=>by rw[aB (hm b _ q λz=>z)];exact q,λb u j q=>by rw[aB (hm b _ q λz=>z)];exact q,λb m q=>⟨#[],by rw[aB (hm b _ q λz=>z),q];simp⟩⟩
 by_cases a:b=e
 ·subst a;exact d
 ·exact⟨u,k b u a q⟩
noncomputable def Te(h:Heap)(H:Hp):List Addr:=(List.range h.objs.size).filter λa=>(H a).isSome
def zi(h:Heap)(H:Hp):Heap:=PySem.W.hideAll h (Te h H)
def FW(h:Heap)(H:Hp):(zi h H).objs.size=h.objs.size:=PySem.W.hideAll_size _ _
def IX(e:h.get? b=some o)(n:H b=none):(zi h H).get? b=some o:=
 Y4 _ e λhm=>by
  have q:(H b).isSome=true:=(ZV.mp hm).2;rw[n] at q;simp at q
def Lz(e:(zi h H).get? b=some o):h.get? b=some o/\H b=none:=by
 have a:h.get? b=some o:=Y9 (Te h H) e;refine⟨a,?_⟩;cases q:H b with
 | none=>rfl
 | some x=>
  have hm:b∈Te h H:=ZV.mpr ⟨XT.mpr (V8 a),by simp[q]⟩;have z:(zi h H).get? b=none:=Xu (Te h H) hm;rw[z] at e;cases e
structure Mod(K:FR)(mg:Str->Option Value)(base:Heap):Prop where
 Ti:K.In base
 glob:base.Ns mainGlobals mg
 blt:∃mb,base.Ns builtinsNs mb/\∀x:Str,x≠"__name__"->mb x=bootBuiltins x
 nolimit:base.NoLimit
structure Cx where
 prog:Program
 w:World
 K:FR
 mg:Str->Option Value
 base:Heap
 A:Around
 N:List Str
 s₀:Shared
 H₀:Hp
 env:Env
 outer:List Env
 stack:List Env
 ex:List Addr
 fn:Str->Bool
 calm:Bool
 pn:List (Addr×Obj)
 xe:Value->Shared->Prop
noncomputable def lP(l:List Env):List Addr:=l.filterMap (·.frame)
abbrev Cx.fs(X:Cx):List Addr:=lP X.outer
def M3(a:Scope)(x:Str):Prop:=a.names.lookup x=some .local\/a.names.lookup x=some .cell\/a.names.lookup x=some .free
def Loc(a:Scope)(x:Str):Prop:=a.names.lookup x=some .local\/a.names.lookup x=some .cell
def Look(env:Env)(h:Heap)(m:Str->Option Value)(x:Str)(u:Value):Prop:=
 (env.kindOf x=some .local/\m x=some u)\/((env.kindOf x=some .cell\/env.kindOf x=some .free)/\∃c,env.cells.lookup x=some c/\h.IsCell c (some u))
structure Cx.Ok(X:Cx):Prop where
 mod:Mod X.K X.mg X.base
 kind:X.env.scope.kind=.function
 glob:X.env.globals=mainGlobals
 blt:X.env.builtins=builtinsNs
 above:X.s₀.heap.objs.size<=X.env.locals
 inj:∀x y c,X.env.cells.lookup x=some c->X.env.cells.lookup y=some c->x=y
 has:∀x,(X.env.kindOf x=some .cell\/X.env.kindOf x=some .free)->∃c,X.env.cells.lookup x=some c
 Qu:∀x c,X.fn x=true->X.env.cells.lookup x=some c->X.s₀.heap.objs.size<=c
 hd:X.calm=true->X.A.handled=none
 frames:X.A.frames=some X.stack
 Q0:X.stack=X.outer\/(X.stack=X.env::X.outer/\X.env.frame=some X.env.locals)
 UM:∀b∈X.ex,b≠X.env.locals/\∀x c,X.env.cells.lookup x=some c->c≠b
 bs:∀b o,X.base.get? b=some o->X.s₀.heap.get? b=some o/\X.H₀ b=none
 Kp:X.base.objs.size<=X.s₀.heap.objs.size
 Fv:∀b o,X.base.get? b=some o->b∉X.ex
 Jk:∀b∈X.ex,b∉X.fs
 qr:X.s₀.heap.FunFrames X.base X.outer
 MR:∀b∈X.fs,X.H₀ b=none
structure Inv(X:Cx)(pins:List (Addr×Obj))(σ:List (Option V))(H:Hp)(s:Shared):Prop where
 ok:X.Ok
 os:s.os=X.s₀.os
 bare:AllBare s.gens
 base:Un X.fs X.ex X.H₀ H X.s₀.heap s.heap
 loc:∃m,s.heap.Ns X.env.locals m/\∀(i:Nat)(x:Str)(v:V),X.N[i]?=some x->σ[i]?=some (some v)->M3 X.env.scope x->∃u,RelV v u/\Look X.env s.heap m x u
 cell:∀x c,X.env.cells.lookup x=some c->∃v,s.heap.IsCell c v
 free:H X.env.locals=none
 iq:∀x c,X.env.cells.lookup x=some c->H c=none
 pin:∀p∈X.pn++pins,s.heap.get? p.1=some p.2/\H p.1=none/\p.1≠X.env.locals/\p.1∉X.fs/\∀v,p.2.data≠.cell v
 bu:ll X.prog X.w H s.heap
 len:σ.length=X.N.length
section
variable {X:Cx} {pins:List (Addr×Obj)} {σ:List (Option V)} {H H':Hp} {s:Shared} {h':Heap}
def Cx.Ok.UC(ok:X.Ok)(e:X.base.get? b=some o):b∉X.fs:=λa=>by
 have:=(ok.qr.mem a).1;rw[e] at this;cases this
theorem Inv.bs(I:Inv X pins σ H s):∀b o,X.base.get? b=some o->s.heap.get? b=some o/\H b=none:=λb o e=>
 ⟨I.base.keep b o (I.ok.bs b o e).1 (I.ok.bs b o e).2 (I.ok.UC e) (I.ok.Fv b o e),I.base.free b o (I.ok.bs b o e).1 (I.ok.bs b o e).2 (I.ok.Fv b o e)⟩
def Inv.bk(I:Inv X pins σ H s):∀b o,X.base.get? b=some o->s.heap.get? b=some o:=λb o e=>(I.bs b o e).1
theorem Inv.mod(I:Inv X pins σ H s):Mod X.K X.mg X.base:=I.ok.mod
def Inv.rK(I:Inv X pins σ H s):X.K.In s.heap:=I.ok.mod.Ti.keeps I.bk
theorem Inv.nolimit(I:Inv X pins σ H s):s.heap.NoLimit:=I.ok.mod.nolimit.keeps I.bk
theorem Inv.lt(I:Inv X pins σ H s):X.env.locals < s.heap.objs.size:=let⟨_,hn,_⟩:=I.loc;hn.lt
def Inv.sz(I:Inv X pins σ H s):X.s₀.heap.objs.size<=s.heap.objs.size:=V2 I.ok.above (XG I.lt)
def Inv.UB(I:Inv X pins σ H s)(h:s.heap.objs.size<=a):a∉X.fs:=λc=>by
 obtain⟨_,o,b,_⟩:=I.ok.qr.mem c;exact absurd (Ws (V8 b) (V2 I.sz h)) (Xs _)
def Inv.Jz(I:Inv X pins σ H s):∀x c,X.env.cells.lookup x=some c->c≠X.env.locals:=λx c e z=>by
 obtain⟨v,o,d,hd⟩:=I.cell x c e;obtain⟨m,⟨f,g,h,a,b,_⟩,_⟩:=I.loc;rw[z,a] at d;cases d;rw[b] at hd;cases hd
theorem Inv.qr(I:Inv X pins σ H s):s.heap.FunFrames X.base X.outer:=by
 have all:∀(l:List Env),(∀b∈lP l,b∈X.fs)->X.s₀.heap.FunFrames X.base l->s.heap.FunFrames X.base l:=by
  intro l
  induction l with
  | nil=>intro _ _;trivial
  | cons env r f=>
   intro hs hl;obtain⟨h,⟨L,o,a,hn,g,hd⟩,hr⟩:=hl;have d:L∈X.fs:=hs L (by unfold lP;rw[Xj,a];exact V3);obtain⟨i,e⟩:=I.base.slot L o g (I.ok.MR L d) d λz=>I.ok.Jk L z d;exact⟨h,⟨L,_,a,hn,e,hd⟩,f (λb c=>hs b (by unfold lP;rw[Xj,a];exact V5 _ c)) hr⟩
 exact all X.outer (λ_ c=>c) I.ok.qr
theorem Inv.stack(I:Inv X pins σ H s):s.heap.FunFrames X.base X.stack:=by
 rcases I.ok.Q0 with e |⟨e,a⟩
 ·rw[e];exact I.qr
 ·rw[e];obtain⟨m,hn,_⟩:=I.loc;refine .cons (by rw[I.ok.kind];decide) a hn ?_ I.qr;exact Heap.get?_none_of_le (V2 I.ok.Kp I.ok.above)
def Inv.pM(I:Inv X pins σ H s):∀b∈lP X.stack,b∈X.env.locals::X.fs:=λb a=>by
 rcases I.ok.Q0 with e |⟨e,c⟩
 ·rw[e] at a;exact V5 _ a
 ·rw[e] at a;unfold lP at a;rw[Xj,c] at a;exact a
def Inv.sJ(I:Inv X pins σ H s):∀b∈lP X.stack,H b=none:=λb a=>by
 rcases Wh.mp (I.pM b a) with e | a
 ·rw[e];exact I.free
 ·obtain⟨_,o,c,_⟩:=I.ok.qr.mem a;exact I.base.free b o c (I.ok.MR b a) λz=>I.ok.Jk b z a
def Inv.step{g':Array GenState}{t':Nat}{d':Drawn}{ch:List Addr}(I:Inv X pins σ H s)
  (g:∀b∈ch,(b∈X.ex\/X.s₀.heap.objs.size<=b)/\b≠X.env.locals/\(∀x c,X.env.cells.lookup x=some c->c≠b)/\∀p∈X.pn++pins,p.1≠b)
  (keep:∀b o,b≠X.env.locals->b∉X.fs->b∉ch->s.heap.get? b=some o->H b=none->h'.get? b=some o)
  (slot:∀b o,b≠X.env.locals->b∈X.fs->b∉ch->s.heap.get? b=some o->H b=none->∃M,h'.get? b=some {o with slots:=M}) (free:∀b o,b∉ch->s.heap.get? b=some o->H b=none->H' b=none)
  (there:∀b o,b∉ch->s.heap.get? b=some o->∃E,h'.get? b=some E)
  (pG:∀b y,H b=some (.tup y)->H' b=some (.tup y)) (oK:∀b o u,H b=some (.nD o u)->H' b=some (.nD o u)) (pH:∀b J,H b=some (.Mw J)->∃more,H' b=some (.Mw (J++more)))
  (ns:∀m,s.heap.Ns X.env.locals m->h'.Ns X.env.locals m) (bu:ll X.prog X.w H' h') (Q:AllBare g'):
  Inv X pins σ H' {s with heap:=h',gens:=g',drawn:=d',toks:=t'}:=by
 have F:∀b o,X.s₀.heap.get? b=some o->b≠X.env.locals:=λb o e=>Wk (Ws (V8 e) I.ok.above);have j:∀b o,X.s₀.heap.get? b=some o->b∉X.ex->b∉ch:=λb o e a A=>by
  rcases(g b A).1 with z | z
  ·exact a z
  ·exact absurd (Ws (V8 e) z) (Xs _)
 have h:∀x c,X.env.cells.lookup x=some c->∀v,s.heap.IsCell c v->h'.IsCell c v:=λx c e v ⟨o,C,hd⟩=>by
  have f:c∉ch:=λz=>(g c z).2.2.1 x c e rfl
  by_cases hc:c∈X.fs
  ·obtain⟨M,q⟩:=slot c o (I.Jz x c e) hc f C (I.iq x c e);exact⟨_,q,hd⟩
  ·exact⟨o,keep c o (I.Jz x c e) hc f C (I.iq x c e),hd⟩
 refine⟨I.ok,I.os,Q,⟨λb o e n A a=>?_,λb o e n A a=>?_,λb o e n a=>?_,λb o e a=>?_,λb y e=>pG b y (I.base.pG b y e),λb o y e=>oK b o y (I.base.oK b o y e),λb J e=>?_⟩,?_,λx c e=>?_,?_,λx c e=>?_,λp hp=>?_,bu,I.len⟩
 ·exact keep b o (F b o e) A (j b o e a) (I.base.keep b o e n A a) (I.base.free b o e n a)
 ·obtain⟨M,t⟩:=I.base.slot b o e n A a;obtain⟨L,G⟩:=slot b _ (F b o e) A (j b o e a) t (I.base.free b o e n a);exact⟨L,G⟩
 ·obtain⟨E,t⟩:=I.base.there b o e a;exact free b E (j b o e a) t (I.base.free b o e n a)
 ·obtain⟨E,t⟩:=I.base.there b o e a;exact there b E (j b o e a) t
 ·obtain⟨P,t⟩:=I.base.pH b J e;obtain⟨O,G⟩:=pH b _ t;exact⟨P++O,by rw[G,Array.append_assoc]⟩
 ·obtain⟨m,hn,hl⟩:=I.loc;refine⟨m,ns m hn,λi x v t G R=>?_⟩;obtain⟨u,r,l⟩:=hl i x v t G R;refine⟨u,r,?_⟩;rcases l with l |⟨k,c,e,z⟩
  ·exact .inl l
  ·exact .inr ⟨k,c,e,h x c e _ z⟩
 ·obtain⟨v,z⟩:=I.cell x c e;exact⟨v,h x c e v z⟩
 ·obtain⟨m,⟨o,_,_,C,_⟩,_⟩:=I.loc;exact free _ o (λz=>(g _ z).2.1 rfl) C I.free
 ·obtain⟨v,o,C,hd⟩:=I.cell x c e;exact free c o (λz=>(g c z).2.2.1 x c e rfl) C (I.iq x c e)
 ·obtain⟨e,n,ne,N,d⟩:=I.pin p hp;have f:p.1∉ch:=λz=>(g p.1 z).2.2.2 p hp rfl;exact⟨keep p.1 p.2 ne N f e n,free p.1 p.2 f e n,ne,N,d⟩
def Inv.un{t':Nat}(I:Inv X pins σ H s)(u:Un X.fs [] H H' s.heap h')(bu:ll X.prog X.w H' h'):Inv X pins σ H' {s with heap:=h',toks:=t'}:=by
 obtain⟨m,⟨o,p,q,g,r⟩,_⟩:=id I.loc;obtain⟨j,i⟩:=u.any g I.free (by simp);exact I.step (g':=s.gens) (d':=s.drawn) (ch:=[]) (λ_ z=>nomatch z) (λb o _ c _ e n=>u.keep b o e n c (by simp)) (λb o _ c _ e n=>u.slot b o e n c (by simp)) (λb o _ e n=>u.free b o e n (by simp)) (λb o _ e=>u.there b o e (by simp)) u.pG u.oK u.pH (λl hm=>by
  obtain⟨k,d,f,a,h⟩:=hm;rw[g] at a;cases a;exact⟨_,d,f,i,h⟩) bu I.bare
def Inv.call{g':Array GenState}{t':Nat}{d':Drawn}{ch:List Addr}(I:Inv X pins σ H s)(u:Un (lP X.stack) ch H H' s.heap h')(bu:ll X.prog X.w H' h')(k:AllBare g')
  (d:∀b∈ch,(b∈X.ex\/X.s₀.heap.objs.size<=b)/\b≠X.env.locals/\(∀x c,X.env.cells.lookup x=some c->c≠b)/\∀p∈X.pn++pins,p.1≠b):
  Inv X pins σ H' {s with heap:=h',gens:=g',drawn:=d',toks:=t'}:=by
 obtain⟨m,⟨o,y,A,i,r⟩,_⟩:=id I.loc;obtain⟨q,f⟩:=u.any i I.free λz=>(d _ z).2.1 rfl;exact I.step (ch:=ch) d (λb o f l hc e n=>u.keep b o e n (λz=>(Wh.mp (I.pM b z)).elim f l) hc) (λb o _ _ hc e n=>u.any e n hc) (λb o hc e n=>u.free b o e n hc) (λb o hc e=>u.there b o e hc) u.pG u.oK u.pH (λv hm=>by
  obtain⟨t,g,h,a,j⟩:=hm;rw[i] at a;cases a;exact⟨_,g,h,f,j⟩) bu k
def Inv.turned{t':Nat}{it:Addr}(I:Inv X pins σ H s)(k:∀b o,b≠it->s.heap.get? b=some o->h'.get? b=some o)(hn:H it=none)(d:it≠X.env.locals)
  (i:it∈X.ex\/X.s₀.heap.objs.size<=it) (h:∀x c,X.env.cells.lookup x=some c->c≠it) (h3:∀p∈X.pn++pins,p.1≠it):Inv X pins σ H {s with heap:=h',toks:=t'}:=by
 have a:∀b u,H b=some u->b≠it:=λb u e z=>by rw[z,hn] at e;cases e
 refine I.step (g':=s.gens) (d':=s.drawn) (ch:=[it]) (λb g=>?_) (λb o _ _ hc e _=>k b o (λz=>hc (by simp[z])) e) (λb o _ _ hc e _=>⟨o.slots,k b o (λz=>hc (by simp[z])) e⟩) (λ_ _ _ _ n=>n)
  (λb o hc e=>⟨o,k b o (λz=>hc (by simp[z])) e⟩) (λ_ _ e=>e) (λ_ _ _ e=>e) (λb t e=>⟨#[],by rw[e];simp⟩) (λm hm=>?_) (λb u e=>?_) I.bare
 ·have e:b=it:=by simpa using g
  subst e;exact⟨i,d,h,h3⟩
 ·obtain⟨o,j,l,f,r⟩:=hm;exact⟨o,j,l,k _ o (XX d) f,r⟩
 ·refine(I.bu b u e).pN (λc v hc q=>k c v ?_ q) (λ_ q=>q) λ_ _ q=>q;rcases hc with z | z
  ·rw[z];exact a b u e
  ·exact a c _ z
def Inv.tok(I:Inv X pins σ H s)(t:Nat):Inv X pins σ H {s with toks:=t}:=I.un (h':=s.heap) (t':=t) Un.refl I.bu
theorem Inv.kept(I:Inv X pins σ H s)(k:∀b u,s.heap.get? b=some u->h'.get? b=some u):Inv X pins σ H {s with heap:=h',toks:=t'}:=I.un (Un.kept k) (I.bu.kept k)
theorem Inv.laid(I:Inv X pins σ H s)(k:∀b u,s.heap.get? b=some u->h'.get? b=some u)(hp:s.heap.objs.size<=a)(new:bQ X.prog X.w (upd H a o) h' a o):
  Inv X pins σ (upd H a o) {s with heap:=h',toks:=t'}:=I.un (Un.laid k hp (I.bu.fresh hp)) (I.bu.laid k hp new)
theorem Inv.write(I:Inv X pins σ H s)(c:SX (H x))(d:e=x\/H e=some (.own x))(k:∀b u,b≠e->s.heap.get? b=some u->h'.get? b=some u)(a:∃u,h'.get? e=some u)(new:bQ X.prog X.w (upd H x o) h' x o):Inv X pins σ (upd H x o) {s with heap:=h',toks:=f}:=I.un (Un.write c d k a) (I.bu.write c d k a new)
def Inv.DU(I:Inv X pins σ H s)(h:∀p∈a,s.heap.get? p.1=some p.2/\H p.1=none/\p.1≠X.env.locals/\p.1∉X.fs/\∀v,p.2.data≠.cell v):Inv X a σ H s:=
 ⟨I.ok,I.os,I.bare,I.base,I.loc,I.cell,I.free,I.iq,λp hp=>(Wz.mp hp).elim (λz=>I.pin p (WU _ z)) (h p),I.bu,I.len⟩
def uJ{N:List Str}(hN:N.Nodup){i j:Nat}{x:Str}(a:N[i]?=some x)(b:N[j]?=some x):i=j:=by
 obtain⟨f,d⟩:=VW.mp a;obtain⟨e,c⟩:=VW.mp b;exact(List.getElem_inj hN).mp (d.trans c.symm)
def pL{M:Model}{A:Around}{E:Value->Shared->Prop}{i:Nat}{x:Str}{v:V}{u:Value}{Q:Unit->Shared->Prop}(I:Inv X pins σ H s)(hN:X.N.Nodup)(R:X.N[i]?=some x)(l:Loc X.env.scope x)(r:RelV v u)
  (h:∀s',Inv X pins (σ.set i (some v)) H s'->(∃a,Heap.SameBut a s.heap s'.heap/\(a=X.env.locals\/X.env.cells.lookup x=some a))->Q () s') (hf:X.fn x=true\/X.env.scope.names.lookup x=some .local:=by first | exact .inl rfl | exact .inr rfl | assumption):wpAny M A (storeName X.env x u) Q E s:=by
 obtain⟨m,hn,hl⟩:=id I.loc;have S:(X.env.scope.kind==.class||(X.env.scope.kind==.module&&X.env.locals !=X.env.globals))=false:=by rw[I.ok.kind];rfl
 have G:i < σ.length:=by rw[I.len];exact(VW.mp R).1
 have Jz:=I.Jz;have f:∀{a:Addr} {h':Heap},(∃o,s.heap.get? a=some o/\H a=none)->Heap.SameBut a s.heap h'->ll X.prog X.w H h':=λ{a h'} ha hs b ob e=>by
  obtain⟨_,_,t⟩:=ha;refine(I.bu b ob e).pN (λc Y hc q=>(hs.2 c ?_).trans q) (λ_ q=>q) λ_ _ q=>q;rintro rfl;rcases hc with rfl | hc
  ·rw[t] at e;cases e
  ·rw[t] at hc;cases hc
 rcases l with F | F
 ·refine wpAny_storeName_local F hn (λh' hn' hs=>?_) S;obtain⟨oL,_,_,hoL,_⟩:=id hn;refine h _ ⟨I.ok,I.os,I.bare,⟨λb o e n L l=>?_,λb o e n L l=>?_,I.base.free,λb o e l=>?_,I.base.pG,I.base.oK,I.base.pH⟩,⟨_,hn',λj y v' g C e3=>?_⟩,λy c e=>?_,I.free,I.iq,λp hp=>?_,f ⟨oL,hoL,I.free⟩ hs,by simpa using I.len⟩ ⟨_,hs,.inl rfl⟩
  ·exact(hs.2 b (Wk (Ws (V8 e) I.ok.above))).trans (I.base.keep b o e n L l)
  ·obtain⟨sl,g⟩:=I.base.slot b o e n L l;exact⟨sl,(hs.2 b (Wk (Ws (V8 e) I.ok.above))).trans g⟩
  ·obtain⟨o',g⟩:=I.base.there b o e l;exact⟨o',(hs.2 b (Wk (Ws (V8 e) I.ok.above))).trans g⟩
  ·by_cases hj:j=i
   ·subst hj;rw[R] at g;cases g;rw[WG G] at C;cases C;exact⟨u,r,.inl ⟨F,by simp⟩⟩
   ·rw[WR (XX hj)] at C;obtain⟨u',r',q⟩:=hl j y v' g C e3;refine⟨u',r',?_⟩;rcases q with⟨k,e⟩ |⟨k,c,e,z⟩
    ·refine .inl ⟨k,?_⟩;have:y≠x:=λe=>hj (uJ hN g (e ▸ R));simp[this,e]
    ·exact .inr ⟨k,c,e,z.sameBut hs (Jz y c e)⟩
  ·obtain⟨Y,z⟩:=I.cell y c e;exact⟨Y,z.sameBut hs (Jz y c e)⟩
  ·obtain⟨e,n,ne,nf,d⟩:=I.pin p hp;exact⟨(hs.2 p.1 ne).trans e,n,ne,nf,d⟩
 ·have J:X.fn x=true:=by
   rcases hf with z | z
   ·exact z
   ·rw[z] at F;cases F
  obtain⟨c,hc⟩:=I.ok.has x (.inl F);obtain⟨Y,z⟩:=I.cell x c hc;refine wpAny_storeName_cell I.ok.kind F hc z (λh' U hs=>?_);obtain⟨oc,P,O⟩:=id z;refine h {s with heap:=h'} ⟨I.ok,I.os,I.bare,⟨λb o e n L l=>?_,λb o e n L l=>?_,I.base.free,λb o e l=>?_,I.base.pG,I.base.oK,I.base.pH⟩,⟨m,hn.sameBut hs (XX (Jz x c hc)),λj y v' g C e3=>?_⟩,λy Z e=>?_,I.free,I.iq,λp hp=>?_,f ⟨oc,P,I.iq x c hc⟩ hs,by simpa using I.len⟩ ⟨c,hs,.inr hc⟩
  ·exact(hs.2 b (Wk (Ws (V8 e) (I.ok.Qu x c J hc)))).trans (I.base.keep b o e n L l)
  ·obtain⟨sl,g⟩:=I.base.slot b o e n L l;exact⟨sl,(hs.2 b (Wk (Ws (V8 e) (I.ok.Qu x c J hc)))).trans g⟩
  ·obtain⟨o',g⟩:=I.base.there b o e l;exact⟨o',(hs.2 b (Wk (Ws (V8 e) (I.ok.Qu x c J hc)))).trans g⟩
  ·by_cases hj:j=i
   ·subst hj;rw[R] at g;cases g;rw[WG G] at C;cases C;exact⟨u,r,.inr ⟨.inl F,c,hc,U⟩⟩
   ·rw[WR (XX hj)] at C;obtain⟨u',r',q⟩:=hl j y v' g C e3;refine⟨u',r',?_⟩;rcases q with q |⟨k,Z,e,z'⟩
    ·exact .inl q
    ·refine .inr ⟨k,Z,e,z'.sameBut hs ?_⟩;rintro rfl;exact hj (uJ hN g (I.ok.inj _ _ _ e hc ▸ R))
  ·by_cases T:Z=c
   ·subst T;exact⟨_,U⟩
   ·obtain⟨w2,z2⟩:=I.cell y Z e;exact⟨w2,z2.sameBut hs T⟩
  ·obtain⟨e,n,ne,nf,d⟩:=I.pin p hp;refine⟨(hs.2 p.1 ?_).trans e,n,ne,nf,d⟩;intro q;rw[q,P] at e;have q':oc=p.2:=Option.some.inj e;exact d Y (by rw[<-q'];exact O)
def g9(I:Inv X pins σ H s)(hN:X.N.Nodup)(c:X.N[i]?=some x)(b:Loc X.env.scope x)(r:RelV v u)(h:∀a,Inv X pins (σ.set i (some v)) H a->Q () a)(d:X.fn x=true\/X.env.scope.names.lookup x=some .local:=by first | exact .inl rfl | exact .inr rfl | assumption):wpAny M A (storeName X.env x u) Q E s:=
 pL I hN c b r (λa e _=>h a e) d
def Inv.call'(I:Inv X pins σ H s)(f:s'.os=s.os)(u:Un (lP X.stack) ch H H' s.heap s'.heap)(bu:ll X.prog X.w H' s'.heap)(g:AllBare s'.gens)(a:∀b∈ch,(b∈X.ex\/X.s₀.heap.objs.size<=b)/\b≠X.env.locals/\(∀x c,X.env.cells.lookup x=some c->c≠b)/\∀p∈X.pn++pins,p.1≠b):Inv X pins σ H' s':=by
 obtain⟨h',g',d',t',d⟩:=s';have e:d=s.os:=f;subst e;exact I.call (g':=g') (t':=t') (d':=d') u bu g a
end
abbrev XK:=Value->Option Addr->Hp->Prop
abbrev St:=List (Option V)
abbrev VK:=V->Hp->Prop
abbrev TE:=St->Hp->VK->Prop
abbrev TT:=St->Hp->(Bool->Hp->Prop)->Prop
abbrev TA:=St->Hp->(List V->Hp->Prop)->Prop
structure Ends where
 nx:St->Hp->Prop
 rt:VK
 bk:St->Hp->Prop:=λ_ _=>False
 ct:St->Hp->Prop:=λ_ _=>False
abbrev TS:=Ends->St->Hp->Prop
inductive Vr(X:Cx)(pins:List (Addr×Obj))(σ:St)(Q:VK)(u:Value)(s':Shared):Prop where
 | mk (v H'):Inv X pins σ H' s'->RelV v u->Q v H'->Vr X pins σ Q u s'
def EP(X:Cx)(a:List (Addr×Obj))(b:St)(Q:VK)(u:Value)(c:Shared):Prop:=Vr X a b Q u c
def TP(X:Cx)(a:List (Addr×Obj))(d:St)(Q:Bool->Hp->Prop)(b:Bool)(e:Shared):Prop:=∃c,Inv X a d c e/\Q b c
inductive Vs(X:Cx)(pins:List (Addr×Obj))(σ:St)(Q:List V->Hp->Prop)(us:List Value)(s':Shared):Prop where
 | mk (vs H'):Inv X pins σ H' s'->Vals vs us->Q vs H'->Vs X pins σ Q us s'
def AP(X:Cx)(a:List (Addr×Obj))(b:St)(Q:List V->Hp->Prop)(us:List Value)(c:Shared):Prop:=Vs X a b Q us c
def SP(X:Cx)(b:List (Addr×Obj))(D:Ends)(f:Flow)(d:Shared):Prop:=
 match f with
 | .next=>∃a c,Inv X b a c d/\D.nx a c
 | .brk=>∃a c,Inv X b a c d/\D.bk a c
 | .cont=>∃a c,Inv X b a c d/\D.ct a c
 | .ret u=>∃v a c,Inv X b a c d/\RelV v u/\D.rt v c
def PE(X:Cx)(e:Expr)(t:TE):Prop:=
 ∀(a:List (Addr×Obj)) (s:Shared) (b:St) (H:Hp) (Q:VK),Inv X a b H s->t b H Q->wpAny (model X.prog X.w) X.A (eval e X.env) (EP X a b Q) X.xe s
def PT(X:Cx)(e:Expr)(t:TT):Prop:=
 ∀(a:List (Addr×Obj)) (s:Shared) (b:St) (H:Hp) (Q:Bool->Hp->Prop),Inv X a b H s->t b H Q->wpAny (model X.prog X.w) X.A (isTrue e X.env (eval e X.env)) (TP X a b Q) X.xe s
def PW(X:Cx)(e:Expr)(t:TT):Prop:=
 ∀(b:Sem Value)(a:List (Addr×Obj)) (s:Shared) (c:St) (H:Hp) (Q:Bool->Hp->Prop),Inv X a c H s->t c H Q->wpAny (model X.prog X.w) X.A (isTrue e X.env b) (TP X a c Q) X.xe s
def PW.pt(h:PW X e t):PT X e t:=h _
def PA(X:Cx)(d:List Expr)(t:TA):Prop:=
 ∀(c:Pos)(a:List (Addr×Obj)) (s:Shared) (b:St) (H:Hp) (Q:List V->Hp->Prop),Inv X a b H s->t b H Q->wpAny (model X.prog X.w) X.A (spliced (backTo c (starEach d X.env))) (AP X a b Q) X.xe s
def PS(X:Cx)(st:Stmt)(t:TS):Prop:=
 ∀(a:List (Addr×Obj)) (s:Shared) (b:St) (H:Hp) (D:Ends),Inv X a b H s->t D b H->wpAny (model X.prog X.w) X.A (exec st X.env) (SP X a D) X.xe s
def zU(X:Cx)(st:List Stmt)(t:TS):Prop:=
 ∀(a:List (Addr×Obj)) (s:Shared) (b:St) (H:Hp) (D:Ends),Inv X a b H s->t D b H->wpAny (model X.prog X.w) X.A (execs st X.env) (SP X a D) X.xe s
def cx(h:wpAny M A t Q E s)(b:∀a s,Q a s->c a s):wpAny M A t c E s:=WA h b λ_ _ x=>x
section
variable {X:Cx}
def TB(i:Nat):TE:=λa H Q=>∃v,a[i]?=some (some v)/\Q v H
def tC(v:V):TE:=λ_ H Q=>Q v H
def Ig(hN:X.N[i]?=some x)(k:M3 X.env.scope x)(hd:(x==("__debug__":Str))=false:=by decide)(g:(x==("__classdict__":Str))=false:=by decide):PE X (.Name x pos) (TB i):=by
 intro f s j H Q I h;obtain⟨v,e,h⟩:=h;obtain⟨m,hn,hl⟩:=I.loc;obtain⟨u,r,l⟩:=hl i x v hN e k;have d:EP X f j Q u s:=⟨v,H,I,r,h⟩;rcases l with⟨b,hm⟩ |⟨b,c,hc,a⟩
 ·exact Zz (ZH I.ok.kind b hn hm d) hd
 ·rcases b with b | b
  ·exact Zz (ZP I.ok.kind b hc a d) hd
  ·exact Zz (wpAny_loadName_free I.ok.kind b hc a d g) hd
def OH{i j pos}:PE X (.Constant (.int i) j pos) (tC (.int i)):=λ_ _ _ H _ I h=>wpAny_Constant_int ⟨.int i,H,I.tok _,⟨_,rfl⟩,h⟩
def Rz{b j pos}:PE X (.Constant (.bool b) j pos) (tC (.bl b)):=λ_ _ _ H _ I h=>Constant_bool ⟨.bl b,H,I,rfl,h⟩
def Ii{j pos}:PE X (.Constant .none j pos) (tC .cu):=λ_ _ _ H _ I h=>Constant_none ⟨.cu,H,I,rfl,h⟩
def OB{x j pos}:PE X (.Constant (.str x) j pos) (tC (.str x)):=λ_ _ _ H _ I h=>Calls.Constant_str ⟨.str x,H,I.tok _,⟨_,rfl⟩,h⟩
def Gl(X:Cx)(x:Str):Prop:=X.env.kindOf x=some .globalImplicit
def jO(I:Inv X pins σ H s)(a:Gl X x)(hm:X.mg x=some u)(h:Q u s)(hd:(x==("__debug__":Str))=false:=by decide):wpAny (model X.prog X.w) X.A (eval (.Name x pos) X.env) Q E s:=
 Aaw I.ok.kind a (Calls.loadGlobal_global (by rw[I.ok.glob];exact I.mod.glob.keeps I.bk) hm h) hd
def jP(I:Inv X pins σ H s)(b:Gl X x)(hm:X.mg x=none)(a:bootBuiltins x=some u)(h:Q u s)(hn:x≠"__name__":=by decide)(hd:(x==("__debug__":Str))=false:=by decide):wpAny (model X.prog X.w) X.A (eval (.Name x pos) X.env) Q E s:=by
 obtain⟨e,d,c⟩:=I.mod.blt;exact Aaw I.ok.kind b (Calls.loadGlobal_builtin (by rw[I.ok.glob];exact I.mod.glob.keeps I.bk) hm (by rw[I.ok.blt];exact d.keeps I.bk) ((c x hn).trans a) h) hd
def DV(a:Gl X x)(hm:X.mg x=some u)(r:RelV v u)(hd:(x==("__debug__":Str))=false:=by decide):PE X (.Name x pos) (tC v):=
 λ_ _ _ H _ I h=>jO I a hm ⟨v,H,I,r,h⟩ hd
def DX(b:Gl X x)(hm:X.mg x=none)(a:bootBuiltins x=some u)(r:RelV v u)(hn:x≠"__name__":=by decide)(hd:(x==("__debug__":Str))=false:=by decide):PE X (.Name x pos) (tC v):=
 λ_ _ _ H _ I h=>jP I b hm a ⟨v,H,I,r,h⟩ hn hd
variable {a b:Expr} {ta tb:TE} {pos:Pos}
def PC(X:Cx)(g:CmpOp)(a b:Expr)(t:TE):Prop:=
 ∀(c:List (Addr×Obj)) (s:Shared) (f:St) (H:Hp) (Q:VK),Inv X c f H s->t f H Q->
  wpAny (model X.prog X.w) X.A (eval a X.env) (λv e=>wpAny (model X.prog X.w) X.A (eval b X.env) (λu d=>wpAny (model X.prog X.w) X.A (compareOp g v u) (EP X c f Q) X.xe d) X.xe e) X.xe s
def tB(t:TE):TT:=λd H Q=>t d H λx e=>∃c,x=.bl c/\Q c e
def Om(h:PC X op a b t)(g:behindInMarks op b=false:=by first | exact e _ (by decide) (by decide) | rfl):PT X (.Compare a [op] [b] pos) (tB t):=by
 intro f s i H Q I l;refine wpAny_isTrue_Compare1 (cx (h f s i H _ I l) λv p g=>cx g λu o m=>cx m λc s3 u9=>?_) g;obtain⟨x,H1,n,j,k⟩:=u9;obtain⟨d,rfl,q⟩:=k;cases j;exact W7 ⟨H1,n,q⟩
variable {tA tB':TT} {rest:List Expr}
def sh(t u:TT):TT:=λd H Q=>t d H λc e=>if c=true then u d e Q else Q false e
def sg(t u:TT):TT:=λd H Q=>t d H λc e=>if c=true then Q true e else u d e Q
def cQ(t:TT):TT:=λd H Q=>t d H λc e=>Q (!c) e
def K8(g:PT X a tA):PW X (.BoolOp .And [a] pos) tA:=by
 intro i d s f H Q I h;refine isTrue_and (cx (g d s f H Q I h) λc j e=>?_);cases c with
 | true=>exact isTrue_and_nil e
 | false=>exact e
def Oh(g:PT X a tA):PW X (.BoolOp .Or [a] pos) tA:=by
 intro i d s f H Q I h;refine isTrue_or (cx (g d s f H Q I h) λc j e=>?_);cases c with
 | false=>exact isTrue_or_nil e
 | true=>exact e
def Oi(k:PT X a tA)(j:PW X (.BoolOp .And (b::rest) pos) tB'):PW X (.BoolOp .And (a::b::rest) pos) (sh tA tB'):=by
 intro i d s e H Q I h;refine isTrue_and (cx (k d s e H _ I h) λc s1 ⟨H1,g,f⟩=>?_);cases c with
 | true=>exact j i d s1 e H1 Q g f
 | false=>exact⟨H1,g,f⟩
def Ru(k:PT X a tA)(j:PW X (.BoolOp .Or (b::rest) pos) tB'):PW X (.BoolOp .Or (a::b::rest) pos) (sg tA tB'):=by
 intro i d s e H Q I h;refine isTrue_or (cx (k d s e H _ I h) λc s1 ⟨H1,g,f⟩=>?_);cases c with
 | true=>exact⟨H1,g,f⟩
 | false=>exact j i d s1 e H1 Q g f
def Ol(f:PT X a tA):PT X (.UnaryOp .Not a pos) (cQ tA):=by
 intro d s e H Q I h;exact isTrue_not (f d s e H (λc g=>Q (!c) g) I h)
def QZ(ta tb:TE):TE:=λd H Q=>ta d H λx e=>∃c,x=.bl c/\if c=true then tb d e Q else Q (.bl false) e
def TH(ta tb:TE):TE:=λd H Q=>ta d H λx e=>∃c,x=.bl c/\if c=true then Q (.bl true) e else tb d e Q
def QS(ta:TE):TE:=λd H Q=>ta d H λx e=>∃c,x=.bl c/\Q (.bl (!c)) e
def OE{op}(h:PE X a t):PE X (.BoolOp op [a] pos) t:=λc s d H Q I e=>BoolOp_one (h c s d H Q I e)
def OI(k:PE X a ta)(j:PE X (.BoolOp .And (b::rest) pos) tb):PE X (.BoolOp .And (a::b::rest) pos) (QZ ta tb):=by
 intro d s f H Q I h;refine BoolOp_and (cx (k d s f H _ I h) λv s1 u9=>?_);obtain⟨x,H1,g,i,e⟩:=u9;obtain⟨c,rfl,e⟩:=e;cases i;refine W7 ?_;cases c with
 | true=>exact j d s1 f H1 Q g e
 | false=>exact⟨.bl false,H1,g,rfl,e⟩
def Rw(k:PE X a ta)(j:PE X (.BoolOp .Or (b::rest) pos) tb):PE X (.BoolOp .Or (a::b::rest) pos) (TH ta tb):=by
 intro d s f H Q I h;refine BoolOp_or (cx (k d s f H _ I h) λv s1 u9=>?_);obtain⟨x,H1,g,i,e⟩:=u9;obtain⟨c,rfl,e⟩:=e;cases i;refine W7 ?_;cases c with
 | false=>exact j d s1 f H1 Q g e
 | true=>exact⟨.bl true,H1,g,rfl,e⟩
def OF(i:PE X a ta):PE X (.UnaryOp .Not a pos) (QS ta):=by
 intro d s f H Q I h;refine UnaryOp_ (cx (i d s f H _ I h) λv s1 u9=>?_);obtain⟨x,H1,j,g,e⟩:=u9;obtain⟨c,rfl,e⟩:=e;cases g;exact not_of (W7 ⟨.bl (!c),H1,j,rfl,e⟩)
def Vz(t:TT)(ta tb:TE):TE:=λd H Q=>t d H λc e=>if c=true then ta d e Q else tb d e Q
def Ik(hc:PT X c tA)(k:PE X a ta)(j:PE X b tb):PE X (.IfExp c a b pos) (Vz tA ta tb):=by
 intro e s f H Q I h;refine wpAny_IfExp (cx (hc e s f H _ I h) λd s1 ⟨H1,i,g⟩=>?_);cases d with
 | true=>exact k e s1 f H1 Q i g
 | false=>exact j e s1 f H1 Q i g
end
def gU(K:FR)(H:Hp)(a:Addr)(c:List V):Prop:=
 Rd H a (.lst c)\/
  ∃(o:Obj)(b:Array Value)(n:Nat),K.lookup a=some o/\o.cls=.type "list"/\o.dict=none/\o.data=.seq b n/\b.size<=sizeLine/\Vals c b.toList
def lj(K:FR)(H:Hp)(a:Addr)(c:List V):Prop:=
 Rd H a (.tup c)\/
  ∃(o:Obj)(b:Array Value)(n:Nat),K.lookup a=some o/\o.cls=.type "tuple"/\o.data=.seq b n/\b.size<=sizeLine/\Vals c b.toList/\o.dict=none
noncomputable def UX:Value->Option V
 | .none=>some .cu
 | .bool b=>some (.bl b)
 | .int i _=>some (.int i)
 | .str x _=>some (.str x)
 | .bytes b _=>some (.byt b)
 | .float b _=>some (.Qt b)
 | .ref a=>some (.ref a)
 | .type n=>some (.ty n)
 | _=>none
def RelV.abs(r:RelV x u):UX u=some x:=by
 cases x with
 | cu=>cases r;rfl
 | bl _=>cases r;rfl
 | int _=>obtain⟨t,rfl⟩:=r;rfl
 | str _=>obtain⟨t,rfl⟩:=r;rfl
 | byt _=>obtain⟨t,rfl⟩:=r;rfl
 | Qt _=>obtain⟨t,rfl⟩:=r;rfl
 | ref _=>cases r;rfl
 | ty _=>cases r;rfl
theorem RelV.inj(r:RelV x u)(q:RelV y u):x=y:=Option.some.inj (r.abs.symm.trans q.abs)
theorem Vals.inj{d c:List V}{us:List Value}(a:Vals d us)(b:Vals c us):d=c:=by
 induction a generalizing c with
 | nil=>cases b;rfl
 | cons r t g=>cases b with | cons f e=>rw[r.inj f,g e]
def gU.of{K:FR}(h:H a=some (.lst xs)):gU K H a xs:=.inl (.inl h)
def Inv.list(I:Inv X pins σ H s)(h:gU X.K H a xs):∃b:List Value,Vals xs b/\PlainL s.heap a b.toArray/\xs.length<=sizeLine:=by
 rcases h with h |⟨o,b,n,c,hc,hd,hs,d,r⟩
 ·obtain⟨z,b,n,r,e⟩:=h.ok I.bu;exact⟨b,r,⟨_,n,e,rfl,rfl,rfl⟩,z⟩
 ·refine⟨b.toList,r,⟨o,n,I.rK a o c,hc,hd,by simpa using hs⟩,?_⟩;have e:=r.length;simp only[XF] at e
  lia
def Inv.tuple(I:Inv X pins σ H s)(h:lj X.K H a xs):∃b:List Value,Vals xs b/\IsTup s.heap a b.toArray/\xs.length<=sizeLine:=by
 rcases h with h |⟨o,b,n,c,hc,hs,d,r,_⟩
 ·obtain⟨z,b,r,p⟩:=h.ok I.bu;exact⟨b,r,p.tup,z⟩
 ·refine⟨b.toList,r,⟨o,I.rK a o c,hc,n,by simpa using hs⟩,?_⟩;have e:=r.length;simp only[XF] at e
  lia
def Inv.AR(I:Inv X pins σ H s)(h:gU X.K H a xs)(k:gU X.K H a i):xs=i:=by
 obtain⟨c,r,⟨o,n,e,_,_,d⟩,_⟩:=I.list h;obtain⟨b,j,⟨l,m,f,_,_,g⟩,_⟩:=I.list k;rw[e] at f;cases f;rw[d] at g;injection g with d1 _
 have:c=b:=by simpa using congrArg Array.toList d1
 subst this;exact r.inj j
def Inv.wN(I:Inv X pins σ H s)(h:lj X.K H a xs)(k:lj X.K H a i):xs=i:=by
 obtain⟨c,r,⟨o,e,_,n,d⟩,_⟩:=I.tuple h;obtain⟨b,j,⟨l,f,_,m,g⟩,_⟩:=I.tuple k;rw[e] at f;cases f;rw[d] at g;injection g with d1 _
 have:c=b:=by simpa using congrArg Array.toList d1
 subst this;exact r.inj j
abbrev Cx.tD(X:Cx)(E:Value->Shared->Prop):Cx:={X with xe:=E}
abbrev Cx.IF(X:Cx):Cx:=X.tD λ_ _=>False
theorem Cx.Ok.tD{X:Cx}(ok:X.Ok)(E:Value->Shared->Prop):(X.tD E).Ok:=
 ⟨ok.mod,ok.kind,ok.glob,ok.blt,ok.above,ok.inj,ok.has,ok.Qu,ok.hd,ok.frames,ok.Q0,ok.UM,ok.bs,ok.Kp,ok.Fv,ok.Jk,ok.qr,ok.MR⟩
def Cx.Ok.iR{X:Cx}{E:Value->Shared->Prop}(ok:(X.tD E).Ok):X.Ok:=
 ⟨ok.mod,ok.kind,ok.glob,ok.blt,ok.above,ok.inj,ok.has,ok.Qu,ok.hd,ok.frames,ok.Q0,ok.UM,ok.bs,ok.Kp,ok.Fv,ok.Jk,ok.qr,ok.MR⟩
theorem Inv.tD(I:Inv X pins σ H s)(E:Value->Shared->Prop):Inv (X.tD E) pins σ H s:=⟨I.ok.tD E,I.os,I.bare,I.base,I.loc,I.cell,I.free,I.iq,I.pin,I.bu,I.len⟩
theorem Inv.iR(I:Inv (X.tD E) pins σ H s):Inv X pins σ H s:=⟨I.ok.iR,I.os,I.bare,I.base,I.loc,I.cell,I.free,I.iq,I.pin,I.bu,I.len⟩
theorem SP.iR(h:SP (X.tD E) pins D f c):SP X pins D f c:=by
 cases f with
 | next=>obtain⟨a,b,I,q⟩:=h;exact⟨a,b,I.iR,q⟩
 | brk=>obtain⟨a,b,I,q⟩:=h;exact⟨a,b,I.iR,q⟩
 | cont=>obtain⟨a,b,I,q⟩:=h;exact⟨a,b,I.iR,q⟩
 | ret u=>obtain⟨v,a,b,I,r,q⟩:=h;exact⟨v,a,b,I.iR,r,q⟩
theorem zU.IF{st:List Stmt}{t:TS}(h:zU X.IF st t):zU X st t:=λa s b H D I c=>
 WA (h a s b H D (I.tD _) c) (λ_ _ q=>q.iR) λ_ _ z=>False.elim z
section
variable {X:Cx} {st:Stmt} {rest:List Stmt} {t u:TS} {e:Expr} {te:TE} {pos:Pos}
def QU:TS:=λD a H=>D.nx a H
def QO(t u:TS):TS:=λD a H=>t {D with nx:=u D} a H
def Lb:zU X [] QU:=λ_ _ a H _ I h=>YS ⟨a,H,I,h⟩
def Az(i:PS X st t)(g:zU X rest u):zU X (st::rest) (QO t u):=by
 intro a s c H D I h;refine XZ (cx (i a s c H {D with nx:=u D} I h) λf d q=>?_);cases f with
 | next=>
  obtain⟨b,k,j,q⟩:=q;exact g a d b k D j q
 | ret v=>exact q
 | brk=>exact q
 | cont=>exact q
def La(c:PS X st t):zU X [st] t:=by
 intro a s b H D I h;refine XZ (cx (c a s b H D I h) λf d q=>?_);cases f with
 | next=>exact YS q
 | ret v=>exact q
 | brk=>exact q
 | cont=>exact q
def Inv.quiet(I:Inv X pins σ H s):interactive X.env=false:=by simp[interactive,I.ok.kind]
def QX(te:TE):TS:=λD a H=>te a H λ_ b=>D.nx a b
def Ld(d:PE X e te)(hs:swapsWith e none pos.line X.env=pure false:=by rfl):PS X (.Expr e pos) (QX te):=by
 intro a s b H D I h;exact wpAny_Expr_any (cx (d a s b H _ I h) λv s1 ⟨x,H1,f,g,c⟩=>⟨b,H1,f,c⟩) I.quiet hs
def TF(te:TE):TS:=λD a H=>te a H D.rt
def Oo(f:PE X e te):PS X (.Return (some e) pos) (TF te):=by
 intro a s b H D I h;exact wpAny_Return_some (cx (f a s b H _ I h) λv s1 ⟨x,H1,g,c,d⟩=>⟨x,b,H1,g,c,d⟩)
def TQ(c:TT)(t u:TS):TS:=λD a H=>c a H λb d=>if b=true then t D a d else u D a d
def MJ(hc:PT X c k)(m:zU X a t)(l:zU X b u):PS X (.If c a b pos) (TQ k t u):=by
 intro f s g H D I h;refine wpAny_If (cx (hc f s g H _ I h) λd s1 ⟨H1,j,i⟩=>?_);cases d with
 | true=>exact m f s1 g H1 D j i
 | false=>exact l f s1 g H1 D j i
def Ny:TS:=λ_ _ _=>False
def HX:PS X st Ny:=λ_ _ _ _ _ _ h=>h.elim
end
abbrev TG:=V->St->Hp->(St->Hp->Prop)->Prop
abbrev Mo:=List V->St->Hp->(St->Hp->Prop)->Prop
def PG(X:Cx)(a:Expr)(t:TG):Prop:=
 ∀(b:List (Addr×Obj)) (s:Shared) (d:St) (H:Hp) (v:V) (u:Value) (Q:St->Hp->Prop),Inv X b d H s->RelV v u->t v d H Q->
  wpAny (model X.prog X.w) X.A (assign a X.env u) (λ_ f=>∃c e,Inv X b c e f/\Q c e) X.xe s
def Mp(X:Cx)(f:List Expr)(t:Mo):Prop:=
 ∀(a:List (Addr×Obj)) (s:Shared) (c:St) (H:Hp) (d:List V) (us:List Value) (Q:St->Hp->Prop),Inv X a c H s->Vals d us->t d c H Q->
  wpAny (model X.prog X.w) X.A (assignInOrder ((assignEach f X.env).map (·.2)) us) (λ_ g=>∃b e,Inv X a b e g/\Q b e) X.xe s
abbrev Sw:=V->V->V->Hp->(Hp->Prop)->Prop
def Qo(X:Cx)(t:Sw):Prop:=
 ∀(a:List (Addr×Obj)) (s:Shared) (b:St) (H:Hp) (o i v:V) (c d u:Value) (Q:Hp->Prop),Inv X a b H s->RelV o c->RelV i d->RelV v u->t o i v H Q->
  wpAny (model X.prog X.w) X.A (setItem c d u) (λ_ f=>∃e,Inv X a b e f/\Q e) X.xe s
abbrev Vh:=V->V->Hp->VK->Prop
def SV(X:Cx)(c:Operator)(t:Vh):Prop:=
 ∀(a:List (Addr×Obj)) (s:Shared) (b:St) (H:Hp) (x y:V) (v u:Value) (Q:VK),Inv X a b H s->RelV x v->RelV y u->t x y H Q->
  wpAny (model X.prog X.w) X.A (inplaceOp c v u) (EP X a b Q) X.xe s
def rL(i:Nat):TG:=λv a H Q=>Q (a.set i (some v)) H
def Lq(hN:X.N.Nodup)(c:X.N[i]?=some x)(b:Loc X.env.scope x)(d:X.fn x=true\/X.env.scope.names.lookup x=some .local:=by first | exact .inl rfl | exact .inr rfl | assumption):PG X (.Name x pos) (rL i):=by
 intro a s f H v u Q I r h;exact ZY (g9 I hN c b r (λg e=>⟨_,H,e,h⟩) d)
noncomputable def UK:Mo:=λb a H Q=>b=[]/\Q a H
def RV(t:TG)(u:Mo):Mo:=λc b H Q=>∃v r,c=v::r/\t v b H λa d=>u r a d Q
def Lo:Mp X [] UK:=by
 intro a s b H c us Q I r h;obtain⟨e,h⟩:=h;subst e;cases r;exact assignInOrder_nil ⟨b,H,I,h⟩
def Ie(j:PG X e t)(i:Mp X c u)(hs:(assignEach (e::c) X.env).map (·.2)=assign e X.env::(assignEach c X.env).map (·.2):=by rfl):Mp X (e::c) (RV t u):=by
 intro a s d H m us Q I r h;obtain⟨v,n,k,h⟩:=h;subst k;cases r with
 | cons r f=>
  rw[hs];refine Aap (cx (j a s d H _ _ _ I r h) λ_ s1 u9=>?_);obtain⟨b,H1,l,g⟩:=u9;exact i a s1 b H1 _ _ Q l f g
def UI(K:FR)(n:Nat)(t:Mo):TG:=λv c H Q=>∃a b,v=.ref a/\lj K H a b/\b.length=n/\t b c H Q
def Ox(hc:X.calm=true)(h:Mp X g t)(hn:(assignEach g X.env).length=n:=by rfl)(f:(assignEach g X.env).findIdx? (·.1)=none:=by rfl):PG X (.Tuple g k pos) (UI X.K n t):=by
 intro c s i H v u Q I r d;obtain⟨a,j,w,p,hl,d⟩:=d;subst w;cases r;obtain⟨l,rv,ht,y⟩:=I.tuple p;refine assign_Tuple_tuple (I.ok.hd hc) ht (by simp[hn,<-hl,rv.length]) f λq m=>?_;have x:Inv X c i H {s with heap:=q}:=I.kept (t':=s.toks) λb o e=>m b o (Wk (V8 e)) e;exact h c _ i H j _ Q x (by simpa using rv) d
def wA(b c:TE)(t:Sw):TG:=λv a H Q=>b a H λo f=>c a f λi e=>t o i v e λd=>Q a d
def Oy (m:PE X o to) (n:PE X i e) (hs:Qo X t) (p:∀v,assign (.Subscript o i pos) X.env v=(do
   let b<-holding [v] (eval o X.env);let c<-holding [v,b] (eval i X.env)
   standAt pos
   holding [v,b,c] (setItem b c v)
   release [v,b,c] []):=by intro _;rfl):PG X (.Subscript o i pos) (wA to e t):=by
 intro a s d H v u Q I r h;rw[p];refine VT (WE (cx (m a s d H _ I h) λb s1 u9=>?_));obtain⟨x,H1,z,g,l⟩:=u9;refine VT (WE (cx (n a s1 d H1 _ z l) λc s2 u9=>?_));obtain⟨y,C,w,f,k⟩:=u9;refine VT (W5 (VT (WE (cx (hs a s2 d C x y v b c u _ w g f r k) λ_ s3 ⟨A,q,j⟩=>?_))));exact wpAny_release ⟨d,A,q,j⟩
def ES(b:TE)(g:TG):TS:=λD a H=>b a H λx c=>g x a c D.nx
def Ia(l:PE X e d)(k:PG X b g)(hs:swapsWithSole [b] e pos.line X.env=pure false:=by rfl)(j:swappedStores [b] e X.env=pure none:=by rfl)(m:(assignEach [b] X.env).map (·.2)=[assign b X.env]:=by rfl):PS X (.Assign [b] e pos) (ES d g):=by
 intro a s c H D I h;refine wpAny_Assign_stores (cx (l a s c H _ I h) λv s1 u9=>?_) hs j;obtain⟨x,H1,n,f,i⟩:=u9;rw[m];exact cx (k a s1 c H1 x v _ n f i) λ_ o q=>q
def Cs(hN:X.N.Nodup)(j:X.N[i]?=some x)(g:Loc X.env.scope x)(l:PE X e c)(hs:swapsWith e (some (.Name x pos')) pos.line X.env=pure false:=by rfl)(k:X.fn x=true\/X.env.scope.names.lookup x=some .local:=by first | exact .inl rfl | exact .inr rfl | assumption):
  PS X (.Assign [.Name x pos'] e pos) (ES c (rL i)):=by
 intro a s b H D I h;refine wpAny_Assign_Name (cx (l a s b H _ I h) λv s1 u9=>?_) hs;obtain⟨y,H1,n,d,f⟩:=u9;exact g9 n hN j g d (λo m=>⟨_,H1,m,f⟩) k
def QQ(i j:Nat)(c:TA):TS:=λD a H=>c a H λb d=>∃v w,b=[v,w]/\D.nx ((a.set i (some v)).set j (some w)) d
def Ct{kt k d}(hc:X.calm=true)(hN:X.N.Nodup)(L:X.N[i]?=some x)(hj:X.N[j]?=some y)(m:i≠j)(u:X.env.scope.names.lookup x=some .local)(t:X.env.scope.names.lookup y=some .local)(M:PA X [a,b] C)(J:swappedStores [.Tuple [.Name x r,.Name y py] kt pt] (.Tuple [a,b] k d) X.env=pure (some [x,y]))(hs:swapsWithSole [.Tuple [.Name x r,.Name y py] kt pt] (.Tuple [a,b] k d) pos.line X.env=pure false:=by rfl):
  PS X (.Assign [.Tuple [.Name x r,.Name y py] kt pt] (.Tuple [a,b] k d) pos) (QQ i j C):=by
 intro c s n H D I h;rw[exec_Assign_arm];refine VT (W5 ?_);rw[hs];refine VT (VY ?_);rw[V4 (by decide)];refine VT (Tuple_ (cx (M _ c s n H _ I h) λus s1 u9=>?_));obtain⟨T,H1,S,E,g⟩:=u9;obtain⟨v,w,O,g⟩:=g;subst O;obtain⟨u1,u2,rfl,rv,f⟩:∃u1 u2,us=[u1,u2]/\RelV v u1/\RelV w u2:=by
  cases E with
  | cons p q=>
   cases q with
   | cons G F=>
    cases F;exact⟨_,_,rfl,p,G⟩
 refine W2 ?_ (by show 2<=sizeLine;decide);have R:Inv X c n H1 {s1 with heap:=s1.heap.push {cls:=.type "tuple",data:=.seq [u1,u2].toArray}}:=S.kept (t':=s1.toks) λb o e=>V0 _ e;rw[J];refine VT (VY ?_);show wpAny (model X.prog X.w) X.A (do rule "assign.swapped-stores";let items<-unpackItems (.ref s1.heap.objs.size) 2 none;assignInOrder [λv=>bindName X.env y v,λv=>bindName X.env x v] items.reverse;pure Flow.next) _ _ _;refine VT (Yq (VT (unpackItems_tuple (items:=#[u1,u2]) (I.ok.hd hc) (IsTup.new s1.heap _) λh' l=>?_)));have Q:=R.kept (h':=h') (t':=s1.toks) λb o e=>l b o (Wk (V8 e)) e;show wpAny _ _ (assignInOrder [λv=>bindName X.env y v,λv=>bindName X.env x v] [u2,u1] >>=λ_=>pure Flow.next) _ _ _;refine VT (Aap (wpAny_bindName (g9 Q hN hj (.inl t) f (λY P=>?_) (.inr t))));refine Aap (wpAny_bindName (g9 P hN L (.inl u) rv (λU z=>assignInOrder_nil (VY ?_)) (.inr u)));rw[List.set_comm _ _ (XX m)] at z;exact⟨_,H1,z,g⟩
def TR(i:Nat)(c:TE)(b:Vh):TS:=λD a H=>∃x,a[i]?=some (some x)/\c a H λy e=>b x y e λz d=>D.nx (a.set i (some z)) d
def Ot(hN:X.N.Nodup)(p:X.N[i]?=some x)(n:Loc X.env.scope x)(M:PE X e t)(J:SV X op q)(L:X.fn x=true\/X.env.scope.names.lookup x=some .local:=by first | exact .inl rfl | exact .inr rfl | assumption):
  PS X (.AugAssign (.Name x pos') op e pos) (TR i t q):=by
 intro a s o H D I h;obtain⟨v,O,h⟩:=h;obtain⟨m,hn,hl⟩:=I.loc;have j:M3 X.env.scope x:=by rcases n with k | k;exact .inl k;exact .inr (.inl k)
 obtain⟨u,r,l⟩:=hl i x v p O j;refine wpAny_AugAssign_Name ?_;have go:wpAny (model X.prog X.w) X.A (eval e X.env) (λw g=>wpAny (model X.prog X.w) X.A (inplaceOp op u w) (λr f=>wpAny (model X.prog X.w) X.A (storeName X.env x r) (λ_=>SP X a D .next) X.xe f) X.xe g) X.xe s:=by
  refine cx (M a s o H _ I h) λw s1 u9=>?_;obtain⟨y,H1,R,E,G⟩:=u9;refine cx (J a s1 o H1 v y u w _ R r E G) λz s2 u9=>?_;obtain⟨T,S,Q,C,F⟩:=u9;exact g9 Q hN p n C (λU P=>⟨_,S,P,F⟩) L
 rcases l with⟨b,hm⟩ |⟨b,c,hc,d⟩
 ·exact ZH I.ok.kind b hn hm go
 ·rcases b with b | b
  ·exact ZP I.ok.kind b hc d go
  ·rcases n with k | k
   ·have:X.env.scope.names.lookup x=some .free:=b;rw[k] at this;cases this
   ·have:X.env.scope.names.lookup x=some .free:=b;rw[k] at this;cases this
structure It where
 go:Nat->Hp->Prop
 Mv:Nat->Hp->V->Hp->Prop
 stop:Nat->Hp->Prop
def i5(X:Cx)(a:List (Addr×Obj))(H:Hp)(b:Addr):Prop:=
 H b=none/\b≠X.env.locals/\b∉X.fs/\(b∈X.ex\/X.s₀.heap.objs.size<=b)/\(∀x c,X.env.cells.lookup x=some c->c≠b)/\∀p∈X.pn++a,p.1≠b
def Inv.A9(I:Inv X pins σ H s)(a:s.heap.objs.size<=b)(hn:H' b=none):i5 X pins H' b:=by
 refine⟨hn,Y7 (Ws I.lt a),I.UB a,.inr (V2 I.sz a),λx c e z=>?_,λp hp z=>?_⟩
 ·obtain⟨v,q⟩:=I.cell x c e;exact absurd (Ws q.lt (by rw[z];exact a)) (Xs _)
 ·exact absurd (Ws (V8 (I.pin p hp).1) (by rw[z];exact a)) (Xs _)
structure Turn(P:Program)(w:World)(K:FR)(tg:Expr)(J:It)(fp:List Addr)(it:Addr)(tn:Nat->Heap->Prop):Prop where
 mem:it∈fp
 obj:∀i h,tn i h->∀b∈fp,∃o,h.get? b=some o/\∀v,o.data≠.cell v
 keep:∀i h h',tn i h->(∀b∈fp,∀o,h.get? b=some o->h'.get? b=some o)->tn i h'
 item:∀(X:Cx),X.prog=P->X.w=w->X.K=K->X.calm=true->∀(i:Nat)(pins:List (Addr×Obj)) (s:Shared) (σ:St) (H:Hp) (E:Value->Shared->Prop),Inv X pins σ H s->(∀b∈fp,i5 X pins H b)->tn i s.heap->J.go i H->
  wpAny (model P w) X.A (pyNext (.ref it)) (λr s1=>∃u,r=some u/\
   wpAny (model P w) X.A (letOwnedTupleGo tg (.ref it) u) (λ_ s2=>∃x H',Inv X pins σ H' s2/\RelV x u/\J.Mv i H x H'/\tn (i+1) s2.heap/\∀b∈fp,H' b=none) E s1) E s
 done:∀(X:Cx),X.prog=P->X.w=w->X.K=K->X.calm=true->∀(i:Nat)(pins:List (Addr×Obj)) (s:Shared) (σ:St) (H:Hp) (E:Value->Shared->Prop),Inv X pins σ H s->(∀b∈fp,i5 X pins H b)->tn i s.heap->J.stop i H->
  wpAny (model P w) X.A (pyNext (.ref it)) (λr s1=>r=none/\Inv X pins σ H s1) E s
 self:∀(A:Around)(i:Nat)(s:Shared)(Q:Value->Shared->Prop)(E:Value->Shared->Prop),tn i s.heap->Q (.ref it) s->wpAny (model P w) A (pyIter (.ref it)) Q E s
abbrev TI:=St->Hp->(It->Hp->Prop)->Prop
def U1(X:Cx)(a:List (Addr×Obj))(i:St)(j:Expr)(R:It->Hp->Prop)(c:Value)(f:Shared):Prop:=
 ∃(g:Addr)(h:List Addr)(e:Nat->Heap->Prop)(J:It)(d:Hp),c=.ref g/\Inv X a i d f/\Turn X.prog X.w X.K j J h g e/\e 0 f.heap/\(∀b∈h,i5 X a d b)/\R J d
def PI(X:Cx)(e b:Expr)(d:TI):Prop:=
 ∀(a:List (Addr×Obj)) (s:Shared) (c:St) (H:Hp) (R:It->Hp->Prop),Inv X a c H s->d c H R->
  wpAny (model X.prog X.w) X.A (eval b X.env) (λv f=>wpAny (model X.prog X.w) X.A (pyIter v) (U1 X a c e R) X.xe f) X.xe s
def AZ(d:s.heap.get? it=some o)(hc:o.cls=.type n)(hd:o.data=.fields b)(hn:["enumerate","zip","dict_itemiterator","dict_reverseitemiterator","odict_iterator","itertools.zip_longest","itertools.pairwise"].contains n=false)(a:Q () s):wpAny M A (letOwnedTupleGo c (.ref it) u) Q E s:=by
 unfold letOwnedTupleGo;cases c <;> first
  | exact VY a
  |(cases u <;> first
    | exact VY a
    |(refine VT (wpAny_load d ?_);rw[hc,hd];show wpAny M A (if(["enumerate","zip","dict_itemiterator","dict_reverseitemiterator","odict_iterator","itertools.zip_longest","itertools.pairwise"].contains n&&b[0]?==some (rawInt _))=true then _ else _) Q E s;rw[V4 (by intro h;rw[hn,Bool.false_and] at h;cases h)];exact VY a))
noncomputable def U4(K:FR)(a:Addr):It:=
 ⟨λi H=>∃b x,gU K H a b/\b[i]?=some x,λi H x c=>c=H/\∀b,gU K H a b->b[i]?=some x,λi H=>∃b,gU K H a b/\b.length<=i⟩
noncomputable def U3(K:FR)(a:Addr):It:=
 ⟨λi H=>∃b x,lj K H a b/\b[i]?=some x,λi H x c=>c=H/\∀b,lj K H a b->b[i]?=some x,λi H=>∃b,lj K H a b/\b.length<=i⟩
noncomputable def Tr(a:Int)(n:Nat):It:=⟨λi _=>i < n,λi H x b=>b=H/\x=.int (a+i),λi _=>n<=i⟩
def EK{P:Program}{w:World}{K:FR}{Q:Expr}(a g:Addr):Turn P w K Q (U4 K a) [g] g (λi h=>h.IsListIter g a i) where
 mem:=by simp
 obj:=λi h st b j=>by
  have e:b=g:=by simpa using j
  subst e;obtain⟨o,e,c,d⟩:=st;exact⟨o,e,λv z=>by rw[d] at z;cases z⟩
 keep:=λi h q st k=>st.at λo e=>k g (by simp) o e
 item:=by
  intro X C y F hc i f s N H E I n st A;subst C y F;obtain⟨O,x,m,t⟩:=A;obtain⟨r,rv,p,S⟩:=I.list m;obtain⟨u,U,R⟩:=rv.get t;obtain⟨f0,M,Y,L,J,G⟩:=n g (by simp);refine wpAny_pyNext_list_item st p.isList (x:=u) (by simpa using U) λq l sb=>?_;have I1:Inv X f N H {s with heap:=q}:=I.turned (t':=s.toks) (λb o j e=>(sb.2 b j).trans e) f0 M L J G;obtain⟨o,e,c,d⟩:=id l;exact⟨u,rfl,AZ (s:={s with heap:=q}) e c d (by decide) ⟨x,H,I1,R,⟨rfl,λys T=>by rw[I.AR T m];exact t⟩,l,λb j=>(n b j).1⟩⟩
 done:=by
  intro X C y F hc i f s N H E I n st A;subst C y F;obtain⟨O,m,t⟩:=A;obtain⟨r,rv,p,S⟩:=I.list m;obtain⟨f0,M,Y,L,J,G⟩:=n g (by simp);have hl:=rv.length;exact wpAny_pyNext_list_end (I.ok.hd hc) st p.isList (by simp;lia) λq Z=>⟨rfl,I.turned (t':=s.toks) (λb o j e=>Z b o j e) f0 M L J G⟩
 self:=λ_ _ _ _ _ st h=>wpAny_pyIter_listiter st h
def BL{P:Program}{w:World}{K:FR}{Q:Expr}(a j:Addr):Turn P w K Q (U3 K a) [j] j (λi h=>h.IsTupleIter j a i) where
 mem:=by simp
 obj:=λi h st b l=>by
  have e:b=j:=by simpa using l
  subst e;obtain⟨o,e,c,d⟩:=st;exact⟨o,e,λv z=>by rw[d] at z;cases z⟩
 keep:=λi h r st k=>st.at λo e=>k j (by simp) o e
 item:=by
  intro X C y F hc i f s N H E I q st A;subst C y F;obtain⟨O,x,n,t⟩:=A;obtain⟨g,rv,p,S⟩:=I.tuple n;obtain⟨u,U,R⟩:=rv.get t;obtain⟨f0,M,Y,L,J,G⟩:=q j (by simp);refine wpAny_pyNext_tuple_item st (show s.heap.IsTuple a g.toArray from p) (x:=u) (by simpa using U) λr m sb=>?_;have I1:Inv X f N H {s with heap:=r}:=I.turned (t':=s.toks) (λb o l e=>(sb.2 b l).trans e) f0 M L J G;obtain⟨o,e,c,d⟩:=id m;exact⟨u,rfl,AZ (s:={s with heap:=r}) e c d (by decide) ⟨x,H,I1,R,⟨rfl,λys T=>by rw[I.wN T n];exact t⟩,m,λb l=>(q b l).1⟩⟩
 done:=by
  intro X C y F hc i f s N H E I q st A;subst C y F;obtain⟨O,n,t⟩:=A;obtain⟨g,rv,p,S⟩:=I.tuple n;obtain⟨f0,M,Y,L,J,G⟩:=q j (by simp);have hl:=rv.length;exact wpAny_pyNext_tuple_end (I.ok.hd hc) st (show s.heap.IsTuple a g.toArray from p) (by simp;lia) λr Z=>⟨rfl,I.turned (t':=s.toks) (λb o l e=>Z b o l e) f0 M L J G⟩
 self:=λ_ _ _ _ _ st h=>wpAny_pyIter_tupleiter st h
def BM{P:Program}{w:World}{K:FR}{J:Expr}(c:Addr)(g:Int)(n:Nat):Turn P w K J (Tr g n) [c] c (λi h=>IsRangeIter h c (g+(i:Nat)*1) ((n:Int)-(i:Nat)) 1) where
 mem:=by simp
 obj:=λi h st b d=>by
  have e:b=c:=by simpa using d
  subst e;exact⟨_,st,λv z=>by
   have G:Data.fields _=Data.cell v:=z;cases G⟩
 keep:=λi h l st k=>k c (by simp) _ st
 item:=by
  intro X q m r hc i a s C H E I j st p;subst q m r;obtain⟨f0,A,N,y,x,u⟩:=j c (by simp);have W:=Walks.range (prog:=X.prog) (w:=X.w) (I.ok.hd hc) c g 1 n;refine W.item i s _ _ p st λv l F M f L=>?_;obtain⟨t,rfl⟩:=M;have Q:Inv X a C H {s with heap:=l,toks:=F}:=I.turned (λb o d e=>L b o (by simpa using d) e) f0 A y x u;refine⟨_,rfl,AZ (s:={s with heap:=l,toks:=F}) (n:="range_iterator") f rfl rfl (by decide) ⟨.int (g+i),H,Q,⟨t,?_⟩,⟨rfl,rfl⟩,f,λb d=>(j b d).1⟩⟩;rw[Int.mul_one]
 done:=by
  intro X q m r hc i a s C H E I j st p;subst q m r;obtain⟨f0,A,N,y,x,u⟩:=j c (by simp);exact wpAny_pyNext_range_end (I.ok.hd hc) st (by have:n<=i:=p;lia) λl O=>⟨rfl,I.turned (t':=s.toks) (λb o d e=>O b o d e) f0 A y x u⟩
 self:=λ_ _ _ _ _ st h=>wpAny_pyIter_rangeiter st h
def HC{d:List (Addr×Obj)}{f:St}{H:Hp}{s:Shared}{R:It->Hp->Prop}{E:Value->Shared->Prop}{a c:Int}{t u v:Tok}{g:Nat}(I:Inv X d f H s)(l:-(2^62)<=a)(k:a < 2^62)(h3:-(2^62)<=c)(j:c < 2^62)
  (q:R (Tr a (c-a).toNat) H):wpAny (model X.prog X.w) X.A (pyIter (.ref s.heap.objs.size)) (U1 X d f p R) E {s with heap:=s.heap.push {cls:=.type "range",data:=.fields #[.int a t,.int c u,.int 1 v]},toks:=g}:=by
 refine wpAny_pyIter_range (IsRange.new ..) (small_one l k h3 j) ?_;have h:Inv X d f H {s with heap:=s.heap.push {cls:=.type "range",data:=.fields #[.int a t,.int c u,.int 1 v]},toks:=g}:=I.kept λb o e=>V0 _ e;refine⟨(s.heap.push {cls:=.type "range",data:=.fields #[.int a t,.int c u,.int 1 v]}).objs.size,[(s.heap.push {cls:=.type "range",data:=.fields #[.int a t,.int c u,.int 1 v]}).objs.size],_,_,H,rfl,
  h.kept (t':=g) λb o e=>V0 _ e,BM _ a (c-a).toNat,?_,λb i=>?_,q⟩
 ·have n:a+((0:Nat):Int)*1=a:=by simp
  have m:(((c-a).toNat:Nat):Int)-((0:Nat):Int)=Builtin.Range.rangeSize a c 1:=by rw[rangeSize_one];split <;> lia
  show IsRangeIter _ _ (a+((0:Nat):Int)*1) ((((c-a).toNat:Nat):Int)-((0:Nat):Int)) 1;rw[n,m];exact Wn _ rfl
 ·have e:b=(s.heap.push {cls:=.type "range",data:=.fields #[.int a t,.int c u,.int 1 v]}).objs.size:=by simpa using i
  subst e;exact h.A9 (VZ _) (h.bu.fresh (VZ _))
def RP(c:TA):TI:=λa H R=>c a H λb d=>∃j:Int,b=[.int j]/\-(2^62)<=j/\j < 2^62/\R (Tr 0 j.toNat) d
def Fi{a:Expr}{f:TA}{p b:Pos}(m:Gl X "range")(hm:X.mg "range"=none)(n:PA X [a] f)(hs:starEach [a] X.env=[(false,eval a X.env)]:=by rfl):PI X v (.Call (.Name "range" p) [a] [] b) (RP f):=by
 intro c s g H R I h;refine Call_ (jP I m hm boot_range (Xe (cx (n b c s g H _ I h) λus s1 u9=>?_) hs rfl));obtain⟨u,H1,o,k,d⟩:=u9;obtain⟨j,e,d,l,q⟩:=d;subst e;cases k with
 | cons r i=>
  cases i;obtain⟨t,rfl⟩:=r;exact call_range_1 (HC o (by lia) (by lia) d l (by simpa using q))
def QW(f:TI)(g:TG)(tb:TS):TS:=λD a H=>f a H λJ j=>∃W:Nat->Nat->St->Hp->Prop,(∃m,W 0 m a j)/\∀i m a H,W i m a H->
 (J.stop i H/\D.nx a H)\/(J.go i H/\∃N:St->Hp->Prop,(∀b c,N b c->∃e,e < m/\W (i+1) e b c)/\∀x c,J.Mv i H x c->g x a c λd h=>tb {D with nx:=N,ct:=N,bk:=D.nx} d h)
noncomputable def qc(a:List Addr)(h:Heap):List (Addr×Obj):=a.filterMap λb=>(h.get? b).map λo=>(b,o)
def fY(a:b∈c)(e:h.get? b=some o):(b,o)∈qc c h:=XU.mpr ⟨b,a,by rw[e];rfl⟩
def Ft(hp:p∈qc c h):p.1∈c/\h.get? p.1=some p.2:=by
 obtain⟨b,a,e⟩:=XU.mp hp;cases q:h.get? b with
 | none=>rw[q] at e;cases e
 | some o=>
  rw[q] at e;have d:(b,o)=p:=Option.some.inj e;subst d;exact⟨a,q⟩
def Inv.pinned(I:Inv X pins σ H s)(h:∀b∈c,i5 X pins H b)(g:∀b∈c,∃o,s.heap.get? b=some o/\∀v,o.data≠.cell v):Inv X (pins++qc c s.heap) σ H s:=
 I.DU λp hp=>(Wz.mp hp).elim (λz=>I.pin p (Wf _ z)) λz=>by
  obtain⟨a,e⟩:=Ft z;obtain⟨f0,j,i,_⟩:=h p.1 a;obtain⟨o,f,d⟩:=g p.1 a;rw[e] at f;cases f;exact⟨e,f0,j,i,d⟩
def Inv.ko(I:Inv X (pins++pl) σ H s):Inv X pins σ H s:=I.DU λp hp=>I.pin p (Wf _ (WU _ hp))
def Oq(hp:PassesOwn (model X.prog X.w) X.A X.env X.xe)(hc:X.calm=true)(hi:PI X tg iter wi)(hg:PG X tg g)(p:zU X body tb)(hs:∀x,foldedSetIterable iter X.env x=pure x:=by intro _;rfl):PS X (.For tg iter body [] pos) (QW wi g tb):=by
 intro c s Y H D I h;refine wpAny_For (cx (hi c s Y H _ I h) λv s1 h1=>cx h1 λitv s2 h2=>?_) hs;obtain⟨it,M,Z,J,H2,e,I2,T,Q,f2,W,⟨m0,w0⟩,E⟩:=h2;subst e;have l:∀{y:Hp},(∀b∈M,y b=none)->∀b∈M,i5 X c y b:=λhn b p=>⟨hn b p,(f2 b p).2⟩;refine codeAny_forLoop_any (λn s'=>∃i k y,Inv X c k y s'/\Z i s'.heap/\(∀b∈M,y b=none)/\W i n k y) ?_ m0 ⟨0,Y,H2,I2,Q,λb p=>(f2 b p).1,w0⟩;rintro n s3 ⟨i,j,O,I3,F,L,w3⟩;rcases E i n j O w3 with⟨stop,qn⟩ |⟨go,N,hN,step⟩
 ·refine Ze hp (cx (T.done X rfl rfl rfl hc i c s3 j O X.xe I3 (l L) F stop) λr s4 ⟨hr,I4⟩=>?_);subst hr;exact YS ⟨j,O,I4,qn⟩
 ·refine Ze hp (cx (T.item X rfl rfl rfl hc i c s3 j O X.xe I3 (l L) F go) λr s4 ⟨u,hr,h4⟩=>?_);subst hr;refine Ze hp (cx h4 λ_ s5 u9=>?_);obtain⟨x,H5,I5,r5,y5,C,S⟩:=u9;have U:=I5.pinned (l S) (T.obj _ _ C);refine Ze hp (cx (hg _ s5 j H5 x u _ U r5 (step x H5 y5)) λ_ s6 u9=>?_);obtain⟨P,H6,I6,q6⟩:=u9;refine Ze hp (cx (p _ s6 P H6 _ I6 q6) λf R z=>?_);have again:∀{a:St} {t:Hp},Inv X (c++qc M s5.heap) a t R->N a t->∃m,m < n/\∃i k y,Inv X c k y R/\Z i R.heap/\(∀b∈M,y b=none)/\W i m k y:=λ{a t} q G=>by
   obtain⟨m',hm,w7⟩:=hN a t G;refine⟨m',hm,i+1,a,t,q.ko,T.keep _ _ _ C λb p o e=>(q.pin (b,o) (Wf _ (Wf _ (fY p e)))).1,λb p=>?_,w7⟩;obtain⟨o,e,d⟩:=T.obj _ _ C b p;exact(q.pin (b,o) (Wf _ (Wf _ (fY p e)))).2.1
  cases f with
  | next=>obtain⟨a,t,q,G⟩:=z;exact again q G
  | cont=>obtain⟨a,t,q,G⟩:=z;exact again q G
  | brk=>obtain⟨a,t,q,z⟩:=z;exact⟨a,t,q.ko,z⟩
  | ret v=>obtain⟨x7,a,t,q,r7,z⟩:=z;exact⟨x7,a,t,q.ko,r7,z⟩
abbrev R2:=V->V->Hp->VK->Prop
def nB(X:Cx)(f:Value->Value->Sem Value)(r:R2):Prop:=
 ∀(a:List (Addr×Obj)) (s:Shared) (b:St) (H:Hp) (x y:V) (v u:Value) (Q:VK),Inv X a b H s->RelV x v->RelV y u->r x y H Q->
  wpAny (model X.prog X.w) X.A (f v u) (EP X a b Q) X.xe s
def Su(X:Cx)(f:Value->Sem Value)(r:V->Hp->VK->Prop):Prop:=
 ∀(a:List (Addr×Obj)) (s:Shared) (b:St) (H:Hp) (x:V) (v:Value) (Q:VK),Inv X a b H s->RelV x v->r x H Q->
  wpAny (model X.prog X.w) X.A (f v) (EP X a b Q) X.xe s
def fE(X:Cx)(f:Value)(r:List V->Hp->VK->Prop):Prop:=
 ∀(a:List (Addr×Obj)) (s:Shared) (b:St) (H:Hp) (c:List V) (us:List Value) (Q:VK),Inv X a b H s->Vals c us->r c H Q->
  wpAny (model X.prog X.w) X.A (call f us) (EP X a b Q) X.xe s
def UY(X:Cx)(r:V->Hp->(Bool->Hp->Prop)->Prop):Prop:=
 ∀(a:List (Addr×Obj)) (s:Shared) (b:St) (H:Hp) (x:V) (v:Value) (Q:Bool->Hp->Prop),Inv X a b H s->RelV x v->r x H Q->
  wpAny (model X.prog X.w) X.A (truthy v) (TP X a b Q) X.xe s
def QR(r:R2)(b tb:TE):TE:=λa H Q=>b a H λx d=>tb a d λy c=>r x y c Q
def Vv(r:V->Hp->VK->Prop)(b:TE):TE:=λa H Q=>b a H λx c=>r x c Q
def rI(C:Int->Int->Prop)(g:Int->Int->V):R2:=λx y H Q=>∃i j,x=.int i/\y=.int j/\C i j/\Q (g i j) H
def HL(g:Int->Int->V):R2:=λx y H Q=>∃i j,x=.int i/\y=.int j/\Q (g i j) H
def rU(g:Int->V):V->Hp->VK->Prop:=λx H Q=>∃i,x=.int i/\Q (g i) H
def P8(r:PE X a l)(q:PE X b tb){c:List (Addr×Obj)}{s:Shared}{d:St}{H:Hp}{R:V->V->Hp->Prop}(I:Inv X c d H s)
  (h:l d H λx k=>tb d k λy e=>R x y e) {Q:Value->Shared->Prop} {f:Value->Value->Sem Value}
  (hf:∀v u j x y e,Inv X c d e j->RelV x v->RelV y u->R x y e->wpAny (model X.prog X.w) X.A (f v u) Q X.xe j):
  wpAny (model X.prog X.w) X.A (eval a X.env) (λv i=>wpAny (model X.prog X.w) X.A (eval b X.env) (λu g=>wpAny (model X.prog X.w) X.A (f v u) Q X.xe g) X.xe i) X.xe s:=by
 refine cx (r c s d H _ I h) λv s1 u9=>?_;obtain⟨x,k,z,n,p⟩:=u9;refine cx (q c s1 d k _ z p) λu j u9=>?_;obtain⟨y,e,t,m,o⟩:=u9;exact hf v u j x y e t n m o
def ML{d:Operator}{r:R2}(k:nB X (binaryOp d) r)(m:PE X a f)(l:PE X b tb):PE X (.BinOp a d b pos) (QR r f tb):=by
 intro c s e H Q I h;exact wpAny_BinOp (P8 m l I h λv u g x y o n j i q=>k c g e o x y v u Q n j i q)
def Rv(g:Su X (unaryOp op) r)(i:PE X a d):PE X (.UnaryOp op a pos) (Vv r d):=by
 intro b s c H Q I h;exact UnaryOp_ (cx (i b s c H _ I h) λv s1 ⟨x,H1,j,e,f⟩=>g b s1 c H1 x v Q j e f)
def Th{f:Value->Value->Sem Value}{C:Int->Int->Prop}{g:Int->Int->Int}
  (rule:∀(i j:Int)(t u:Tok)(s:Shared)(Q:Value->Shared->Prop)(E:Value->Shared->Prop),C i j->Q (.int (g i j) s.toks) {s with toks:=s.toks+1}->wpAny (model X.prog X.w) X.A (f (.int i t) (.int j u)) Q E s):
  nB X f (rI C λi j=>.int (g i j)):=by
 intro a s e H x y v u Q I d c h;obtain⟨i,j,rfl,rfl,hc,q⟩:=h;obtain⟨t,rfl⟩:=d;obtain⟨b,rfl⟩:=c;exact rule i j t b s _ _ hc ⟨.int (g i j),H,I.tok _,⟨_,rfl⟩,q⟩
def OV{f:Value->Value->Sem Value}{g:Int->Int->Int}
  (rule:∀(i j:Int)(t u:Tok)(s:Shared)(Q:Value->Shared->Prop)(E:Value->Shared->Prop),Q (.int (g i j) s.toks) {s with toks:=s.toks+1}->wpAny (model X.prog X.w) X.A (f (.int i t) (.int j u)) Q E s):
  nB X f (HL λi j=>.int (g i j)):=by
 intro a s e H x y v u Q I d c h;obtain⟨i,j,rfl,rfl,q⟩:=h;obtain⟨t,rfl⟩:=d;obtain⟨b,rfl⟩:=c;exact rule i j t b s _ _ ⟨.int (g i j),H,I.tok _,⟨_,rfl⟩,q⟩
def Lx{f:Value->Value->Sem Value}{g:Int->Int->Bool}
  (rule:∀(i j:Int)(t u:Tok)(s:Shared)(Q:Value->Shared->Prop)(E:Value->Shared->Prop),Q (.bool (g i j)) s->wpAny (model X.prog X.w) X.A (f (.int i t) (.int j u)) Q E s):
  nB X f (HL λi j=>.bl (g i j)):=by
 intro a s e H x y v u Q I d c h;obtain⟨i,j,rfl,rfl,q⟩:=h;obtain⟨t,rfl⟩:=d;obtain⟨b,rfl⟩:=c;exact rule i j t b s _ _ ⟨.bl (g i j),H,I,rfl,q⟩
def U7(i j:Int):Prop:=0<=j/\j<=1000000/\i.natAbs < 2^64
def Qr(i j:Int):Prop:=(-(2^64) < i/\i < 2^64)\/(-(2^64) < j/\j < 2^64)
def Qr.ok(h:Qr i j):IntMulOk i j:=by
 rcases h with⟨b,a⟩ |⟨b,a⟩
 ·exact .of_left (intBits_le_64 b a)
 ·exact .of_right (intBits_le_64 b a)
def OU:nB X (binaryOp .Add) (HL λi j=>.int (i+j)):=OV λ_ _ _ _ _ _ _ q=>add_int q
def OO:nB X (binaryOp .Sub) (HL λi j=>.int (i-j)):=OV λ_ _ _ _ _ _ _ q=>sub_int q
def OR:nB X (binaryOp .Mult) (rI Qr λi j=>.int (i*j)):=Th λ_ _ _ _ _ _ _ hc q=>mul_int q hc.ok
def OS:nB X (binaryOp .Mod) (rI (λ_ j=>0 < j) λi j=>.int (i % j)):=Th λi j _ _ _ _ _ hc q=>by
 have a:(0:Int) < j:=hc;exact mod_int' (by lia) (by rw[Int.fmod_eq_emod_of_nonneg i (by lia)];exact q)
def OQ:nB X (binaryOp .Pow) (rI U7 λi j=>.int (i^j.toNat)):=Th λ_ _ _ _ _ _ _ hc q=>pow_int_small hc.1 hc.2.1 hc.2.2 q
def LN:nB X (inplaceOp .Sub) (HL λi j=>.int (i-j)):=OV λ_ _ _ _ _ _ _ q=>isub_int q
def Vt{f:Value->Sem Value}{g:Int->Int}
  (rule:∀(i:Int)(t:Tok)(s:Shared)(Q:Value->Shared->Prop)(E:Value->Shared->Prop),Q (.int (g i) s.toks) {s with toks:=s.toks+1}->wpAny (model X.prog X.w) X.A (f (.int i t)) Q E s):
  Su X f (rU λi=>.int (g i)):=by
 intro a s c H x v Q I b h;obtain⟨i,rfl,q⟩:=h;obtain⟨t,rfl⟩:=b;exact rule i t s _ _ ⟨.int (g i),H,I.tok _,⟨_,rfl⟩,q⟩
def Np:Su X (unaryOp .USub) (rU λi=>.int (-i)):=Vt λ_ _ _ _ _ q=>neg_int q
def Pu(I:Inv X pins σ H s)(q:Q (.bl k) H)(e:k=a):EP X pins σ Q (.bool a) s:=by
 subst e;exact⟨.bl k,H,I,rfl,q⟩
def RB:nB X (compareOp .Lt) (HL λi j=>.bl (decide (i < j))):=Lx λ_ _ _ _ _ _ _ q=>lt_int q
def RC:nB X (compareOp .LtE) (HL λi j=>.bl (decide (i<=j))):=Lx λ_ _ _ _ _ _ _ q=>le_int q
def RD:nB X (compareOp .Gt) (HL λi j=>.bl (decide (j < i))):=Lx λ_ _ _ _ _ _ _ q=>gt_int q
def RE:nB X (compareOp .GtE) (HL λi j=>.bl (decide (j<=i))):=Lx λ_ _ _ _ _ _ _ q=>ge_int q
def OT:nB X (compareOp .Is) (λx y H Q=>y=.cu/\Q (.bl (decide (x=.cu))) H):=by
 intro b s d H x y v u Q I a c h;obtain⟨rfl,q⟩:=h;cases c;refine is_none_gen (Pu I q ?_);cases x <;> first
  |(cases a;rfl)
  |(obtain⟨t,rfl⟩:=a;rfl)
def cK(b:Expr)(h:op≠.In:=by decide)(a:op≠.NotIn:=by decide):behindInMarks op b=false:=by
 have d:(op==CmpOp.In)=false:=by cases op <;> first | rfl | exact absurd rfl h
 have c:(op==CmpOp.NotIn)=false:=by cases op <;> first | rfl | exact absurd rfl a
 cases b <;> simp[behindInMarks,d,c]
def Lu{d:CmpOp}{r:R2}(k:nB X (compareOp d) r)(m:PE X a f)(l:PE X b tb)(hm:behindInMarks d b=false):PE X (.Compare a [d] [b] pos) (QR r f tb):=by
 intro c s e H Q I h;exact wpAny_Compare1 (P8 m l I h λv u g x y o n j i q=>k c g e o x y v u Q n j i q) hm
def Mx(t:TE):TT:=λa H Q=>t a H λx b=>∃k,x=.bl k/\Q k b
def K9(p:nB X (compareOp op) r)(t:PE X a g)(q:PE X b tb)(hm:behindInMarks op b=false):PT X (.Compare a [op] [b] pos) (Mx (QR r g tb)):=by
 intro d s f H Q I h;refine wpAny_isTrue_Compare1 (cx (t d s f H _ I h) λv s1 ⟨x,H1,C,l,o⟩=>cx (q d s1 f H1 _ C o) λu s2 ⟨y,F,A,j,n⟩=>
  cx (p d s2 f F x y v u _ A l j n) λc s3 ⟨z,E,w,i,k,e,m⟩=>?_) hm
 subst e;cases i;exact W7 ⟨E,w,m⟩
def BR(r f:R2)(e tb d:TE):TE:=λa H Q=>e a H λx i=>tb a i λy h=>r x y h λz b=>∃k,z=.bl k/\
 (if k=true then d a b λc g=>f y c g Q else Q (.bl false) b)
def Io(M:nB X (compareOp op) r)(j:nB X (compareOp i) F)(O:PE X a w)(N:PE X b tb)(hc:PE X c t)(hm:lastMarks [op,i] [b,c]=false:=by with_unfolding_all rfl):PE X (.Compare a [op,i] [b,c] pos) (BR r F w tb t):=by
 intro f s g H Q I h;refine Compare_chain (cx (O f s g H _ I h) λv s1 ⟨x,H1,S,E,L⟩=>chain_link (cx (N f s1 g H1 _ S L) λu s2 ⟨y,U,R,l,J⟩=>
  cx (M f s2 g U x y v u _ R E l J) λd s3 ⟨z,o,n,C,k,e,m⟩=>?_)) hm
 subst e;cases C;refine W7 ?_;cases k with
 | false=>exact ite_ff ⟨.bl false,o,n,rfl,m⟩
 | true=>exact ite_tt (chain_last (cx (hc f s3 g o _ n m) λq s4 ⟨p,T,P,A,G⟩=>j f s4 g T y p u q Q P l A G))
def HV(P:nB X (compareOp op) r)(j:nB X (compareOp i) G)(S:PE X a w)(R:PE X b tb)(hc:PE X c t)(hm:lastMarks [op,i] [b,c]=false:=by with_unfolding_all rfl):PT X (.Compare a [op,i] [b,c] pos) (Mx (BR r G w tb t)):=by
 intro f s g H Q I h;refine isTrue_chain (cx (S f s g H _ I h) λv s1 ⟨x,H1,I1,F,N⟩=>test_link (cx (R f s1 g H1 _ I1 N) λu s2 ⟨y,H2,I2,l,M⟩=>
  cx (P f s2 g H2 x y v u _ I2 F l M) λd s3 ⟨z,o,n,E,k,e,m⟩=>?_)) hm
 subst e;cases E;refine W7 ?_;cases k with
 | false=>
  obtain⟨k',U,O⟩:=m;cases U;exact ite_ff ⟨o,n,O⟩
 | true=>
  refine ite_tt (test_last (cx (hc f s3 g o _ n m) λq s4 ⟨p,H4,Z,C,L⟩=>cx (j f s4 g H4 y p u q _ Z l C L) λd' s5 u9=>?_));obtain⟨z2,H5,Y,A,k2,T,J⟩:=u9;subst T;cases A;exact W7 ⟨H5,Y,J⟩
def Qh(K:FR)(x:V)(H:Hp)(k:Bool):Prop:=
 match x with
 | .cu=>k=false
 | .bl b=>k=b
 | .int i=>k=(i !=0)
 | .str y=>y.length<=sizeLine/\k=((y.length:Int) !=0)
 | .byt y=>y.size<=sizeLine/\k=((y.size:Int) !=0)
 | .ref p=>(∃a,gU K H p a/\k=!a.isEmpty)\/(∃a,lj K H p a/\k=!a.isEmpty)\/∃c,H p=some (.dK c)/\k=!c.isEmpty
 | _=>False
def C0(r:KV a b):(!b.isEmpty)=!a.isEmpty:=by
 cases r <;> rfl
def uV(r:Vals xs a):(!a.toArray.isEmpty)=!xs.isEmpty:=by
 cases r <;> simp
def mZ:(sizeLine:Nat) < 2^63:=by rw[Xq];decide
def Nv:UY X (λx H Q=>∃k,Qh X.K x H k/\Q k H):=by
 intro o s C H x v Q I g h;obtain⟨k,e,q⟩:=h;have hl:=mZ;have hs:sizeLine=16777216:=Xq;cases x with
 | cu=>
  cases g;have a:k=false:=e;subst a;exact truthy_none ⟨H,I,q⟩
 | bl b=>
  cases g;have a:k=b:=e;subst a;exact W7 ⟨H,I,q⟩
 | int i=>
  obtain⟨t,rfl⟩:=g;have a:k=(i !=0):=e;subst a;exact PySem.P.truthy_int ⟨H,I,q⟩
 | str y=>
  obtain⟨t,rfl⟩:=g;obtain⟨z,a⟩:y.length<=sizeLine/\k=((y.length:Int) !=0):=e;subst a;exact PySem.P.truthy_str (by lia) ⟨H,I.tok _,q⟩
 | byt y=>
  obtain⟨t,rfl⟩:=g;obtain⟨z,a⟩:y.size<=sizeLine/\k=((y.size:Int) !=0):=e;subst a;exact PySem.W.truthy_bytes (by lia) ⟨H,I.tok _,q⟩
 | ref p=>
  cases g;have a:(∃f,gU X.K H p f/\k=!f.isEmpty)\/(∃f,lj X.K H p f/\k=!f.isEmpty)\/∃c,H p=some (.dK c)/\k=!c.isEmpty:=e;rcases a with⟨f,j,a⟩ |⟨f,j,a⟩ |⟨c,j,a⟩
  ·subst a;obtain⟨n,r,pl,u⟩:=I.list j;have d:=r.length;exact wpAny_truthy_list pl.isList (by simp only[Wi];lia) ⟨H,I.tok _,by rw[uV r];exact q⟩
  ·subst a;obtain⟨n,r,pl,u⟩:=I.tuple j;have d:=r.length;exact truthy_tuple pl (by simp only[Wi];lia) ⟨H,I.tok _,by rw[uV r];exact q⟩
  ·subst a;obtain⟨u,A,l,r,m⟩:c.length<=sizeLine/\(p==sysModules)=false/\∃l,KV c l/\s.heap.DictOf (bM X.prog X.w) p l:=I.bu p _ j;have d:c.length=l.length:=Paired.length r;exact wpAny_truthy_dict A m (by lia) ⟨H,I.tok _,by rw[C0 r];exact q⟩
 | _=>exact(show False from e).elim
def HU(l:PE X a f)(j:∀b,isTrue a X.env b=(do let v<-b;standAt a.pos;holding [v] (truthy v))):
  PT X a (λd H Q=>f d H λx e=>∃k,Qh X.K x e k/\Q k e):=by
 intro c s d H Q I h;exact isTrue_plain (cx (l c s d H _ I h) λv s1 ⟨x,H1,m,g,i⟩=>Nv c s1 d H1 x v Q m g i) (j _)
def CD:nB X (binaryOp .Add) (λx y H Q=>∃i j,x=.str i/\y=.str j/\i.length+j.length<=sizeLine/\Q (.str (i++j)) H):=by
 intro a s f H x y v u Q I d c h;obtain⟨i,j,rfl,rfl,e,q⟩:=h;obtain⟨t,rfl⟩:=d;obtain⟨b,rfl⟩:=c;exact add_str (λb g=>⟨.str (i++j),H,I.tok _,⟨_,rfl⟩,q⟩) e
def vals1(r:Vals [x] us):∃u,us=[u]/\RelV x u:=by
 cases r with
 | cons b a=>cases a;exact⟨_,rfl,b⟩
def vals2(r:Vals [x,y] us):∃u a,us=[u,a]/\RelV x u/\RelV y a:=by
 cases r with
 | cons e d=>
  cases d with
  | cons c b=>cases b;exact⟨_,_,rfl,e,c⟩
def JK:fE X (.builtin "abs") (λa H Q=>∃i,a=[.int i]/\Q (.int (if i < 0 then -i else i)) H):=by
 intro b s c H a us Q I r h;obtain⟨i,rfl,q⟩:=h;obtain⟨u,rfl,t,rfl⟩:=vals1 r;exact call_abs_int λu d=>⟨.int (if i < 0 then -i else i),H,I.tok _,⟨_,rfl⟩,q⟩
def Gk(hc:X.calm=true):fE X (.builtin "max") (λa H Q=>∃i j,a=[.int i,.int j]/\Q (.int (if j > i then j else i)) H):=by
 intro b s c H a us Q I r h;obtain⟨i,j,rfl,q⟩:=h;obtain⟨u,d,rfl,⟨t,rfl⟩,⟨f,rfl⟩⟩:=vals2 r;refine max_two_ints (I.ok.hd hc) λg e k=>⟨_,H,I.kept k,?_,q⟩
 by_cases hj:j > i
 ·rw[V1 hj,V1 hj];exact⟨_,rfl⟩
 ·rw[V4 hj,V4 hj];exact⟨_,rfl⟩
def Gj(hc:X.calm=true):fE X (.builtin "min") (λa H Q=>∃i j,a=[.int i,.int j]/\Q (.int (if j < i then j else i)) H):=by
 intro b s c H a us Q I r h;obtain⟨i,j,rfl,q⟩:=h;obtain⟨u,d,rfl,⟨t,rfl⟩,⟨f,rfl⟩⟩:=vals2 r;refine min_two_ints (I.ok.hd hc) λg e k=>⟨_,H,I.kept k,?_,q⟩
 by_cases hj:j < i
 ·rw[V1 hj,V1 hj];exact⟨_,rfl⟩
 ·rw[V4 hj,V4 hj];exact⟨_,rfl⟩
structure Qp(h:Heap)(x dx C:Addr)(mA:Str->Option Value):Prop where
 obj:h.get? x=some (PySem.W.instObj C dx)
 ns:h.Ns1 dx mA
 ne:dx≠x
def FH{h:Heap}{g:Addr}{d:Str->Option Value}(n:h.Ns1 g d):∃c,h.get? g=some c/\∀name,PySem.W.lookIn name c=some (d name):=by
 obtain⟨o,f,m,j,hd,k,_,hm⟩:=n;refine⟨o,j,λname=>?_⟩;have e:=hm name;unfold nsFind findBy at e;rw[<-Array.find?_toList] at e;unfold PySem.W.lookIn;rw[hd];dsimp only
 split
 ·rename_i y q;rw[q] at e;exact congrArg some e
 ·rename_i q;rw[q] at e;have a:f.toList.any (·.refKey)=false:=by
   rw[List.any_eq_false];intro y i;obtain⟨z,t,b⟩:=k y (W8.mp i);simp[DictEntry.refKey,b]
  have l:¬f.toList.any (·.refKey)=true:=by rw[a];exact W0
  rw[V4 l];exact congrArg some e
def Qp.look(I:Qp h x d C b):∃a,PySem.W.InstAt h x (PySem.W.instObj C d) C (some a)/\∀name,PySem.W.lookIn name a=some (b name):=
 let⟨a,c,hl⟩:=FH I.ns
 ⟨a,⟨I.obj,rfl,rfl,c⟩,hl⟩
section
variable {prog:Program} {w:World} {A:Around} {E:Value->Shared->Prop} {s:Shared} {K:FR} {x dx C f:Addr} {mA:Str->Option Value} {name:Str} {v:Value}
end
def vG.some_of(r:vG (some v) o):∃u,o=some u/\RelV v u:=by
 cases o with
 | none=>exact(show False from r).elim
 | some u=>exact⟨u,rfl,r⟩
def LP(bu:ll P w H h)(e:H a=some (.ins C c fs)):∃b,Qp h a c C b/\(∀f,vG (fs.lookup f) (b f))/\PySem.Within b (fs.map (·.1))/\fs.length<=1000/\H c=some (.own a):=by
 obtain⟨d,z,ne,ob,b,n,r,q⟩:=(show bQ P w H h a (.ins C c fs) from bu a _ e);exact⟨b,⟨ob,n,ne⟩,r,q,z,d⟩
structure U6(K:FR)(C:Addr):Prop where
 pg:PySem.W.plainGet K C Str.empty=true
 hd:PySem.W.hasDictIn K C=true
 po:PySem.W.plainOver K C=true
 sa:PySem.W.findIn K (.ref C) "__setattr__"=some (some (.builtin "object.__setattr__"))
def U6.get{K:FR}{C:Addr}(c:U6 K C)(f:Str):PySem.W.plainGet K C f=true:=c.pg
inductive o6(K:FR)(H:Hp):V->Value->Prop where
 | cu:o6 K H .cu (.type "NoneType")
 | bl (x:Bool):o6 K H (.bl x) (.type "bool")
 | int (i:Int):o6 K H (.int i) (.type "int")
 | str (x:Str):o6 K H (.str x) (.type "str")
 | Qt (x:UInt64):o6 K H (.Qt x) (.type "float")
 | lst {a:Addr} {xs:List V} (e:H a=some (.lst xs)):o6 K H (.ref a) (.type "list")
 | nD {a:Addr} {o:Obj} {xs:List V} (e:H a=some (.nD o (.lst xs))):o6 K H (.ref a) (.type "list")
 | tup {a:Addr} {xs:List V} (e:H a=some (.tup xs)):o6 K H (.ref a) (.type "tuple")
 | dK {a:Addr} {kvs:List (Key×V)} (e:H a=some (.dK kvs)):o6 K H (.ref a) (.type "dict")
 | dT {a:Addr} {kvs:List (List Key×V)} (e:H a=some (.dT kvs)):o6 K H (.ref a) (.type "dict")
 | ins {a C dx:Addr} {fs:List (Str×V)} (e:H a=some (.ins C dx fs)) (cl:U6 K C) (ha:PySem.W.findIn K (.ref C) "__class__"=some (some (.builtin "object.__class__")))
   (hn:PySem.W.specialIn K (.builtin "object.__class__") "__get__"=some (some (.builtin "getset_descriptor.__get__"))) (htk:PySem.W.takesIn K (.builtin "object.__class__")=some true)
   (hm:PySem.W.mroIn K C (.type "object")=some true):o6 K H (.ref a) (.ref C)
def FT(I:Inv X pins σ H s)(d:RelV x u)(ty:o6 X.K H x t)(e:PySem.W.kitOne X.K t c=some b)(h:∀r,Q (.bool b) {s with toks:=r}):
  wpAny (model X.prog X.w) A (call (.builtin "isinstance") [u,c]) Q E s:=by
 cases ty with
 | cu=>cases(show u=Value.none from d);exact W6 PySem.W.kitx_none I.rK True.intro e (λz=>nomatch z) h
 | bl y=>cases(show u=Value.bool y from d);exact W6 PySem.W.kitx_bool I.rK True.intro e (λz=>nomatch z) h
 | int i=>obtain⟨t,q⟩:=(show ∃t,u=Value.int i t from d);cases q;exact W6 PySem.W.kitx_int I.rK True.intro e (λz=>nomatch z) h
 | str y=>obtain⟨t,q⟩:=(show ∃t,u=Value.str y t from d);cases q;exact W6 PySem.W.kitx_str I.rK True.intro e (λz=>nomatch z) h
 | Qt y=>obtain⟨t,q⟩:=(show ∃t,u=Value.float y t from d);cases q;exact W6 PySem.W.kitx_float I.rK True.intro e (λz=>nomatch z) h
 | @lst a k f=>
  cases(show u=Value.ref a from d);obtain⟨_,_,n,_,g⟩:=(show bQ X.prog X.w H s.heap a (.lst k) from I.bu a _ f);exact W6 PySem.W.kitx_list I.rK ⟨_,g,rfl⟩ e (λz=>nomatch z) h
 | @nD a ob k f=>
  cases(show u=Value.ref a from d);obtain⟨_,_,_,n,_,g⟩:=(show bQ X.prog X.w H s.heap a (.nD ob (.lst k)) from I.bu a _ f);exact W6 PySem.W.kitx_list I.rK ⟨_,g,rfl⟩ e (λz=>nomatch z) h
 | @tup a k f=>
  cases(show u=Value.ref a from d);obtain⟨_,_,_,p⟩:=(show bQ X.prog X.w H s.heap a (.tup k) from I.bu a _ f);obtain⟨o,g,l,_⟩:=p;exact W6 PySem.W.kitx_tuple I.rK ⟨o,g,l⟩ e (λz=>nomatch z) h
 | @dK a j f=>
  cases(show u=Value.ref a from d);obtain⟨_,_,L,_,p⟩:=(show bQ X.prog X.w H s.heap a (.dK j) from I.bu a _ f);obtain⟨o,F,G,g,l,_⟩:=p;exact W6 PySem.W.kitx_dict I.rK ⟨o,g,l.1⟩ e (λz=>nomatch z) h
 | @dT a j f=>
  cases(show u=Value.ref a from d);obtain⟨_,_,k,_,o,F,G,g,l,_⟩:=(show bQ X.prog X.w H s.heap a (.dT j) from I.bu a _ f);exact W6 PySem.W.kitx_dict I.rK ⟨o,g,l.1⟩ e (λz=>nomatch z) h
 | @ins a C P fs f cl v hn m hm=>
  cases(show u=Value.ref a from d);obtain⟨N,O,_⟩:=LP I.bu f;obtain⟨M,J,_⟩:=O.look;exact W6 (PySem.W.kitx_own (cl.get _) cl.hd v hn m hm) I.rK J e (λz=>nomatch z) h
structure dh(k:Nat)(A:Around):Prop where
 hd:A.handled=none
 dp:A.depth+3*k+5 < recursionLimit
 un:A.units+16*k+200 < cLine
def dh.mono(r:dh k A)(h:j<=k):dh j A:=⟨r.hd,by have:=r.dp;lia,by have:=r.un;lia⟩
theorem dh.deeper(r:dh (k+1) A)(env:Env):dh k (A.deeper env):=
 ⟨r.hd,by have:=r.dp;show A.depth+1+3*k+5 < _;lia,by have:=r.un;show A.units+3+16*k+200 < _;lia⟩
theorem dh.depth(r:dh k A):A.depth < recursionLimit:=by have:=r.dp;lia
theorem dh.units(r:dh k A):A.units+64 < cLine:=by have:=r.un;lia
def QT:TA:=λ_ H Q=>Q [] H
def MA(c:TE)(tr:TA):TA:=λa H Q=>c a H λx e=>tr a e λb d=>Q (x::b) d
def yR:PA X [] QT:=λ_ _ _ _ H Q I h=>Z0 ⟨[],H,I,.nil,h⟩
def om(l:PE X e f)(hr:PA X c t)(hs:starEach (e::c) X.env=(false,eval e X.env)::starEach c X.env:=by rfl):PA X (e::c) (MA f t):=by
 intro b a s d H Q I h;rw[hs];show wpAny _ _ (spliced ((false,eval e X.env)::backTo b (starEach c X.env))) _ _ s;refine ZT (cx (l a s d H _ I h) λu s1 u9=>?_);obtain⟨x,H1,n,i,k⟩:=u9;exact cx (hr b a s1 d H1 _ n k) λus s2 ⟨xs,o,m,g,j⟩=>⟨x::xs,o,m,.cons i g,j⟩
def TC(t:TA):TE:=λc H Q=>t c H λa b=>a.length<=sizeLine/\∀p,b p=none->Q (.ref p) (upd b p (.tup a))
def TN(t:TA):TE:=λc H Q=>t c H λa b=>a.length<=sizeLine/\∀p,b p=none->Q (.ref p) (upd b p (.lst a))
def Oz{f}(h:PA X j t):PE X (.Tuple j f pos) (TC t):=by
 intro a s d H Q I g;refine wpAny_Tuple_spliced (cx (h pos a s d H _ I g) λus s1 ⟨xs,H1,c,r,z,q⟩=>⟨by rw[<-r.length];exact z,?_⟩);have i:H1 s1.heap.objs.size=none:=c.bu.fresh (VZ _);refine⟨.ref s1.heap.objs.size,upd H1 s1.heap.objs.size (.tup xs),c.laid (t':=s1.toks) (λb u e=>V0 _ e) (VZ _) ?_,rfl,q _ i⟩;exact⟨z,us,r,⟨_,Wn _ rfl,rfl,⟨_,rfl⟩,rfl⟩⟩
def OG(h:PA X i t):PE X (.List i pos) (TN t):=by
 intro a s d H Q I f;refine wpAny_List_spliced (cx (h pos a s d H _ I f) λus s1 ⟨xs,H1,c,r,z,q⟩=>⟨by rw[<-r.length];exact z,?_⟩);have g:H1 s1.heap.objs.size=none:=c.bu.fresh (VZ _);refine⟨.ref s1.heap.objs.size,upd H1 s1.heap.objs.size (.lst xs),c.laid (t':=s1.toks) (λb u e=>V0 _ e) (VZ _) ?_,rfl,q _ g⟩;exact⟨z,us,0,r,Wn _ rfl⟩
abbrev Sp:=List V->Hp->VK->XK->Prop
abbrev EF:=List Env->Hp->Shared->XK->Value->Shared->Prop
structure Kg(P:Program)(w:World)(K:FR)(mg:Str->Option Value)(base:Heap)(A:Around)(outer:List Env)(s:Shared)(H:Hp):Prop where
 frames:A.frames=some outer
 mod:Mod K mg base
 bs:∀b o,base.get? b=some o->s.heap.get? b=some o/\H b=none
 Kp:base.objs.size<=s.heap.objs.size
 qr:s.heap.FunFrames base outer
 MR:∀b∈lP outer,H b=none
 bu:ll P w H s.heap
 bare:AllBare s.gens
def CE(outer:List Env)(P:Program)(w:World)(H:Hp)(s:Shared)(Q:VK)(u:Value)(a:Shared):Prop:=
 ∃v b,a.os=s.os/\AllBare a.gens/\Un (lP outer) [] H b s.heap a.heap/\ll P w b a.heap/\RelV v u/\Q v b
def CR(b:EF)(outer:List Env)(P:Program)(w:World)(H:Hp)(s:Shared)(Q:VK)(E:XK)(r:Result)(a:Shared):Prop:=
 match r with
 | .ok (.ret u)=>CE outer P w H s Q u a
 | .ok _=>False
 | .error e=>b outer H s E e a
structure fT(P:Program)(w:World)(K:FR)(mg:Str->Option Value)(base:Heap)(CX:EF)(k:Nat)(f:Addr)(fd:FuncData)(ps:List Str)(sp:Sp):Prop where
 len:∀vs H Q E,sp vs H Q E->vs.length=ps.length
 run:∀(A:Around)(outer:List Env)(s:Shared)(H:Hp)(args:Args)(us:List Value)(vs:List V)(Q:VK)(E:XK),dh k A->Kg P w K mg base A outer s H->BindsTo s fd args (ps.zip us)->Vals vs us->sp vs H Q E->
  codeAny (model P w) A (.call (.ref f) args) (CR CX outer P w H s Q E) s
def fT.imp{P:Program}{w:World}{K:FR}{mg:Str->Option Value}{base:Heap}{e:EF}{k:Nat}{f:Addr}{d:FuncData}{c:List Str}{sp b:Sp}(F:fT P w K mg base e k f d c sp)
  (h:∀a H Q E,b a H Q E->sp a H Q E):fT P w K mg base e k f d c b:=
 ⟨λa H Q E q=>F.len a H Q E (h _ _ _ _ q),λA outer s H args us a Q E hr i j g hs=>F.run A outer s H args us a Q E hr i j g (h _ _ _ _ hs)⟩
def Inv.PB(I:Inv X pins σ H s):Kg X.prog X.w X.K X.mg X.base X.A X.stack s H:=
 ⟨I.ok.frames,I.ok.mod,I.bs,V2 I.ok.Kp I.sz,I.stack,I.sJ,I.bu,I.bare⟩
def Inv.after(I:Inv X pins σ H s)(h:CE X.stack X.prog X.w H s Q u c):EP X pins σ Q u c:=by
 obtain⟨v,e,os,bare,un,bu,r,q⟩:=h;obtain⟨hh,g,d,t,a⟩:=c;obtain rfl:a=s.os:=os;exact⟨v,e,I.call (h':=hh) (g':=g) (d':=d) (t':=t) (ch:=[]) un bu bare (λb z=>absurd z (by simp)),r,q⟩
def QY(sp:Sp)(a:List V)(E:XK)(t:TA):TE:=λb H Q=>t b H λc d=>sp (c++a) d Q E
def Binds(K:FR)(c:FuncData)(a:List Str)(b:List Value):Prop:=
 ∀(s:Shared)(us:List Value),K.In s.heap->(us++b).length=a.length->BindsTo s c ⟨us,[]⟩ (a.zip (us++b))
def Binds.all{K:FR}{b:FuncData}{a:List Str}(h:∀us:List Value,us.length=a.length->bindArgs b ⟨us,[]⟩=pure (a.zip us)):Binds K b a []:=λs us _ hl=>by
 rw[WW] at hl ⊢;exact .of_eq (h us hl)
def Passes(d:EF)(X:Cx)(E:XK):Prop:=∀(a:List (Addr×Obj)) (c:St) (H:Hp) (s:Shared) (e:Value) (b:Shared),Inv X a c H s->d X.stack H s E e b->X.xe e b
def NW(F:fT X.prog X.w X.K X.mg X.base m k f fd g sp)(hr:dh k X.A)(l:Binds X.K fd g ds)(hd:Vals a ds)(j:Passes m X E)(I:Inv X pins σ H s)(r:Vals c us)(h:sp (c++a) H Q E):wpAny (model X.prog X.w) X.A (call (.ref f) us) (EP X pins σ Q) X.xe s:=by
 have d:Vals (c++a) (us++ds):=r.append hd;have hl:(us++ds).length=g.length:=by rw[<-d.length];exact F.len _ _ _ _ h
 refine wpAny_call (Yr (F.run X.A X.stack s H ⟨us,[]⟩ (us++ds) (c++a) Q E hr I.PB (l s us I.rK hl) d h) λr i b=>?_);cases r with
 | error e=>exact j pins σ H s e i I b
 | ok fl=>
  cases fl with
  | ret u=>exact I.after b
  | next=>exact False.elim b
  | brk=>exact False.elim b
  | cont=>exact False.elim b
def DW(F:fT X.prog X.w X.K X.mg X.base z k f fd l sp)(hr:dh k X.A)(o:Gl X x)(hm:X.mg x=some (.ref f))(n:PySem.W.keepIn X.K (.ref f)=true)(v:Binds X.K fd l ds)(hd:Vals g ds)(m:Passes z X E)
  (y:PA X (e::b) t) (d:(x==("__debug__":Str))=false:=by decide) (u:starEach (e::b) X.env=(false,eval e X.env)::starEach b X.env:=by rfl) (c:(backTo pos (starEach b X.env)).any (·.1)=false:=by rfl):
  PE X (.Call (.Name x p) (e::b) [] pos) (QY sp g E t):=by
 intro a s j H Q I h;refine Xw (jO I o hm ?_ d);refine PySem.W.callWith_K (h₀:=X.base) I.ok.mod.Ti n (cx (y pos a s j H _ I h) λus s1 ⟨C,H1,i,r,q⟩=>⟨i.rK,?_⟩) u c;exact NW F hr v hd m i r q
def PK(X:Cx)(d:List Keyword)(t:TA):Prop:=
 ∀(c:Pos)(a:List (Addr×Obj)) (s:Shared) (b:St) (H:Hp) (Q:List V->Hp->Prop),Inv X a b H s->t b H Q->wpAny (model X.prog X.w) X.A (evalAll ((backToKw c (keywordEach d X.env)).map (·.2))) (AP X a b Q) X.xe s
def Ou:PK X [] QT:=λ_ _ _ _ H Q I h=>wpAny_evalAll_nil ⟨[],H,I,.nil,h⟩
def Lk(m:PE X e g)(hr:PK X c t):PK X (⟨nm,e,f⟩::c) (MA g t):=by
 intro b a s d H Q I h;show wpAny _ _ (evalAll ((do let v<-eval e X.env;standAt b;pure v)::(backToKw b (keywordEach c X.env)).map (·.2))) _ _ s;refine wpAny_evalAll_cons (VT (cx (m a s d H _ I h) λu s1 ⟨x,H1,o,j,l⟩=>VT (W5 (VY ?_))));exact cx (hr b a s1 d H1 _ o l) λus s2 ⟨xs,p,n,i,k⟩=>⟨x::xs,p,n,.cons j i,k⟩
structure ax(N P:List Str)(sc:Scope):Prop where
 kind:sc.kind=.function
 co:sc.isCoroutine=false
 gen:sc.isGenerator=false
 nd:N.Nodup
 pre:N.take P.length=P
 par:∀x∈P,sc.names.lookup x=some .local\/sc.names.lookup x=some .cell
 O3:∀y∈sc.names,y.2≠.free
theorem xW{a:Str->Option NameKind}{x:Str}:∀{binds:List (Str×Value)} {m:Str->Option Value},(∀v,(x,v)∉binds)->bindL a binds m x=m x
 | [],_,_=>rfl
 |(n,v)::r,m,h=>by
  unfold bindL;rw[xW λw b=>h w (V5 _ b)]
  split
  ·have:x≠n:=by rintro rfl;exact h v V3
   simp[this]
  ·rfl
theorem xY{a:Str->Option NameKind}{x:Str}:∀{binds:List (Str×Value)} {m:Str->Option Value},(∀v,(x,v)∉binds)->bindC a binds m x=m x
 | [],_,_=>rfl
 |(n,v)::r,m,h=>by
  unfold bindC;rw[xY λw b=>h w (V5 _ b)]
  split
  ·rfl
  ·have:x≠n:=by rintro rfl;exact h v V3
   simp[this]
theorem xX{a:Str->Option NameKind}{x:Str}{v:Value}:∀{P:List Str} {b:List Value} {i:Nat} {m:Str->Option Value},P.Nodup->P[i]?=some x->b[i]?=some v->a x=some .local->
  bindL a (P.zip b) m x=some v
 | [],_,_,_,_,h,_,_=>by simp at h
 | _::_,[],_,_,_,_,h,_=>by simp at h
 | p::P,w::b,0,m,nd,d,c,e=>by
  simp at d c;subst d;subst c;show bindL a ((p,w)::P.zip b) m p=_;unfold bindL;rw[xW λv f=>(X0.mp nd).1 (ZU f).1,V1 e];simp
 | p::P,w::b,i+1,m,nd,d,c,e=>by
  show bindL a ((p,w)::P.zip b) m x=_;unfold bindL;exact xX (i:=i) (X0.mp nd).2 (by simpa using d) (by simpa using c) e
theorem xZ{a:Str->Option NameKind}{x:Str}{v:Value}:∀{P:List Str} {b:List Value} {i:Nat} {m:Str->Option Value},P.Nodup->P[i]?=some x->b[i]?=some v->a x≠some .local->
  bindC a (P.zip b) m x=some v
 | [],_,_,_,_,h,_,_=>by simp at h
 | _::_,[],_,_,_,_,h,_=>by simp at h
 | p::P,w::b,0,m,nd,d,c,e=>by
  simp at d c;subst d;subst c;show bindC a ((p,w)::P.zip b) m p=_;unfold bindC;rw[xY λv f=>(X0.mp nd).1 (ZU f).1,V4 e];simp
 | p::P,w::b,i+1,m,nd,d,c,e=>by
  show bindC a ((p,w)::P.zip b) m x=_;unfold bindC;exact xZ (i:=i) (X0.mp nd).2 (by simpa using d) (by simpa using c) e
noncomputable def start(N:List Str)(a:List V):St:=a.map some++List.replicate (N.length-a.length) none
abbrev f9(CX:EF)(P:Program)(w:World)(K:FR)(mg:Str->Option Value)(base:Heap)(N:List Str)(qual:Str)(scope:Scope)(f:Addr)(cd:Value)(A:Around)(outer:List Env)(s:Shared)(H:Hp)(E:XK):Cx where
 prog:=P
 w:=w
 K:=K
 mg:=mg
 base:=base
 A:=A.deeper (envOfC qual scope s.heap.objs.size f cd)
 N:=N
 s₀:=s
 H₀:=H
 env:=envOfC qual scope s.heap.objs.size f cd
 outer:=outer
 stack:=envOfC qual scope s.heap.objs.size f cd::outer
 ex:=[]
 calm:=true
 fn:=λ_=>true
 pn:=[]
 xe:=λe s'=>wpAny (model P w) (A.deeper (envOfC qual scope s.heap.objs.size f cd)) (leaving (envOfC qual scope s.heap.objs.size f cd) e) (λ_ s''=>CX outer H s E e s'') (λe' s''=>CX outer H s E e' s'') s'
def Bq{a:Scope}{n:Nat}{x:Str}(h:a.names.lookup x=some .cell):∃c,(cellsFrom n a.names []).lookup x=some c:=by
 have q:=Aah a.names n [] (.inl h);exact YB.mp q
def xK{O:EF}{P:Program}{w:World}{K:FR}{mg:Str->Option Value}{base:Heap}{N m:List Str}{g:Str}{d:Scope}{f:Addr}{I:Value}{A:Around}{outer:List Env}{s J:Shared}{H:Hp}{E:XK}{us:List Value}{vs:List V}
  (S:ax N m d) (hd:A.handled=none) (l:Kg P w K mg base A outer s H) (hl:vs.length=m.length) (r:Vals vs us)
  (x:InCallC s s.heap.objs.size (bindL (envOfC g d s.heap.objs.size f I).kindOf (m.zip us) λ_=>none) (cellsFrom (s.heap.objs.size+1) d.names []) (bindC (envOfC g d s.heap.objs.size f I).kindOf (m.zip us) λ_=>none) J):
  Inv (f9 O P w K mg base N g d f I A outer s H E) [] (start N vs) H J:=by
 have Q:m.length<=N.length:=by have:=congrArg List.length S.pre;rw[Wx] at this;lia
 obtain⟨G,T,rfl,M⟩:=x.done;have o:∀b:Addr,b∉(f9 O P w K mg base N g d f I A outer s H E).ex:=λb z=>absurd (show b∈([]:List Addr) from z) (by simp);refine⟨⟨l.mod,S.kind,rfl,rfl,VZ _,λy z c G j=>?_,λy t=>?_,λy c _ h=>?_,λ_=>hd,Around.frames_deeper l.frames,.inr ⟨rfl,rfl⟩,λb z=>absurd z (o b),l.bs,l.Kp,λb _ _=>o b,λb z=>absurd z (o b),l.qr,l.MR⟩,
  rfl,l.bare,Un.kept M,⟨_,x.toInCall.ns,λi y v G j h3=>?_⟩,λy c h=>⟨_,x.cell y c h⟩,l.bu.fresh (VZ _),λy c h=>?_,λp hp=>absurd (show p∈([]:List (Addr×Obj)) from hp) (by simp),l.bu.kept M,?_⟩
 ·exact name_of_addr x.apart (WI G) (WI j)
 ·have t:d.names.lookup y=some .cell\/d.names.lookup y=some .free:=t;rcases t with t | t
  ·exact Bq t
  ·exact absurd rfl (S.O3 _ (WI t))
 ·exact XG (x.above y c (WI h))
 ·have F:i < vs.length:=by
   unfold start at j
   by_cases F:i < vs.length
   ·exact F
   ·rw[We (by simpa using F)] at j;rw[Aae] at j
    split at j <;> cases j
  have R:vs[i]?=some v:=by
   unfold start at j;rw[Wc (by simpa using F),Wa] at j;cases e:vs[i]? with
   | none=>rw[e] at j;cases j
   | some a=>rw[e] at j;cases j;rfl
  obtain⟨u,L,rv⟩:=r.get R;have hp:m[i]?=some y:=by
   rw[<-S.pre,WQ (by lia)];exact G
  have C:m.Nodup:=by rw[<-S.pre];exact S.nd.sublist (Zg _ _)
  refine⟨u,rv,?_⟩;rcases S.par y (VX hp) with k | k
  ·exact .inl ⟨k,xX C hp L k⟩
  ·obtain⟨c,e⟩:=Bq (n:=s.heap.objs.size+1) k;refine .inr ⟨.inl k,c,e,?_⟩;have q:=x.cell y c e;rw[xZ C hp L (by show d.names.lookup y≠_;rw[k];decide)] at q;exact q
 ·exact l.bu.fresh (XG (x.above y c (WI h)))
 ·unfold start;show _=N.length;rw[Wj,VU,List.length_replicate]
  lia
def I0{L:EF}{P:Program}{w:World}{K:FR}{mg:Str->Option Value}{base:Heap}{k:Nat}{f:Addr}{name c:Str}{params:Arguments}{g:List Stmt}{a:Scope}{Y kV F X d ct oc:Value}{Z od:Option Addr}
  {O:Array (Option Value)} {N G:List Str} {sp:Sp} (lk:K.lookup f=some ⟨oc,od,.func (PySem.W.fnOf name c params g a Y kV F X Z d ct),O⟩) (T:PySem.W.codeIn K d c=true) (S:ax N G a)
  (len:∀i H Q E,sp i H Q E->i.length=G.length)
  (m:∀(A:Around)(outer:List Env)(s:Shared)(H:Hp)(i:List V)(Q:VK)(E:XK),dh k (A.deeper (envOfC c a s.heap.objs.size f d))->sp i H Q E->
   ∃t,zU (f9 L P w K mg base N c a f d A outer s H E) g t/\t {nx:=λ_ j=>Q .cu j,rt:=Q} (start N i) H):
  fT P w K mg base L (k+1) f (PySem.W.fnOf name c params g a Y kV F X Z d ct) G sp:=by
 refine⟨len,λA outer s H args us i Q E hr C hb r p=>?_⟩;have hl:=len _ _ _ _ p;have KX:K.In s.heap:=C.mod.Ti.keeps λb o e=>(C.bs b o e).1;have R:s.heap.NoLimit:=C.mod.nolimit.keeps λb o e=>(C.bs b o e).1;have l:∀y∈G.zip us,a.names.lookup y.1=some .local\/(a.names.lookup y.1=some .cell/\((cellsFrom (s.heap.objs.size+1) a.names []).lookup y.1).isSome=true):=λ⟨n,v⟩ hy=>by
  rcases S.par n (ZU hy).1 with q | q
  ·exact .inl q
  ·exact .inr ⟨q,Aah _ _ _ (.inl q)⟩
 refine codeAny_call_function hr.depth (KX _ _ lk) rfl S.co S.gen rfl (PySem.W.codeRec_of KX T) (hb _ _ _ _ ?_);refine Aat S.kind l λenv he U x=>?_;subst he;refine⟨R.keeps x.toInCall.keep,codeAny_func ?_⟩;obtain⟨t,ht,hq⟩:=m A outer s H i Q E (hr.deeper _) p;have I:Inv (f9 L P w K mg base N c a f d A outer s H E) [] (start N i) H U:=xK S hr.hd C hl r x;refine WA (ht [] U (start N i) H _ I hq) (λfl M hs=>?_) λe M hs=>hs;have z:∀{h:St} {j:Hp} {v:V} {u:Value},Inv (f9 L P w K mg base N c a f d A outer s H E) [] h j M->RelV v u->Q v j->CE outer P w H s Q u M:=
  λ{h j v u} J rv q=>⟨v,j,J.os,J.bare,J.base,J.bu,rv,q⟩
 cases fl with
 | ret u=>
  obtain⟨v,h,j,J,rv,q⟩:=hs;exact z J rv q
 | next=>
  obtain⟨h,j,J,q⟩:=hs;exact z (v:=V.cu) (u:=Value.none) J rfl q
 | brk=>
  obtain⟨_,_,_,q⟩:=hs;exact False.elim q
 | cont=>
  obtain⟨_,_,_,q⟩:=hs;exact False.elim q
section
variable {X:Cx} {x:Str} {p pos:Pos} {e:Expr} {es:List Expr} {t:TA} {id T:String} {r:List V->Hp->VK->Prop}
def Va(r:List V->Hp->VK->Prop)(t:TA):TE:=λa H Q=>t a H λb c=>r b c Q
def uy(hc:fE X (.builtin id) r)(k:Gl X x)(hm:X.mg x=none)(j:bootBuiltins x=some (.builtin id))(l:PA X (e::es) t)(hn:x≠"__name__":=by decide)(c:(x==("__debug__":Str))=false:=by decide)
  (he:starEach (e::es) X.env=(false,eval e X.env)::starEach es X.env:=by rfl) (b:(backTo pos (starEach es X.env)).any (·.1)=false:=by rfl):PE X (.Call (.Name x p) (e::es) [] pos) (Va r t):=by
 intro a s d H Q I h;refine Xw (jP I k hm j ?_ hn c);exact PyProof.Rows.callWith_builtin1 (cx (l pos a s d H _ I h) λus s1 ⟨f,H1,m,g,i⟩=>hc a s1 d H1 f us Q m g i) he b
def qe(hc:fE X (.type T) r)(k:Gl X x)(hm:X.mg x=none)(j:bootBuiltins x=some (.type T))(l:PA X (e::es) t)(hn:x≠"__name__":=by decide)(c:(x==("__debug__":Str))=false:=by decide)
  (he:starEach (e::es) X.env=(false,eval e X.env)::starEach es X.env:=by rfl) (b:(backTo pos (starEach es X.env)).any (·.1)=false:=by rfl):PE X (.Call (.Name x p) (e::es) [] pos) (Va r t):=by
 intro a s d H Q I h;refine Xw (jP I k hm j ?_ hn c);exact Xe (cx (l pos a s d H _ I h) λus s1 ⟨f,H1,m,g,i⟩=>hc a s1 d H1 f us Q m g i) he b
end
end L2
namespace HT
open PyProof.Rows
section
open PySem.SeqAt
open PySem.AutoSeq1 (wpAny_loadPart')
open PySem.MeetsSeq PySem.MeetsSeq2 PySem.MeetsSeq3
end
def Md(ht:IsTup s.heap t c.toArray)(q:IsTup s.heap b ws.toArray)(o:c≠[])(u:ws=[]->Q (.ref t) s)(r:ws≠[]->Q (.ref s.heap.objs.size) {s with heap:=s.heap.push {cls:=.type "tuple",data:=.seq (c++ws).toArray}})(k:c.length+ws.length<=sizeLine):wpAny (model prog w) A (binaryOp .Add (.ref t) (.ref b)) Q E s:=by
 obtain⟨⟨cls,dd,data,m⟩,j,hc,n,hd⟩:=id ht;obtain⟨⟨p,h,l,d⟩,a,g,n2,f⟩:=id q;simp only at hc hd g f;subst hc hd g f;have e:c.toArray++ws.toArray=(c++ws).toArray:=by simp
 by_cases i:ws=[]
 ·exact concat_meets ⟨_,j,rfl⟩ ⟨_,a,rfl⟩ Z4 seq_tuple_add Zq Zn (Zi _ _)
   (tuple_addW1 t b c.toArray ws.toArray n n2 dd h m d (by simpa using o) (by simp[i])) ⟨j,a,u i⟩
 ·refine concat_meets ⟨_,j,rfl⟩ ⟨_,a,rfl⟩ Z4 seq_tuple_add Zq Zn (Zi _ _)
   (tuple_addW2 t b c.toArray ws.toArray n n2 dd h m d (by simpa using o) (by simpa using i) (by rw[Wi,Wi];exact k)) ⟨j,a,?_⟩
  rw[e];exact r i
noncomputable def de(n d:Nat):Option Int->Nat
 | none=>d
 | some v=>if v < 0 then(v+(n:Int)).toNat else min v.toNat n
def t6(n d:Nat):de n d none=d:=rfl
def yD(n d k:Nat):de n d (some (k:Int))=min k n:=by
 show(if(k:Int) < 0 then((k:Int)+(n:Int)).toNat else min (k:Int).toNat n)=min k n;rw[V4 (by lia),X5]
def NV(n d:Nat)(hd:d<=n)(o:Option Int):de n d o<=n:=by
 cases o with
 | none=>exact hd
 | some v=>
  show(if v < 0 then(v+(n:Int)).toNat else min v.toNat n)<=n
  by_cases a:v < 0
  ·rw[V1 a];lia
  ·rw[V4 a];exact Nat.min_le_right _ _
def Es(v:Int)(n d:Nat):(if v < 0 then max (v+(n:Int)) 0 else min v (n:Int))=((de n d (some v):Nat):Int):=by
 show(if v < 0 then max (v+(n:Int)) 0 else min v (n:Int))=(((if v < 0 then(v+(n:Int)).toNat else min v.toNat n):Nat):Int)
 by_cases a:v < 0
 ·simp only[V1 a];lia
 ·simp only[V4 a];lia
def Dy(a b:Option Int)(n:Nat):Builtin.Slice.sliceAdjust a b 1 (n:Int)=(((de n 0 a:Nat):Int),((de n n b:Nat):Int)):=by
 have c:¬((1:Int) < 0):=by lia
 unfold Builtin.Slice.sliceAdjust;simp only[c,Xk];refine Prod.ext ?_ ?_
 ·cases a with
  | none=>rfl
  | some v=>exact Es v n 0
 ·cases b with
  | none=>rfl
  | some v=>exact Es v n n
def Cv(i j:Nat):Builtin.Slice.slicePlaces (i:Int) (j:Int) 1=j-i:=by
 unfold Builtin.Slice.slicePlaces;have a:(1:Int) > 0:=by lia
 simp only[a,Ys,Aan]
 split <;> lia
def tK(p:IsPart v o)(h:Q o s):wpAny (model prog w) A (Builtin.Slice.slicePartIndex v) Q E s:=by
 cases p with
 | none=>exact slicePart_none h
 | int i t=>exact slicePart_int h
def i9{g:Addr}{f e:Value}{a c:Option Int}{n:Nat}{Q:Int×Int×Nat->Shared->Prop}(hs:s.heap.IsSliceOf g f e .none)(pl:IsPart f a)(i:IsPart e c)
  (h:Q (((de n 0 a:Nat):Int),1,de n n c-de n 0 a) s):wpAny (model prog w) A (Builtin.Slice.sliceApplied (.ref g) (pure (n:Int))) Q E s:=by
 obtain⟨os,b,j,d⟩:=id hs;unfold Builtin.Slice.sliceApplied Builtin.Slice.sliceFields;refine VT (VT (Xp b d (x:=f) rfl (VT (Xp b d (x:=e) rfl (VT (Xp b d (x:=.none) rfl (VY ?_)))))));refine VT (slicePart_none ?_);show wpAny _ _ (if((1:Int)==0)=true then _ else _) _ _ s;rw[V4 (by decide)];refine VT (tK pl (VT (tK i (VT (VY ?_)))));show wpAny _ _ (match Builtin.Slice.sliceAdjust a c 1 (n:Int) with |(a,c)=>pure (a,(1:Int),Builtin.Slice.slicePlaces a c 1)) _ _ s;rw[Dy a c n];show wpAny _ _ (pure (((de n 0 a:Nat):Int),(1:Int),Builtin.Slice.slicePlaces ((de n 0 a:Nat):Int) ((de n n c:Nat):Int) 1)) _ _ s;rw[Cv];exact VY h
def Ic(a:Array Value)(i k:Nat):((List.range k).filterMap λ(m:Nat)=>a[((i:Int)+(m:Int)*1).toNat]?).toArray=((a.toList.drop i).take k).toArray:=by
 have e:(λ(m:Nat)=>a[((i:Int)+(m:Int)*1).toNat]?)=λm=>a[i+m]?:=by
  funext m
  have:((i:Int)+(m:Int)*1).toNat=i+m:=by lia
  rw[this]
 rw[e];have:=pick_run a i k;rw[Zc] at this;have b:((λx=>a[x]?)∘λx=>i+x)=λm=>a[i+m]?:=rfl;rw[b] at this;rw[this]
def oJ{t e:Addr}{a:Array Value}{l k:Value}{c d:Option Int}{Q:Value->Shared->Prop}(ht:IsTup s.heap t a)(hs:s.heap.IsSliceOf e l k .none)(pl:IsPart l c)(n:IsPart k d)
  (hw:¬(de a.size 0 c=0/\de a.size a.size d=a.size))
  (h:Q (.ref s.heap.objs.size) {s with heap:=s.heap.push {cls:=.type "tuple",data:=.seq ((a.toList.drop (de a.size 0 c)).take (de a.size a.size d-de a.size 0 c)).toArray}})
  (o:a.size<=sizeLine):wpAny (model prog w) A (getItem (.ref t) (.ref e)) Q E s:=by
 have b:sizeOk (.seq ((a.toList.drop (de a.size 0 c)).take (de a.size a.size d-de a.size 0 c)).toArray):=by
  show((a.toList.drop (de a.size 0 c)).take (de a.size a.size d-de a.size 0 c)).toArray.size<=sizeLine;rw[Wi,Wx,XN,XF]
  lia
 have hj:de a.size a.size d<=a.size:=NV _ _ (VZ _) d;obtain⟨os,f,i,p⟩:=id hs;have j:s.TypeIs (.ref e) "slice":=⟨os,f,i⟩;unfold getItem
 try with_reducible refine WE ?_
 first | refine VT (VY ?_) | skip
 refine VT (wpAny_sequenceKey ht.typeIs (by decide) ?_);refine VT (XI (name:=Str.ofString "__getitem__") ht.typeIs WZ
  (Xv WZ ht.typeIs entry_tuple_getitem ?_ (args_tuple_getitem _ _)))
 show wpAny _ _ (Builtin.Tuple.tupleItemsOf (.ref t) >>=_) _ _ s;refine VT (tupleItemsOf_ ht ?_);refine VT (ZW j ?_);rw[V1 (by decide)];refine VT (i9 hs pl n ?_);have g:¬((((de a.size 0 c:Nat):Int)==0&&(1:Int)==1&&(de a.size a.size d-de a.size 0 c)==a.size)=true):=by
  intro q;rw[Wm,Wm] at q;have u:((de a.size 0 c:Nat):Int)=0:=eq_of_beq q.1.1;have r:de a.size a.size d-de a.size 0 c=a.size:=eq_of_beq q.2;exact hw ⟨by lia,by lia⟩
 show wpAny _ _ (if(((de a.size 0 c:Nat):Int)==0&&(1:Int)==1&&(de a.size a.size d-de a.size 0 c)==a.size)=true then _ else _) _ _ s;rw[V4 g,Ic]
 first
  | exact VT (m:=Builtin.Tuple.tupleExact _) (W2 (VY ⟨_,rfl,VY h⟩) b)
  | exact VT (m:=Builtin.Tuple.tupleExact _) (W2 (VT (VY (VY ⟨_,rfl,VY h⟩))) b)
  | exact VT (VT (m:=Builtin.Tuple.tupleExact _) (W2 (VY (VY ⟨_,rfl,VY h⟩)) b))
  | exact VT (VT (m:=Builtin.Tuple.tupleExact _) (W2 (VY ⟨_,rfl,VY h⟩) b))
end HT
namespace L2
open PyProof.Rows
abbrev TO:=St->Hp->(Option Int->Hp->Prop)->Prop
def PO(X:Cx)(e:Option Expr)(t:TO):Prop:=
 ∀(a:List (Addr×Obj)) (s:Shared) (b:St) (H:Hp) (Q:Option Int->Hp->Prop),Inv X a b H s->t b H Q->
  wpAny (model X.prog X.w) X.A (evalPart e X.env) (λu d=>∃o c,Inv X a b c d/\IsPart u o/\Q o c) X.xe s
noncomputable def Kx:TO:=λ_ H Q=>Q none H
def QP(t:TE):TO:=λa H Q=>t a H λx b=>∃i,x=.int i/\Q (some i) b
def intsAre_of:∀{us:List Value},Vals (ns.map V.int) us->IntsAre us ns:=by
 induction ns with
 | nil=>intro us r;rw[XH] at r;cases r;exact .nil
 | cons n ns c=>
  intro us r;rw[V6] at r;cases r with
  | cons b a=>
   obtain⟨t,e⟩:=b;subst e;exact .cons n t (c a)
section
variable {X:Cx} {e:Expr} {te:TE} {lo hi:Option Expr} {tl th:TO} {pos p2:Pos}
def Lg:PO X none Kx:=by
 intro a s b H Q I h;rw[evalPart_none];exact VY ⟨none,H,I,.none,h⟩
def Lf(h:PE X e te):PO X (some e) (QP te):=by
 intro a s b H Q I f;rw[evalPart_some];refine cx (h a s b H _ I f) λu s1 u9=>?_;obtain⟨x,H1,g,c,d⟩:=u9;obtain⟨i,rfl,q⟩:=d;obtain⟨t,rfl⟩:=c;exact⟨some i,H1,g,.int i t,q⟩
def Qj(X:Cx)(r:V->Option Int->Option Int->Hp->VK->Prop):Prop:=
 ∀(a:List (Addr×Obj)) (s:Shared) (b:St) (H:Hp) (x:V) (v d c:Value) (lo hi:Option Int) (f:Addr) (Q:VK),Inv X a b H s->RelV x v->s.heap.IsSliceOf f d c .none->IsPart d lo->IsPart c hi->r x lo hi H Q->
  ∃T g,typeLookup (.type T) "__getitem__"=pure (some (.builtin g))/\s.TypeIs v T/\wpAny (model X.prog X.w) X.A (getItem v (.ref f)) (EP X a b Q) X.xe s
def Vw(r:V->Option Int->Option Int->Hp->VK->Prop)(te:TE)(tl th:TO):TE:=λa H Q=>te a H λx d=>tl a d λl c=>th a c λu b=>r x l u b Q
def Ih(hr:Qj X r)(p:PE X e te)(hl:PO X lo tl)(n:PO X hi th):PE X (.Subscript e (.Slice lo hi none p2) pos) (Vw r te tl th):=by
 intro a s c H Q I h;refine Subscript_ (cx (p a s c H _ I h) λv s1 u9=>?_);obtain⟨x,H1,E,i,m⟩:=u9;refine wpAny_Slice (cx (hl a s1 c H1 _ E m) λf s2 ⟨l,F,C,pl,k⟩=>cx (n a s2 c F _ C k) λd s3 u9=>?_);obtain⟨u,g,z,pu,j⟩:=u9;rw[evalPart_none];refine VY ?_;have y:Inv X a c g {s3 with heap:=s3.heap.push {cls:=.type "slice",data:=.fields #[f,d,.none]}}:=z.kept (t':=s3.toks) λb ob q=>V0 _ q;obtain⟨T,G,t,ht,o⟩:=hr a {s3 with heap:=s3.heap.push {cls:=.type "slice",data:=.fields #[f,d,.none]}} c g x v f d l u s3.heap.objs.size Q y i (Heap.IsSliceOf.new ..) pl pu j;show wpAny (model X.prog X.w) X.A (subscriptTail e (.Slice lo hi none p2) v (.ref s3.heap.objs.size)) (EP X a c Q) X.xe {s3 with heap:=s3.heap.push {cls:=.type "slice",data:=.fields #[f,d,.none]}};exact tail_any (ops:=[.ref s3.heap.objs.size,v]) ht t o (by with_unfolding_all rfl)
noncomputable def vg(a:List V)(lo hi:Option Int):List V:=(a.drop (HT.de a.length 0 lo)).take (HT.de a.length a.length hi-HT.de a.length 0 lo)
def rO(a:List V)(lo hi:Option Int):(vg a lo hi).length<=a.length:=by
 unfold vg;rw[Wx,XN]
 lia
def Um(K:FR):V->Option Int->Option Int->Hp->VK->Prop:=λx lo hi H Q=>∃a b,x=.ref a/\lj K H a b/\
 ¬(HT.de b.length 0 lo=0/\HT.de b.length b.length hi=b.length)/\∀p,H p=none->Q (.ref p) (upd H p (.tup (vg b lo hi)))
def NJ:Qj X (Um X.K):=by
 intro g s n H x v t p lo hi u Q I j hs pl k h;obtain⟨a,d,rfl,l,m,q⟩:=h;cases j;obtain⟨f,r,ht,i⟩:=I.tuple l;have c:f.toArray.size=d.length:=by rw[Wi];exact r.length.symm
 refine⟨"tuple",_,WZ.lookup,ht.typeIs,?_⟩;refine HT.oJ ht hs pl k (by rw[c];exact m) ?_ (by rw[c];exact i);rw[c];refine⟨.ref s.heap.objs.size,_,I.laid (t':=s.toks) (o:=.tup (vg d lo hi)) (λb ob q=>V0 _ q) (VZ _) ?_,rfl,q _ (I.bu.fresh (VZ _))⟩;exact⟨V2 (rO d lo hi) i,_,(r.drop (HT.de d.length 0 lo)).take (HT.de d.length d.length hi-HT.de d.length 0 lo),BA.new _ _⟩
def Rt(K:FR):R2:=λx y H Q=>∃a b d c,x=.ref a/\y=.ref b/\lj K H a d/\lj K H b c/\d≠[]/\d.length+c.length<=sizeLine/\
 (c=[]->Q (.ref a) H)/\(c≠[]->∀p,H p=none->Q (.ref p) (upd H p (.tup (d++c))))
def Vals.sQ(r:Vals xs us):us=[]↔xs=[]:=by
 cases r with
 | nil=>simp
 | cons _ _=>simp
def Lw:nB X (binaryOp .Add) (Rt X.K):=by
 intro f s F H x y v u Q I m l h;obtain⟨a,b,k,j,rfl,rfl,E,C,A,i,p,n⟩:=h;cases m;cases l;obtain⟨t,d,r,_⟩:=I.tuple E;obtain⟨g,c,p2,_⟩:=I.tuple C;refine HT.Md r p2 (λz=>A (d.sQ.mp z)) (λz=>⟨.ref a,H,I,rfl,p (c.sQ.mp z)⟩) (λz=>?_) (by rw[<-d.length,<-c.length];exact i);refine⟨.ref s.heap.objs.size,_,I.laid (t':=s.toks) (o:=.tup (k++j)) (λb ob q=>V0 _ q) (VZ _) ?_,rfl,n (λw=>z (c.sQ.mpr w)) _ (I.bu.fresh (VZ _))⟩;exact⟨by rw[Wj];exact i,_,d.append c,BA.new _ _⟩
end
noncomputable def zg(n:Nat)(i:Int):Option Nat:=if 0<=i then(if i < n then some i.toNat else none) else if -(n:Int)<=i then some (i+n).toNat else none
def jt{a:Type}(b:List a)(i:Int):Option a:=(zg b.length i).bind λj=>b[j]?
def Eb(h:zg n i=some j):seqIndex? i n=some j/\j < n/\-(n:Int)<=i/\i < n:=by
 unfold zg at h
 by_cases b:0<=i
 ·rw[V1 b] at h
  by_cases a:i < n
  ·rw[V1 a] at h;have e:i.toNat=j:=Option.some.inj h;exact⟨by rw[seqIndex_of b a,e],by lia,by lia,a⟩
  ·rw[V4 a] at h;cases h
 ·rw[V4 b] at h
  by_cases a:-(n:Int)<=i
  ·rw[V1 a] at h;have e:(i+n).toNat=j:=Option.some.inj h;exact⟨by rw[seqIndex_neg (by lia) a,e],by lia,a,by lia⟩
  ·rw[V4 a] at h;cases h
def tq(h:jt xs i=some v):∃j,seqIndex? i xs.length=some j/\xs[j]?=some v/\j < xs.length/\-(xs.length:Int)<=i/\i < xs.length:=by
 unfold jt at h;cases e:zg xs.length i with
 | none=>rw[e] at h;cases h
 | some j=>
  rw[e] at h;obtain⟨c,b,h3,a⟩:=Eb e;exact⟨j,c,h,b,h3,a⟩
def tj{b:Type}{a:List b}{j:Nat}{v:b}(h:a[j]?=some v):jt a (j:Int)=some v:=by
 have hj:j < a.length:=(VW.mp h).1;have e:zg a.length (j:Int)=some j:=by
  unfold zg;rw[V1 (by lia),V1 (by lia)];simp
 unfold jt;rw[e];exact h
def JR(a:List α)(v:α):jt (a++[v]) (-1)=some v:=by
 have hl:(a++[v]).length=a.length+1:=by simp
 have e:zg (a++[v]).length (-1)=some a.length:=by
  unfold zg;rw[hl,V4 (by decide),V1 (by lia)];congr 1
  lia
 unfold jt;rw[e];show(a++[v])[a.length]?=some v;simp
def pv(b:Expr):Prop:=∀o i,subscripted b false o i=operate [o,i] (getItem o i)
def SY(X:Cx)(r:R2):Prop:=
 ∀(c a:Expr)(b:List (Addr×Obj)) (s:Shared) (d:St) (H:Hp) (x y:V) (v u:Value) (Q:VK),Inv X b d H s->RelV x v->RelV y u->r x y H Q->
  subscripted a false v u=operate [v,u] (getItem v u)->wpAny (model X.prog X.w) X.A (subscriptTail c a v u) (EP X b d Q) X.xe s
def Qw(X:Cx)(d:String)(r:V->List V->Hp->VK->Prop):Prop:=
 ∀(a:List (Addr×Obj)) (s:Shared) (b:St) (H:Hp) (x:V) (c:List V) (v:Value) (us:List Value) (Q:VK),Inv X a b H s->RelV x v->Vals c us->r x c H Q->
  wpAny (model X.prog X.w) X.A (call (.builtin d) (v::us)) (EP X a b Q) X.xe s
section
variable {X:Cx} {a b:Expr} {ta tb:TE} {pos:Pos}
def Rx(hr:SY X r)(j:PE X a ta)(i:PE X b tb)(hs:pv b):PE X (.Subscript a b pos) (QR r ta tb):=by
 intro c s d H Q I h;exact Subscript_ (P8 j i I h λv u e x y l k g f q=>hr a b c e d l x y v u Q k g f q (hs _ _))
def Uv(K:FR):R2:=λx y H Q=>∃p c i v,x=.ref p/\y=.int i/\gU K H p c/\jt c i=some v/\Q v H
def Ut(K:FR):R2:=λx y H Q=>∃p c i v,x=.ref p/\y=.int i/\lj K H p c/\jt c i=some v/\Q v H
def Uu:R2:=λx y H Q=>∃z i c,x=.str z/\y=.int i/\z.length<=sizeLine/\jt z.cps.toList i=some c/\Q (.str ⟨#[c]⟩) H
def LJ:SY X (Uv X.K):=by
 intro f g c s m H x y v u Q I E C h hs;obtain⟨p,N,i,z,rfl,rfl,F,G,q⟩:=h;cases E;obtain⟨t,rfl⟩:=C;obtain⟨l,r,pl,O⟩:=I.list F;obtain⟨j,e,M,h3,L,J⟩:=tq G;obtain⟨w,o,k⟩:=r.get M;have hl:=r.length;have hn:=mZ;have d:EP X c m Q w s:=⟨z,H,I,k,q⟩
 by_cases n:0<=i
 ·have hj:i.toNat=j:=by
   rw[seqIndex_of n J] at e;exact Option.some.inj e
  exact item_listR pl.isList n (by lia) (by rw[hj];simpa using o) d hs
 ·have hj:(i+(l.toArray.size:Int)).toNat=j:=by
   rw[seqIndex_neg (by lia) L] at e;rw[Wi,<-hl];exact Option.some.inj e
  exact subscriptTail_builtinR (x:=w) pl.isList.typeIs slot_list_getitem.lookup
   (wpAny_getItem_list_neg (Q:=λr A=>r=w/\EP X c m Q r A) pl.isList (by lia) (by rw[Wi] <;> lia) (by lia) (by rw[hj];simpa using o) ⟨rfl,d⟩) hs
def Pd:SY X (Ut X.K):=by
 intro d e c s k H x y v u Q I n m h hs;obtain⟨p,J,i,z,rfl,rfl,A,C,q⟩:=h;cases n;obtain⟨t,rfl⟩:=m;obtain⟨o,r,pl,L⟩:=I.tuple A;obtain⟨j,F,E,h3,N,M⟩:=tq C;obtain⟨w,G,f⟩:=r.get E;have hl:=r.length;have hn:=mZ;have g:EP X c k Q w s:=⟨z,H,I,f,q⟩;exact subscriptTail_builtinR (x:=w) pl.typeIs WZ.lookup
  (getItem_tuple (j:=j) (Q:=λr l=>r=w/\EP X c k Q r l) pl (by lia) (by lia) (by rw[Wi,<-hl];exact F) (by simpa using G) ⟨rfl,g⟩) hs
def Pe:SY X Uu:=by
 intro d e f s A H x y v u Q I l k h hs;obtain⟨z,i,c,rfl,rfl,E,m,q⟩:=h;obtain⟨t,rfl⟩:=l;obtain⟨C,rfl⟩:=k;obtain⟨j,g,p,h3,o,n⟩:=tq m;have hl:z.cps.toList.length=z.length:=by simp[Str.length]
 rw[hl] at g o n;have hn:=mZ;exact tail_any (typeIs_str s z t) slot_str_getitem.lookup (getItem_str (c:=c) (by
  have w:decide (i < -(2^63:Int))=false:=WM (by lia);have r:decide (i≥2^63)=false:=WM (by lia);rw[w,r,Bool.or_false]) (by rw[g];simpa using p) ⟨.str ⟨#[c]⟩,H,I.tok _,⟨_,rfl⟩,q⟩) hs
def CQ(c:List Value)(n j:Nat)(u:Value):Obj.mapSeq (·.setIfInBounds j u) {cls:=.type "list",data:=.seq c.toArray n}={cls:=.type "list",data:=.seq (c.set j u).toArray n}:=by
 simp[Obj.mapSeq]
theorem Inv.lst(I:Inv X pins σ H s)(h:H p=some (.lst xs)):
  ∃(c:List Value)(n:Nat),Vals xs c/\s.heap.get? p=some {cls:=.type "list",data:=.seq c.toArray n}/\xs.length<=sizeLine:=by
 obtain⟨z,c,n,r,e⟩:=I.bu p _ h;exact⟨c,n,r,e,z⟩
def Inv.O4{d:List (Addr×Obj)}{k:St}{H:Hp}{s:Shared}{p:Addr}{m i:List V}{g c:List Value}{n j:Nat}{f:Obj->Obj}(I:Inv X d k H s)(h:H p=some (.lst m))
  (v:s.heap.get? p=some {cls:=.type "list",data:=.seq g.toArray n}) (l:f {cls:=.type "list",data:=.seq g.toArray n}={cls:=.type "list",data:=.seq c.toArray j}) (r:Vals i c) (o:i.length<=sizeLine) (t:Nat):
  Inv X d k (upd H p (.lst i)) {s with heap:=s.heap.update p f,toks:=t}:=by
 have e:(s.heap.update p f).get? p=some {cls:=.type "list",data:=.seq c.toArray j}:=by
  rw[Yt f v (by rw[l] <;> rfl),l]
 refine I.write (x:=p) (e:=p) (by rw[h];trivial) (.inl rfl) (λb u w q=>(Xl _ _ (XX w)).trans q) ⟨_,e⟩ ?_;exact⟨o,c,j,r,e⟩
def Rr:V->V->V->Hp->(Hp->Prop)->Prop:=λo i v H Q=>∃p c k j,o=.ref p/\i=.int k/\H p=some (.lst c)/\zg c.length k=some j/\Q (upd H p (.lst (c.set j v)))
def set_list:Qo X Rr:=by
 intro c s x H o i v C E u Q I ro z rv h;obtain⟨p,y,k,j,rfl,rfl,hp,hj,q⟩:=h;cases ro;obtain⟨t,rfl⟩:=z;obtain⟨d,n,r,f,A⟩:=I.lst hp;obtain⟨e,F,h3,l⟩:=Eb hj;have hl:=r.length;have hn:=mZ;have w:Inv X c x (upd H p (.lst (y.set j v))) {s with heap:=s.heap.update p (Obj.mapSeq (·.setIfInBounds j u))}:=
  I.O4 hp f (CQ d n j u) (r.set rv j) (by rw[Xa];exact A) s.toks
 by_cases m:0<=k
 ·have g:k.toNat=j:=by
   rw[seqIndex_of m l] at e;exact Option.some.inj e
  exact PySem.W.ki_setAt f m (by lia) (by rw[Wi,<-hl];exact l) (by rw[g];exact⟨_,w,q⟩)
 ·have g:(k+(d.toArray.size:Int)).toNat=j:=by
   rw[seqIndex_neg (by lia) h3] at e;rw[Wi,<-hl];exact Option.some.inj e
  exact PySem.W.ki_setBack f (by lia) (by rw[Wi,<-hl];exact h3) (by lia) (by rw[g];exact⟨_,w,q⟩)
def yr(c d:Option Int)(n:Nat):(sliceBounds c d none n).1=((HT.de n 0 c:Nat):Int)/\(sliceBounds c d none n).2.1=((HT.de n n d:Nat):Int)/\(sliceBounds c d none n).2.2=1:=by
 refine⟨?_,?_,rfl⟩
 ·cases c with
  | none=>simp[sliceBounds,HT.de]
  | some i=>
   simp only[sliceBounds,HT.de,Option.getD_none,show(1:Int) > 0 by decide,Ys]
   by_cases h:i < 0
   ·simp only[h,Ys] <;> lia
   ·simp only[h,Xk] <;> lia
 ·cases d with
  | none=>simp[sliceBounds,HT.de]
  | some i=>
   simp only[sliceBounds,HT.de,Option.getD_none,show(1:Int) > 0 by decide,Ys]
   by_cases h:i < 0
   ·simp only[h,Ys] <;> lia
   ·simp only[h,Xk] <;> lia
def vQ(c:List Value)(d e:Option Int):slicePick c.toArray d e none=((c.drop (HT.de c.length 0 d)).take (HT.de c.length c.length e-HT.de c.length 0 d)).toArray:=by
 obtain⟨g,f,h3⟩:=yr d e c.toArray.size;unfold slicePick;rw[g,f,h3];simp only[sliceRange_one,pick_run,Wi] <;> rfl
def Up(K:FR):V->Option Int->Option Int->Hp->VK->Prop:=λx d e H Q=>∃a c,x=.ref a/\gU K H a c/\∀p,H p=none->Q (.ref p) (upd H p (.lst (vg c d e)))
def KH:Qj X (Up X.K):=by
 intro g s n H x v t p e f u Q I i hs pl j h;obtain⟨a,c,rfl,m,q⟩:=h;cases i;obtain⟨k,r,ht,l⟩:=I.list m;have d:=r.length;refine⟨"list",_,slot_list_getitem.lookup,ht.isList.typeIs,?_⟩;refine wpAny_getItem_list_slice ht.isList hs pl j .none (by simp) ?_ (by rw[Wi] <;> lia);rw[vQ,<-d];refine⟨.ref s.heap.objs.size,_,I.laid (t':=s.toks) (o:=.lst (vg c e f)) (λb ob q=>V0 _ q) (VZ _) ?_,rfl,q _ (I.bu.fresh (VZ _))⟩;exact⟨V2 (rO c e f) l,_,0,(r.drop (HT.de c.length 0 e)).take (HT.de c.length c.length f-HT.de c.length 0 e),Wn _ rfl⟩
def zC:fE X (.builtin "len") (λi H Q=>∃p d,i=[.ref p]/\(gU X.K H p d\/lj X.K H p d)/\Q (.int d.length) H):=by
 intro j s m H i us Q I r h;obtain⟨p,d,rfl,e,q⟩:=h;obtain⟨u,rfl,k⟩:=vals1 r;cases k;have hn:=mZ;rcases e with e | e
 ·obtain⟨g,f,pl,l⟩:=I.list e;have c:=f.length;exact Calls.call_len_list pl.isList (by simp only[Wi] <;> lia) ⟨.int d.length,H,I.tok _,⟨s.toks+1,by rw[Wi,c]⟩,q⟩
 ·obtain⟨g,f,pl,l⟩:=I.tuple e;have c:=f.length;exact len_tuple pl (by simp only[Wi] <;> lia) ⟨.int d.length,H,I.tok _,⟨s.toks+1,by rw[Wi,c]⟩,q⟩
def zB:fE X (.builtin "len") (λc H Q=>∃z,c=[.str z]/\z.length<=sizeLine/\Q (.int z.length) H):=by
 intro d s e H c us Q I r h;obtain⟨z,rfl,f,q⟩:=h;obtain⟨u,rfl,t,rfl⟩:=vals1 r;have hn:=mZ;exact len_str (by lia) ⟨.int z.length,H,I.tok _,⟨_,rfl⟩,q⟩
def zA:fE X (.type "list") (λy H Q=>∃p f,y=[.ref p]/\(gU X.K H p f\/lj X.K H p f)/\∀l,H l=none->Q (.ref l) (upd H l (.lst f))):=by
 intro j s A H y us Q I r h;obtain⟨p,f,rfl,m,q⟩:=h;obtain⟨u,rfl,C⟩:=vals1 r;cases C;have v:∀(c:List Value),Vals f c->f.length<=sizeLine->∀(d:Heap)(i:Nat),(∀b z,s.heap.get? b=some z->d.get? b=some z)->
   d.get? s.heap.objs.size=some {cls:=.type "list",dict:=none,data:=.seq c.toArray i,slots:=#[]}->EP X j A Q (.ref s.heap.objs.size) {s with heap:=d}:=λc g k d i kp e=>
  ⟨.ref s.heap.objs.size,_,I.laid (t':=s.toks) kp (VZ _) (show bQ X.prog X.w _ d _ (.lst f) from⟨k,c,i,g,e⟩),rfl,q _ (I.bu.fresh (VZ _))⟩
 rcases m with m | m
 ·obtain⟨c,g,pl,k⟩:=I.list m;have t:=g.length;obtain⟨o,x,hc,n,hd⟩:=pl.isList;exact call_list_seq p (.inl rfl) x hc hd (λd i kp e=>v c g k d i kp e) (by simp only[Wi] <;> lia)
 ·obtain⟨c,g,pl,k⟩:=I.tuple m;have t:=g.length;obtain⟨o,x,hc,n,hd⟩:=pl;exact call_list_seq p (.inr rfl) x hc hd (λd i kp e=>v c g k d i kp e) (by simp only[Wi] <;> lia)
def wF:fE X (.type "tuple") (λm H Q=>∃p f,m=[.ref p]/\((gU X.K H p f/\∀l,H l=none->Q (.ref l) (upd H l (.tup f)))\/(lj X.K H p f/\Q (.ref p) H))):=by
 intro c s k H m us Q I r h;obtain⟨p,f,rfl,h⟩:=h;obtain⟨u,rfl,x⟩:=vals1 r;cases x;rcases h with⟨j,q⟩ |⟨j,q⟩
 ·obtain⟨d,i,pl,n⟩:=I.list j;have t:=i.length;refine call_tuple_list pl.isList (λg kp=>?_) (by simp only[Wi] <;> lia);have v:Inv X c k H {s with heap:=g}:=I.kept (t':=s.toks) kp;have y:Inv X c k (upd H g.objs.size (.tup f)) {s with heap:=g.push {cls:=.type "tuple",data:=.seq d.toArray}}:=
   v.laid (t':=s.toks) (λb o e=>V0 _ e) (VZ _) (show bQ X.prog X.w _ _ _ (.tup f) from⟨n,d,i,BA.new _ _⟩)
  exact⟨.ref g.objs.size,_,y,rfl,q _ (v.bu.fresh (VZ _))⟩
 ·obtain⟨d,i,pl,n⟩:=I.tuple j;exact call_tuple_same pl ⟨.ref p,H,I,rfl,q⟩
def Tc(K:FR)(T:String)(x:V)(H:Hp):Prop:=match x with
 | .str _=>T="str"
 | .int _=>T="int"
 | .ref p=>(T="list"/\∃e,gU K H p e)\/(T="tuple"/\∃o,K.lookup p=some o/\o.cls=.type "tuple"/\o.dict=none)\/
   (T="dict"/\((∃c,H p=some (.dK c))\/(∃c,H p=some (.dT c))\/∃d,H p=some (.El d)/\∀w h,d w h->∃o,h.get? p=some o/\o.ExactDict))\/(T="set"/\∃S n,H p=some (.set S n))
 | _=>False
def Nr(I:Inv X pins σ H s)(r:RelV x v)(ty:Tc X.K T x H):
  s.TypeIs v T/\∀a,v=.ref a->∃ob,s.heap.get? a=some ob/\ob.dict=none:=by
 cases x with
 | str z=>
  obtain⟨t,rfl⟩:=r;cases(show T="str" from ty);exact⟨typeIs_str s z t,λ_ e=>nomatch e⟩
 | int i=>
  obtain⟨t,rfl⟩:=r;cases(show T="int" from ty);exact⟨typeIs_int s i t,λ_ e=>nomatch e⟩
 | ref p=>
  cases r;rcases ty with⟨rfl,xs,k⟩ |⟨rfl,o,d,hc,hd⟩ |⟨rfl,d⟩ |⟨rfl,S,n,d⟩
  ·obtain⟨j,_,pl,_⟩:=I.list k;refine⟨pl.isList.typeIs,λa e=>?_⟩;cases e;obtain⟨o,n,e,c,hd,_⟩:=pl;exact⟨o,e,hd⟩
  ·refine⟨⟨o,I.rK p o d,hc⟩,λa e=>?_⟩;cases e;exact⟨o,I.rK _ o d,hd⟩
  ·have z:∃o,s.heap.get? p=some o/\o.ExactDict:=by
    rcases d with⟨f,d⟩ |⟨f,d⟩ |⟨l,d,g⟩
    ·obtain⟨_,_,_,_,o,_,_,e,ex,_⟩:=I.bu p _ d;exact⟨o,e,ex⟩
    ·obtain⟨_,_,_,_,o,_,_,e,ex,_⟩:=I.bu p _ d;exact⟨o,e,ex⟩
    ·obtain⟨q,_⟩:=I.bu p _ d;exact g _ _ q
   obtain⟨o,e,ex⟩:=z;refine⟨⟨o,e,ex.1⟩,λa h=>?_⟩;cases h;exact⟨o,e,ex.2.1⟩
  ·obtain⟨o,_,_,_,e,ex,_⟩:=I.bu p _ d;refine⟨⟨o,e,ex.1⟩,λa h=>?_⟩;cases h;exact⟨o,e,ex.2.1⟩
 | _=>exact False.elim ty
def VB(K:FR)(T:String)(r:V->List V->Hp->VK->Prop)(f:TE)(t:TA):TE:=λc H Q=>f c H λx d=>Tc K T x d/\t c d λe g=>r x e g Q
variable {o e:Expr} {es:List Expr} {to:TE} {t:TA} {name:Str} {apos cpos:Pos} {T id:String} {r:V->List V->Hp->VK->Prop}
def Ry(y:PlainAttrs T)(slot:Slot T name id)(k:typeOf (.builtin id)=pure (.type "method_descriptor"))(hm:Qw X id r)(z:PE X o to)(A:PA X (e::es) t)
  (g:attributeBase o name X.env (eval o X.env)=eval o X.env:=by rfl)
  (i:((backTo cpos (starEach (e::es) X.env)).all (λx=>!x.1)&&(backToKw cpos (keywordEach [] X.env)).all (λx=>x.1.isSome)
   &&decide ((e::es).length+([]:List Keyword).length+(if([]:List Keyword).isEmpty then 0 else 1) < 30))=true:=by rfl)
  (f:(apos.endLine==cpos.line)=true:=by rfl) (hs:starEach (e::es) X.env=(false,eval e X.env)::starEach es X.env:=by rfl) (d:(backTo cpos (starEach es X.env)).any (·.1)=false:=by rfl):
  PE X (.Call (.Attribute o name apos) (e::es) [] cpos) (VB X.K T r to t):=by
 intro c s j H Q I h;refine wpAny_Call_method_late g i f rfl (cx (z c s j H _ I h) λv s1 u9=>?_);obtain⟨x,H1,n,l,ty,w⟩:=u9;obtain⟨E,C⟩:=Nr n l ty;refine⟨T,id,y,slot,k,E,C,?_⟩;have m:=A cpos c s1 j H1 _ n w;rw[hs] at m ⊢;refine Calls.callWith_builtin (by show(false||(backTo cpos (starEach es X.env)).any (·.1))=false;rw[d] <;> rfl) (Calls.evalArgs_plain ?_);exact cx m λus s2 ⟨p,G,F,q,u⟩=>hm c s2 j G x p v us Q F l q u
end
def Vn(X:Cx)(d:String)(r:V->List V->Hp->VK->Prop):Prop:=
 ∀(a:List (Addr×Obj)) (s:Shared) (b:St) (H:Hp) (x:V) (c:List V) (v:Value) (us:List Value) (Q:VK),Inv X a b H s->RelV x v->Vals c us->r x c H Q->
  wpAny (model X.prog X.w) X.A (call (.builtin d) (v::us)) (EP X a b Q) X.xe s
def Vals.one{x:V}{us:List Value}(h:Vals [x] us):∃u,us=[u]/\RelV x u:=by
 cases h with
 | cons r t=>cases t;exact⟨_,rfl,r⟩
def Vals.two{x y:V}{us:List Value}(h:Vals [x,y] us):∃u v,us=[u,v]/\RelV x u/\RelV y v:=by
 cases h with
 | cons r t=>cases t with
  | cons q z=>cases z;exact⟨_,_,rfl,r,q⟩
theorem Vals.rep(h:Vals xs us):∀k:Nat,Vals (List.replicate k xs).flatten (List.replicate k us).flatten
 | 0=>.nil
 | k+1=>by
  rw[XD,XD,Yp,Yp];exact Vals.append h (Vals.rep h k)
theorem foldl_rep(a:List Value):∀(k:Nat)(b:List Value),
  List.foldl (λd c=>d++c) b.toArray (List.replicate k a.toArray)=(b++(List.replicate k a).flatten).toArray
 | 0,b=>by simp
 | k+1,b=>by
  have e:b.toArray++a.toArray=(b++a).toArray:=by simp
  have f:(b++a)++(List.replicate k a).flatten=b++(List.replicate (k+1) a).flatten:=by
   rw[XD,Yp,WY]
  rw[<-f,<-foldl_rep a k (b++a),<-e,XD,YE]
def Inv.RL{a its':List Value}{n:Nat}{f:Array Value->Array Value}{c:Nat}(I:Inv X pins σ H s)(k:H l=some (.lst xs))
  (e:s.heap.get? l=some {cls:=.type "list",data:=.seq a.toArray n}) (i:f a.toArray=its'.toArray) (g:Vals b its') (d:b.length<=sizeLine):
  Inv X pins σ (upd H l (.lst b)) {s with heap:=s.heap.update l (Obj.mapSeq f),toks:=c}:=by
 have q:=PySem.IsL.update e f;rw[i] at q;refine I.write (x:=l) (e:=l) (by rw[k];exact trivial) (.inl rfl) (λm u j h=>(Xl s.heap (Obj.mapSeq f) (XX j)).trans h) ⟨_,q⟩ ?_;exact⟨d,its',_,g,q⟩
def Inv.LC(I:Inv X pins σ H s)(b:Vals ys its)(a:ys.length<=sizeLine):
  Inv X pins σ (upd H s.heap.objs.size (.lst ys)) {s with heap:=s.heap.push {cls:=.type "list",data:=.seq its.toArray},toks:=t'}:=
 I.laid (λ_ _ q=>V0 _ q) (VZ _) ⟨a,its,0,b,Wn _ rfl⟩
theorem Inv.fresh(I:Inv X pins σ H s):H s.heap.objs.size=none:=I.bu.fresh (VZ _)
def Inv.FF(I:Inv X pins σ H s)(b:H l=some (.lst xs)):xs.length<=sizeLine/\∃(a:List Value)(n:Nat),Vals xs a/\xs.length=a.length/\s.heap.get? l=some {cls:=.type "list",data:=.seq a.toArray n}:=by
 obtain⟨z,a,n,r,e⟩:=I.bu l _ b;exact⟨z,a,n,r,r.length,e⟩
def AK(h:n<=sizeLine):Builtin.List.listTooLong n=false:=by
 unfold Builtin.List.listTooLong;exact WM (by lia)
def K2:V->List V->Hp->VK->Prop:=λx b H Q=>∃l a y,x=.ref l/\b=[y]/\H l=some (.lst a)/\a.length < sizeLine/\Q .cu (upd H l (.lst (a++[y])))
def qk:Vn X "list.append" K2:=by
 intro b s g H x j v us Q I d rv h;obtain⟨l,i,y,rfl,rfl,c,k,q⟩:=h;cases d;obtain⟨u,rfl,f⟩:=rv.one;obtain⟨z,a,n,r,hl,e⟩:=I.FF c;refine ZA Zv ⟨_,e,rfl⟩ F.entry_list_append (F.args_list_append_2 _ _) (PySem.list_append l a.toArray n u (by rw[Wi];lia)) ⟨e,?_⟩;refine⟨.cu,_,I.RL (its':=a++[u]) c e (by simp) (r.append (.cons f .nil)) ?_,rfl,q⟩;rw[Wj,YV]
 lia
def K1:V->List V->Hp->VK->Prop:=λx d H Q=>∃l b c a,x=.ref l/\d=[.ref b]/\H l=some (.lst c)/\H b=some (.lst a)/\c.length+a.length<=sizeLine/\Q .cu (upd H l (.lst (c++a)))
def Fx:Vn X "list.extend" K1:=by
 intro g s w H x E v us Q I j rv h;obtain⟨l,b,C,y,rfl,rfl,i,p,G,q⟩:=h;cases j;obtain⟨u,rfl,k⟩:=rv.one;cases k;obtain⟨z,c,n,r,hl,e⟩:=I.FF i;obtain⟨A,a,n2,m,o,t⟩:=I.FF p;have f:c.toArray.size+a.toArray.size<=sizeLine:=by rw[Wi,Wi];lia
 have d:¬(!c.toArray.isEmpty&&Builtin.List.listTooLong (c.toArray.size+a.toArray.size))=true:=by
  rw[AK f,Bool.and_false];exact W0
 refine ZA Zu ⟨_,e,rfl⟩ F.entry_list_extend (F.args_list_extend_2 _ _)
  (AutoSeq1.list_extend_list_list_0 l c.toArray n b a.toArray n2 d (by rw[Wi];lia) (by lia)) ⟨e,t,?_⟩
 refine⟨.cu,_,I.RL (its':=c++a) i e (by simp) (r.append m) ?_,rfl,q⟩;rw[Wj]
 lia
def Uw:R2:=λx y H Q=>∃l b c a,x=.ref l/\y=.ref b/\H l=some (.lst c)/\H b=some (.lst a)/\c.length+a.length<=sizeLine/\∀p,H p=none->Q (.ref p) (upd H p (.lst (c++a)))
def IB:nB X (binaryOp .Add) Uw:=by
 intro d s t H x y v u Q I g f h;obtain⟨l,b,C,w,rfl,rfl,k,m,E,q⟩:=h;cases g;cases f;obtain⟨z,c,n,r,hl,e⟩:=I.FF k;obtain⟨A,a,n2,i,j,p⟩:=I.FF m;refine PySem.P.add_list e p ?_ (by rw[Wi,Wi];lia);have o:c.toArray++a.toArray=(c++a).toArray:=by simp
 rw[o];exact⟨.ref _,_,I.LC (t':=s.toks) (r.append i) (by rw[Wj];lia),rfl,q _ I.fresh⟩
def Us:R2:=λx y H Q=>∃l k a,x=.ref l/\y=.int k/\H l=some (.lst a)/\-(2^63)<=k/\k < 2^63/\a.length*k.toNat<=sizeLine/\
 ∀p,H p=none->Q (.ref p) (upd H p (.lst (List.replicate k.toNat a).flatten))
def len_rep(a:List α)(k:Nat):(List.replicate k a).flatten.length=k*a.length:=by
 induction k with
 | zero=>simp
 | succ k b=>rw[XD,Yp,Wj,b,Nat.succ_mul,ZL]
def OP:nB X (binaryOp .Mult) Us:=by
 intro p s M H x y v u Q I E C h;obtain⟨l,k,N,rfl,rfl,G,L,J,w,q⟩:=h;cases E;obtain⟨t,rfl⟩:=C;obtain⟨z,b,n,r,hl,e⟩:=I.FF G;have f:b.toArray.size*k.toNat<=sizeLine:=by rw[Wi,<-hl];exact w
 have i:¬b.toArray.size*k.toNat > (2^63-1) / 8:=by
  have:(sizeLine:Nat)<=(2^63-1) / 8:=by decide
  lia
 have g:¬(!Builtin.List.listFitsIndex k)=true:=by
  rw[fitsIndex_both L J];exact W0
 have c:¬Builtin.List.listTooLong (b.toArray.size*k.toNat)=true:=by
  rw[AK f];exact W0
 have d:List.foldl (λo j=>o++j) #[] (List.replicate (if b.toArray.isEmpty=true then 0 else k.toNat) b.toArray)=(List.replicate k.toNat b).flatten.toArray:=by
  have f0:∀m:Nat,List.foldl (λo j=>o++j) #[] (List.replicate m b.toArray)=(List.replicate m b).flatten.toArray:=λm=>by
   have:=foldl_rep b m [];rw[Yi] at this;exact this
  rw[f0];cases b with
  | nil=>simp
  | cons a O=>rw[V4 (by simp)]
 refine wpAny_binaryOp_repeat_ref (T:="list") (U:="int") (by decide) ⟨_,e,rfl⟩ (λA=>typeIs_int A k t) noFill_list_mul F.fills_int_mul F.slot_int_rmul repeat_list F.slot_int_index.lookup
  (ZA F.slot_int_rmul (typeIs_int s k t) F.entry_int_rmul (F.args_int_rmul_2 _ _) (int___rmul___int_list k t l b.toArray n)
   ⟨e,rfl,⟨_,e,rfl⟩,ZA F.slot_list_mul ⟨_,e,rfl⟩ F.entry_list_mul (F.args_list_mul_2 _ _) (AutoListH.list___mul___list_int_3 l b.toArray n k t g i c) ⟨e,?_⟩⟩)
 rw[d];exact⟨.ref _,_,I.LC (t':=s.toks) (r.rep k.toNat) (by rw[len_rep,Nat.mul_comm];exact w),rfl,q _ I.fresh⟩
section
variable {κ:Type} [DecidableEq κ]
noncomputable def kh(a:List (κ×V))(k:κ):Option V:=(a.find? λb=>decide (b.1=k)).map (·.2)
noncomputable def putK(a:List (κ×V))(k:κ)(v:V):List (κ×V):=
 if(a.any λb=>decide (b.1=k))=true then a.map (λb=>if b.1=k then(b.1,v) else b) else a++[(k,v)]
def tG{p:κ×V}{r:List (κ×V)}{k:κ}(e:p.1=k):kh (p::r) k=some p.2:=by simp[kh,Yk,e]
def nF{p:κ×V}{r:List (κ×V)}{k:κ}(e:¬p.1=k):kh (p::r) k=kh r k:=by simp[kh,Yk,e]
theorem zW(k:κ):∀a:List (κ×V),(a.any λb=>decide (b.1=k))=(kh a k).isSome
 | []=>rfl
 | p::r=>by
  rw[YC]
  by_cases e:p.1=k
  ·simp only[tG e,WB e,Bool.true_or,Option.isSome_some]
  ·rw[nF e,WM e,Bool.false_or];exact zW k r
def iK(a:List (κ×V))(k:κ)(v:V):(putK a k v).length<=a.length+1:=by
 unfold putK
 split
 ·rw[VU];lia
 ·rw[Wj,V9,Yj];lia
def vG.jj(r:vG o u):o.isSome=u.isSome:=by
 cases o with
 | none=>cases u with
  | none=>rfl
  | some _=>exact(show False from r).elim
 | some _=>cases u with
  | none=>exact(show False from r).elim
  | some _=>rfl
def KV.val{a:List (κ×V)}{f:List (κ×Value)}(r:KV a f)(k:κ):vG (kh a k) (valueAt f k):=by
 unfold KV at r
 induction r with
 | nil=>exact True.intro
 | @cons p q l c h t i=>
  obtain⟨g,j⟩:=h
  by_cases e:p.1=k
  ·have d:q.1=k:=g.symm.trans e;have b:valueAt (q::c) k=some q.2:=by simp[valueAt,Yk,d]
   rw[tG e,b];exact j
  ·have d:¬q.1=k:=λz=>e (g.trans z);have b:valueAt (q::c) k=valueAt c k:=by simp[valueAt,Yk,d]
   rw[nF e,b];exact i
theorem KV.any(r:KV a c)(k:κ):(a.any λb=>decide (b.1=k))=c.any λb=>decide (b.1=k):=by
 unfold KV at r
 induction r with
 | nil=>rfl
 | cons h t d=>rw[YC,YC,d,h.1]
def KV.N0(r:KV c d)(k:κ)(f:RelV y u):
  KV (c.map λa=>if a.1=k then(a.1,y) else a) (d.map λa=>if a.1=k then(a.1,u) else a):=by
 unfold KV at r ⊢
 induction r with
 | nil=>exact .nil
 | @cons p q l j h t g=>
  rw[V6,V6];refine .cons ?_ g;obtain⟨b,i⟩:=h
  by_cases e:p.1=k
  ·rw[V1 e,V1 (b.symm.trans e)];exact⟨b,f⟩
  ·rw[V4 e,V4 (λz=>e (b.trans z))];exact⟨b,i⟩
def KV.put(r:KV a b)(k:κ)(c:RelV y u):KV (putK a k y) (stored b k u):=by
 unfold putK stored;rw[r.any k]
 by_cases e:(b.any λd=>decide (d.1=k))=true
 ·rw[V1 e,V1 e];exact r.N0 k c
 ·rw[V4 e,V4 e];exact Paired.snoc r ⟨rfl,c⟩
theorem KV.length(r:KV a b):a.length=b.length:=Paired.length r
end
def oF(r:RelV (kV k) u):(bM P w).is k u=true:=by
 cases k with
 | inl i=>obtain⟨t,e⟩:=(show ∃t,u=Value.int i t from r);subst e;exact rJ P w i t
 | inr x=>obtain⟨t,e⟩:=(show ∃t,u=Value.str x t from r);subst e;exact rH P w x t
theorem xJ:∀{ks:List Key} {us:List Value},Vals (ks.map kV) us->ItemsAre (bM P w) ks us
 | [],_,r=>by rw[XH] at r;cases r;exact .nil
 | k::ks,_,r=>by
  rw[V6] at r;cases r with
  | cons h t=>exact .cons (oF h) (xJ t)
abbrev KT(H:Hp):List (List Key×V)->List (List Key×Addr×Value)->Prop:=Paired λp q=>p.1=q.1/\H q.2.1=some (.tup (p.1.map kV))/\RelV p.2 q.2.2
def KT.val{H:Hp}{a:List (List Key×V)}{f:List (List Key×Addr×Value)}(r:KT H a f)(k:List Key):vG (kh a k) ((atKey f k).map (·.2)):=by
 induction r with
 | nil=>exact True.intro
 | @cons p q l c h t i=>
  obtain⟨g,_,j⟩:=h
  by_cases e:p.1=k
  ·have d:q.1=k:=g.symm.trans e;have b:atKey (q::c) k=some q.2:=by simp[atKey,Yk,d]
   rw[tG e,b];exact j
  ·have d:¬q.1=k:=λz=>e (g.trans z);have b:atKey (q::c) k=atKey c k:=by simp[atKey,Yk,d]
   rw[nF e,b];exact i
def KT.N0(r:KT H b xs)(k:List Key)(f:RelV y u):
  KT H (b.map λc=>if c.1=k then(c.1,y) else c) (xs.map (putAt k u)):=by
 induction r with
 | nil=>exact .nil
 | @cons p q j i h t g=>
  rw[V6,V6];refine .cons ?_ g;obtain⟨a,d,h3⟩:=h;unfold putAt
  by_cases e:p.1=k
  ·rw[V1 e,V1 (a.symm.trans e)];exact⟨a,d,f⟩
  ·rw[V4 e,V4 (λz=>e (a.trans z))];exact⟨a,d,h3⟩
def KT.put(r:KT H a xs)(k:List Key)(f:H b=some (.tup (k.map kV)))(c:RelV y u):
  KT H (putK a k y) (storedH xs k b u):=by
 have e:(a.any λd=>decide (d.1=k))=(atKey xs k).isSome:=by
  rw[zW,(r.val k).jj,ZJ]
 unfold putK storedH;rw[e]
 by_cases q:(atKey xs k).isSome=true
 ·rw[V1 q,V1 q];exact r.N0 k c
 ·rw[V4 q,V4 q];exact Paired.snoc r ⟨rfl,f,c⟩
def KT.keeps(r:KT H a xs)(ht:∀b c,H b=some (.tup c)->d b=some (.tup c)):KT d a xs:=
 Paired.RK r λ_ _ z=>⟨z.1,ht _ _ z.2.1,z.2.2⟩
def MD(ok:ll P w H h)(e:Rd H a u):bQ P w H h a u:=e.ok ok
def xS(ok:ll P w H h)(e:Rd H a (.dK b)):b.length<=sizeLine/\(a==sysModules)=false/\∃c,KV b c/\h.DictOf (bM P w) a c:=
 show bQ P w H h a (.dK b) from MD ok e
def Bi(ok:ll P w H h)(e:H a=some (.dK b)):b.length<=sizeLine/\(a==sysModules)=false/\∃c,KV b c/\h.DictOf (bM P w) a c:=xS ok (.inl e)
def uS(ok:ll P w H h)(e:H a=some (.tup (ks.map kV))):(tupleKind (bM P w)).is h ks a:=by
 obtain⟨_,b,r,o,d,c,⟨n,h3⟩,_⟩:=(show bQ P w H h a (.tup (ks.map kV)) from ok a _ e);exact⟨o,b.toArray,n,d,c,h3,by simpa using xJ r⟩
def Bh(ok:ll P w H h)(e:Rd H a (.dT b)):b.length<=sizeLine/\(a==sysModules)=false/\
  ∃d,KT H b d/\h.DictOfH (tupleKind (bM P w)) a d:=by
 obtain⟨z,y,d,r,o,s,u,n,k,h3,j,i⟩:=(show bQ P w H h a (.dT b) from MD ok e);refine⟨z,y,d,r,o,s,u,n,k,h3,j,λx c=>?_,i⟩;have all:∀{l:List (List Key×V)} {m:List (List Key×Addr×Value)},KT H l m->∀x∈m,(tupleKind (bM P w)).is h x.1 x.2.1:=by
  intro l m q
  induction q with
  | nil=>intro x c;exact nomatch c
  | @cons p q A v f t g=>
   intro x c;rcases Wh.mp c with e | c
   ·subst e;exact uS ok (by rw[<-f.1];exact f.2.1)
   ·exact g x c
 exact all r x c
def R8(ok:ll P w H h)(e:H a=some (.dT b)):b.length<=sizeLine/\(a==sysModules)=false/\
  ∃c,KT H b c/\h.DictOfH (tupleKind (bM P w)) a c:=Bh ok (.inl e)
def wG(H:Hp)(a:Addr)(y:V)(r:Option V):Prop:=
 (∃c k,Rd H a (.dK c)/\y=kV k/\r=kh c k)\/∃c k b,Rd H a (.dT c)/\y=.ref b/\H b=some (.tup (k.map kV))/\r=kh c k
def Mt(H:Hp)(a:Addr)(y v:V)(d:Hp):Prop:=
 (∃c k,H a=some (.dK c)/\y=kV k/\c.length < sizeLine/\d=upd H a (.dK (putK c k v)))\/
 ∃c k b,H a=some (.dT c)/\y=.ref b/\H b=some (.tup (k.map kV))/\c.length < sizeLine/\d=upd H a (.dT (putK c k v))
theorem wG.k{H:Hp}{a:Addr}{b:List (Key×V)}{k:Key}(e:H a=some (.dK b)):wG H a (kV k) (kh b k):=.inl ⟨b,k,.inl e,rfl,rfl⟩
theorem Mt.k{H:Hp}{a:Addr}{b:List (Key×V)}{k:Key}{v:V}(e:H a=some (.dK b))(hl:b.length < sizeLine):Mt H a (kV k) v (upd H a (.dK (putK b k v))):=.inl ⟨b,k,e,rfl,hl,rfl⟩
def Inv.big(I:Inv X pins σ H s):sysModules < s.heap.objs.size:=by
 have h:mainGlobals < s.heap.objs.size:=(I.mod.glob.keeps I.bk).lt;exact YL (by decide) h
def Gb(C:A.units+1 < cLine)(I:Inv X pins σ H s)(g:wG H a y (some v))(r:RelV y u)(h:∀f q,Inv X pins σ H q->RelV v f->Q f q):
  wpAny (model X.prog X.w) A (getItem (.ref a) u) Q E s:=by
 rcases g with⟨i,k,e,n,l⟩ |⟨i,k,b,e,n,F,l⟩
 ·subst n;obtain⟨z,hd,x,d,dd⟩:=xS I.bu e;obtain⟨f,j,c⟩:=vG.some_of (v:=v) (o:=valueAt x k) (by rw[l];exact d.val k);exact wpAny_getItem_of (oF r) dd.mapOf j (h f _ (I.tok _) c)
 ·subst n;cases(show u=Value.ref b from r);obtain⟨z,hd,t,d,dd⟩:=Bh I.bu e;obtain⟨f,j,c⟩:=vG.some_of (v:=v) (o:=(atKey t k).map (·.2)) (by rw[l];exact d.val k);obtain⟨p,hp,m⟩:=Wl.mp j;refine wpAny_getItem_heap (Zm C) (uS I.bu F) dd hp ?_;rw[m];exact h f _ (I.tok _) c
def UP(m:A.units+1 < cLine)(I:Inv X pins σ H s)(g:wG H a y o)(j:RelV y u)(h:∀i,Inv X pins σ H i->Q (.bool o.isSome) i):
  wpAny (model X.prog X.w) A (compareOp .In u (.ref a)) Q E s:=by
 rcases g with⟨d,k,e,f,l⟩ |⟨d,k,b,e,f,n,l⟩
 ·subst f;obtain⟨z,hd,r,c,dd⟩:=xS I.bu e;refine wpAny_in_of (oF j) hd dd.mapOf ?_;rw[<-(c.val k).jj,<-l];exact h _ (I.tok _)
 ·subst f;cases(show u=Value.ref b from j);obtain⟨z,hd,p,c,dd⟩:=Bh I.bu e;refine wpAny_in_heap (Zm m) (uS I.bu n) hd dd ?_;have q:=(c.val k).jj;rw[ZJ] at q;rw[<-q,<-l];exact h _ (I.tok _)
def L5(m:A.units+1 < cLine)(I:Inv X pins σ H s)(g:wG H a y o)(j:RelV y u)(h:∀i,Inv X pins σ H i->Q (.bool (!o.isSome)) i):
  wpAny (model X.prog X.w) A (compareOp .NotIn u (.ref a)) Q E s:=by
 rcases g with⟨d,k,e,f,l⟩ |⟨d,k,b,e,f,n,l⟩
 ·subst f;obtain⟨z,hd,r,c,dd⟩:=xS I.bu e;refine wpAny_notIn_of (oF j) hd dd.mapOf ?_;rw[<-(c.val k).jj,<-l];exact h _ (I.tok _)
 ·subst f;cases(show u=Value.ref b from j);obtain⟨z,hd,p,c,dd⟩:=Bh I.bu e;refine wpAny_notIn_heap (Zm m) (uS I.bu n) hd dd ?_;have q:=(c.val k).jj;rw[ZJ] at q;rw[<-q,<-l];exact h _ (I.tok _)
def sV(I:Inv X pins σ H s)(d:SX (H a))(hs:Heap.SameBut a s.heap c)(f:∃q,c.get? a=some q)(new:bQ X.prog X.w (upd H a ob) c a ob):
  Inv X pins σ (upd H a ob) {s with heap:=c,toks:=h}:=
 I.write (x:=a) (e:=a) d (.inl rfl) (λb q g z=>(hs.2 b g).trans z) f new
def Dk(z:b.length<=sizeLine)(hd:(a==sysModules)=false)(c:KV b d)(dd:e.DictOf (bM P w) a d):
  bQ P w f e a (.dK b):=⟨z,hd,d,c,dd⟩
def Ga(L:A.units+1 < cLine)(I:Inv X pins σ H s)(g:Mt H a y v T)(t:RelV y u)(rv:RelV v r)(h:∀p,Inv X pins σ T p->Q () p):
  wpAny (model X.prog X.w) A (setItem (.ref a) u r) Q E s:=by
 rcases g with⟨f,k,e,n,l,o⟩ |⟨f,k,b,e,n,F,l,o⟩
 ·subst n o;obtain⟨z,hd,J,d,dd⟩:=Bi I.bu e;have m:J.length<=sizeLine:=by rw[<-d.length];exact z
  have hl:(putK f k v).length<=sizeLine:=by have:=iK f k v;lia
  refine wpAny_setItem_pairs (hsz:=m) (oF t) dd λx i hs=>h _ ?_;have M:∃q,x.get? a=some q:=by obtain⟨q,_,_,j,_⟩:=i;exact⟨q,j⟩
  exact sV I (by rw[e];exact True.intro) hs M (Dk hl hd (d.put k rv) i)
 ·subst n o;cases(show u=Value.ref b from t);obtain⟨z,hd,G,d,dd⟩:=R8 I.bu e;have m:G.length<=sizeLine:=by rw[<-Paired.length d];exact z
  have hl:(putK f k v).length<=sizeLine:=by have:=iK f k v;lia
  refine wpAny_setItem_heap (hsz:=m) (Zm L) (uS I.bu F) dd λx i hs=>h _ ?_;obtain⟨q,R,S,j,P,h3,O,_,N⟩:=i;refine sV I (by rw[e];exact True.intro) hs ⟨q,j⟩ ⟨hl,hd,_,(d.put k F rv).keeps λc U C=>?_,q,R,S,j,P,h3,O,N⟩;rw[aB (RI C e (λz=>nomatch z))];exact C
def R9(I:Inv X pins σ H s)(e:Rd H a (.dK c))(h:∀t d,Inv X pins σ H d->Q (.int c.length t) d):wpAny (model X.prog X.w) A (call (.builtin "len") [.ref a]) Q E s:=by
 obtain⟨z,hd,f,b,dd⟩:=xS I.bu e;refine call_len_dict hd dd (by rw[<-b.length];rw[Xq] at z;lia) ?_;rw[<-b.length];exact h _ _ (I.tok _)
def Mq(i:Expr):Prop:=∀a b,subscripted i false a b=operate [a,b] (getItem a b)
def Kz{prog:Program}{w:World}{A:Around}{E:Value->Shared->Prop}{s:Shared}{env:Env}{b a:Expr}{l:Pos}{T n:String}{Q:Value->Shared->Prop}
  (hl:typeLookup (.type T) "__getitem__"=pure (some (.builtin n))) (hs:Mq a)
  (h:wpAny (model prog w) A (eval b env) (λo f=>wpAny (model prog w) A (eval a env) (λi c=>c.TypeIs o T/\wpAny (model prog w) A (getItem o i) Q E c) E f) E s):
  wpAny (model prog w) A (eval (.Subscript b a l) env) Q E s:=by
 refine Subscript_ (WA h (λo f k=>WA k (λi c d=>?_) λ_ _ x=>x) λ_ _ x=>x);obtain⟨m,d⟩:=d;unfold subscriptTail;refine VT ?_;rw[getitemInPython_of_ne m.not_modules];refine VT (YR m hl ?_);have g:wpAny (model prog w) A (subscripted a false o i) (λr e=>wpAny (model prog w) A (letTemporaryGo b o r >>=λ_=>pure r) Q E e) E c:=by
  rw[hs o i];exact wpAny_operating (WA d (λr e j=>VT (wpAny_letTemporaryGo (VY j))) λ_ _ x=>x)
 first
  | exact VY (VT g)
  | exact VT (VY (VT g))
  | exact VT g
def Bj(I:Inv X pins σ H s)(g:wG H a y o):s.TypeIs (.ref a) "dict":=by
 rcases g with⟨c,k,e,_,_⟩ |⟨c,k,b,e,_,_,_⟩
 ·obtain⟨_,_,f,_,dd⟩:=xS I.bu e;exact dd.typeIs
 ·obtain⟨_,_,d,_,dd⟩:=Bh I.bu e;exact dd.typeIs
def vc(h:Heap)(a:sysModules < h.objs.size):bQ P w H (h.push {cls:=.type "dict",data:=.dict #[]}) h.objs.size (.dK []):=
 ⟨Xb _,beq_eq_false_iff_ne.mpr (XX (Wk a)),[],.nil,Heap.DictOf.new h⟩
def NC:TE:=λ_ H Q=>∀p,H p=none->Q (.ref p) (upd H p (.dK []))
def Il:PE X (.Dict [] [] pos) NC:=λb s c H Q I h=>
 wpAny_Dict_empty ⟨.ref s.heap.objs.size,_,I.laid (a:=s.heap.objs.size) (o:=.dK []) (t':=s.toks) (λ_ _ q=>V0 _ q) (VZ _) (vc s.heap I.big),rfl,h _ (I.bu.fresh (VZ _))⟩
def yo:List (TE×TE)->St->Hp->(List (V×V)->Hp->Prop)->Prop
 | [],_,H,Q=>Q [] H
 |(b,a)::r,σ,H,Q=>b σ H λx f=>a σ f λy e=>yo r σ e λc d=>Q ((x,y)::c) d
abbrev VV:List (V×V)->List (Value×Value)->Prop:=Paired λp q=>RelV p.1 q.1/\RelV p.2 q.2
def Qv(X:Cx)(f:Pos)(c:List (Option Expr))(a:List Expr)(e:List (TE×TE)):Prop:=
 ∀(b:List (Addr×Obj)) (s:Shared) (d:St) (H:Hp) (Q:List (V×V)->Hp->Prop),Inv X b d H s->yo e d H Q->
  wpAny (model X.prog X.w) X.A (evalPairs (pairTrees c a X.env f)) (λi j=>∃g h,Inv X b d h j/\VV g i/\Q g h) X.xe s
def Le:Qv X pos [] [] []:=λa s b H Q I h=>pairTrees_nil_walk ⟨[],H,I,.nil,h⟩
def Ib(p:PE X k f)(o:PE X v e)(hr:Qv X pos ks d c):
  Qv X pos (some k::ks) (v::d) ((f,e)::c):=λa s b H Q I h=>
 pairTrees_cons_walk (cx (p a s b H _ I h) λu s1 ⟨x,H1,t,i,m⟩=>cx (o a s1 b H1 _ t m) λA s2 ⟨y,z,r,g,l⟩=>
  cx (hr a s2 b z _ r l) λws s3 ⟨n,w,q,rel,j⟩=>⟨(x,y)::n,w,q,.cons ⟨i,g⟩ rel,j⟩)
def kW(a more:List (Key×V)):List (Key×V):=more.foldl (λb c=>putK b c.1 c.2) a
def KV.merge:∀{more:List (Key×V)} {rs:List (Key×Value)} {a:List (Key×V)} {b:List (Key×Value)},KV more rs->KV a b->KV (kW a more) (merged b rs):=by
 intro more rs a b r;unfold KV at r
 induction r generalizing a b with
 | nil=>intro q;exact q
 | @cons p q g f h t d=>
  intro c;have e:KV (putK a p.1 p.2) (stored b q.1 q.2):=by
   have:=c.put p.1 h.2;rw[<-h.1];exact this
  exact d e
theorem mx:∀(more a:List (Key×V)),(kW a more).length<=a.length+more.length
 | [],a=>by show a.length<=a.length+0;lia
 | p::r,a=>by
  have c:=mx r (putK a p.1 p.2);have b:=iK a p.1 p.2;show(kW (putK a p.1 p.2) r).length<=_;rw[V9];lia
theorem vp:∀{d:List (Key×V)} {e:List (Value×Value)},VV (d.map λf=>(kV f.1,f.2)) e->∃rs,Carries (bM P w) e rs/\KV d rs
 | [],_,r=>by rw[XH] at r;cases r;exact⟨[],True.intro,.nil⟩
 | p::d,_,r=>by
  rw[V6] at r;cases r with
  | @cons a b as bs h t=>
   obtain⟨rs,c,q⟩:=vp (P:=P) (w:=w) t;obtain⟨i,g⟩:=b;exact⟨(p.1,g)::rs,⟨oF h.1,rfl,c⟩,.cons ⟨rfl,h.2⟩ q⟩
def Mz(b:List (TE×TE)):TE:=λe H Q=>∀p,H p=none->yo b e (upd H p (.dK [])) λf d=>d p=some (.dK [])/\∃a:List (Key×V),f=a.map (λc=>(kV c.1,c.2))/\a.length<=15/\Q (.ref p) (upd d p (.dK (kW [] a)))
def Ls(h:Qv X pos keys values i)(f:keys.all (·.isSome)=true)(hl:keys.length=values.length)(y:keys≠[])(j:keys.length<=15):PE X (.Dict keys values pos) (Mz i):=by
 intro b s l H Q I q;have hn:=I.bu.fresh (VZ s.heap.objs.size);have C:=I.laid (a:=s.heap.objs.size) (o:=.dK []) (h':=s.heap.push {cls:=.type "dict",data:=.dict #[]}) (t':=s.toks) (λ_ _ q=>V0 _ q) (VZ _) (vc s.heap I.big);refine wpAny_Dict_walk (knd:=bM X.prog X.w) f hl y j (cx (h b _ l _ _ C (q _ hn)) λws s2 u9=>?_);obtain⟨E,F,k,rel,e,d,A,lk,r⟩:=u9;subst A;obtain⟨rs,c,n⟩:=vp (P:=X.prog) (w:=X.w) rel;obtain⟨z,hd,m,p,dd⟩:=Bi k.bu e;cases p;refine⟨rs,c,dd,λh' g hs=>⟨.ref s.heap.objs.size,_,?_,rfl,r⟩⟩;have t:(kW [] d).length<=sizeLine:=by
  have x:=mx d [];rw[Yj] at x;rw[Xq];lia
 have v:∃q,h'.get? s.heap.objs.size=some q:=by obtain⟨q,_,_,u,_⟩:=g;exact⟨q,u⟩
 exact sV k (by rw[e];exact True.intro) hs v (Dk t hd (n.merge .nil) g)
end L2
namespace Att
open PySem.W PySem.Calls PyProof.Rows
def sC:∀(ns:List Int)(c:List Value),WellAll P h c (ns.map WData.int)->IntsAre c ns:=by
 intro ns
 induction ns with
 | nil=>
  intro c w;rw[XH] at w;cases w;exact .nil
 | cons n ns d=>
  intro c w;rw[V6] at w;cases w with
  | cons a b=>
   cases a;exact .cons _ _ (d _ b)
def E6{l:OpenLaw}{n:Nat}(hn:l.most=some n){P:Params}{h:Heap}{args:List WData}{b:List Value}
  (c:l.row.toRowW.claim.pre args=true) (j:WellAll P h b args):
  ∃a m ns,b=[Value.ref a]/\args=[WData.list (ns.map WData.int)]/\h.get? a=some {cls:=.type "list",data:=.seq m.toArray}/\IntsAre m ns/\ns.length<=n:=by
 have k:WShape.hasAll [] args [.list .int]=true:=(pre_splitW c).1;have hc:l.pre.holds [] {args:=args}=true:=(pre_splitW c).2;obtain⟨d,r,rfl,v,u⟩:=hasAllW_cons k;obtain rfl:=hasAllW_nil u;obtain⟨w,rfl,h3⟩:=hasW_list v;obtain⟨ns,rfl⟩:=items_int h3;have e:ns.length<=n:=by
  unfold OpenLaw.pre at hc;have i:(WTm.not (.lt (.lit (.int (n:Int))) (.len (.arg 0)))).holds [] {args:=[.list (ns.map .int)]}=true:=by
   have i:=(holds_andW hc).1;rw[hn] at i;exact i
  have g:=condW_of i (w_not (w_lt w_lit (w_len_list (w_arg rfl))));rw[VU] at g;refine X8 λq=>?_;have s:(n:Int) < ((ns.length:Nat):Int):=by lia
  first
   |(rw[WB s] at g;exact absurd g (by decide))
   |(simp at g;lia)
 cases j with
 | cons p o=>
  cases o;cases p with
  | list t f=>exact⟨_,_,ns,rfl,rfl,t,sC ns _ f,e⟩
def Fg(l:OpenLaw)(args:List WData):l.row.toRowW.claim.post args (.bool true) args=true:=
 postW_of (r:=l.row.toRowW) (X:=(true==true))
  (show WShape.has [] (.bool true) .bool=true by first | rfl | decide | simp[WShape.has,WShape.arms,WShape.armsAll])
  (show(WTm.eq .res (.lit (.bool true))).value [] {args:=args,res:=some (.bool true),after:=args}=some (.bool (true==true)) from w_eq_bool (w_res rfl) w_lit) rfl
def Bu{l:OpenLaw}{n:Nat}{q:Program}{c:List Str}{H:(Str->Option Value)->Heap->Prop}{F:World->Heap->Prop}{d:DefRec}
  (hn:l.most=some n) (y:d.params.defaults=[])
  (call:∀(w:World)(s₀ b:Shared)(mg u:Str->Option Value)(m:Addr)(o:Obj)(t s g:Value)(a:Addr)(h:List Value)(ns:List Int),
   Ground q c [] H w s₀ mg u b.heap->F w b.heap->
   b.heap.get? m=some o->o.data=.func (docDef d.name d.params d.body d.scope t s g)->b.heap.CodeRec s d.name->mg d.name=some (.ref m)->
   b.heap.get? a=some {cls:=.type "list",data:=.seq h.toArray}->IntsAre h ns->ns.length<=n->b.gens=#[]->
   codeAny (model l.prog w) callerA (.call (.ref m) ⟨[.ref a],[]⟩) (λr p=>r=.ok (.ret (.bool true))/\OldK b.heap p.heap/\p.os=b.os/\AllBare p.gens) b):
  WalkO q c H F l.row.toRowW d [] (λf h=>PySem.call f h):=by
 intro w s₀ b mg u G Y m o t s g Q kV L hd z E x N args A as i C I v M;obtain rfl:Q=.none:=Dflts.none E y;obtain rfl:kV=.none:=Dflts.noKw E;obtain⟨a,h,ns,rfl,rfl,j,e,k⟩:=E6 hn i v;refine enter_call (Yr (call w s₀ b mg u m o t s g a h ns G Y L (fd_plain hd) z x j e k N) λr p J=>?_);obtain⟨rfl,P,h3,O⟩:=J;exact⟨.inl ⟨.bool true,.bool true,[],rfl,λ_=>rfl,.bool true,Fg l _,λ_=>⟨List.Pairwise.nil,λ_ hm=>(nomatch hm)⟩⟩,P,h3,O⟩
section
variable {prog:Program} {w:World} {A:Around} {E:Value->Shared->Prop} {s:Shared} {K:Frag}
end
end Att
namespace L2
open PyProof.Rows
def pF{b:List Value}{ns:List Int}(a:IntsAre b ns):Vals (ns.map V.int) b:=by
 induction a with
 | nil=>exact .nil
 | cons n t h c=>exact .cons ⟨t,rfl⟩ c
def ju(K:FR)(P:Addr):Prop:=∃a:Array Value,(mainGlobals,({cls:=.none,data:=.fields a}:Obj))∈K/\.ref P∈a.toList
open Classical in
def IP{P:Program}{w:World}{K:FR}{mg Y:Str->Option Value}{CX:EF}{k:Nat}{fa a:Addr}{fd:FuncData}{x:Str}{sp:Sp}{f:Shared}{C:List Value}{ns:List Int}
  (KX:K.In f.heap) (N:f.heap.Ns mainGlobals mg) (g:f.heap.Ns builtinsNs Y) (hbb:∀x:Str,x≠"__name__"->Y x=bootBuiltins x) (O:f.heap.NoLimit) (hg:f.gens=#[])
  (J:f.heap.get? a=some {cls:=.type "list",data:=.seq C.toArray}) (hi:IntsAre C ns) (hl:ns.length<=sizeLine) (hr:dh k callerA)
  (F:∀base:Heap,K.In base->base.Ns mainGlobals mg->fT P w K mg base CX k fa fd [x] sp) (E:∀(s:Shared)(u:Value),BindsTo s fd ⟨[u],[]⟩ [(x,u)])
  (L:∀b,ju K b->isCodeTable f.heap b/\f.heap.get? b=some {cls:=.none,data:=.fields #[]}/\K.lookup b=none)
  (Z:∀H:Hp,gU K H a (ns.map V.int)->(∀b,ju K b->H b=some .tb)->sp [.ref a] H (λv H'=>v=.bl true/\∀b,ju K b->H' b=some .tb) λ_ _ _=>False)
  (hCX:∀H e l,CX [] H f (λ_ _ _=>False) e l->False):
  codeAny (model P w) callerA (.call (.ref fa) ⟨[.ref a],[]⟩) (λr l=>r=.ok (.ret (.bool true))/\OldK f.heap l.heap/\l.os=f.os/\AllBare l.gens) f:=by
 have rv:=pF hi;have M:=hi.length;have hTa:¬ju K a:=λz=>by rw[(L a z).2.1] at J;cases J
 have A:∀H:Hp,gU K H a (ns.map V.int)->ll P w H f.heap->(∀b,ju K b->H b=some .tb)->(∀b u,H b=some u->ju K b\/(b=a/\K.lookup a=none/\∃o I,u=.nD o (.lst I)))->
   codeAny (model P w) callerA (.call (.ref fa) ⟨[.ref a],[]⟩) (λr l=>r=.ok (.ret (.bool true))/\OldK f.heap l.heap/\l.os=f.os/\AllBare l.gens) f:=by
  intro H hS bu hTb hA;have j:∀{b:Addr} {o:Obj},f.heap.get? b=some o->H b=none->(zi f.heap H).get? b=some o:=λe n=>IX e n;have X:∀{b:Addr} {o:Obj} {S:Array DictEntry} {T:Nat},f.heap.get? b=some o->o.data=.dict S T->H b=none:=λ{b o S T} e d=>by
   cases q:H b with
   | none=>rfl
   | some u=>
    rcases hA b u q with z |⟨rfl,_⟩
    ·rw[(L b z).2.1] at e;cases e;cases d
    ·rw[J] at e;cases e;have d':Data.seq C.toArray _=Data.dict S T:=d;cases d'
  have p:∀{b:Addr} {m:Str->Option Value},f.heap.Ns b m->(zi f.heap H).Ns b m:=λ{b m} ⟨o,S,T,e,d,r⟩=>⟨o,S,T,j e (X e d),d,r⟩;have R:K.In (zi f.heap H):=λb o e=>j (KX b o e) (by
   cases q:H b with
   | none=>rfl
   | some u=>
    rcases hA b u q with z |⟨rfl,Q,_⟩
    ·rw[(L b z).2.2] at e;cases e
    ·rw[Q] at e;cases e)
  have hM:Mod K mg (zi f.heap H):=⟨R,p N,⟨Y,p g,hbb⟩,let⟨mc,h1,h2⟩:=O;⟨mc,p h1,h2⟩⟩;have e0:Kg P w K mg (zi f.heap H) callerA [] f H:=⟨rfl,hM,λb o e=>Lz e,Aak (FW _ _),trivial,λb g=>absurd (show b∈([]:List Addr) from g) (by simp),bu,.of_eq hg⟩;refine Yr ((F _ R (p N)).run callerA [] f H ⟨[.ref a],[]⟩ [.ref a] [.ref a] _ _ hr e0 (E f (.ref a)) (.cons rfl .nil) (Z H hS hTb)) λr l h=>?_;cases r with
  | error e=>exact(hCX H e l h).elim
  | ok fl=>
   cases fl with
   | next=>exact False.elim h
   | brk=>exact False.elim h
   | cont=>exact False.elim h
   | ret u=>
    obtain⟨v,H',os,bare,un,y,r',q⟩:=h;obtain⟨q',q2⟩:v=.bl true/\∀b,ju K b->H' b=some .tb:=q;subst q';obtain rfl:u=Value.bool true:=r';have nD:∀b o I,H b=some (.nD o (.lst I))->f.heap.get? b=some o/\l.heap.get? b=some o:=λb o I z=>by
     obtain⟨G,_⟩:=bu b _ z;obtain⟨U,_⟩:=y b _ (un.oK b _ _ z);exact⟨G,U⟩
    refine⟨rfl,⟨λb o e=>?_,λb o e=>un.there b o e (by simp)⟩,os,bare⟩;cases q:H b with
    | none=>exact .inl (un.keep b o e q (by intro z;exact absurd (show b∈([]:List Addr) from z) (by simp)) (by simp))
    | some u=>
     rcases hA b u q with z |⟨_,_,ob,I,rfl⟩
     ·obtain⟨ps,U,_⟩:=y b _ (q2 b z);have G:=(L b z).2.1;rw[e] at G;cases G;exact .inr (.inl ⟨(L b z).1,rfl,#[],ps,rfl,by rw[U];simp⟩)
     ·obtain⟨G,U⟩:=nD b ob I q;rw[e] at G;cases G;exact .inl U
 have t:∀(H:Hp) b,ju K b->bQ P w H f.heap b .tb:=λH b z=>⟨#[],(L b z).2.1,trivial,λpos c e=>by simp[codeAmong] at e⟩;cases Q:K.lookup a with
 | some o=>
  have e:=KX a o Q;rw[J] at e;cases e;refine A (λb=>if ju K b then some .tb else none) (.inr ⟨_,C.toArray,_,Q,rfl,rfl,rfl,by rw[Wi,M];exact hl,by simpa using rv⟩) (λb u z=>?_) (λb z=>V1 z) λb u z=>?_
  ·by_cases g:ju K b
   ·have i:=(V1 g).symm.trans z;cases i;exact t _ b g
   ·have i:=(V4 g).symm.trans z;cases i
  ·by_cases g:ju K b
   ·exact .inl g
   ·have i:=(V4 g).symm.trans z;cases i
 | none=>
  refine A (λb=>if ju K b then some .tb else if b=a then some (.nD {cls:=.type "list",data:=.seq C.toArray} (.lst (ns.map V.int))) else none) (.inl (.inr ⟨{cls:=.type "list",data:=.seq C.toArray},(V4 hTa).trans (V1 rfl)⟩)) (λb u z=>?_) (λb z=>V1 z) λb u z=>?_
  ·by_cases g:ju K b
   ·have i:=(V1 g).symm.trans z;cases i;exact t _ b g
   ·have i:=(V4 g).symm.trans z
    by_cases g:b=a
    ·have i:=(V1 g).symm.trans i;cases i;subst g;exact⟨J,by rw[VU];exact hl,C,_,rv,J⟩
    ·have i:=(V4 g).symm.trans i;cases i
  ·by_cases g:ju K b
   ·exact .inl g
   ·have i:=(V4 g).symm.trans z
    by_cases g:b=a
    ·have i:=(V1 g).symm.trans i;cases i;exact .inr ⟨g,Q,_,_,rfl⟩
    ·have i:=(V4 g).symm.trans i;cases i
noncomputable def oV(s:Stmt):Arguments:=match s with
 | .FunctionDef _ a _ _ _ _ _ _ _ _=>a
 | _=>{posonlyargs:=[],args:=[],vararg:=none,kwonlyargs:=[],kw_defaults:=[],kwarg:=none,defaults:=[]}
noncomputable def eQ(s:Stmt):List Stmt:=match s with
 | .FunctionDef _ _ b _ _ _ _ _ _ _=>b
 | _=>[]
noncomputable def ah(s:Stmt):Scope:=match s with
 | .FunctionDef _ _ _ _ _ _ sc _ _ _=>sc
 | _=>{kind:=.function,names:=[],isGenerator:=false,isCoroutine:=false}
abbrev pC:EF:=λ_ _ _ _ _ _=>False
abbrev E0:XK:=λ_ _ _=>False
def RA:Passes pC X E0:=λ_ _ _ _ _ _ _ h=>h.elim
structure vO(K:FR)(x qual:Str)(st:Stmt)(f:Addr)(fd:FuncData):Prop where
 ex:∃(oc:Value)(od:Option Addr)(kV doc pm:Value)(an:Option Addr)(cdv ct:Value)(osl:Array (Option Value)),
  fd=PySem.W.fnOf x qual (oV st) (eQ st) (ah st) .none kV doc pm an cdv ct/\K.lookup f=some ⟨oc,od,.func fd,osl⟩/\PySem.W.codeIn K cdv qual=true
 kp:PySem.W.keepIn K (.ref f)=true
section
variable {P:Program} {w:World} {K:FR} {mg:Str->Option Value} {base:Heap}
def vO.ok{x a:Str}{st:Stmt}{f:Addr}{j:FuncData}{N e:List Str}{k:Nat}{sp:Sp}(F:vO K x a st f j)(S:ax N e (ah st))(len:∀c H Q E,sp c H Q E->c.length=e.length)
  (d:∀(b:Value)(A:Around)(outer:List Env)(s:Shared)(H:Hp)(c:List V)(Q:VK)(E:XK),dh k (A.deeper (envOfC a (ah st) s.heap.objs.size f b))->sp c H Q E->
   ∃t,zU (f9 pC P w K mg base N a (ah st) f b A outer s H E).IF (eQ st) t/\t {nx:=λ_ n=>Q .cu n,rt:=Q} (start N c) H):fT P w K mg base pC (k+1) f j e sp:=by
 obtain⟨r,p,kV,m,o,u,b,ct,l,rfl,lk,i⟩:=F.ex;refine I0 lk i S len λA outer s H c Q E hr g=>?_;obtain⟨t,h,q⟩:=d b A outer s H c Q E hr g;exact⟨t,h.IF,q⟩
def vO.binds{x a:Str}{st:Stmt}{f:Addr}{i:FuncData}{d:List Str}(F:vO K x a st f i)
  (h:∀(kV b e:Value)(g:Option Addr)(c ct:Value)(us:List Value),us.length=d.length->bindArgs (PySem.W.fnOf x a (oV st) (eQ st) (ah st) .none kV b e g c ct) ⟨us,[]⟩=pure (d.zip us)):Binds K i d []:=by
 obtain⟨m,l,kV,b,e,g,c,ct,j,rfl,lk,k⟩:=F.ex;exact .all (h kV b e g c ct)
end
def Gn:fE X (.builtin "len") (λc H Q=>∃a b,c=[V.ref a]/\H a=some (.dK b)/\Q (.int b.length) H):=by
 intro d s i H c us Q I r h;obtain⟨a,b,rfl,f,q⟩:=h;obtain⟨u,rfl,e⟩:=vals1 r;cases e;exact R9 I (.inl f) λt j g=>⟨.int b.length,H,g,⟨t,rfl⟩,q⟩
def Pl{A B:Prop}(h:B):if false=true then A else B:=by
 rw[V4 W0];exact h
def Pk{A B:Prop}(h:A):if true=true then A else B:=by
 rw[V1 rfl];exact h
section
variable {κ:Type} [DecidableEq κ]
end
def ll.off(ok:ll P w H h)(d:H C=none)(k:∀b u,b≠C->h.get? b=some u->f.get? b=some u):ll P w H f:=by
 intro a o e;have ne:a≠C:=by rintro rfl;rw[d] at e;cases e
 refine(ok a o e).pN (λb u c q=>k b u ?_ q) (λ_ x=>x) (λ_ _ x=>x);rcases c with rfl | c
 ·exact ne
 ·rintro rfl;rw[d] at c;cases c
noncomputable def gR(env:Env):List (Str×NameKind)->List (Str×Addr)->List (Str×Addr)
 | [],acc=>acc
 |(n,k)::r,acc=>if(k==NameKind.free)=true then gR env r ((n,(env.cells.lookup n).getD 0)::acc) else gR env r acc
def iu(h:∀y∈scope.names,y.2=.free->∃c,env.cells.lookup y.1=some c):closureFor scope env=pure (gR env scope.names []):=by
 have d:∀(names:List (Str×NameKind)) (b:List (Str×Addr)),(∀y∈names,y.2=.free->∃c,env.cells.lookup y.1=some c)->
   (forIn names b (λ(x:Str×NameKind)(r:List (Str×Addr))=>match x with
    |(name,kind)=>if(kind==NameKind.free)=true then do let a<-cellOf env name;pure (ForInStep.yield ((name,a)::r)) else pure (ForInStep.yield r)):Sem (List (Str×Addr)))=pure (gR env names b):=by
  intro names
  induction names with
  | nil=>intro b _;rfl
  | cons y r j=>
   intro b i;obtain⟨n,k⟩:=y;have hr:=λa=>j a λz l=>i z (V5 _ l);rw[List.forIn_cons];unfold gR
   by_cases g:(k==NameKind.free)=true
   ·have f:k=.free:=by simpa using g
    obtain⟨c,hc⟩:=i (n,k) V3 f;have e:cellOf env n=pure c:=by unfold cellOf;rw[hc]
    simp only[g,Ys,e,hc,Option.getD_some];exact hr _
   ·simp only[g,Xk];exact hr _
 have k:=d scope.names [] h;unfold closureFor;dsimp only;rw[k];rfl
theorem qA:∀(names:List (Str×NameKind)) (a:List (Str×Addr)),(∀y∈names,y.2=.free->∃c,env.cells.lookup y.1=some c)->
  (∀d,a.lookup x=some d->env.cells.lookup x=some d)->(gR env names a).lookup x=some c->env.cells.lookup x=some c
 | [],a,_,b,h=>b c h
 |(n,k)::r,a,j,b,h=>by
  unfold gR at h;have hr:=λz l=>j z (V5 _ l)
  by_cases i:(k==NameKind.free)=true
  ·rw[V1 i] at h;refine qA r _ hr (λd hd=>?_) h;have g:k=.free:=by simpa using i
   obtain⟨m,hc⟩:=j (n,k) V3 g;rw[WK] at hd;cases f:x==n with
   | true=>
    rw[f] at hd;have e:x=n:=by simpa using f
    rw[e,hc];rw[hc] at hd;exact hd
   | false=>
    rw[f] at hd;exact b d hd
  ·rw[V4 i] at h;exact qA r _ hr b h
theorem vm:∀(names:List (Str×NameKind)) (a:List (Str×Addr)),(∃c,a.lookup x=some c)->∃c,(gR env names a).lookup x=some c
 | [],_,h=>h
 |(n,k)::r,a,h=>by
  unfold gR
  by_cases b:(k==NameKind.free)=true
  ·rw[V1 b];refine vm r _ ?_;rw[WK];cases d:x==n with
   | true=>exact⟨_,rfl⟩
   | false=>exact h
  ·rw[V4 b];exact vm r _ h
theorem jn:∀(names:List (Str×NameKind)) (a:List (Str×Addr)),(x,NameKind.free)∈names->∃c,(gR env names a).lookup x=some c
 | [],_,h=>by cases h
 |(n,k)::r,a,h=>by
  unfold gR;rcases Wh.mp h with e | d
  ·injection e with g f
   subst g f;rw[V1 (by rfl)];refine vm r _ ⟨(env.cells.lookup x).getD 0,?_⟩;rw[WK,Xm]
  ·by_cases b:(k==NameKind.free)=true
   ·rw[V1 b];exact jn r _ d
   ·rw[V4 b];exact jn r _ d
theorem jJ{env:Env}:∀{names:List (Str×NameKind)} {x:Str} {j:NameKind},
  (names.map λ(n,k)=>if(k==NameKind.free&&env.scope.kind==.function&&env.kindOf n==some .cell) then(n,NameKind.cell) else(n,k)).lookup x=some j->
  ∃k,names.lookup x=some k/\(j=k\/(k=.free/\j=.cell))
 | [],_,_,h=>by simp at h
 |(n,k)::r,x,j,h=>by
  have a:List.lookup x ((if(k==NameKind.free&&env.scope.kind==.function&&env.kindOf n==some .cell)=true then(n,NameKind.cell) else(n,k))::_)=some j:=h;rw[WK];cases b:x==n with
  | true=>
   refine⟨k,rfl,?_⟩
   by_cases hc:(k==NameKind.free&&env.scope.kind==.function&&env.kindOf n==some .cell)=true
   ·rw[V1 hc,WK,b] at a;simp only[Wm,Xz] at hc;exact .inr ⟨hc.1.1,(Option.some.inj a).symm⟩
   ·rw[V4 hc,WK,b] at a;exact .inl (Option.some.inj a).symm
  | false=>
   by_cases hc:(k==NameKind.free&&env.scope.kind==.function&&env.kindOf n==some .cell)=true
   ·rw[V1 hc,WK,b] at a;exact jJ a
   ·rw[V4 hc,WK,b] at a;exact jJ a
theorem jK{env:Env}:∀{names:List (Str×NameKind)} {x:Str},names.lookup x=some .free->
  (names.map λ(n,k)=>if(k==NameKind.free&&env.scope.kind==.function&&env.kindOf n==some .cell) then(n,NameKind.cell) else(n,k)).lookup x=some .cell\/
  (names.map λ(n,k)=>if(k==NameKind.free&&env.scope.kind==.function&&env.kindOf n==some .cell) then(n,NameKind.cell) else(n,k)).lookup x=some .free
 | [],_,h=>by simp at h
 |(n,k)::r,x,h=>by
  rw[V6];show List.lookup x ((if(k==NameKind.free&&env.scope.kind==.function&&env.kindOf n==some .cell)=true then(n,NameKind.cell) else(n,k))::_)=_\/List.lookup x ((if(k==NameKind.free&&env.scope.kind==.function&&env.kindOf n==some .cell)=true then(n,NameKind.cell) else(n,k))::_)=_;rw[WK] at h;cases a:x==n with
  | true=>
   rw[a] at h;have b:k=.free:=Option.some.inj h
   by_cases hc:(k==NameKind.free&&env.scope.kind==.function&&env.kindOf n==some .cell)=true
   ·rw[V1 hc,WK,a];exact .inl rfl
   ·rw[V4 hc,WK,a,b];exact .inr rfl
  | false=>
   rw[a] at h
   by_cases hc:(k==NameKind.free&&env.scope.kind==.function&&env.kindOf n==some .cell)=true
   ·rw[V1 hc,WK,a];exact jK h
   ·rw[V4 hc,WK,a];exact jK h
abbrev gy(X:Cx)(N':List Str)(scope:Scope)(C:Addr)(s₃:Shared)(H₃:Hp)(fp:List Addr)(pl:List (Addr×Obj)):Cx:=
 {X with N:=N',s₀:=s₃,H₀:=H₃,env:=compEnvC scope (gR X.env scope.names []) C X.env,outer:=X.stack,ex:=fp,fn:=λ_=>false,calm:=true,pn:=X.pn++pl,xe:=λ_ _=>False}
structure bp(X:Cx)(N':List Str)(caps:List (Option Nat))(scope:Scope):Prop where
 kind:scope.kind=.function
 qj:∀y∈scope.names,y.2≠.cell
 names:∀y∈scope.names,y.2=.local->scope.names.lookup y.1=some .local
 vo:∀y∈scope.names,y.2=.free->X.env.kindOf y.1=some .cell\/X.env.kindOf y.1=some .free
 len:caps.length=N'.length
 Ve:∀(j i:Nat)(x:Str),caps[j]?=some (some i)->N'[j]?=some x->X.N[i]?=some x/\scope.names.lookup x=some .free
 nd:N'.Nodup
noncomputable def k6(a:List (Option Nat))(b:St):St:=a.map λo=>o.bind λi=>(b[i]?).join
theorem bp.has(S:bp X d a scope)(ok:X.Ok):∀y∈scope.names,y.2=.free->∃c,X.env.cells.lookup y.1=some c:=λy b e=>ok.has y.1 (S.vo y b e)
def bp.look(S:bp X b a scope)(ok:X.Ok)(h:(gR X.env scope.names []).lookup x=some c):X.env.cells.lookup x=some c:=
 qA scope.names [] (S.has ok) (λ_ z=>by simp at z) h
def Inv.block(S:bp X N' f scope)(I:Inv X pins σ H a)(hc:X.calm=true)(R:∀b∈fp,i5 X pins H b)(Z:∀b∈fp,b < a.heap.objs.size){g:Heap}{t₄:Nat}{t:Str->Option Value}
  (hn:g.Ns a.heap.objs.size t) (O:∀b o,a.heap.get? b=some o->g.get? b=some o):
  Inv (gy X N' scope a.heap.objs.size a H fp pins) [] (k6 f σ) H {a with heap:=g,toks:=t₄}:=by
 have ok:=I.ok;have fresh:∀b o,a.heap.get? b=some o->b≠a.heap.objs.size:=λb o e=>Wk (V8 e);have s:∀x c,(gR X.env scope.names []).lookup x=some c->∃v,a.heap.IsCell c v:=λx c e=>I.cell x c (S.look ok e);refine⟨⟨ok.mod,?_,ok.glob,ok.blt,VZ _,?_,?_,?_,λ_=>ok.hd hc,ok.frames,.inl rfl,?_,I.bs,?_,?_,?_,I.stack,I.sJ⟩,rfl,I.bare,Un.kept O,?_,?_,I.bu.fresh (VZ _),?_,?_,I.bu.kept O,?_⟩
 ·show(relabel scope X.env).kind=.function;exact S.kind
 ·intro x y c h1 h2;exact ok.inj x y c (S.look ok h1) (S.look ok h2)
 ·intro x hx;have T:(relabel scope X.env).names.lookup x=some .cell\/(relabel scope X.env).names.lookup x=some .free:=hx;have L:∀j,(relabel scope X.env).names.lookup x=some j->j=.cell\/j=.free->∃c,(gR X.env scope.names []).lookup x=some c:=by
   intro j hj hjk;obtain⟨k,hk1,hk2⟩:=jJ hj;have hm:=WI hk1;have hkf:k=.free:=by
    rcases hk2 with rfl |⟨e,_⟩
    ·rcases hjk with rfl | e
     ·exact absurd rfl (S.qj _ hm)
     ·exact e
    ·exact e
   subst hkf;exact jn scope.names [] hm
  rcases T with h | h
  ·exact L _ h (.inl rfl)
  ·exact L _ h (.inr rfl)
 ·intro x c h _;exact absurd (show false=true from h) (by decide)
 ·intro b J;refine⟨Wk (Z b J),λx c h=>(R b J).2.2.2.2.1 x c (S.look ok h)⟩
 ·exact V2 ok.Kp I.sz
 ·intro b o e J;rcases(R b J).2.2.2.1 with z | z
  ·exact ok.Fv b o e z
  ·exact absurd (Ws (V8 e) ok.Kp) (Nat.not_lt.mpr z)
 ·intro b J z;rcases Wh.mp (I.pM b z) with e | e
  ·exact(R b J).2.1 e
  ·exact(R b J).2.2.1 e
 ·refine⟨t,hn,λj x v e1 e2 e3=>?_⟩;have l:(f.map λo=>o.bind λi=>(σ[i]?).join)[j]?=some (some v):=e2;rw[Wa] at l;cases F:f[j]? with
  | none=>rw[F] at l;cases l
  | some oi=>
   rw[F] at l;have C:(oi.bind λi=>(σ[i]?).join)=some v:=Option.some.inj l;cases oi with
   | none=>cases C
   | some i=>
    have r:(σ[i]?).join=some v:=C;have M:σ[i]?=some (some v):=by
     cases hs:σ[i]? with
     | none=>rw[hs] at r;cases r
     | some w=>rw[hs] at r;rw[show w=some v from r]
    obtain⟨hX,E⟩:=S.Ve j i x F e1;obtain⟨m,_,hl⟩:=I.loc;have A:=S.vo _ (WI E) rfl;have N:M3 X.env.scope x:=by
     rcases A with z | z
     ·exact .inr (.inl z)
     ·exact .inr (.inr z)
    obtain⟨u,ru,lk⟩:=hl i x v hX M N;refine⟨u,ru,.inr ⟨?_,?_⟩⟩
    ·exact jK E
    ·obtain⟨c,P⟩:=jn (env:=X.env) scope.names [] (WI E);refine⟨c,P,?_⟩;rcases lk with⟨z,_⟩ |⟨_,c',Q,G⟩
     ·have z':X.env.kindOf x=some .local:=z;rcases A with q | q
      ·rw[z'] at q;cases q
      ·rw[z'] at q;cases q
     ·have:=S.look I.ok P;rw[this] at Q;cases Q;obtain⟨o,Y,hd⟩:=G;exact⟨o,O _ _ Y,hd⟩
 ·intro x c h;obtain⟨v,o,Y,hd⟩:=s x c h;exact⟨v,o,O _ _ Y,hd⟩
 ·intro x c h;exact I.iq x c (S.look ok h)
 ·intro p hp;have U:p∈X.pn++pins:=by
   rcases Wz.mp hp with z | z
   ·exact z
   ·cases z
  obtain⟨e,n,ne,nf,d⟩:=I.pin p U;refine⟨O _ _ e,n,fresh _ _ e,λz=>?_,d⟩;rcases Wh.mp (I.pM p.1 z) with q | q
  ·exact ne q
  ·exact nf q
 ·show(f.map _).length=N'.length;rw[VU];exact S.len
def Inv.sI(S:bp X m i scope)(I:Inv X pins σ H a)(d:∀b∈g,i5 X pins H b)(J:Inv (gy X m scope a.heap.objs.size a H g pins) [] p h s')(hs:∀b u,b≠a.heap.objs.size->s'.heap.get? b=some u->h''.get? b=some u):Inv X pins σ h {s' with heap:=h''}:=by
 have l:h a.heap.objs.size=none:=J.free;have u:Un (lP X.stack) g H h a.heap h'':=by
  have b:=J.base;have ne:∀x o,a.heap.get? x=some o->x≠a.heap.objs.size:=λx o e=>Wk (V8 e);refine⟨λx o e n f c=>hs _ _ (ne x o e) (b.keep x o e n f c),λx o e n f c=>?_,b.free,λx o e c=>?_,b.pG,b.oK,b.pH⟩
  ·obtain⟨j,q⟩:=b.slot x o e n f c;exact⟨j,hs _ _ (ne x o e) q⟩
  ·obtain⟨k,q⟩:=b.there x o e c;exact⟨k,hs _ _ (ne x o e) q⟩
 exact I.call' (s':={s' with heap:=h''}) (ch:=g) J.os u (J.bu.off l hs) J.bare λb c=>⟨(d b c).2.2.2.1,(d b c).2.1,(d b c).2.2.2.2.1,(d b c).2.2.2.2.2⟩
def GL(X:Cx)(d:List Expr)(t:TT):Prop:=
 ∀(a:List (Addr×Obj)) (s:Shared) (b:St) (H:Hp) (Q:Bool->Hp->Prop),Inv X a b H s->t b H Q->
  wpAny (model X.prog X.w) X.A (forIn d true λc r=>if r=true then do let ok<-isTrue c X.env (eval c X.env);pure (ForInStep.yield ok) else pure (ForInStep.yield r)) (TP X a b Q) X.xe s
def bY:TT:=λ_ H Q=>Q true H
def Lm:GL X [] bY:=λa s b H Q I h=>wpAny_tests_nil ⟨H,I,h⟩
def Ll(h:PT X c t):GL X [c] t:=λa s b H Q I q=>wpAny_tests_one (h a s b H Q I q)
def S8(J:It)(g:TG)(q:TT)(p:TE)(l:Addr)(Q:VK)(f:St)(s:Hp):Prop:=
 ∃W:Nat->Nat->St->Hp->Prop,(∃m,W 0 m f s)/\∀i m j d,W i m j d->
  (J.stop i d/\Q (.ref l) d)\/(J.go i d/\∃N:St->Hp->Prop,(∀c e,N c e->∃k,k < m/\W (i+1) k c e)/\∀x e,J.Mv i d x e->g x j e λa r=>
   q a r λb o=>if b=true then p a o λy n=>∃h,n l=some (.lst h)/\h.length < sizeLine/\N a (upd n l (.lst (h++[y]))) else N a o)
def G7(a:List (Option Nat))(d:TI)(g:TG)(f:TT)(e:TE):TE:=λb H Q=>d b H λJ c=>∀l,c l=none->S8 J g f e l Q (k6 a b) (upd c l (.lst []))
def QM(h:wpAny M A t Q (λ_ _=>False) s):wpAny M A t Q E s:=WA h (λ_ _ q=>q) λ_ _ f=>f.elim
def Gf(S:bp X H caps scope)(hc:X.calm=true)(hg:∀C k s h pl,PG (gy X H scope C k s h pl) tg g)(hif:∀C k s h pl,GL (gy X H scope C k s h pl) ifs tc)
  (he:∀C k s h pl,PE (gy X H scope C k s h pl) elt te) {a:List (Addr×Obj)} {σ:St} {t:Hp} {s3:Shared} {j:Heap} {M:Nat} {m₁:Str->Option Value} {it l:Addr} {h:List Addr} {tn:Nat->Heap->Prop} {J:It}
  (Z:Inv X a σ t s3) (T:Turn X.prog X.w X.K tg J h it tn) (st3:tn 0 j) (O:∀b∈h,i5 X a t b) (hlt3:∀b∈h,b < s3.heap.objs.size) (Y:j.Ns s3.heap.objs.size m₁) (keep3:∀b o,s3.heap.get? b=some o->j.get? b=some o)
  {Q:VK} {RR:Value->Addr->Result->Shared->Prop} {W:Nat->Nat->St->Hp->Prop} {m0:Nat} (w0:W 0 m0 (k6 caps σ) t) (turn:∀i m G H2,W i m G H2->
   (J.stop i H2/\Q (.ref l) H2)\/(J.go i H2/\∃N:St->Hp->Prop,(∀L f,N L f->∃m',m' < m/\W (i+1) m' L f)/\∀x f,J.Mv i H2 x f->g x G f λR t=>
    tc R t λb H4=>if b=true then te R H4 λy H5=>∃U,H5 l=some (.lst U)/\U.length < sizeLine/\N R (upd H5 l (.lst (U++[y]))) else N R H4))
  (hRR:∀(l C:Addr)(f:Hp)(E:Shared),f C=none->C≠X.env.locals->X.s₀.heap.objs.size<=C->(∀x c,X.env.cells.lookup x=some c->c≠C)->(∀p∈X.pn++a,p.1≠C)->(∃m,E.heap.Ns C m)->Inv X a σ f E->
   (∀h'':Heap,(∀b u,b≠C->E.heap.get? b=some u->h''.get? b=some u)->Inv X a σ f {E with heap:=h''})->Q (.ref l) f->RR (.ref l) C (.ok .next) E):
  codeAny (model X.prog X.w) X.A (.compStart (.ListComp elt [⟨tg,iter,ifs,0⟩] scope pos) 0 (.ref it) (.ref l) (compEnvC scope (gR X.env scope.names []) s3.heap.objs.size X.env))
   (RR (.ref l) s3.heap.objs.size) {s3 with heap:=j,toks:=M}:=by
 have J0:Inv (gy X H scope s3.heap.objs.size s3 t h a) [] (k6 caps σ) t {s3 with heap:=j,toks:=M}:=Inv.block S Z hc O hlt3 Y keep3;have fpB:∀{f:Hp},(∀b∈h,f b=none)->∀b∈h,i5 (gy X H scope s3.heap.objs.size s3 t h a) [] f b:=λ{f} hn b P=>by
  obtain⟨f0,f1,f2,f3,f4,f5⟩:=O b P;refine⟨hn b P,Wk (hlt3 b P),λz=>?_,.inl P,λx c e=>f4 x c (S.look Z.ok e),λp hp=>?_⟩
  ·rcases Wh.mp (Z.pM b z) with q | q
   ·exact f1 q
   ·exact f2 q
  ·rcases Wz.mp hp with q | q
   ·exact f5 p q
   ·cases q
 have fin:∀{G:St} {f:Hp} {E:Shared},Inv (gy X H scope s3.heap.objs.size s3 t h a) [] G f E->Q (.ref l) f->RR (.ref l) s3.heap.objs.size (.ok .next) E:=λ{G f E} J q=>by
  refine hRR _ _ f E J.free ?_ ?_ ?_ ?_ ?_ ?_ ?_ q
  ·exact(Wk Z.lt).symm
  ·exact Z.sz
  ·intro x c e z;obtain⟨v,o,ho,_⟩:=Z.cell x c e;exact Wk (V8 ho) z
  ·intro p hp z;obtain⟨e,_⟩:=Z.pin p hp;exact Wk (V8 e) z
  ·obtain⟨m,hm,_⟩:=J.loc;exact⟨m,hm⟩
  ·have:=Inv.sI S Z O J (h'':=E.heap) λb u _ e=>e;exact this
  ·exactλh'' hs=>Inv.sI S Z O J hs
 have loop:codeAny (model X.prog X.w) X.A (.compLoop (.ListComp elt [⟨tg,iter,ifs,0⟩] scope pos) 0 (.ref it) (.ref l) (compEnvC scope (gR X.env scope.names []) s3.heap.objs.size X.env))
   (RR (.ref l) s3.heap.objs.size) {s3 with heap:=j,toks:=M}:=by
  refine codeAny_loop rfl (λn E=>∃i G f,Inv (gy X H scope s3.heap.objs.size s3 t h a) [] G f E/\tn i E.heap/\(∀b∈h,f b=none)/\W i n G f) ?_ m0 ⟨0,_,_,J0,st3,λb P=>(O b P).1,w0⟩;rintro n s4 ⟨i,G,H4,J4,st4,fr4,w4⟩;show wpAny _ X.A ((compTurn (.ListComp elt [⟨tg,iter,ifs,0⟩] scope pos) 0 (.ref it) (.ref l) (compEnvC scope (gR X.env scope.names []) s3.heap.objs.size X.env)).onRaise (λx=>do noteFrame x (compEnvC scope (gR X.env scope.names []) s3.heap.objs.size X.env);theTreesLotGoes x)) _ _ s4;refine wpAny_noted ?_;rw[compTurn_list];rcases turn i n G H4 w4 with⟨stop,qn⟩ |⟨go,N,hN,step⟩
  ·refine VT (W5 (VT (WA (T.done (gy X H scope s3.heap.objs.size s3 t h a) rfl rfl rfl rfl i [] s4 G H4 _ J4 (fpB fr4) st4 stop) (λr s5 h5=>?_) λ_ _ e=>e)));obtain⟨hr,J5⟩:=h5;subst hr;exact VY (fin J5 qn)
  ·refine VT (W5 (VT (WA (T.item (gy X H scope s3.heap.objs.size s3 t h a) rfl rfl rfl rfl i [] s4 G H4 _ J4 (fpB fr4) st4 go) (λr s5 h5=>?_) λ_ _ e=>e)));obtain⟨u,hr,h5⟩:=h5;subst hr;refine VT (WA h5 (λ_ s6 h6=>?_) λ_ _ e=>e);obtain⟨x,H6,J6,r6,y6,st6,fr6⟩:=h6;have J6':=J6.pinned (fpB fr6) (T.obj _ _ st6);refine VT (WA (QM (hg _ _ _ _ _ _ s6 G H6 x u _ J6' r6 (step x H6 y6))) (λ_ s7 h7=>?_) λ_ _ e=>e);obtain⟨F,H7,J7,q7⟩:=h7;have again:∀{I:St} {H8:Hp} {s8:Shared},Inv (gy X H scope s3.heap.objs.size s3 t h a) ([]++qc h s6.heap) I H8 s8->N I H8->
     ∃m,m < n/\∃i L f,Inv (gy X H scope s3.heap.objs.size s3 t h a) [] L f s8/\tn i s8.heap/\(∀b∈h,f b=none)/\W i m L f:=λ{I H8 s8} J8 n8=>by
    obtain⟨m',hm,w8⟩:=hN I H8 n8;refine⟨m',hm,i+1,I,H8,J8.ko,T.keep _ _ _ st6 λb P o e=>(J8.pin (b,o) (Wf _ (Wf _ (fY P e)))).1,λb P=>?_,w8⟩;obtain⟨o,e,d⟩:=T.obj _ _ st6 b P;exact(J8.pin (b,o) (Wf _ (Wf _ (fY P e)))).2.1
   refine VT (WA (QM (hif _ _ _ _ _ _ s7 F H7 _ J7 q7)) (λok s8 h8=>?_) λ_ _ e=>e);obtain⟨H8,J8,q8⟩:=h8;cases ok with
   | false=>exact VY ⟨rfl,again J8 (by simpa using q8)⟩
   | true=>
    have q8':te F H8 λy H5=>∃U,H5 l=some (.lst U)/\U.length < sizeLine/\N F (upd H5 l (.lst (U++[y]))):=by simpa using q8
    refine VT (VT (WA (QM (he _ _ _ _ _ _ s8 F H8 _ J8 q8')) (λy s9 h9=>?_) λ_ _ e=>e));obtain⟨yv,H9,J9,r9,U,hx,hz,n9⟩:=h9;refine VT (WA (QM (qk (X:=gy X H scope s3.heap.objs.size s3 t h a) _ s9 F H9 (.ref l) [yv] (.ref l) [y] (λ_ f=>N F f) J9 rfl (.cons r9 .nil) ⟨_,U,yv,rfl,rfl,hx,hz,n9⟩)) (λ_ s10 h10=>?_) λ_ _ e=>e);obtain⟨_,H10,J10,_,n10⟩:=h10;exact VY (VY ⟨rfl,again J10 n10⟩)
 exact codeAny_compStart_list loop (T.self X.A 0 _ _ _ st3 loop)
def vh(S:bp X N' Z scope)(hc:X.calm=true)(hg:∀C a f k pl,PG (gy X N' scope C a f k pl) tg g)(hif:∀C a f k pl,GL (gy X N' scope C a f k pl) ifs tc)
  (he:∀C a f k pl,PE (gy X N' scope C a f k pl) elt te) {d:List (Addr×Obj)} {M:St} {H:Hp} {s:Shared} {it:Addr} {k:List Addr} {tn:Nat->Heap->Prop} {J:It}
  (I:Inv X d M H s) (T:Turn X.prog X.w X.K tg J k it tn) (st:tn 0 s.heap) (hf:∀b∈k,i5 X d H b) {Q:VK} {RR:Value->Addr->Result->Shared->Prop} {E:Value->Shared->Prop}
  (h:∀l,H l=none->∃W:Nat->Nat->St->Hp->Prop,(∃m,W 0 m (k6 Z M) (upd H l (.lst [])))/\∀i m τ H2,W i m τ H2->
   (J.stop i H2/\Q (.ref l) H2)\/(J.go i H2/\∃N:St->Hp->Prop,(∀L n,N L n->∃m',m' < m/\W (i+1) m' L n)/\∀x n,J.Mv i H2 x n->g x τ n λq H3=>
    tc q H3 λb H4=>if b=true then te q H4 λy H5=>∃xs,H5 l=some (.lst xs)/\xs.length < sizeLine/\N q (upd H5 l (.lst (xs++[y]))) else N q H4))
  (hRR:∀(l C:Addr)(n:Hp)(R:Shared),n C=none->C≠X.env.locals->X.s₀.heap.objs.size<=C->(∀x c,X.env.cells.lookup x=some c->c≠C)->(∀p∈X.pn++d,p.1≠C)->(∃m,R.heap.Ns C m)->Inv X d M n R->
   (∀Y:Heap,(∀b u,b≠C->R.heap.get? b=some u->Y.get? b=some u)->Inv X d M n {R with heap:=Y})->Q (.ref l) n->RR (.ref l) C (.ok .next) R):
  wpAny (model X.prog X.w) X.A (newList []) (λacc a=>wpAny (model X.prog X.w) X.A (newFunctionEnv scope X.env.globals (gR X.env scope.names []) [] X.env.qual none .none (some X.env)) (λG P=>
   codeAny (model X.prog X.w) X.A (.compStart (.ListComp elt [⟨tg,iter,ifs,0⟩] scope pos) 0 (.ref it) acc {G with scope:=relabel scope X.env}) (RR acc G.locals) P) E a) E s:=by
 obtain⟨W,⟨m0,w0⟩,O⟩:=h s.heap.objs.size I.fresh;refine W2 (ZG S.qj (by intro y hy;simp at hy) (λv t r=>?_) S.kind);have I3:Inv X d M (upd H s.heap.objs.size (.lst [])) {s with heap:=s.heap.push {cls:=.type "list",data:=.seq ([]:List Value).toArray}}:=I.LC (t':=s.toks) (its:=[]) (ys:=[]) .nil (Xb _);have z:∀b∈k,b < s.heap.objs.size:=λb F=>by
  obtain⟨o,e,_⟩:=T.obj 0 _ st b F;exact V8 e
 have hf3:∀b∈k,i5 X d (upd H s.heap.objs.size (.lst [])) b:=λb F=>⟨by rw[aB (Wk (z b F))];exact(hf b F).1,(hf b F).2⟩;have j:∀b o,(s.heap.push {cls:=.type "list",data:=.seq ([]:List Value).toArray}).get? b=some o->v.get? b=some o:=λb o e=>r.extBut b o (Wk (V8 e)) (V0 _ e);have st3:tn 0 v:=T.keep 0 _ _ st λb F o e=>j b o (V0 _ e);have U:∀b∈k,b < (s.heap.push {cls:=.type "list",data:=.seq ([]:List Value).toArray}).objs.size:=λb F=>by
  have:=z b F;rw[XA];exact Zf this
 exact Gf (s3:={s with heap:=s.heap.push {cls:=.type "list",data:=.seq ([]:List Value).toArray}}) S hc hg hif he I3 T st3 hf3 U t j w0 O hRR
def Ij(S:bp X r j scope)(hc:X.calm=true)(F:PI X y iter z)(G:∀C a c f pl,PG (gy X r scope C a c f pl) y g)(n:∀C a c f pl,GL (gy X r scope C a c f pl) ifs tc)
  (he:∀C a c f pl,PE (gy X r scope C a c f pl) elt te) (hs:∀x,foldedSetIterable iter X.env x=pure x:=by intro _;rfl):PE X (.ListComp elt [⟨y,iter,ifs,0⟩] scope pos) (G7 j z g tc te):=by
 intro d s t H Q I h;rw[eval_ListComp];refine YI (use:=none) rfl hs (iu (S.has I.ok)) S.kind S.names (cx (F d s t H _ I h) λv s1 P=>cx P λE s2 O=>?_);obtain⟨it,f,Z,J,H2,e,U,T,k,R,M⟩:=O;subst e;refine vh (RR:=λp C=>compPost (model X.prog X.w) X.A X.xe none (EP X d t Q) p C) S hc G n he U T k R M ?_;intro l C Y s' _ _ _ _ _ hm _ N q;obtain⟨m,hm⟩:=hm;exact⟨m,hm,λo i=>⟨.ref l,Y,N o λb u L e=>i.extBut b u L e,rfl,q⟩⟩
def HY(hN:X.N.Nodup)(O:X.N[i]?=some y)(hy:X.env.scope.names.lookup y=some .local)(S:bp X N' u scope)(hc:X.calm=true)(hi:PI X E iter wi)(hg:∀C c d k pl,PG (gy X N' scope C c d k pl) E g)(M:∀C c d k pl,GL (gy X N' scope C c d k pl) ifs tc)(he:∀C c d k pl,PE (gy X N' scope C c d k pl) elt te)(G:swapsWith (.ListComp elt [⟨E,iter,ifs,0⟩] scope pos) (some (.Name y py)) n.line X.env=pure true:=by rfl)(hs:∀x,foldedSetIterable iter X.env x=pure x:=by intro _;rfl):
  PS X (.Assign [.Name y py] (.ListComp elt [⟨E,iter,ifs,0⟩] scope pos) n) (ES (G7 u wi g tc te) (rL i)):=by
 intro f s σ H D I h;rw[exec_Assign_Name_used _ _ _ _ G];refine VT (W5 (VT ?_));show wpAny _ X.A (do let _<-comprehension (.ListComp elt [⟨E,iter,ifs,0⟩] scope pos) scope X.env _ (newList []) false (eval iter X.env) (some (assign (.Name y py) X.env))) _ _ s;refine VT (WA (YI (use:=some (assign (.Name y py) X.env)) (Q:=λ_ j=>SP X f D .next j) rfl hs (iu (S.has I.ok)) S.kind S.names
  (cx (hi f s σ H _ I h) λv s1 h1=>cx h1 λitv s2 h2=>?_)) (λ_ j hq=>VY (VY hq)) λ_ _ e=>e)
 obtain⟨it,k,tn,J,H2,e,I2,T,F,f2,hQ⟩:=h2;subst e;refine vh (Q:=λx H1=>rL i x σ H1 D.nx) (RR:=λacc C=>compPost (model X.prog X.w) X.A X.xe (some (assign (.Name y py) X.env)) (λ_ j=>SP X f D .next j) acc C) S hc hg M he I2 T F f2 hQ ?_;intro l C H' j hC t Z r U hm R hI q;obtain⟨m,hm⟩:=hm;show wpAny _ X.A (assign (.Name y py) X.env (.ref l)) _ _ j;refine ZY (pL (v:=.ref l) R hN O (.inl hy) rfl (λs5 I5 P=>?_) (.inr hy));obtain⟨a,L,ha⟩:=P;have Y:C≠a:=by
  rcases ha with z | z
  ·rw[z];exact t
  ·exact(r _ _ z).symm
 refine⟨m,hm.sameBut L Y,λh'' p=>?_⟩;have I6:=I5.turned (t':=s5.toks) (h':=h'') (it:=C) (λb o hb e=>p.extBut b o hb e) hC t (.inr Z) r U;exact⟨_,H',I6,q⟩
def Ta(_ j:Int):Prop:=0 < j/\j<=10^40
def log2_small(h:n<=10^40):n.log2 < 9000:=by
 by_cases a:n=0
 ·rw[a];decide
 ·refine(Nat.log2_lt a).mpr (XR h ?_);exact Ws (show 10^40 < 2^200 by decide) (Aax (by decide) (by decide))
def Iz:nB X (binaryOp .FloorDiv) (rI Ta λi j=>.int (i / j)):=Th λi j _ _ _ _ _ hc q=>by
 have b:(0:Int) < j:=hc.1;have a:j<=10^40:=hc.2;exact floordiv_int (by lia) (by rw[Int.fdiv_eq_ediv_of_nonneg i (by lia)];exact q) (.inl (PyProof.noPylong_of_log2 (log2_small (by lia))))
mutual
inductive GK(K:FR)(H:Hp):V->PyData->Prop where
 | cu:GK K H .cu .none
 | bl (b:Bool):GK K H (.bl b) (.bool b)
 | int (i:Int):GK K H (.int i) (.int i)
 | str (x:Str):GK K H (.str x) (.str x)
 | tup {a:Addr} {xs:List V} {ds:List PyData}:lj K H a xs->qI K H xs ds->GK K H (.ref a) (.tuple ds)
 | lst {a:Addr} {xs:List V} {ds:List PyData}:gU K H a xs->qI K H xs ds->GK K H (.ref a) (.list ds)
inductive qI(K:FR)(H:Hp):List V->List PyData->Prop where
 | nil:qI K H [] []
 | cons {x:V} {xs:List V} {d:PyData} {ds:List PyData}:GK K H x d->qI K H xs ds->qI K H (x::xs) (d::ds)
end
mutual
theorem GK.reads(I:Inv X pins σ H s){x:V}{u:Value}{d:PyData}(z:GK X.K H x d)(r:RelV x u):∃as,Reads s.heap u d as:=by
 cases z with
 | cu=>cases(show _=Value.none from r);exact⟨_,.none⟩
 | bl b=>cases(show _=Value.bool b from r);exact⟨_,.bool b⟩
 | int i=>obtain⟨t,e⟩:=(show ∃t,_=Value.int i t from r);cases e;exact⟨_,.int i t⟩
 | str x=>obtain⟨t,e⟩:=(show ∃t,_=Value.str x t from r);cases e;exact⟨_,.str x t⟩
 | tup c hl=>
  cases(show _=Value.ref _ from r);obtain⟨a,rv,⟨o,g,f,n,h3⟩,_⟩:=I.tuple c;obtain⟨as,q⟩:=qI.reads I hl rv;exact⟨_,.tuple g f h3 (by simpa using q)⟩
 | lst c hl=>
  cases(show _=Value.ref _ from r);obtain⟨a,rv,pl,_⟩:=I.list c;obtain⟨o,g,f,n,h3⟩:=pl.isList;obtain⟨as,q⟩:=qI.reads I hl rv;exact⟨_,.list g f h3 (by simpa using q)⟩
theorem qI.reads(I:Inv X pins σ H s){a:List V}{us:List Value}{b:List PyData}(z:qI X.K H a b)(v:Vals a us):∃as,ReadsAll s.heap us b as:=by
 cases z with
 | nil=>cases v;exact⟨_,.nil⟩
 | cons h t=>
  cases v with
  | cons r q=>
   obtain⟨as,p⟩:=GK.reads I h r;obtain⟨bs,c⟩:=qI.reads I t q;exact⟨_,.cons p c⟩
end
def Uo:V->Option Int->Option Int->Hp->VK->Prop:=λx a b H Q=>∃z,x=.str z/\z.length<=sizeLine/\Q (.str (Txt.slice z a b)) H
def NK:Qj X Uo:=by
 intro b s r H x v C A n p E Q I w hs pl m h;obtain⟨z,rfl,y,q⟩:=h;obtain⟨t,rfl⟩:=(show ∃t,v=Value.str z t from w);refine⟨"str",_,F.slot_str_getitem.lookup,typeIs_str _ _ _,?_⟩;obtain⟨o,d,c,h3⟩:=hs;have a:(Txt.slice z n p).length<=sizeLine/\∀f k,EP X b r Q (.str (Txt.slice z n p) f) {s with toks:=k}:=⟨V2 (Txt.slice_le z _ _) y,λf k=>⟨.str _,H,I.tok k,⟨f,rfl⟩,q⟩⟩;cases pl with
 | none=>
  cases m with
  | none=>exact YU (l:=none) (u:=none) (st:=none) ⟨o,d,c,h3⟩ rfl (ZD a)
  | int j e=>exact YU (l:=none) (u:=some (j,e)) (st:=none) ⟨o,d,c,h3⟩ rfl (ZD a)
 | int i g=>
  cases m with
  | none=>exact YU (l:=some (i,g)) (u:=none) (st:=none) ⟨o,d,c,h3⟩ rfl (ZD a)
  | int j e=>exact YU (l:=some (i,g)) (u:=some (j,e)) (st:=none) ⟨o,d,c,h3⟩ rfl (ZD a)
def JI:fE X (.builtin "isinstance") (λc H Q=>∃x n t b,c=[x,.ty n]/\o6 X.K H x t/\PySem.W.kitOne X.K t (.type n)=some b/\Q (.bl b) H):=by
 intro d s j H c us Q I r h;obtain⟨x,n,t,b,rfl,ty,e,q⟩:=h;obtain⟨u,f,rfl,i,a⟩:=vals2 r;cases(show f=Value.type n from a);exact FT I i ty e λg=>⟨.bl b,H,I.tok g,rfl,q⟩
noncomputable def AO(out:List (Str×NameKind))(N c:List Str)(b:List (Option Nat))(a:Scope):Bool:=
 decide (a.kind=.function)&&a.names.all (λy=>decide (y.2≠.cell))&&a.names.all (λy=>!decide (y.2=.local)||decide (a.names.lookup y.1=some .local))&&
 a.names.all (λy=>!decide (y.2=.free)||decide (out.lookup y.1=some .cell)||decide (out.lookup y.1=some .free))&&decide (b.length=c.length)&&
 (List.range b.length).all (λj=>match b[j]?,c[j]? with
  | some (some i),some x=>decide (N[i]?=some x)&&decide (a.names.lookup x=some .free)
  | _,_=>true)&&decide c.Nodup
def aM(h:AO X.env.scope.names X.N o a scope=true):bp X o a scope:=by
 unfold AO at h;simp only[Wm,WS,WX,X1,Bool.not_eq_true',Aaa] at h;obtain⟨⟨⟨⟨⟨⟨n,m⟩,h3⟩,l⟩,k⟩,g⟩,f⟩:=h;refine⟨n,m,λy b e=>?_,λy b e=>?_,k,λj i x hj d=>?_,f⟩
 ·rcases h3 y b with z | z
  ·exact absurd e z
  ·exact z
 ·rcases l y b with(z | z) | z
  ·exact absurd e z
  ·exact .inl z
  ·exact .inr z
 ·have c:j < a.length:=(VW.mp hj).1;have:=g j (XT.mpr c);rw[hj,d] at this;simp only[Wm,WS] at this;exact this
end L2
namespace L2
end L2
namespace L2
open PyProof.Rows
def lC:PyData.strOk x=true↔∀c∈x.cps,c < 0x110000:=by
 unfold PyData.strOk;rw[YQ];simp
def EU(f:PyData.strOk a=true)(e:PyData.strOk b=true):PyData.strOk (a++b)=true:=by
 rw[lC] at*;intro c hc;have d:c∈a.cps++b.cps:=hc;rcases Array.mem_append.mp d with z | z
 ·exact f c z
 ·exact e c z
def z3(l u:Option Int)(h:PyData.strOk x=true):PyData.strOk (Txt.slice x l u)=true:=by
 unfold Txt.slice
 split
 ·exact h
 ·rw[lC] at*;intro c hc;have a:c∈(List.filterMap (x.cps[·]?) (Builtin.Str.strSliceIndices l u 1 x.length)).toArray:=hc;rw[List.mem_toArray] at a;obtain⟨i,_,e⟩:=XU.mp a;exact h c (Zw e)
def ET(h:PyData.strOk z=true)(hc:jt z.cps.toList i=some c):PyData.strOk (⟨#[c]⟩:Str)=true:=by
 rw[lC] at*;intro d hd;have e:d=c:=by simpa using hd
 subst e;obtain⟨j,_,hj,_⟩:=tq hc;exact h d (by have:=VX hj;simpa using this)
def entry_all_loop:entryFor table "all.loop"=some Builtin.«all.loop»:=entryFor_of_tree (by ac_nf)
def plain_all_loop:plainId "all.loop"=true:=by decide+kernel
def JX{A:Around}{a:List (Addr×Obj)}{σ:St}{H:Hp}{p it:Addr}{bs:List Bool}{R:Result->Shared->Prop}(F:A.handled=none)(hp:gU X.K H p (bs.map V.bl))
  (hit:it≠X.env.locals/\(it∈X.ex\/X.s₀.heap.objs.size<=it)/\(∀x c,X.env.cells.lookup x=some c->c≠it)/\∀q∈X.pn++a,q.1≠it) (g:H it=none)
  (h:∀t,Inv X a σ H t->R (.ok (.ret (.bool (bs.all id)))) t):∀(n i:Nat)(s:Shared),bs.length-i=n->i<=bs.length->(bs.take i).all id=true->s.heap.IsListIter it p i->Inv X a σ H s->
   codeAny (model X.prog X.w) A (.builtin "all.loop" ⟨[.ref it],[]⟩) R s:=by
 intro n
 induction n with
 | zero=>
  intro i s hn E ht st I;have G:i=bs.length:=by lia
  refine XJ entry_all_loop ?_;rw[XB plain_all_loop _];obtain⟨l,rv,pl,z⟩:=I.list hp;have r:=rv.length;rw[VU] at r;show wpAny _ _ (pyNext (.ref it) >>=_) _ _ s;refine VT (wpAny_pyNext_list_end F st pl.isList (by simp;lia) λh' J=>?_);have j:=I.turned (t':=s.toks) (h':=h') (it:=it) (λb o d e=>J b o d e) g hit.1 hit.2.1 hit.2.2.1 hit.2.2.2;refine VT (Yq (VY ?_));rw[G,WT] at ht;have:=h _ j;rw[ht] at this;exact this
 | succ n y=>
  intro i s hn E ht st I;have f:i < bs.length:=by lia
  refine XJ entry_all_loop ?_;rw[XB plain_all_loop _];obtain⟨l,rv,pl,z⟩:=I.list hp;have m:(bs.map V.bl)[i]?=some (.bl bs[i]):=by rw[Wa,V7 f];rfl
  obtain⟨u,C,v⟩:=rv.get m;cases(show u=Value.bool bs[i] from v);show wpAny _ _ (pyNext (.ref it) >>=_) _ _ s;refine VT (wpAny_pyNext_list_item st pl.isList (x:=.bool bs[i]) (by simpa using C) λh' k sb=>?_);have j:=I.turned (t':=s.toks) (h':=h') (it:=it) (λb o d e=>(sb.2 b d).trans e) g hit.1 hit.2.1 hit.2.2.1 hit.2.2.2;dsimp only;refine VT (WE (W7 ?_));refine VT (Zt ?_)
  by_cases d:bs[i]=true
  ·rw[V1 d];refine VY ⟨YJ plain_all_loop _,y (i+1) _ (by lia) (by lia) ?_ k j⟩;rw[Zb,V7 f,List.all_append,ht,d];rfl
  ·rw[V4 d];refine VT (Yq (VY ?_));have:=h _ j;have e:bs.all id=false:=by
    rw[List.all_eq_false];exact⟨bs[i],ZR f,by simpa using d⟩
   rw[e] at this;exact this
def JJ(hc:X.calm=true):fE X (.builtin "all") (λc H Q=>∃(p:Addr)(bs:List Bool),c=[.ref p]/\gU X.K H p (bs.map V.bl)/\Q (.bl (bs.all id)) H):=by
 intro a s σ H c us Q I r h;obtain⟨p,bs,rfl,hp,q⟩:=h;obtain⟨u,rfl,d⟩:=vals1 r;cases(show u=Value.ref p from d);have g:X.A.handled=none:=I.ok.hd hc;obtain⟨f,rv,pl,v⟩:=I.list hp;refine call_function_tree F.kind_all F.plain_all F.entry_all (F.args_all1 _) ?_;unfold Builtin.«all»;show wpAny _ _ (pyIter (.ref p) >>=_) _ _ s;refine VT (wpAny_pyIter_list pl.isList ?_);have m:Inv X a σ H {s with heap:=s.heap.push {cls:=.type "list_iterator",data:=.fields #[.ref p,.int 0 0]}}:=I.kept (t':=s.toks) λb o e=>V0 _ e;obtain⟨f0,l,w,k,j,i⟩:=I.A9 (b:=s.heap.objs.size) (H':=H) (VZ _) (I.bu.fresh (VZ _));refine VY ⟨YJ plain_all_loop _,?_⟩;exact JX (X:=X) (σ:=σ) (H:=H) (by exact g) hp ⟨l,k,j,i⟩ f0 (λt n=>⟨.bl _,H,n,rfl,q⟩) bs.length 0 _ (by lia) (Xb _) rfl ⟨_,Wn _ rfl,rfl,rfl⟩ m
end L2
namespace L2
open PyProof.Rows PySem.SeqAt
noncomputable def dc:Nat->PyData->Bool
 | _,.int _=>true
 | _,.str x=>PyData.strOk x
 | n+1,.tuple xs=>xs.all (dc n)
 | _,_=>false
def ip(w:World):Nat->PyData->Int
 | _,.int i=>Pc w (.inl i)
 | _,.str x=>Pc w (.inr x)
 | n+1,.tuple xs=>reduceHash (Builtin.Tuple.tupleHashOf (xs.map (ip w n)))
 | _,_=>0
noncomputable def Pq(K:FR)(x:Str):Option Value:=match K.lookup mainGlobals with
 | some o=>match o.data with
  | .dict a _=>(a.toList.find? (λe=>Value.isStrOf x e.key)).map (·.val)
  | _=>none
 | none=>none
def BH(h:Heap)(x D:Addr):Prop:=∃o,h.get? x=some o/\o.cls=.ref D
def U5(a:Addr)(us:List (Addr×V))(c:List PyData):World->Heap->Prop:=λw h=>us.length<=sizeLine/\(a==sysModules)=false/\c.all (dc 8)=true/\c.Nodup/\
 ∃b:List (PyData×Addr×Value),Paired (λ(u:Addr×V)(y:PyData×Addr×Value)=>u.1=y.2.1/\RelV u.2 y.2.2) us b/\b.map (·.1)=c/\
 ∃o d e,h.get? a=some o/\o.ExactDict/\o.data=.dict d e/\d.toList=b.map λy=>⟨ip w 8 y.1,.ref y.2.1,y.2.2⟩
end L2
namespace Sm
open L2
inductive D where
 | cu | bl (b:Bool) | int (i:Int) | str (x:Str) | ty (n:String)
 | tup (xs:List D) | lv (xs:List D) | ro (xs:List D) | dv (kvs:List (Key×D)) | ob (n:Nat)
inductive MO where
 | lst (xs:List D) | dct (kvs:List (Key×D)) | dcH (kvs:List (D×D)) | exc (c:Str)
abbrev MH:=List MO
mutual
noncomputable def ur:D->Option PyData
 | .cu=>some .none
 | .bl b=>some (.bool b)
 | .int i=>some (.int i)
 | .str x=>some (.str x)
 | .tup xs=>(kl xs).map .tuple
 | .lv xs=>(kl xs).map .list
 | .ro xs=>(kl xs).map .list
 | _=>none
noncomputable def kl:List D->Option (List PyData)
 | []=>some []
 | x::r=>(ur x).bind λa=>(kl r).map λb=>a::b
end
abbrev DS:=List (Option D)
abbrev Vc:Hp:=λ_=>none
structure Ad where
 ob:List Addr
 rs:List Addr
def Ad.has(b:Ad)(a:Addr):Prop:=a∈b.ob\/a∈b.rs
def TupAt(K:FR)(c:Ad)(H:Hp)(a:Addr)(b:List V):Prop:=(Rd H a (.tup b)/\¬c.has a)\/lj K Vc a b
def Ql(K:FR)(c:Ad)(H:Hp)(a:Addr)(b:List V):Prop:=(Rd H a (.lst b)/\¬c.has a)\/gU K Vc a b
mutual
inductive Rep(K:FR)(ρ:Ad)(H:Hp):V->D->Prop where
 | cu:Rep K ρ H .cu .cu
 | bl (b:Bool):Rep K ρ H (.bl b) (.bl b)
 | int (i:Int):Rep K ρ H (.int i) (.int i)
 | str {x:Str} (h:PyData.strOk x=true):Rep K ρ H (.str x) (.str x)
 | ty (n:String):Rep K ρ H (.ty n) (.ty n)
 | tup {a:Addr} {vs:List V} {ds:List D}:TupAt K ρ H a vs->aH K ρ H vs ds->Rep K ρ H (.ref a) (.tup ds)
 | lv {a:Addr} {vs:List V} {ds:List D}:H a=some (.lst vs)->¬ρ.has a->aH K ρ H vs ds->Rep K ρ H (.ref a) (.lv ds)
 | ro {a:Addr} {vs:List V} {ds:List D}:Ql K ρ H a vs->aH K ρ H vs ds->Rep K ρ H (.ref a) (.ro ds)
 | dv {a:Addr} {us:List (Key×V)} {kvs:List (Key×D)}:H a=some (.dK us)->¬ρ.has a->bO K ρ H us kvs->Rep K ρ H (.ref a) (.dv kvs)
 | ob {a:Addr} {n:Nat}:ρ.ob[n]?=some a->Rep K ρ H (.ref a) (.ob n)
inductive aH(K:FR)(ρ:Ad)(H:Hp):List V->List D->Prop where
 | nil:aH K ρ H [] []
 | cons {v:V} {vs:List V} {d:D} {ds:List D}:Rep K ρ H v d->aH K ρ H vs ds->aH K ρ H (v::vs) (d::ds)
inductive bO(K:FR)(ρ:Ad)(H:Hp):List (Key×V)->List (Key×D)->Prop where
 | nil:bO K ρ H [] []
 | cons {k:Key} {v:V} {vs:List (Key×V)} {d:D} {ds:List (Key×D)}:Rep K ρ H v d->bO K ρ H vs ds->bO K ρ H ((k,v)::vs) ((k,d)::ds)
end
structure Ch(ρ:Ad)(H:Hp)(ρ':Ad)(H':Hp):Prop where
 pre:∀(n:Nat) a,ρ.ob[n]?=some a->ρ'.ob[n]?=some a
 old:∀b o,¬ρ.has b->H b=some o->¬ρ'.has b/\H' b=some o
def Ch.refl(a:Ad)(H:Hp):Ch a H a H:=⟨λ_ _ e=>e,λ_ _ n e=>⟨n,e⟩⟩
def Ch.trans(a:Ch f H d H1)(b:Ch d H1 c i):Ch f H c i:=
 ⟨λn x e=>b.pre n x (a.pre n x e),λx o n e=>let⟨g,h⟩:=a.old x o n e;b.old x o g h⟩
structure dG(ρ:Ad)(H:Hp)(ρ':Ad)(H':Hp):Prop extends Ch ρ H ρ' H' where
 rs:ρ'.rs=ρ.rs
 res:∀b∈ρ.rs,H' b=H b
theorem dG.refl(a:Ad)(H:Hp):dG a H a H:=⟨.refl _ _,rfl,λ_ _=>rfl⟩
theorem dG.trans(a:dG f H d H1)(b:dG d H1 c g):dG f H c g:=
 ⟨a.toCh.trans b.toCh,b.rs.trans a.rs,λx e=>(b.res x (by rw[a.rs];exact e)).trans (a.res x e)⟩
instance {ρ ρ':Ad} {H H':Hp}:CoeOut (dG ρ H ρ' H') (Ch ρ H ρ' H'):=⟨dG.toCh⟩
def Ch.rd(S:Ch c H b d)(h:Rd H a u)(n:¬c.has a):Rd d a u/\¬b.has a:=by
 rcases h with h |⟨o,h⟩
 ·obtain⟨q,e⟩:=S.old a _ n h;exact⟨.inl e,q⟩
 ·obtain⟨q,e⟩:=S.old a _ n h;exact⟨.inr ⟨o,e⟩,q⟩
mutual
theorem Rep.mono(S:Ch j H c k){v:V}{d:D}(r:Rep K j H v d):Rep K c k v d:=by
 cases r with
 | cu=>exact .cu
 | bl b=>exact .bl b
 | int i=>exact .int i
 | str x=>exact .str x
 | ty n=>exact .ty n
 | tup h l=>exact .tup (h.elim (λ⟨a,n⟩=>.inl (S.rd a n)) .inr) (aH.mono S l)
 | lv h n l=>have ⟨f,g⟩:=S.old _ _ n h;exact .lv g f (aH.mono S l)
 | ro h l=>exact .ro (h.elim (λ⟨a,n⟩=>.inl (S.rd a n)) .inr) (aH.mono S l)
 | dv h n l=>have ⟨f,g⟩:=S.old _ _ n h;exact .dv g f (bO.mono S l)
 | ob e=>exact .ob (S.pre _ _ e)
theorem aH.mono(S:Ch d H a e){b:List V}{c:List D}(r:aH K d H b c):aH K a e b c:=by
 cases r with
 | nil=>exact .nil
 | cons h t=>exact .cons (Rep.mono S h) (aH.mono S t)
theorem bO.mono(S:Ch d H a e){b:List (Key×V)}{c:List (Key×D)}(r:bO K d H b c):bO K a e b c:=by
 cases r with
 | nil=>exact .nil
 | cons h t=>exact .cons (Rep.mono S h) (bO.mono S t)
end
theorem aH.length:∀{b:List V} {c:List D},aH K e H b c->b.length=c.length:=by
 intro b
 induction b with
 | nil=>intro c a;cases a;rfl
 | cons v b d=>intro c a;cases a with | cons _ t=>rw[V9,V9,d t]
theorem aH.got:∀{a:List V} {b:List D} {i:Nat} {d:D},aH K c H a b->b[i]?=some d->∃v,a[i]?=some v/\Rep K c H v d
 | _,_,_,_,.nil,e=>by simp at e
 | _,_,0,_,.cons r _,e=>by simp at e;subst e;exact⟨_,rfl,r⟩
 | _,_,i+1,d,.cons _ t,e=>by
  obtain⟨u,g,f⟩:=aH.got (i:=i) (d:=d) t (by simpa using e);exact⟨u,by simpa using g,f⟩
def aH.append:∀{b e:List V} {d c:List D},aH K f H b d->aH K f H e c->aH K f H (b++e) (d++c):=by
 intro b e
 induction b with
 | nil=>intro d c a s;cases a;exact s
 | cons v b g=>intro d c a s;cases a with | cons r t=>exact .cons r (g t s)
theorem aH.take:∀{a:List V} {b:List D} (n:Nat),aH K c H a b->aH K c H (a.take n) (b.take n)
 | _,_,0,_=>.nil
 | _,_,_+1,.nil=>.nil
 | _,_,n+1,.cons r t=>.cons r (aH.take n t)
theorem aH.drop:∀{a:List V} {b:List D} (n:Nat),aH K c H a b->aH K c H (a.drop n) (b.drop n)
 | _,_,0,r=>r
 | _,_,_+1,.nil=>.nil
 | _,_,n+1,.cons _ t=>aH.drop n t
theorem aH.set(r:Rep K a H v d):∀{b:List V} {c:List D} (i:Nat),aH K a H b c->aH K a H (b.set i v) (c.set i d)
 | _,_,_,.nil=>.nil
 | _,_,0,.cons _ t=>.cons r t
 | _,_,i+1,.cons q t=>.cons q (aH.set r i t)
def aH.snoc(t:aH K a H b ds)(r:Rep K a H v d):aH K a H (b++[v]) (ds++[d]):=t.append (.cons r .nil)
theorem aH.isEmpty(t:aH K b H a ds):a.isEmpty=ds.isEmpty:=by cases t <;> rfl
def TupAt.sq(h:TupAt K c H a b):lj K H a b:=by
 rcases h with⟨h,_⟩ | h
 ·exact .inl h
 ·rcases h with(h |⟨o,h⟩) | h
  ·cases h
  ·cases h
  ·exact .inr h
def Ql.sq(h:Ql K c H a b):gU K H a b:=by
 rcases h with⟨h,_⟩ | h
 ·exact .inl h
 ·rcases h with(h |⟨o,h⟩) | h
  ·cases h
  ·cases h
  ·exact .inr h
def ED(K:FR)(d:Ad)(H:Hp)(a:Addr):MO->Prop
 | .lst ds=>∃e,H a=some (.lst e)/\aH K d H e ds
 | .dct b=>∃us,H a=some (.dK us)/\bO K d H us b
 | .dcH b=>∃us f,H a=some (.El (U5 a us f))/\aH K d H (us.map λu=>V.ref u.1) (b.map (·.1))/\aH K d H (us.map (·.2)) (b.map (·.2))/\kl (b.map (·.1))=some f
 | .exc c=>∃C,Pq K c=some (.ref C)/\H a=some (.El λ_ h=>BH h a C)
structure bT(K:FR)(ρ:Ad)(h:MH)(H:Hp):Prop where
 len:ρ.ob.length=h.length
 nd:ρ.ob.Nodup
 at_:∀(n:Nat) a o,ρ.ob[n]?=some a->h[n]?=some o->ED K ρ H a o
 vT:∀b∈ρ.rs,(∃o,H b=some o)/\b∉ρ.ob
 tb:∀P,ju K P->¬ρ.has P/\H P=some .tb
def bT.Nw{K:FR}{b a:Ad}{h:MH}{H c:Hp}(S:bT K b h H)(T:Ch b H a c):∀P,ju K P->¬a.has P/\c P=some .tb:=λP t=>T.old P _ (S.tb P t).1 (S.tb P t).2
def ED.has(x:ED K d H a o):∃u,H a=some u:=by
 cases o with
 | lst ds=>obtain⟨b,e,_⟩:=x;exact⟨_,e⟩
 | dct ds=>obtain⟨b,e,_⟩:=x;exact⟨_,e⟩
 | dcH ds=>obtain⟨b,_,e,_⟩:=x;exact⟨_,e⟩
 | exc c=>obtain⟨_,_,e⟩:=x;exact⟨_,e⟩
theorem ED.mono(x:ED K h H a o)(T:Ch h H b f)(e:f a=H a):ED K b f a o:=by
 cases o with
 | lst ds=>obtain⟨d,x,r⟩:=x;exact⟨d,e.trans x,r.mono T⟩
 | dct ds=>obtain⟨d,x,r⟩:=x;exact⟨d,e.trans x,r.mono T⟩
 | dcH ds=>obtain⟨us,j,x,r,i,p⟩:=x;exact⟨us,j,e.trans x,r.mono T,i.mono T,p⟩
 | exc c=>obtain⟨C,g,x⟩:=x;exact⟨C,g,e.trans x⟩
def bT.mem(S:bT K c h H)(f:a∈c.ob):∃(n:Nat)(o:MO),c.ob[n]?=some a/\h[n]?=some o/\ED K c H a o:=by
 obtain⟨n,hn,e⟩:=List.mem_iff_getElem.mp f;have b:n < h.length:=by rw[<-S.len];exact hn
 have d:c.ob[n]?=some a:=by rw[V7 hn,e]
 exact⟨n,h[n],d,V7 b,S.at_ n a _ d (V7 b)⟩
theorem bT.has(S:bT K c h H)(b:c.has a):∃u,H a=some u:=by
 rcases b with b | b
 ·obtain⟨_,_,_,_,x⟩:=S.mem b;exact x.has
 ·exact(S.vT a b).1
def bT.fresh(S:bT K a h H)(hp:H p=none):¬a.has p:=λm=>by
 obtain⟨u,e⟩:=S.has m;rw[hp] at e;cases e
def dG.laid(S:bT K a h H)(hp:H p=none):dG a H a (upd H p o):=
 ⟨⟨λ_ _ e=>e,λb u n e=>⟨n,by rw[aB (aQ e hp)];exact e⟩⟩,rfl,λb c=>by
  obtain⟨u,e⟩:=(S.vT b c).1;rw[aB (aQ e hp)]⟩
def bT.same(S:bT K c h H)(T:dG c H c f)(k:∀a∈c.ob,f a=H a):bT K c h f:=
 ⟨S.len,S.nd,λn a o e g=>(S.at_ n a o e g).mono T.toCh (k a (VX e)),λb d=>⟨by rw[T.res b d];exact(S.vT b d).1,(S.vT b d).2⟩,S.Nw T.toCh⟩
theorem bT.laid(S:bT K b h H)(hp:H p=none):bT K b h (upd H p o):=
 S.same (dG.laid S hp) λa c=>by
  obtain⟨u,e⟩:=S.has (.inl c);rw[aB (aQ e hp)]
abbrev Ad.more(ρ:Ad)(p:Addr):Ad:=⟨ρ.ob++[p],ρ.rs⟩
def dG.made(S:bT K c h H)(hp:H p=none):dG c H (c.more p) (upd H p o):=by
 refine⟨⟨λn a e=>?_,λb u n e=>?_⟩,rfl,(dG.laid S hp).res⟩
 ·show(c.ob++[p])[n]?=_;rw[Wc (VW.mp e).1];exact e
 ·refine⟨λm=>?_,by rw[aB (aQ e hp)];exact e⟩;rcases m with m | m
  ·rcases Wz.mp m with m | m
   ·exact n (.inl m)
   ·exact aQ e hp (Wg.mp m)
  ·exact n (.inr m)
theorem bT.made(S:bT K d h H)(hp:H p=none)(k:ED K (d.more p) (upd H p u) p o):bT K (d.more p) (h++[o]) (upd H p u):=by
 refine⟨by simp[S.len],?_,λn a x c f=>?_,λb i=>?_,S.Nw (dG.made S hp).toCh⟩
 ·show(d.ob++[p]).Nodup;rw[X4];refine⟨S.nd,by simp,λa l b i z=>?_⟩;rw[Wg.mp i] at z;exact S.fresh hp (.inl (z ▸ l))
 ·by_cases hn:n < d.ob.length
  ·have c:(d.ob++[p])[n]?=some a:=c;rw[Wc hn] at c;rw[Wc (by rw[<-S.len];exact hn)] at f;have q:=S.at_ n a x c f;obtain⟨w,r⟩:=q.has;exact q.mono (dG.made S hp).toCh (aB (aQ r hp))
  ·have j:=(VW.mp c).1;simp at j;have g:n=d.ob.length:=by lia
   subst g;have c:(d.ob++[p])[d.ob.length]?=some a:=c;rw[We (VZ _)] at c;rw[We (by rw[S.len];exact VZ _)] at f;simp at c;rw[S.len] at f;simp at f;subst c;subst f;exact k
 ·obtain⟨⟨v,e⟩,n⟩:=S.vT b i;have z:=aQ e hp;refine⟨⟨v,by rw[aB z];exact e⟩,λm=>?_⟩;rcases Wz.mp m with m | m
  ·exact n m
  ·exact z (Wg.mp m)
def dG.wrote(S:bT K c h H)(d:a∈c.ob):dG c H c (upd H a o):=
 ⟨⟨λ_ _ e=>e,λb u n e=>⟨n,by rw[aB (λ(z:b=a)=>n (.inl (by rw[z];exact d)))];exact e⟩⟩,rfl,λb f=>aB λ(z:b=a)=>(S.vT b f).2 (by rw[z];exact d)⟩
theorem bT.wrote(S:bT K c h H)(e:c.ob[n]?=some a)(j:ED K c (upd H a u) a o):bT K c (h.set n o) (upd H a u):=by
 have k:=VX e;have T:dG c H c (upd H a u):=dG.wrote S k;refine⟨by rw[Xa];exact S.len,S.nd,λm b x g f=>?_,λb d=>⟨by rw[T.res b d];exact(S.vT b d).1,(S.vT b d).2⟩,S.Nw T.toCh⟩
 by_cases hm:n=m
 ·subst hm;have i:n < h.length:=by rw[<-S.len];exact(VW.mp e).1
  rw[e] at g;cases g;rw[WG i] at f;cases f;exact j
 ·rw[WR hm] at f;have q:=S.at_ m b x g f;have d:b≠a:=by
   intro z;subst z;exact hm ((List.getElem?_inj (VW.mp e).1 S.nd).mp (e.trans g.symm))
  exact q.mono T.toCh (aB d)
abbrev Ad.keep(ρ:Ad)(l:Addr):Ad:=⟨ρ.ob,l::ρ.rs⟩
theorem Ch.keep(hl:H l=none):Ch c H (c.keep l) (upd H l o):=by
 refine⟨λn a e=>e,λb u n e=>⟨λm=>?_,by rw[aB (aQ e hl)];exact e⟩⟩;rcases m with m | m
 ·exact n (.inl m)
 ·rcases Wh.mp m with m | m
  ·exact aQ e hl m
  ·exact n (.inr m)
theorem bT.keep(S:bT K d h H)(hl:H l=none):bT K (d.keep l) h (upd H l o):=by
 refine⟨S.len,S.nd,λn a x i g=>?_,λb c=>?_,S.Nw (Ch.keep hl)⟩
 ·have q:=S.at_ n a x i g;obtain⟨w,f⟩:=q.has;exact q.mono (Ch.keep hl) (aB (aQ f hl))
 ·rcases Wh.mp c with rfl | c
  ·exact⟨⟨_,aP⟩,λm=>S.fresh hl (.inl m)⟩
  ·obtain⟨⟨v,e⟩,n⟩:=S.vT b c;exact⟨⟨v,by rw[aB (aQ e hl)];exact e⟩,n⟩
def Ch.put(hl:l∈c.rs):Ch c H c (upd H l o):=⟨λn a e=>e,λb u n e=>⟨n,by rw[aB (λ(z:b=l)=>n (.inr (by rw[z];exact hl)))];exact e⟩⟩
theorem bT.put(S:bT K c h H)(hl:l∈c.rs):bT K c h (upd H l o):=by
 refine⟨S.len,S.nd,λn a x e f=>(S.at_ n a x e f).mono (Ch.put hl) (aB λ(z:a=l)=>(S.vT l hl).2 (by rw[<-z];exact VX e)),λb d=>⟨?_,(S.vT b d).2⟩,S.Nw (Ch.put hl)⟩
 by_cases z:b=l
 ·subst z;exact⟨_,aP⟩
 ·rw[aB z];exact(S.vT b d).1
def Ch.free{os rs c:List Addr}{H:Hp}(hs:∀b∈c,b∈rs):Ch ⟨os,rs⟩ H ⟨os,c⟩ H:=⟨λn a e=>e,λb u n e=>⟨λm=>n (m.elim .inl λm=>.inr (hs b m)),e⟩⟩
theorem bT.free{os rs c:List Addr}{H:Hp}(S:bT K ⟨os,rs⟩ h H)(hs:∀b∈c,b∈rs):bT K ⟨os,c⟩ h H:=
 ⟨S.len,S.nd,λn a x f e=>(S.at_ n a x f e).mono (Ch.free hs) rfl,λb d=>S.vT b (hs b d),S.Nw (Ch.free hs)⟩
structure cB(K:FR)(ρ:Ad)(H:Hp)(σ:St)(δ:DS):Prop where
 len:σ.length=δ.length
 at_:∀(i:Nat) d,δ[i]?=some (some d)->∃v,σ[i]?=some (some v)/\Rep K ρ H v d
theorem cB.mono(R:cB K f H σ g)(S:Ch f H c h):cB K c h σ g:=⟨R.len,λi d e=>let⟨v,a,b⟩:=R.at_ i d e;⟨v,a,b.mono S⟩⟩
theorem cB.set(R:cB K c H σ f)(r:Rep K c H v d)(i:Nat):cB K c H (σ.set i (some v)) (f.set i (some d)):=by
 refine⟨by rw[Xa,Xa];exact R.len,λj e b=>?_⟩
 by_cases a:i=j
 ·subst a;have hl:i < f.length:=by
   have:=(VW.mp b).1;rw[Xa] at this;exact this
  rw[WG hl] at b;cases b;exact⟨v,by rw[WG (by rw[R.len];exact hl)],r⟩
 ·rw[WR a] at b ⊢;exact R.at_ j e b
abbrev EM:=DS->MH->Option (D×MH)
abbrev TM:=DS->MH->Option (Bool×MH)
abbrev AM:=DS->MH->Option (List D×MH)
inductive Fl where
 | nx | bk | ct | rt (d:D)
abbrev SM:=DS->MH->Option (Fl×DS×MH)
abbrev GM:=D->DS->MH->Option (DS×MH)
abbrev Fn:=List D->MH->Option (D×MH)
inductive M9(K:FR)(ρ:Ad)(H:Hp)(h':MH)(d:D)(v:V)(H':Hp):Prop where
 | mk (ρ'):dG ρ H ρ' H'->bT K ρ' h' H'->Rep K ρ' H' v d->M9 K ρ H h' d v H'
noncomputable def dB(K:FR)(a:Ad)(H:Hp)(b:MH)(d:D):VK:=λv c=>M9 K a H b d v c
inductive Vg(K:FR)(m:EM)(σ:L2.St)(H:Hp)(Q:VK):Prop where
 | mk (ρ δ h d h'):cB K ρ H σ δ->bT K ρ h H->(m δ h=some (d,h'))->(∀v H',dB K ρ H h' d v H'->Q v H')->Vg K m σ H Q
def tM(K:FR)(m:EM):TE:=λa H Q=>Vg K m a H Q
inductive Sy(K:FR)(m:TM)(σ:L2.St)(H:Hp)(Q:Bool->Hp->Prop):Prop where
 | mk (ρ δ h b h'):cB K ρ H σ δ->bT K ρ h H->(m δ h=some (b,h'))->(∀ρ' H',dG ρ H ρ' H'->bT K ρ' h' H'->Q b H')->Sy K m σ H Q
def DG(K:FR)(m:TM):TT:=λa H Q=>Sy K m a H Q
inductive SK(K:FR)(m:AM)(σ:L2.St)(H:Hp)(Q:List V->Hp->Prop):Prop where
 | mk (ρ δ h ds h'):cB K ρ H σ δ->bT K ρ h H->(m δ h=some (ds,h'))->(∀vs ρ' H',dG ρ H ρ' H'->bT K ρ' h' H'->aH K ρ' H' vs ds->Q vs H')->SK K m σ H Q
def U9(K:FR)(m:AM):TA:=λa H Q=>SK K m a H Q
inductive Sz(K:FR)(m:SM)(E:Ends)(σ:L2.St)(H:Hp):Prop where
 | mk (ρ δ h fl δ' h'):cB K ρ H σ δ->bT K ρ h H->(m δ h=some (fl,δ',h'))->(∀ρ' H',dG ρ H ρ' H'->bT K ρ' h' H'->
 match fl with
 | .nx=>∀σ',cB K ρ' H' σ' δ'->E.nx σ' H'
 | .bk=>∀σ',cB K ρ' H' σ' δ'->E.bk σ' H'
 | .ct=>∀σ',cB K ρ' H' σ' δ'->E.ct σ' H'
 | .rt d=>∀v,Rep K ρ' H' v d->E.rt v H')->Sz K m E σ H
def Ky(K:FR)(m:SM):TS:=λE a H=>Sz K m E a H
inductive SJ(K:FR)(m:GM)(v:V)(σ:L2.St)(H:Hp)(Q:L2.St->Hp->Prop):Prop where
 | mk (ρ δ h d δ' h'):cB K ρ H σ δ->bT K ρ h H->Rep K ρ H v d->(m d δ h=some (δ',h'))->(∀ρ' H' σ',dG ρ H ρ' H'->bT K ρ' h' H'->cB K ρ' H' σ' δ'->Q σ' H')->SJ K m v σ H Q
def GD(K:FR)(m:GM):TG:=λv a H Q=>SJ K m v a H Q
def SE(X:Cx)(e:Expr)(m:EM):Prop:=PE X e (tM X.K m)
def ST(X:Cx)(e:Expr)(m:TM):Prop:=PT X e (DG X.K m)
def SW(X:Cx)(e:Expr)(m:TM):Prop:=PW X e (DG X.K m)
def SA(X:Cx)(a:List Expr)(m:AM):Prop:=PA X a (U9 X.K m)
def SS(X:Cx)(s:Stmt)(m:SM):Prop:=PS X s (Ky X.K m)
def Gy(X:Cx)(s:List Stmt)(m:SM):Prop:=zU X s (Ky X.K m)
def SG(X:Cx)(e:Expr)(m:GM):Prop:=PG X e (GD X.K m)
def _root_.L2.PE.imp(h:PE X e t)(i:∀a H Q,c a H Q->t a H Q):PE X e c:=λb s a H Q I q=>h b s a H Q I (i a H Q q)
def _root_.L2.PT.imp(h:PT X e t)(i:∀a H Q,c a H Q->t a H Q):PT X e c:=λb s a H Q I q=>h b s a H Q I (i a H Q q)
def _root_.L2.PW.imp(h:PW X e t)(i:∀a H Q,d a H Q->t a H Q):PW X e d:=λc b s a H Q I q=>h c b s a H Q I (i a H Q q)
def _root_.L2.PA.imp(h:PA X e t)(i:∀a H Q,d a H Q->t a H Q):PA X e d:=λc b s a H Q I q=>h c b s a H Q I (i a H Q q)
def _root_.L2.PS.imp(h:PS X e t)(i:∀E a H,c E a H->t E a H):PS X e c:=λb s a H E I q=>h b s a H E I (i E a H q)
def _root_.L2.zU.imp(h:zU X e t)(i:∀E a H,c E a H->t E a H):zU X e c:=λb s a H E I q=>h b s a H E I (i E a H q)
def _root_.L2.PG.imp(h:PG X e t)(i:∀v a H Q,c v a H Q->t v a H Q):PG X e c:=λb s a H v u Q I r q=>h b s a H v u Q I r (i v a H Q q)
def bq(h:o.bind f=some b):∃a,o=some a/\f a=some b:=YH.mp h
def gL(h:o.map f=some b):∃a,o=some a/\f a=b:=Wl.mp h
def Bt{x:D}{a:Type}{g:Bool->Option a}{z:a}(e:(match x with | .bl c=>g c | _=>none)=some z):∃c,x=.bl c/\g c=some z:=by
 cases x <;> first | exact absurd e (by intro z;cases z) | exact⟨_,rfl,e⟩
def dB.here(S:bT K a h H)(r:Rep K a H v d):dB K a H h d v H:=⟨a,.refl _ _,S,r⟩
def dB.step(T:dG c H b H1)(p:dB K b H1 f d v i):dB K c H f d v i:=let⟨a,g,h,e⟩:=p;⟨a,T.trans g,h,e⟩
theorem dB.tup(S:bT K a h H)(r:aH K a H b ds)(hp:H p=none):dB K a H h (.tup ds) (.ref p) (upd H p (.tup b)):=
 ⟨a,dG.laid S hp,S.laid hp,.tup (.inl ⟨.inl aP,S.fresh hp⟩) (r.mono (dG.laid S hp).toCh)⟩
theorem dB.lv(S:bT K a h H)(r:aH K a H b ds)(hp:H p=none):dB K a H h (.lv ds) (.ref p) (upd H p (.lst b)):=
 ⟨a,dG.laid S hp,S.laid hp,.lv aP (S.fresh hp) (r.mono (dG.laid S hp).toCh)⟩
theorem dB.dv(S:bT K a h H)(r:bO K a H us ds)(hp:H p=none):dB K a H h (.dv ds) (.ref p) (upd H p (.dK us)):=
 ⟨a,dG.laid S hp,S.laid hp,.dv aP (S.fresh hp) (r.mono (dG.laid S hp).toCh)⟩
noncomputable def aw(i:Nat):EM:=λa h=>(a[i]?).join.map λd=>(d,h)
noncomputable def eK(d:D):EM:=λ_ h=>some (d,h)
noncomputable def au(f:D->D->MH->Option (D×MH))(a b:EM):EM:=λc h=>(a c h).bind λp=>(b c p.2).bind λq=>f p.1 q.1 q.2
noncomputable def Dg(f:D->MH->Option (D×MH))(a:EM):EM:=λb h=>(a b h).bind λp=>f p.1 p.2
noncomputable def aD:AM:=λ_ h=>some ([],h)
noncomputable def af(a:EM)(r:AM):AM:=λb h=>(a b h).bind λp=>(r b p.2).bind λq=>some (p.1::q.1,q.2)
noncomputable def ar(f:Fn)(a:AM):EM:=λb h=>(a b h).bind λp=>f p.1 p.2
noncomputable def UO(t:TM)(a b:EM):EM:=λc h=>(t c h).bind λp=>if p.1 then a c p.2 else b c p.2
noncomputable def az(a:EM):TM:=λc h=>(a c h).bind λp=>match p.1 with
 | .bl b=>some (b,p.2)
 | _=>none
noncomputable def cQ(t:TM):TM:=λa h=>(t a h).map λp=>(!p.1,p.2)
noncomputable def sh(a b:TM):TM:=λc h=>(a c h).bind λp=>if p.1 then b c p.2 else some (false,p.2)
noncomputable def sg(a b:TM):TM:=λc h=>(a c h).bind λp=>if p.1 then some (true,p.2) else b c p.2
noncomputable def sE(a b:EM):EM:=λd h=>(a d h).bind λp=>match p.1 with
 | .bl c=>if c then b d p.2 else some (.bl false,p.2)
 | _=>none
noncomputable def UN(a b:EM):EM:=λd h=>(a d h).bind λp=>match p.1 with
 | .bl c=>if c then some (.bl true,p.2) else b d p.2
 | _=>none
noncomputable def bh:Fn:=λa h=>some (.tup a,h)
inductive Vk(K:FR)(f:D->D->MH->Option (D×MH))(x y:V)(H:Hp)(Q:VK):Prop where
 | mk (ρ h d e z h'):bT K ρ h H->Rep K ρ H x d->Rep K ρ H y e->(f d e h=some (z,h'))->(∀v H',dB K ρ H h' z v H'->Q v H')->Vk K f x y H Q
def rS(K:FR)(f:D->D->MH->Option (D×MH)):R2:=λx y H Q=>Vk K f x y H Q
def pz(X:Cx)(g:Value->Value->Sem Value)(f:D->D->MH->Option (D×MH)):Prop:=nB X g (rS X.K f)
inductive Vj(K:FR)(f:D->MH->Option (D×MH))(x:V)(H:Hp)(Q:VK):Prop where
 | mk (ρ h d z h'):bT K ρ h H->Rep K ρ H x d->(f d h=some (z,h'))->(∀v H',dB K ρ H h' z v H'->Q v H')->Vj K f x H Q
def rU(K:FR)(f:D->MH->Option (D×MH)):V->Hp->VK->Prop:=λx H Q=>Vj K f x H Q
inductive Vm(K:FR)(f:Fn)(vs:List V)(H:Hp)(Q:VK):Prop where
 | mk (ρ h ds z h'):bT K ρ h H->aH K ρ H vs ds->(f ds h=some (z,h'))->(∀v H',dB K ρ H h' z v H'->Q v H')->Vm K f vs H Q
def rF(K:FR)(f:Fn):List V->Hp->VK->Prop:=λa H Q=>Vm K f a H Q
def gM(X:Cx)(g:Value)(f:Fn):Prop:=fE X g (rF X.K f)
section
variable {X:Cx} {a b c e:Expr} {es:List Expr} {pos:Pos} {ma mb mc:EM} {mt mu:TM} {m:AM} {f:D->D->MH->Option (D×MH)}
def NQ(hN:X.N[i]?=some x)(j:M3 X.env.scope x)(hd:(x==("__debug__":Str))=false:=by ac_nf)(g:(x==("__classdict__":Str))=false:=by ac_nf):SE X (.Name x pos) (aw i):=
 (Ig hN j hd g).imp λσ H Q u9=>by
  obtain⟨p,q,h,d,s,R,S,e,k⟩:=u9;obtain⟨t,o,n⟩:=gL e;cases n;obtain⟨v,l,r⟩:=R.at_ i _ (Zo.mp o);exact⟨v,l,k v H (.here S r)⟩
def E5(hp:PE X e (tC v))(hr:∀g H,Rep X.K g H v d):SE X e (eK d):=hp.imp λσ H Q u9=>by
 obtain⟨g,j,h,n,l,R,S,i,k⟩:=u9;cases i;exact k v H (.here S (hr _ _))
def aT{i j}:SE X (.Constant (.int i) j pos) (eK (.int i)):=E5 OH λ_ _=>.int i
def MC{b j}:SE X (.Constant (.bool b) j pos) (eK (.bl b)):=E5 Rz λ_ _=>.bl b
def Hn{j}:SE X (.Constant .none j pos) (eK .cu):=E5 Ii λ_ _=>.cu
def bZ{x j}(h:PyData.strOk x=true:=by decide+kernel):SE X (.Constant (.str x) j pos) (eK (.str x)):=E5 OB λ_ _=>.str h
def Q6(g:Gl X x)(hm:X.mg x=none)(d:bootBuiltins x=some (.type n))(hn:x≠"__name__":=by decide)(hd:(x==("__debug__":Str))=false:=by ac_nf):SE X (.Name x pos) (eK (.ty n)):=
 E5 (DX (v:=.ty n) g hm d rfl hn hd) λ_ _=>.ty n
def KO(h:Gl X x)(hm:X.mg x=some u)(r:RelV v u)(hr:∀g H,Rep X.K g H v d)(hd:(x==("__debug__":Str))=false:=by ac_nf):SE X (.Name x pos) (eK d):=
 E5 (DV h hm r hd) hr
def DN(h:tM X.K (au f ma mb) σ H Q):QR (rS X.K f) (tM X.K ma) (tM X.K mb) σ H Q:=by
 obtain⟨r,j,h,d,z,R,S,e,k⟩:=h;obtain⟨⟨x,n⟩,E,e⟩:=bq e;obtain⟨⟨y,l⟩,C,A⟩:=bq e;refine⟨r,j,h,x,n,R,S,E,λv H1 u9=>?_⟩;obtain⟨i,q,G,t⟩:=u9;refine⟨i,j,n,y,l,R.mono q,G,C,λu J u9=>?_⟩;obtain⟨g,o,F,s⟩:=u9;exact⟨g,l,x,y,d,z,F,t.mono o,s,A,λw I p=>k w I (p.step (q.trans o))⟩
def bH(d:pz X (binaryOp op) f)(h:SE X a ma)(g:SE X b mb):SE X (.BinOp a op b pos) (au f ma mb):=(ML d h g).imp λ_ _ _=>DN
def pP(d:pz X (compareOp op) f)(h:SE X a ma)(g:SE X b mb)(hm:behindInMarks op b=false):SE X (.Compare a [op] [b] pos) (au f ma mb):=(Lu d h g hm).imp λ_ _ _=>DN
def eX{g:CmpOp}(n:pz X (compareOp g) f)(p:SE X a ma)(o:SE X b mb)(hm:behindInMarks g b=false):ST X (.Compare a [g] [b] pos) (az (au f ma mb)):=
 (K9 n p o hm).imp λσ H Q u9=>by
  obtain⟨j,l,h,c,w,R,S,e,k⟩:=u9;obtain⟨⟨x,q⟩,s,i⟩:=bq e;obtain⟨y,rfl,i⟩:=Bt i;cases i;refine DN ⟨j,l,h,.bl c,q,R,S,s,λv u u9=>?_⟩;obtain⟨d,T,t,r⟩:=u9;cases r;exact⟨c,rfl,k d u T t⟩
def Hl{i:UnaryOp}{f:D->MH->Option (D×MH)}(q:Su X (unaryOp i) (rU X.K f))(r:SE X a ma):SE X (.UnaryOp i a pos) (Dg f ma):=(Rv q r).imp λσ H Q u9=>by
 obtain⟨l,n,h,d,s,R,S,e,k⟩:=u9;obtain⟨⟨x,j⟩,t,e⟩:=bq e;exact⟨l,n,h,x,j,R,S,t,λv H1 ⟨g,u,y,o⟩=>⟨g,j,x,d,s,y,o,e,λw z p=>k w z (p.step u)⟩⟩
def aq:SA X [] aD:=yR.imp λσ H Q u9=>by
 obtain⟨g,i,h,d,j,R,S,e,k⟩:=u9;cases e;exact k [] g H (.refl _ _) S .nil
def aa(s:SE X e ma)(hr:SA X es m)(hs:starEach (e::es) X.env=(false,eval e X.env)::starEach es X.env:=by ac_nf):SA X (e::es) (af ma m):=
 (om s hr hs).imp λσ H Q u9=>by
  obtain⟨p,j,h,d,F,R,S,e,k⟩:=u9;obtain⟨⟨x,l⟩,y,e⟩:=bq e;obtain⟨⟨q,t⟩,w,u⟩:=bq e;cases u;refine⟨p,j,h,x,l,R,S,y,λv H1 u9=>?_⟩;obtain⟨i,o,A,r⟩:=u9;exact⟨i,j,l,q,t,R.mono o,A,w,λE g C n z rs=>k _ g C (o.trans n) z (.cons (r.mono n) rs)⟩
def lz(m:AM)(n:Nat):Prop:=∀g h d i,m g h=some (d,i)->d.length=n
def aL:lz aD 0:=λd h i g e=>by cases e;rfl
def ai(hr:lz m n):lz (af ma m) (n+1):=λi h q o e=>by
 obtain⟨⟨x,l⟩,p,e⟩:=bq e;obtain⟨⟨j,k⟩,g,d⟩:=bq e;cases d;rw[V9,hr _ _ _ _ g]
def cW{q}(h:SA X es m)(hl:lz m n)(hn:n<=sizeLine:=by decide):SE X (.Tuple es q pos) (ar bh m):=(Oz h).imp λσ H Q u9=>by
 obtain⟨l,o,h,d,v,R,S,e,k⟩:=u9;obtain⟨⟨x,r⟩,i,e⟩:=bq e;cases e;refine⟨l,o,h,x,r,R,S,i,λu j w s t g=>⟨by rw[g.length,hl _ _ _ _ i];exact hn,λp hp=>k _ _ (dB.step s (.tup t g hp))⟩⟩
inductive SN(K:FR)(m:AM)(σ:L2.St)(H:Hp)(Q:VK):Prop where
 | mk (ρ δ h ds h'):cB K ρ H σ δ->bT K ρ h H->(m δ h=some (ds,h'))->(∀ρ1 H1 p vs,dG ρ H ρ1 H1->bT K ρ1 h' H1->H1 p=none->aH K ρ1 H1 vs ds->Q (.ref p) (upd H1 p (.lst vs)))->SN K m σ H Q
def VA(K:FR)(m:AM):TE:=λd H Q=>SN K m d H Q
def tw(X:Cx)(e:Expr)(m:AM):Prop:=PE X e (VA X.K m)
noncomputable def gH(m:AM):EM:=λd h=>(m d h).map λp=>(.lv p.1,p.2)
noncomputable def Jr(m:AM):EM:=λd h=>(m d h).map λp=>(.ob p.2.length,p.2++[.lst p.1])
theorem dB.ob(S:bT K d h H)(r:aH K d H g ds)(hp:H p=none):dB K d H (h++[.lst ds]) (.ob h.length) (.ref p) (upd H p (.lst g)):=
 ⟨d.more p,dG.made S hp,S.made hp ⟨g,aP,r.mono (dG.made S hp).toCh⟩,.ob (show(d.ob++[p])[h.length]?=_ by rw[<-S.len,We (VZ _)];simp)⟩
theorem tw.lv(h:tw X e m):SE X e (gH m):=h.imp λσ H Q u9=>by
 obtain⟨i,j,h,d,u,R,S,e,k⟩:=u9;obtain⟨⟨q,l⟩,o,n⟩:=gL e;cases n;exact⟨i,j,h,q,l,R,S,o,λg v p t T s hp r=>k _ _ (dB.step T (.lv s r hp))⟩
theorem tw.ob(h:tw X e m):SE X e (Jr m):=h.imp λσ H Q u9=>by
 obtain⟨i,j,h,d,u,R,S,e,k⟩:=u9;obtain⟨⟨q,l⟩,o,n⟩:=gL e;cases n;exact⟨i,j,h,q,l,R,S,o,λg v p t T s hp r=>k _ _ (dB.step T (.ob s r hp))⟩
def iS(h:SA X es m)(hl:lz m n)(hn:n<=sizeLine:=by decide):tw X (.List es pos) m:=(OG h).imp λσ H Q ⟨i,j,h,ds,o,R,S,e,k⟩=>
 ⟨i,j,h,ds,o,R,S,e,λl d s q r g=>⟨by rw[g.length,hl _ _ _ _ e];exact hn,λp hp=>k d s p l q r hp g⟩⟩
noncomputable def VH:EM:=λ_ h=>some (.dv [],h)
def Ra:SE X (.Dict [] [] pos) VH:=Il.imp λσ H Q ⟨g,i,h,d,j,R,S,e,k⟩ p hp=>by
 cases e;exact k _ _ (.dv S .nil hp)
def KZ{i:St}{H:Hp}{Q:Bool->Hp->Prop}(h:DG X.K (az ma) i H Q):tM X.K ma i H λx q=>∃c,x=.bl c/\Q c q:=by
 obtain⟨j,l,h,c,t,R,S,e,k⟩:=h;obtain⟨⟨x,n⟩,o,g⟩:=bq e;obtain⟨u,rfl,g⟩:=Bt g;cases g;refine⟨j,l,h,.bl c,n,R,S,o,λv s u9=>?_⟩;obtain⟨d,T,p,r⟩:=u9;cases r;exact⟨c,rfl,k d s T p⟩
def cI(h:ST X a mt):ST X (.UnaryOp .Not a pos) (cQ mt):=(Ol h).imp λσ H Q u9=>by
 obtain⟨g,i,h,c,q,R,S,e,k⟩:=u9;obtain⟨⟨x,j⟩,n,l⟩:=gL e;cases l;exact⟨g,i,h,x,j,R,S,n,λd p T o=>k d p T o⟩
def DH(h:ST X a mt):SW X (.BoolOp .And [a] pos) mt:=K8 h
def jD(h:ST X a mt):SW X (.BoolOp .Or [a] pos) mt:=Oh h
def G8{d:List Expr}(r:ST X a mt)(q:SW X (.BoolOp .And (b::d) pos) mu):SW X (.BoolOp .And (a::b::d) pos) (sh mt mu):=(Oi r q).imp λσ H Q u9=>by
 obtain⟨p,l,h,c,s,R,S,e,k⟩:=u9;obtain⟨⟨x,n⟩,t,i⟩:=bq e;refine⟨p,l,h,x,n,R,S,t,λg y T o=>?_⟩;cases x with
 | true=>rw[V1 rfl] at i ⊢;exact⟨g,l,n,c,s,R.mono T,o,i,λj w u v=>k j w (T.trans u) v⟩
 | false=>rw[V4 (by simp)] at i ⊢;cases i;exact k g y T o
def i8{d:List Expr}(r:ST X a mt)(q:SW X (.BoolOp .Or (b::d) pos) mu):SW X (.BoolOp .Or (a::b::d) pos) (sg mt mu):=(Ru r q).imp λσ H Q u9=>by
 obtain⟨p,l,h,c,s,R,S,e,k⟩:=u9;obtain⟨⟨x,n⟩,t,i⟩:=bq e;refine⟨p,l,h,x,n,R,S,t,λg y T o=>?_⟩;cases x with
 | false=>rw[V4 (by simp)] at i ⊢;exact⟨g,l,n,c,s,R.mono T,o,i,λj w u v=>k j w (T.trans u) v⟩
 | true=>rw[V1 rfl] at i ⊢;cases i;exact k g y T o
def SW.st(h:SW X a mt):ST X a mt:=PW.pt h
def iT{op}(h:SE X a ma):SE X (.BoolOp op [a] pos) ma:=OE h
def iU{g:List Expr}(t:SE X a ma)(s:SE X (.BoolOp .And (b::g) pos) mb):SE X (.BoolOp .And (a::b::g) pos) (sE ma mb):=(OI t s).imp λσ H Q u9=>by
 obtain⟨q,l,h,d,u,R,S,e,k⟩:=u9;obtain⟨⟨x,n⟩,w,i⟩:=bq e;obtain⟨c,rfl,i⟩:=Bt i;refine⟨q,l,h,.bl c,n,R,S,w,λv z u9=>?_⟩;obtain⟨j,T,o,r⟩:=u9;cases r;refine⟨c,rfl,?_⟩;cases c with
 | true=>rw[V1 rfl] at i ⊢;exact⟨j,l,n,d,u,R.mono T,o,i,λv y p=>k v y (p.step T)⟩
 | false=>rw[V4 (by simp)] at i ⊢;cases i;exact k _ _ ⟨j,T,o,.bl _⟩
def Q7{g:List Expr}(t:SE X a ma)(s:SE X (.BoolOp .Or (b::g) pos) mb):SE X (.BoolOp .Or (a::b::g) pos) (UN ma mb):=(Rw t s).imp λσ H Q u9=>by
 obtain⟨q,l,h,d,u,R,S,e,k⟩:=u9;obtain⟨⟨x,n⟩,w,i⟩:=bq e;obtain⟨c,rfl,i⟩:=Bt i;refine⟨q,l,h,.bl c,n,R,S,w,λv z u9=>?_⟩;obtain⟨j,T,o,r⟩:=u9;cases r;refine⟨c,rfl,?_⟩;cases c with
 | false=>rw[V4 (by simp)] at i ⊢;exact⟨j,l,n,d,u,R.mono T,o,i,λv y p=>k v y (p.step T)⟩
 | true=>rw[V1 rfl] at i ⊢;cases i;exact k _ _ ⟨j,T,o,.bl _⟩
noncomputable def R3(a:EM):EM:=λd h=>(a d h).bind λp=>match p.1 with
 | .bl c=>some (.bl (!c),p.2)
 | _=>none
def NR(n:SE X a ma):SE X (.UnaryOp .Not a pos) (R3 ma):=(OF n).imp λσ H Q u9=>by
 obtain⟨j,l,h,d,s,R,S,e,k⟩:=u9;obtain⟨⟨x,o⟩,p,i⟩:=bq e;obtain⟨c,rfl,i⟩:=Bt i;cases i;refine⟨j,l,h,.bl c,o,R,S,p,λv t u9=>?_⟩;obtain⟨g,T,q,r⟩:=u9;cases r;exact⟨c,rfl,k _ _ ⟨g,T,q,.bl _⟩⟩
def Q9(hc:ST X c mt)(t:SE X a ma)(s:SE X b mb):SE X (.IfExp c a b pos) (UO mt ma mb):=(Ik hc t s).imp λσ H Q u9=>by
 obtain⟨r,j,h,d,o,R,S,e,k⟩:=u9;obtain⟨⟨x,l⟩,u,i⟩:=bq e;refine⟨r,j,h,x,l,R,S,u,λg w T q=>?_⟩;cases x with
 | true=>rw[V1 rfl] at i ⊢;exact⟨g,j,l,d,o,R.mono T,q,i,λv n p=>k v n (p.step T)⟩
 | false=>rw[V4 (by simp)] at i ⊢;exact⟨g,j,l,d,o,R.mono T,q,i,λv n p=>k v n (p.step T)⟩
noncomputable def G2(d:D)(h:MH):Option Bool:=match d with
 | .cu=>some false
 | .bl b=>some b
 | .int i=>some (i !=0)
 | .str x=>if x.length<=sizeLine then some ((x.length:Int) !=0) else none
 | .tup xs=>some (!xs.isEmpty)
 | .dv g=>some (!g.isEmpty)
 | .ob n=>match h[n]? with
  | some (.lst xs)=>some (!xs.isEmpty)
  | some (.dct g)=>some (!g.isEmpty)
  | _=>none
 | .lv xs=>some (!xs.isEmpty)
 | .ro xs=>some (!xs.isEmpty)
 | .ty _=>none
def dJ(a:EM):TM:=λd h=>(a d h).bind λp=>(G2 p.1 p.2).map λc=>(c,p.2)
theorem bO.isEmpty(t:bO K d H us ds):us.isEmpty=ds.isEmpty:=by cases t <;> rfl
def Kw{K:FR}{j:Ad}{H:Hp}{h:MH}{v:V}{d:D}{c:Bool}(S:bT K j h H)(r:Rep K j H v d)(e:G2 d h=some c):Qh K v H c:=by
 cases r with
 | cu=>cases e;exact rfl
 | bl b=>cases e;exact rfl
 | int i=>cases e;exact rfl
 | str hs=>
  unfold G2 at e
  by_cases z:‹Str›.length<=sizeLine
  ·simp only[V1 z] at e;cases e;exact⟨z,rfl⟩
  ·simp only[V4 z] at e;cases e
 | ty n=>exact ck e
 | tup ht l=>cases e;exact .inr (.inl ⟨_,ht.sq,by rw[l.isEmpty]⟩)
 | lv ht n l=>cases e;exact .inl ⟨_,gU.of ht,by rw[l.isEmpty]⟩
 | ro ht l=>cases e;exact .inl ⟨_,ht.sq,by rw[l.isEmpty]⟩
 | dv ht n l=>cases e;exact .inr (.inr ⟨_,ht,by rw[l.isEmpty]⟩)
 | ob hn=>
  unfold G2 at e;rename_i a n;cases q:h[n]? with
  | none=>simp only[q] at e;cases e
  | some o=>
   have x:=S.at_ n a o hn q;cases o with
   | lst ds=>simp only[q] at e;cases e;obtain⟨k,g,l⟩:=x;exact .inl ⟨_,gU.of g,by rw[l.isEmpty]⟩
   | dct ds=>simp only[q] at e;cases e;obtain⟨k,g,l⟩:=x;exact .inr (.inr ⟨_,g,by rw[l.isEmpty]⟩)
   | dcH ds=>simp only[q] at e;cases e
   | exc c=>simp only[q] at e;cases e
def eW(o:SE X a ma)(n:∀d,isTrue a X.env d=(do let v<-d;standAt a.pos;holding [v] (truthy v)):=by intro _;ac_nf):ST X a (dJ ma):=(HU o n).imp λσ H Q u9=>by
 obtain⟨j,l,h,c,y,R,S,e,k⟩:=u9;obtain⟨⟨x,p⟩,u,t⟩:=bq e;obtain⟨z,s,q⟩:=gL t;cases q;exact⟨j,l,h,x,p,R,S,u,λv w ⟨g,T,i,r⟩=>⟨c,Kw i r s,k g w T i⟩⟩
end
mutual
noncomputable def Mj:D->D->Bool
 | .cu,.cu=>true
 | .bl a,.bl b=>a==b
 | .int a,.int b=>a==b
 | .str a,.str b=>decide (a=b)
 | .ty a,.ty b=>a==b
 | .tup a,.tup b=>zH a b
 | .lv a,.lv b=>zH a b
 | .ro a,.ro b=>zH a b
 | .dv a,.dv b=>JP a b
 | .ob a,.ob b=>a==b
 | _,_=>false
noncomputable def zH:List D->List D->Bool
 | [],[]=>true
 | a::r,b::s=>Mj a b&&zH r s
 | _,_=>false
noncomputable def JP:List (Key×D)->List (Key×D)->Bool
 | [],[]=>true
 |(k,a)::r,(j,b)::s=>decide (k=j)&&Mj a b&&JP r s
 | _,_=>false
end
mutual
theorem Ey:∀(a b:D),Mj a b=true->a=b
 | .cu,b,h=>by cases b <;> first | rfl |(cases h;done)
 | .bl x,b,h=>by cases b <;> first | exact congrArg _ (eq_of_beq h) |(cases h;done)
 | .int x,b,h=>by cases b <;> first | exact congrArg _ (eq_of_beq h) |(cases h;done)
 | .str x,b,h=>by cases b <;> first | exact congrArg _ (Wy h) |(cases h;done)
 | .ty x,b,h=>by cases b <;> first | exact congrArg _ (eq_of_beq h) |(cases h;done)
 | .ob x,b,h=>by cases b <;> first | exact congrArg _ (eq_of_beq h) |(cases h;done)
 | .tup x,b,h=>by cases b <;> first | exact congrArg _ (jQ _ _ h) |(cases h;done)
 | .lv x,b,h=>by cases b <;> first | exact congrArg _ (jQ _ _ h) |(cases h;done)
 | .ro x,b,h=>by cases b <;> first | exact congrArg _ (jQ _ _ h) |(cases h;done)
 | .dv x,b,h=>by cases b <;> first | exact congrArg _ (zI _ _ h) |(cases h;done)
theorem jQ:∀(a b:List D),zH a b=true->a=b
 | [],b,h=>by cases b <;> first | rfl |(cases h;done)
 | x::r,b,h=>by
  cases b with
  | nil=>cases h
  | cons y s=>have h:=Wt.mp h;rw[Ey _ _ h.1,jQ _ _ h.2]
theorem zI:∀(a b:List (Key×D)),JP a b=true->a=b
 | [],b,h=>by cases b <;> first | rfl |(cases h;done)
 |(k,x)::r,b,h=>by
  cases b with
  | nil=>cases h
  | cons y s=>
   obtain⟨j,y⟩:=y;have h:=Wt.mp h;have g:=Wt.mp h.1;rw[Wy g.1,Ey _ _ g.2,zI _ _ h.2]
end
mutual
theorem x6:∀(a:D),Mj a a=true
 | .cu=>rfl
 | .bl x=>Xm x
 | .int x=>Xm x
 | .str x=>WB rfl
 | .ty x=>Xm x
 | .ob x=>Xm x
 | .tup x=>gc x
 | .lv x=>gc x
 | .ro x=>gc x
 | .dv x=>qD x
theorem gc:∀(a:List D),zH a a=true
 | []=>rfl
 | x::r=>Wt.mpr ⟨x6 x,gc r⟩
theorem qD:∀(a:List (Key×D)),JP a a=true
 | []=>rfl
 |(k,x)::r=>Wt.mpr ⟨Wt.mpr ⟨WB rfl,x6 x⟩,qD r⟩
end
def JO:MO->MO->Bool
 | .lst a,.lst b=>zH a b
 | .dct a,.dct b=>JP a b
 | .dcH a,.dcH b=>zH (a.map (·.1)) (b.map (·.1))&&zH (a.map (·.2)) (b.map (·.2))
 | .exc a,.exc b=>decide (a=b)
 | _,_=>false
theorem AB:∀{a b:List (D×D)},a.map (·.1)=b.map (·.1)->a.map (·.2)=b.map (·.2)->a=b
 | [],[],_,_=>rfl
 | [],_::_,h,_=>by cases h
 | _::_,[],h,_=>by cases h
 |(x,y)::a,(u,v)::b,h,g=>by
  obtain⟨c,e⟩:=List.cons.inj h;obtain⟨d,f⟩:=List.cons.inj g;dsimp only at c d;rw[c,d,AB e f]
def Ew(h:JO a b=true):a=b:=by
 cases a <;> cases b <;> first |(cases h;done) | skip
 ·rw[jQ _ _ h]
 ·rw[zI _ _ h]
 ·have h:=Wt.mp h;rw[AB (jQ _ _ h.1) (jQ _ _ h.2)]
 ·rw[Wy h]
def Gs(a:MO):JO a a=true:=by
 cases a with
 | lst x=>exact gc x
 | dct x=>exact qD x
 | dcH x=>exact Wt.mpr ⟨gc _,gc _⟩
 | exc c=>exact WB rfl
def zJ:MH->MH->Bool
 | [],[]=>true
 | a::r,b::s=>JO a b&&zJ r s
 | _,_=>false
theorem Ex:∀{a b:MH},zJ a b=true->a=b
 | [],b,h=>by cases b <;> first | rfl | simp[zJ] at h
 | x::r,b,h=>by
  cases b with
  | nil=>simp[zJ] at h
  | cons y s=>simp[zJ] at h;rw[Ew h.1,Ex h.2]
noncomputable def bz:SM:=λa h=>some (.nx,a,h)
noncomputable def iW:SM:=λ_ _=>none
noncomputable def av(a b:SM):SM:=λc h=>(a c h).bind λr=>match r.1 with
 | .nx=>b r.2.1 r.2.2
 | _=>some r
noncomputable def aV(i:Nat)(e:EM):SM:=λa h=>(e a h).bind λp=>some (.nx,a.set i (some p.1),p.2)
noncomputable def ft(e:EM)(g:GM):SM:=λa h=>(e a h).bind λp=>(g p.1 a p.2).bind λq=>some (.nx,q.1,q.2)
noncomputable def kG(e:EM):SM:=λa h=>(e a h).bind λp=>some (.nx,a,p.2)
noncomputable def aO(e:EM):SM:=λa h=>(e a h).bind λp=>some (.rt p.1,a,p.2)
noncomputable def dQ(t:TM)(a b:SM):SM:=λc h=>(t c h).bind λp=>if p.1 then a c p.2 else b c p.2
noncomputable def Hv(i:Nat)(f:D->D->MH->Option (D×MH))(e:EM):SM:=λa h=>((a[i]?).join).bind λx=>(e a h).bind λp=>(f x p.1 p.2).bind λq=>some (.nx,a.set i (some q.1),q.2)
noncomputable def gN(i:Nat):GM:=λd a h=>some (a.set i (some d),h)
abbrev GB:=List D->DS->MH->Option (DS×MH)
noncomputable def bB:GB:=λb a h=>match b with
 | []=>some (a,h)
 | _=>none
noncomputable def aj(g:GM)(u:GB):GB:=λb a h=>match b with
 | []=>none
 | d::r=>(g d a h).bind λp=>u r p.1 p.2
noncomputable def gT(n:Nat)(u:GB):GM:=λd a h=>match d with
 | .tup xs=>if xs.length=n then u xs a h else none
 | _=>none
abbrev W:=List (Nat×MO)
abbrev IM:=DS->MH->Option (List D×W×MH)
def mB:W->MH->Bool
 | [],_=>true
 |(n,o)::r,h=>(match h[n]? with | some u=>JO u o | none=>false)&&mB r h
def oM(a:W)(g:GM)(b:SM):List D->SM
 | [],c,h=>if mB a h then some (.nx,c,h) else none
 | x::r,c,h=>if mB a h then(g x c h).bind λq=>(b q.1 q.2).bind λz=>match z.1 with
  | .nx=>oM a g b r z.2.1 z.2.2
  | .ct=>oM a g b r z.2.1 z.2.2
  | .bk=>some (.nx,z.2.1,z.2.2)
  | .rt d=>some (.rt d,z.2.1,z.2.2)
  else none
def jI(i:IM)(g:GM)(b:SM):SM:=λa h=>(i a h).bind λp=>oM p.2.1 g b p.1 a p.2.2
section
variable {X:Cx} {a b c e tg iter:Expr} {es:List Expr} {st:Stmt} {sts rest:List Stmt} {pos:Pos} {ma mb:EM} {mt:TM} {ms mu:SM} {m:AM} {g:GM} {gs:GB}
def bj:Gy X [] bz:=Lb.imp λE σ H u9=>by
 obtain⟨d,i,h,fl,f,j,R,S,e,k⟩:=u9;cases e;exact k d H (.refl _ _) S σ R
def fJ:SS X st iW:=HX.imp λE σ H ⟨f,i,h,fl,d,j,R,S,e,k⟩=>by cases e
def N4(hh:Ky X.K (av ms mu) E σ H):QO (Ky X.K ms) (Ky X.K mu) E σ H:=by
 obtain⟨o,p,h,fl,t,w,R,S,e,k⟩:=hh;obtain⟨⟨x,n,u⟩,r,q⟩:=bq e;cases x with
 | nx=>exact⟨o,p,h,.nx,n,u,R,S,r,λf l i j v A=>⟨f,n,u,fl,t,w,A,j,q,λs C y z=>k s C (i.trans y) z⟩⟩
 | bk=>cases q;exact⟨o,p,h,.bk,_,_,R,S,r,λf l i j=>k f l i j⟩
 | ct=>cases q;exact⟨o,p,h,.ct,_,_,R,S,r,λf l i j=>k f l i j⟩
 | rt d=>cases q;exact⟨o,p,h,.rt d,_,_,R,S,r,λf l i j=>k f l i j⟩
def ae(f:SS X st ms)(d:Gy X rest mu):Gy X (st::rest) (av ms mu):=(Az f d).imp λ_ _ _=>N4
def aI(d:SS X st ms):Gy X [st] ms:=La d
def Cm(hh:Ky X.K (aV i ma) E σ H):ES (tM X.K ma) (rL i) E σ H:=by
 obtain⟨j,n,h,fl,l,t,R,S,e,k⟩:=hh;obtain⟨⟨x,p⟩,r,q⟩:=bq e;cases q;exact⟨j,n,h,x,p,R,S,r,λv H1 ⟨d,f,s,o⟩=>k d H1 f s _ ((R.mono f).set o i)⟩
def NF(hN:X.N.Nodup)(f:X.N[i]?=some x)(d:Loc X.env.scope x)(j:SE X e ma)(hs:swapsWith e (some (.Name x pos')) pos.line X.env=pure false:=by ac_nf)(h:X.fn x=true\/X.env.scope.names.lookup x=some .local:=by first | exact .inl rfl | exact .inr rfl | assumption):SS X (.Assign [.Name x pos'] e pos) (aV i ma):=(Cs hN f d j hs h).imp λ_ _ _=>Cm
def KJ(hN:X.N.Nodup)(n:X.N[i]?=some x)(l:Loc X.env.scope x)(o:X.fn x=true\/X.env.scope.names.lookup x=some .local:=by first | exact .inl rfl | exact .inr rfl | assumption):SG X (.Name x pos) (gN i):=
 (Lq hN n l o).imp λv σ H Q u9=>by
  obtain⟨f,p,h,d,j,q,R,S,r,e,k⟩:=u9;cases e;exact k f H _ (.refl _ _) S (R.set r i)
inductive M4(K:FR)(m:GB)(vs:List V)(σ:L2.St)(H:Hp)(Q:L2.St->Hp->Prop):Prop where
 | mk (ρ δ h ds δ' h'):cB K ρ H σ δ->bT K ρ h H->aH K ρ H vs ds->(m ds δ h=some (δ',h'))->(∀ρ' H' σ',dG ρ H ρ' H'->bT K ρ' h' H'->cB K ρ' H' σ' δ'->Q σ' H')->M4 K m vs σ H Q
noncomputable def TL(K:FR)(m:GB):Mo:=λf d H Q=>M4 K m f d H Q
def M6(X:Cx)(es:List Expr)(m:GB):Prop:=Mp X es (TL X.K m)
def _root_.L2.Mp.imp{X:Cx}{e:List Expr}{t j:Mo}(h:Mp X e t)(i:∀v d H Q,j v d H Q->t v d H Q):Mp X e j:=λf s d H v u Q I r q=>h f s d H v u Q I r (i v d H Q q)
def eF:M6 X [] bB:=Lo.imp λv σ H Q u9=>by
 obtain⟨f,j,h,d,i,l,R,S,r,e,k⟩:=u9;cases r with
 | nil=>cases e;exact⟨rfl,k f H σ (.refl _ _) S R⟩
 | cons _ _=>cases e
def aN(i:SG X e g)(u:M6 X es gs)(hs:(assignEach (e::es) X.env).map (·.2)=assign e X.env::(assignEach es X.env).map (·.2):=by ac_nf):M6 X (e::es) (aj g gs):=(Ie i u hs).imp λv σ H Q u9=>by
 obtain⟨s,t,h,d,o,w,R,S,r,e,k⟩:=u9;cases r with
 | nil=>cases e
 | cons r rs=>
  obtain⟨⟨f,i⟩,y,x⟩:=bq e;exact⟨_,_,rfl,s,t,h,_,f,i,R,S,r,y,λn G q p C E=>⟨n,f,i,_,o,w,E,C,rs.mono p,x,λl F j z A R2=>k l F j (p.trans z) A R2⟩⟩
def gB(hc:X.calm=true)(h:M6 X es gs)(hn:(assignEach es X.env).length=n:=by ac_nf)(i:(assignEach es X.env).findIdx? (·.1)=none:=by ac_nf):SG X (.Tuple es t pos) (gT n gs):=
 (Ox hc h hn i).imp λv σ H Q ⟨o,p,h,d,f,s,R,S,r,e,k⟩=>by
  cases r <;> first |(exact absurd e (by intro z;cases z)) | skip
  rename_i a q j ht l _;unfold gT at e;dsimp only at e
  by_cases z:j.length=n
  ·rw[V1 z] at e;exact⟨a,q,rfl,ht.sq,by rw[l.length];exact z,o,p,h,j,f,s,R,S,l,e,k⟩
  ·rw[V4 z] at e;cases e
def fK(u:SE X e ma)(t:SG X tg g)(hs:swapsWithSole [tg] e pos.line X.env=pure false:=by ac_nf)(s:swappedStores [tg] e X.env=pure none:=by ac_nf)
  (d:(assignEach [tg] X.env).map (·.2)=[assign tg X.env]:=by ac_nf):SS X (.Assign [tg] e pos) (ft ma g):=(Ia u t hs s d).imp λE σ H u9=>by
 obtain⟨o,l,h,fl,q,L,R,S,e,k⟩:=u9;obtain⟨⟨x,d⟩,A,z⟩:=bq e;obtain⟨⟨p,J⟩,w,y⟩:=bq z;cases y;exact⟨o,l,h,x,d,R,S,A,λv H1 ⟨j,n,G,r⟩=>⟨j,l,d,x,_,_,R.mono n,G,r,w,λi I f C F R2=>k i I (n.trans C) F f R2⟩⟩
def nJ(n:SE X e ma)(hs:swapsWith e none pos.line X.env=pure false:=by ac_nf):SS X (.Expr e pos) (kG ma):=(Ld n hs).imp λE σ H u9=>by
 obtain⟨i,l,h,fl,j,t,R,S,e,k⟩:=u9;obtain⟨⟨x,o⟩,q,p⟩:=bq e;cases p;exact⟨i,l,h,x,o,R,S,q,λv H1 ⟨d,f,r,s⟩=>k d H1 f r σ (R.mono f)⟩
def bD(n:SE X e ma):SS X (.Return (some e) pos) (aO ma):=(Oo n).imp λE σ H u9=>by
 obtain⟨f,j,h,fl,i,t,R,S,e,k⟩:=u9;obtain⟨⟨x,o⟩,q,p⟩:=bq e;cases p;exact⟨f,j,h,x,o,R,S,q,λv H1 ⟨d,r,s,l⟩=>k d H1 r s v l⟩
def bK(hc:ST X c mt)(w:Gy X sa ms)(v:Gy X sb mu):SS X (.If c sa sb pos) (dQ mt ms mu):=(MJ hc w v).imp λE σ H u9=>by
 obtain⟨u,n,h,fl,i,s,R,S,e,k⟩:=u9;obtain⟨⟨x,o⟩,y,j⟩:=bq e;refine⟨u,n,h,x,o,R,S,y,λf z l t=>?_⟩;cases x with
 | true=>rw[V1 rfl] at j ⊢;exact⟨f,n,o,fl,i,s,R.mono l,t,j,λd r p q=>k d r (l.trans p) q⟩
 | false=>rw[V4 (by simp)] at j ⊢;exact⟨f,n,o,fl,i,s,R.mono l,t,j,λd r p q=>k d r (l.trans p) q⟩
structure Qq(K:FR)(J:It)(ρ:Ad)(H:Hp)(ws:W)(xs:List D):Prop where
 run:∀ρ1 H1 h1,Ch ρ H ρ1 H1->bT K ρ1 h1 H1->mB ws h1=true->∀i:Nat,(xs.length<=i->J.stop i H1)/\∀x,xs[i]?=some x->J.go i H1/\∀v H2,J.Mv i H1 v H2->dG ρ1 H1 ρ1 H2/\bT K ρ1 h1 H2/\Rep K ρ1 H2 v x
inductive SH(K:FR)(m:IM)(σ:L2.St)(H:Hp)(R:It->Hp->Prop):Prop where
 | mk (ρ δ h xs ws h'):cB K ρ H σ δ->bT K ρ h H->(m δ h=some (xs,ws,h'))->(∀J ρ1 H1,dG ρ H ρ1 H1->bT K ρ1 h' H1->Qq K J ρ1 H1 ws xs->R J H1)->SH K m σ H R
def Nz(K:FR)(m:IM):TI:=λd H R=>SH K m d H R
def SI(X:Cx)(tg iter:Expr)(m:IM):Prop:=PI X tg iter (Nz X.K m)
def _root_.L2.PI.imp(h:PI X tg e t)(i:∀d H Q,j d H Q->t d H Q):PI X tg e j:=λf s d H R I q=>h f s d H R I (i d H R q)
def N5(hh:Ky X.K (jI mi g ms) E σ H):QW (Nz X.K mi) (GD X.K g) (Ky X.K ms) E σ H:=by
 obtain⟨ρ,δ,h,fl,z,T,R,S,e,k⟩:=hh;obtain⟨⟨s,L,h1⟩,e1,e2⟩:=bq e;refine⟨ρ,δ,h,s,L,h1,R,S,e1,λJ I H1 Y S1 It=>?_⟩;refine⟨λi m F y=>∃j p w,m=s.length-i/\i<=s.length/\dG I H1 j y/\cB X.K j y F p/\bT X.K j w y/\oM L g ms (s.drop i) p w=some (fl,z,T),⟨_,I,δ,h1,rfl,Xb _,.refl _ _,R.mono Y,S1,e2⟩,?_⟩;rintro i m F y ⟨j,p,w,rfl,hi,N,R2,S2,u⟩;cases q:s.drop i with
 | nil=>
  rw[q] at u;unfold oM at u
  by_cases hc:mB L w=true
  ·rw[V1 hc] at u;cases u;have hl:s.length<=i:=by have:=congrArg List.length q;rw[XN,Yj] at this;lia
   exact .inl ⟨(It.run j y _ N S2 hc i).1 hl,k j y (Y.trans N) S2 F R2⟩
  ·rw[V4 hc] at u;cases u
 | cons x r=>
  rw[q] at u;unfold oM at u
  by_cases hc:mB L w=true
  ·rw[V1 hc] at u;have hx:s[i]?=some x:=by
    have:=congrArg (λl=>l[0]?) q
    simpa using this
   have hlt:i < s.length:=(VW.mp hx).1;have hr:s.drop (i+1)=r:=by
    have:=congrArg List.tail q
    simpa using this
   obtain⟨⟨O,h3⟩,e4,e5⟩:=bq u;obtain⟨⟨f4,t,M⟩,e6,U⟩:=bq e5;obtain⟨hgo,hy⟩:=(It.run j y w N S2 hc i).2 x hx;have NN:∀f n o,dG j y f n->bT X.K f M n->cB X.K f n o t->oM L g ms r t M=some (fl,z,T)->
     ∃m',m' < s.length-i/\(∃j p w,m'=s.length-(i+1)/\i+1<=s.length/\dG I H1 j n/\cB X.K j n o p/\bT X.K j w n/\oM L g ms (s.drop (i+1)) p w=some (fl,z,T)):=
    λf n o P C R5 e8=>⟨s.length-(i+1),by lia,f,t,M,rfl,hlt,N.trans P,R5,C,by rw[hr];exact e8⟩
   refine .inr ⟨hgo,λo n=>∃f,dG j y f n/\bT X.K f M n/\cB X.K f n o t/\oM L g ms r t M=some (fl,z,T),λo n ⟨f,P,C,R5,e8⟩=>NN f n o P C R5 e8,λv H3 y3=>?_⟩;obtain⟨T3,S3,r3⟩:=hy v H3 y3;refine⟨j,p,w,x,O,h3,R2.mono T3,S3,r3,e4,λZ H4 σ4 T4 S4 R4=>?_⟩;refine⟨Z,O,h3,f4,t,M,R4,S4,e6,λf n P C=>?_⟩;have A:dG j y f n:=T3.trans (T4.trans P);cases f4 with
   | nx=>exactλG Q=>⟨f,A,C,Q,U⟩
   | ct=>exactλG Q=>⟨f,A,C,Q,U⟩
   | bk=>cases U;exactλG Q=>k f n (Y.trans (N.trans A)) C G Q
   | rt d=>cases U;exactλv r=>k f n (Y.trans (N.trans A)) C v r
  ·rw[V4 hc] at u;cases u
def eY(hp:PassesOwn (model X.prog X.w) X.A X.env X.xe)(hc:X.calm=true)(f:SI X tg iter d)(h:SG X tg g)(i:Gy X body ms)(hs:∀x,foldedSetIterable iter X.env x=pure x:=by intro _;ac_nf):SS X (.For tg iter body [] pos) (jI d g ms):=
 (Oq hp hc f h i hs).imp λ_ _ _=>N5
end
end Sm
namespace L2
open PyProof.Rows
def Ow(hl:PE X l r):PI X w l (λj H R=>r j H λx d=>∃a,x=.ref a/\(((∃f,gU X.K d a f)/\R (U4 X.K a) d)\/((∃f,lj X.K d a f)/\R (U3 X.K a) d))):=by
 intro g s j H R I h;refine cx (hl g s j H _ I h) λv s1 u9=>?_;obtain⟨x,d,c,t,k⟩:=u9;obtain⟨a,e,k⟩:=k;subst e;cases t;rcases k with⟨⟨f,m⟩,q⟩ |⟨⟨f,m⟩,q⟩
 ·obtain⟨i,rv,p,u⟩:=c.list m;refine wpAny_pyIter_list p.isList ?_;refine⟨s1.heap.objs.size,[s1.heap.objs.size],_,_,d,rfl,c.kept (t':=s1.toks) λb o e=>V0 _ e,EK a _,⟨_,Wn _ rfl,rfl,rfl⟩,λb n=>?_,q⟩;have e:b=s1.heap.objs.size:=by simpa using n
  subst e;exact c.A9 (VZ _) (c.bu.fresh (VZ _))
 ·obtain⟨i,rv,p,u⟩:=c.tuple m;refine YT (show s1.heap.IsTuple a i.toArray from p) ?_;refine⟨s1.heap.objs.size,[s1.heap.objs.size],_,_,d,rfl,c.kept (t':=s1.toks) λb o e=>V0 _ e,BL a _,⟨_,Wn _ rfl,rfl,rfl⟩,λb n=>?_,q⟩;have e:b=s1.heap.objs.size:=by simpa using n
  subst e;exact c.A9 (VZ _) (c.bu.fresh (VZ _))
end L2
namespace Sm
open L2
noncomputable def fF(d:D)(h:MH):Option (List D×W):=match d with
 | .lv xs=>some (xs,[])
 | .ro xs=>some (xs,[])
 | .tup xs=>some (xs,[])
 | .ob n=>match h[n]? with
  | some (.lst xs)=>some (xs,[(n,.lst xs)])
  | _=>none
 | _=>none
def dH(e:EM):IM:=λa h=>(e a h).bind λp=>(fF p.1 p.2).map λq=>(q.1,q.2,p.2)
noncomputable def qq(m:AM):IM:=λa h=>(m a h).bind λp=>match p.1 with
 | [.int j]=>if -(2^62)<=j/\j < 2^62 then some ((List.range j.toNat).map λ(k:Nat)=>D.int (k:Int),[],p.2) else none
 | [.int i,.int j]=>if -(2^62)<=i/\i < 2^62/\-(2^62)<=j/\j < 2^62 then some ((List.range (j-i).toNat).map λ(k:Nat)=>D.int (i+(k:Int)),[],p.2) else none
 | _=>none
def uT(hl:∀a b d,Ch f H a b->bT K a d b->mB ws d=true->∃c,aH K a b c xs/\(∀i:Nat,c.length<=i->J.stop i b)/\∀(i:Nat) v,c[i]?=some v->J.go i b/\∀u e,J.Mv i b u e->e=b/\u=v):Qq K J f H ws xs:=by
 refine⟨λa b d T S hc i=>?_⟩;obtain⟨c,l,k,j⟩:=hl a b d T S hc;refine⟨λo=>k i (by rw[l.length];exact o),λx m=>?_⟩;obtain⟨v,n,r⟩:=l.got m;obtain⟨g,y⟩:=j i v n;refine⟨g,λu e h=>?_⟩;obtain⟨rfl,rfl⟩:=y u e h;exact⟨.refl _ _,S,r⟩
def Pj(hl:∀b d f,Ch h H b d->bT K b f d->mB ws f=true->∃c,aH K b d c xs/\gU K d a c):Qq K (U4 K a) h H ws xs:=
 uT λb d f T S hc=>by
  obtain⟨c,l,q⟩:=hl b d f T S hc;refine⟨c,l,λi j=>⟨c,q,j⟩,λi v g=>⟨⟨c,v,q,g⟩,λu k ⟨e,y⟩=>⟨e,?_⟩⟩⟩;have:=y c q;rw[g] at this;exact(Option.some.inj this).symm
def Pf(hl:∀b d f,Ch h H b d->bT K b f d->mB ws f=true->∃c,aH K b d c xs/\lj K d a c):Qq K (U3 K a) h H ws xs:=
 uT λb d f T S hc=>by
  obtain⟨c,l,q⟩:=hl b d f T S hc;refine⟨c,l,λi j=>⟨c,q,j⟩,λi v g=>⟨⟨c,v,q,g⟩,λu k ⟨e,y⟩=>⟨e,?_⟩⟩⟩;have:=y c q;rw[g] at this;exact(Option.some.inj this).symm
def Mc(hc:mB [(n,o)] h=true):h[n]?=some o:=by
 unfold mB at hc;cases q:h[n]? with
 | none=>rw[q] at hc;cases hc
 | some u=>
  rw[q] at hc;simp[mB] at hc;rw[Ew hc]
inductive SeqAt(K:FR)(H:Hp)(a:Addr)(vs:List V):Bool->Prop where
 | l:gU K H a vs->SeqAt K H a vs true
 | t:lj K H a vs->SeqAt K H a vs false
noncomputable def CZ:D->Bool
 | .tup _=>false
 | _=>true
def tQ(S:bT K p h H)(r:Rep K p H v d)(e:fF d h=some (xs,ws)):∃a,v=.ref a/\(∃j,SeqAt K H a j (CZ d)/\aH K p H j xs)/\
  ∀c g f,Ch p H c g->bT K c f g->mB ws f=true->∃j,aH K c g j xs/\SeqAt K g a j (CZ d):=by
 cases r with
 | tup ht l=>
  cases e;refine⟨_,rfl,⟨_,.t ht.sq,l⟩,λc g f T m _=>?_⟩;cases(Rep.tup ht l).mono T with
  | tup f k=>exact⟨_,k,.t f.sq⟩
 | lv ht n l=>
  cases e;refine⟨_,rfl,⟨_,.l (gU.of ht),l⟩,λc g f T m _=>?_⟩;cases(Rep.lv ht n l).mono T with
  | lv f _ k=>exact⟨_,k,.l (gU.of f)⟩
 | ro ht l=>
  cases e;refine⟨_,rfl,⟨_,.l ht.sq,l⟩,λc g f T m _=>?_⟩;cases(Rep.ro ht l).mono T with
  | ro f k=>exact⟨_,k,.l f.sq⟩
 | @ob a n hn=>
  unfold fF at e;dsimp only at e;cases q:h[n]? with
  | none=>rw[q] at e;cases e
  | some o=>
   rw[q] at e;cases o with
   | dct _=>exact ck e
   | dcH _=>exact ck e
   | exc _=>exact ck e
   | lst y=>
    cases e;obtain⟨j,w,l⟩:=S.at_ n a _ hn q;refine⟨a,rfl,⟨j,.l (gU.of w),l⟩,λc g f T m hc=>?_⟩;obtain⟨us,u,s⟩:=m.at_ n a _ (T.pre n a hn) (Mc hc);exact⟨us,s,.l (gU.of u)⟩
 | cu=>exact ck e
 | bl b=>exact ck e
 | int i=>exact ck e
 | str x=>exact ck e
 | ty x=>exact ck e
 | dv _ _ _=>exact ck e
section
variable {X:Cx} {a b c e tg iter:Expr} {es:List Expr} {pos:Pos} {ma mb:EM} {mt:TM} {ms mu:SM} {m:AM} {g:GM} {gs:GB}
def cz(h:SE X e ma):SI X tg e (dH ma):=(Ow h).imp λσ H Q u9=>by
 obtain⟨z,A,h,xs,ws,M,R,S,e,k⟩:=u9;obtain⟨⟨x,E⟩,J,I⟩:=bq e;obtain⟨⟨L,w⟩,G,F⟩:=gL I;cases F;refine⟨z,A,h,x,E,R,S,J,λv H1 u9=>?_⟩;obtain⟨i,y,r,C⟩:=u9;obtain⟨a,rfl,⟨u,q,l⟩,st⟩:=tQ r C G;refine⟨a,rfl,?_⟩;generalize CZ x=b at q st;cases q with
 | l q=>exact .inl ⟨⟨u,q⟩,k _ i H1 y r (Pj λd s n o p hc=>by obtain⟨us,j,f⟩:=st d s n o p hc;cases f with | l f=>exact⟨us,j,f⟩)⟩
 | t q=>exact .inr ⟨⟨u,q⟩,k _ i H1 y r (Pf λd s n o p hc=>by obtain⟨us,j,f⟩:=st d s n o p hc;cases f with | t f=>exact⟨us,j,f⟩)⟩
theorem lF:∀(ns:List Int),aH K ρ H (ns.map V.int) (ns.map D.int)
 | []=>.nil
 | _::r=>.cons (.int _) (lF r)
def Ph(f:Int)(n:Nat):Qq K (Tr f n) ρ H [] ((List.range n).map λ(k:Nat)=>D.int (f+(k:Int))):=by
 refine uT λh w x T S hc=>⟨(List.range n).map λ(k:Nat)=>V.int (f+(k:Int)),?_,λi o=>?_,λi v l=>?_⟩
 ·have:=lF (K:=K) (ρ:=h) (H:=w) ((List.range n).map λ(k:Nat)=>f+(k:Int));rw[Xh,Xh] at this;exact this
 ·rw[VU,Wv] at o;exact o
 ·rw[Wa] at l;obtain⟨j,t,s⟩:=gL l;obtain⟨d,r⟩:=VW.mp t;rw[Wv] at d;rw[ZF] at r;subst r;subst s;exact⟨d,λu y ⟨p,q⟩=>⟨p,q⟩⟩
def Fc(l:aH K f H d [.int j]):d=[.int j]:=by
 cases l with
 | cons r l=>cases l;cases r;rfl
def cR(s:Gl X "range")(hm:X.mg "range"=none)(t:SA X [a] m)(hs:starEach [a] X.env=[(false,eval a X.env)]:=by ac_nf)(hl:lz m 1):SI X tg (.Call (.Name "range" p) [a] [] pos) (qq m):=
 (Fi s hm t hs).imp λy H Q q=>by
  obtain⟨ρ,o,h,A,C,F,R,S,e,k⟩:=q;obtain⟨⟨x,u⟩,l,f⟩:=bq e;refine⟨ρ,o,h,x,u,R,S,l,λE i n v w r=>?_⟩;obtain⟨d,rfl⟩:=Yc.mp (hl _ _ _ _ l);cases d <;> first | exact absurd f (by intro z;cases z) | skip
  rename_i j;dsimp only at f
  by_cases z:-(2^62)<=j/\j < 2^62
  ·rw[V1 z] at f;cases f;refine⟨j,Fc r,z.1,z.2,k _ i n v w ?_⟩;have:=Ph (K:=X.K) (ρ:=i) (H:=n) 0 j.toNat
   simpa using this
  ·rw[V4 z] at f;cases f
noncomputable def eV(d:List (Option Nat))(f:DS):DS:=d.map λo=>o.bind λi=>(f[i]?).join
noncomputable def bY:TM:=λ_ h=>some (true,h)
def bJ(d:W)(g:GM)(c:TM)(e:EM):List D->DS->MH->Option (List D×MH)
 | [],_,h=>if mB d h then some ([],h) else none
 | x::r,f,h=>if mB d h then(g x f h).bind λq=>(c q.1 q.2).bind λt=>if t.1 then(e q.1 t.2).bind λy=>(bJ d g c e r q.1 y.2).map λz=>(y.1::z.1,z.2) else bJ d g c e r q.1 t.2 else none
def b8(d:List (Option Nat))(i:IM)(g:GM)(c:TM)(e:EM):AM:=λf h=>(i f h).bind λp=>(bJ p.2.1 g c e p.1 (eV d f) p.2.2).bind λq=>if q.1.length<=sizeLine then some q else none
theorem cB.k6(R:cB K l H σ h)(f:List (Option Nat)):cB K l H (k6 f σ) (eV f h):=by
 refine⟨by simp[L2.k6,eV],λi d hd=>?_⟩;unfold eV at hd;rw[Wa] at hd;obtain⟨o,q,k⟩:=gL hd;cases o with
 | none=>exact ck k
 | some j=>
  have p:h[j]?=some (some d):=Zo.mp k;obtain⟨v,n,r⟩:=R.at_ j d p;refine⟨v,?_,r⟩;unfold L2.k6;rw[Wa,q];simp[n]
def M5(X:Cx)(d:List Expr)(m:TM):Prop:=GL X d (DG X.K m)
def bP:M5 X [] bY:=λd s f H Q I hh=>by
 obtain⟨i,j,h,b,l,R,S,e,k⟩:=hh;cases e;exact Lm d s f H Q I (k i H (.refl _ _) S)
def lE(h:ST X c mt):M5 X [c] mt:=Ll h
def DO(hh:tM X.K (gH (b8 F mi g mt ma)) σ H Q):G7 F (Nz X.K mi) (GD X.K g) (DG X.K mt) (tM X.K ma) σ H Q:=by
 obtain⟨ρ,δ,h,d,h',R,S,ee,k⟩:=hh;obtain⟨⟨out,h0⟩,ea,e0⟩:=gL ee;cases e0;obtain⟨⟨I,ws,h1⟩,e1,eb⟩:=bq ea;obtain⟨⟨ys,E⟩,e2,o⟩:=bq eb;dsimp only at e2 o
 by_cases hz:ys.length<=sizeLine
 ·rw[V1 hz] at o;cases o;refine⟨ρ,δ,h,I,ws,h1,R,S,e1,λJ f Z T1 S1 It l hl=>?_⟩;have nl:¬f.has l:=S1.fresh hl;have Tl:Ch f Z (f.keep l) (upd Z l (.lst [])):=Ch.keep hl;refine⟨λi m τ2 p=>∃(j:List Addr)(M:DS)(E:MH)(C:List V)(as bs:List D),m=I.length-i/\i<=I.length/\Ch f Z ⟨j,l::f.rs⟩ p/\(∀b∈f.rs,p b=Z b)/\cB X.K ⟨j,l::f.rs⟩ p τ2 M/\bT X.K ⟨j,l::f.rs⟩ E p/\
    p l=some (.lst C)/\aH X.K ⟨j,l::f.rs⟩ p C as/\out=as++bs/\bJ ws g mt ma (I.drop i) M E=some (bs,h0),
   ⟨_,f.ob,eV F δ,h1,[],[],out,rfl,Xb _,Tl,λb L=>aB λz=>nl (.inr (z ▸ L)),((R.mono T1).k6 F).mono Tl,S1.keep hl,aP,.nil,rfl,e2⟩,?_⟩
  rintro i m τ2 p ⟨j,M,E,C,as,bs,rfl,hi,T2,T,R2,S2,U,l2,eo,o⟩;have s:∀b∈f.rs,b∈l::f.rs:=λb L=>V5 _ L;have C2:Ch ⟨j,l::f.rs⟩ p ⟨j,f.rs⟩ p:=Ch.free s;have T2':dG f Z ⟨j,f.rs⟩ p:=⟨T2.trans C2,rfl,T⟩;have S2':bT X.K ⟨j,f.rs⟩ E p:=S2.free s;cases q:I.drop i with
  | nil=>
   rw[q] at o;unfold bJ at o
   by_cases hc:mB ws E=true
   ·rw[V1 hc] at o;cases o;rw[WW] at eo;subst eo;have hle:I.length<=i:=by have:=congrArg List.length q;rw[XN,Yj] at this;lia
    refine .inl ⟨(It.run _ p _ T2 S2 hc i).1 hle,k _ _ ⟨_,T1.trans T2',S2',.lv U (λz=>?_) (l2.mono C2)⟩⟩;rcases z with z | z
    ·exact(S2.vT l V3).2 z
    ·exact nl (.inr z)
   ·rw[V4 hc] at o;cases o
  | cons x r=>
   rw[q] at o;unfold bJ at o
   by_cases hc:mB ws E=true
   ·rw[V1 hc] at o;have hx:I[i]?=some x:=by
     have:=congrArg (λl=>l[0]?) q
     simpa using this
    have hlt:i < I.length:=(VW.mp hx).1;have hr:I.drop (i+1)=r:=by
     have:=congrArg List.tail q
     simpa using this
    obtain⟨⟨w,h3⟩,e4,e5⟩:=bq o;obtain⟨⟨t,h4⟩,e6,e7⟩:=bq e5;dsimp only at e4 e5 e6 e7;obtain⟨hgo,hy⟩:=(It.run _ p E T2 S2 hc i).2 x hx;refine .inr ⟨hgo,λτ5 O=>∃(n:List Addr)(h5:MH)(C:List V)(as bs:List D),Ch f Z ⟨n,l::f.rs⟩ O/\(∀b∈f.rs,O b=Z b)/\cB X.K ⟨n,l::f.rs⟩ O τ5 w/\bT X.K ⟨n,l::f.rs⟩ h5 O/\
     O l=some (.lst C)/\aH X.K ⟨n,l::f.rs⟩ O C as/\out=as++bs/\bJ ws g mt ma r w h5=some (bs,h0),?_,?_⟩
    ·rintro τ5 O ⟨n,h5,vs5,as5,bs5,T5,P,R5,S5,hl5,l5,eo5,e5⟩;exact⟨I.length-(i+1),by lia,n,w,h5,vs5,as5,bs5,rfl,hlt,T5,P,R5,S5,hl5,l5,eo5,by rw[hr];exact e5⟩
    ·intro v H3 y3;obtain⟨T3,S3,r3⟩:=hy v H3 y3;refine⟨⟨j,l::f.rs⟩,M,E,x,w,h3,R2.mono T3,S3,r3,e4,λρ4 H4 τ4 T4 S4 R4=>?_⟩;refine⟨ρ4,w,h3,t,h4,R4,S4,e6,λρ5 O T5 S5=>?_⟩;have A:dG ⟨j,l::f.rs⟩ p ρ5 O:=T3.trans (T4.trans T5);obtain⟨n,P⟩:=ρ5;have Y:P=l::f.rs:=A.rs;subst Y;cases t with
     | false=>
      rw[V4 (by simp)] at e7;refine Pl ?_;exact⟨n,h4,C,as,bs,T2.trans A.toCh,λb L=>(A.res b (s b L)).trans (T b L),R4.mono T5,S5,(A.res l V3).trans U,l2.mono A.toCh,eo,e7⟩
     | true=>
      rw[V1 rfl] at e7;refine Pk ?_;obtain⟨⟨y,h6⟩,e8,e9⟩:=bq e7;obtain⟨⟨zs,h7⟩,e10,e11⟩:=gL e9;cases e11;refine⟨⟨n,l::f.rs⟩,w,h4,y,h6,R4.mono T5,S5,e8,λu H6 u9=>?_⟩;obtain⟨ρ6,T6,S6,r6⟩:=u9;have G:dG ⟨j,l::f.rs⟩ p ρ6 H6:=A.trans T6;obtain⟨N,rs6⟩:=ρ6;have Y:rs6=l::f.rs:=G.rs;subst Y;have hl6:H6 l=some (.lst C):=(G.res l V3).trans U;have hml:l∈(⟨N,l::f.rs⟩:Ad).rs:=V3;have hlen:C.length < sizeLine:=by
       have h1:=l2.length;have E:=congrArg List.length eo;rw[Wj,V9] at E
       lia
      have Cp:Ch ⟨N,l::f.rs⟩ H6 ⟨N,l::f.rs⟩ (upd H6 l (.lst (C++[u]))):=Ch.put hml;refine⟨C,hl6,hlen,N,h6,C++[u],as++[y],zs,(T2.trans G.toCh).trans Cp,λb L=>?_,((R4.mono T5.toCh).mono T6.toCh).mono Cp,S6.put hml,aP,((l2.mono G.toCh).snoc r6).mono Cp,by rw[eo];simp,e10⟩;rw[aB (λ(z:b=l)=>nl (.inr (z ▸ L)))];exact(G.res b (s b L)).trans (T b L)
   ·rw[V4 hc] at o;cases o
 ·rw[V4 hz] at o;cases o
end
end Sm
namespace Sm
open L2 PyProof.Rows
section
variable {X:Cx} {a b c e tg iter elt:Expr} {es:List Expr} {pos:Pos} {ma mb:EM} {mt:TM} {ms mu:SM} {m:AM} {g:GM} {gs:GB}
def cE(C:bp X N' caps scope)(hc:X.calm=true)(k:SI X tg iter j)(l:∀C d f h pl,SG (gy X N' scope C d f h pl) tg g)(i:∀C d f h pl,M5 (gy X N' scope C d f h pl) ifs mt)(n:∀C d f h pl,SE (gy X N' scope C d f h pl) elt ma)(hs:∀x,foldedSetIterable iter X.env x=pure x:=by intro _;ac_nf):
  SE X (.ListComp elt [⟨tg,iter,ifs,0⟩] scope pos) (gH (b8 caps j g mt ma)):=(Ij (g:=GD X.K g) (tc:=DG X.K mt) (te:=tM X.K ma) C hc k l i n hs).imp λ_ _ _=>DO
def iE(hN:X.N.Nodup)(n:X.N[i]?=some y)(p:X.env.scope.names.lookup y=some .local)(C:bp X N' caps scope)(hc:X.calm=true)(r:SI X tg iter o)(s:∀C d f j pl,SG (gy X N' scope C d f j pl) tg g)(l:∀C d f j pl,M5 (gy X N' scope C d f j pl) ifs mt)(t:∀C d f j pl,SE (gy X N' scope C d f j pl) elt ma)(k:swapsWith (.ListComp elt [⟨tg,iter,ifs,0⟩] scope pos) (some (.Name y py)) h.line X.env=pure true:=by ac_nf)(hs:∀x,foldedSetIterable iter X.env x=pure x:=by intro _;ac_nf):
  SS X (.Assign [.Name y py] (.ListComp elt [⟨tg,iter,ifs,0⟩] scope pos) h) (aV i (gH (b8 caps o g mt ma))):=
 (HY (g:=GD X.K g) (tc:=DG X.K mt) (te:=tM X.K ma) hN n p C hc r s l t k hs).imp λE u H hh=>by
  have q:=Cm hh;exact DO q
end
inductive SR(K:FR)(n:Nat)(F:Fn)(vs:List V)(H:Hp)(Q:VK):Prop where
 | mk (ρ h ds d h'):bT K ρ h H->aH K ρ H vs ds->(ds.length=n)->(F ds h=some (d,h'))->(∀v H',dB K ρ H h' d v H'->Q v H')->SR K n F vs H Q
def EV(K:FR)(n:Nat)(F:Fn):Sp:=λa H Q _=>SR K n F a H Q
def KP(G:fT X.prog X.w X.K X.mg X.base pC k f fd u (EV X.K n F))(hr:dh k X.A)(z:Gl X x)(hm:X.mg x=some (.ref f))(y:PySem.W.keepIn X.K (.ref f)=true)(I:Binds X.K fd u [])
  (J:SA X (e::a) m) (hl:lz m n) (g:(x==("__debug__":Str))=false:=by ac_nf) (C:starEach (e::a) X.env=(false,eval e X.env)::starEach a X.env:=by ac_nf) (c:(backTo pos (starEach a X.env)).any (·.1)=false:=by ac_nf):
  SE X (.Call (.Name x p) (e::a) [] pos) (ar F m):=(DW (E:=E0) G hr z hm y I .nil RA J g C c).imp λσ H Q u9=>by
 obtain⟨o,r,h,d,L,R,S,e,q⟩:=u9;obtain⟨⟨l,i⟩,j,M⟩:=bq e;refine⟨o,r,h,l,i,R,S,j,λs b T N O t=>?_⟩;show EV X.K n F (s++[]) T Q E0;rw[WW];exact⟨b,i,l,d,L,O,t,hl _ _ _ _ j,M,λv U P=>q v U (P.step N)⟩
noncomputable def yF(r:Fl×DS×MH):Option (D×MH):=match r.1 with
 | .rt d=>some (d,r.2.2)
 | .nx=>some (.cu,r.2.2)
 | _=>none
noncomputable def entry(len:Nat)(a:List D):DS:=a.map some++List.replicate (len-a.length) none
def gZ(len:Nat)(a:SM):Fn:=λb h=>(a (entry len b) h).bind yF
theorem cB.entry{K:FR}{c:Ad}{H:Hp}{e:List V}{b:List D}(N:List Str)(l:aH K c H e b):cB K c H (L2.start N e) (Sm.entry N.length b):=by
 refine⟨by simp[L2.start,Sm.entry,l.length],λi d hd=>?_⟩;unfold Sm.entry at hd;unfold L2.start
 by_cases a:i < b.length
 ·rw[Wc (by simpa using a),Wa] at hd;obtain⟨j,h,g⟩:=gL hd;cases g;obtain⟨v,f,r⟩:=l.got h;refine⟨v,?_,r⟩;rw[Wc (by rw[VU,l.length];exact a),Wa,f];rfl
 ·rw[We (by simpa using a),Aae] at hd
  split at hd <;> cases hd
section
variable {P:Program} {w:World} {K:FR} {mg:Str->Option Value} {base:Heap} {x qual:Str} {st:Stmt} {f:Addr} {fd:FuncData} {N ps:List Str} {k:Nat}
def Pr(F:vO K x qual st f fd)(z:ax N ps (ah st))(p:∀(a:Value)(A:Around)(outer:List Env)(s:Shared)(H:Hp)(E:XK),dh k (A.deeper (envOfC qual (ah st) s.heap.objs.size f a))->Gy (f9 pC P w K mg base N qual (ah st) f a A outer s H E).IF (eQ st) body):
  fT P w K mg base pC (k+1) f fd ps (EV K ps.length (gZ N.length body)):=by
 refine F.ok z (λo H Q E h=>?_) (λa A outer s H o Q E hr h=>?_)
 ·obtain⟨i,h,j,d,u,S,r,hl,_⟩:=h;rw[r.length];exact hl
 ·obtain⟨i,h,j,d,u,S,r,hl,e,q⟩:=h;refine⟨_,p a A outer s H E hr,?_⟩;obtain⟨⟨fl,g,t⟩,y,c⟩:=bq e;refine⟨i,entry N.length j,h,fl,g,t,cB.entry N r,S,y,λb G l m=>?_⟩;cases fl with
  | nx=>cases c;exactλn C=>q _ _ ⟨b,l,m,.cu⟩
  | rt d=>cases c;exactλv r=>q _ _ ⟨b,l,m,r⟩
  | bk=>cases c
  | ct=>cases c
end
mutual
noncomputable def jq(n:Nat):D->Bool
 | .tup xs=>gS n xs
 | .lv xs=>gS n xs
 | .ro xs=>gS n xs
 | .dv a=>Mb n a
 | .ob m=>decide (m < n)
 | _=>true
noncomputable def gS(n:Nat):List D->Bool
 | []=>true
 | x::r=>jq n x&&gS n r
noncomputable def Mb(n:Nat):List (Key×D)->Bool
 | []=>true
 |(_,x)::r=>jq n x&&Mb n r
end
def BF(n:Nat):MO->Bool
 | .lst xs=>gS n xs
 | .dct a=>Mb n a
 | .dcH a=>gS n (a.map (·.1))&&gS n (a.map (·.2))
 | .exc _=>true
abbrev Ad.cut(ρ:Ad)(n:Nat):Ad:=⟨ρ.ob.take n,ρ.rs⟩
def Ad.lS{b:Ad}{n:Nat}{a:Addr}(h:(b.cut n).has a):b.has a:=h.elim (λm=>.inl (Y1 m)) .inr
mutual
theorem Rep.cut{K:FR}{f:Ad}{H:Hp}{n:Nat}{v:V}{d:D}(r:Rep K f H v d)(c:jq n d=true):Rep K (f.cut n) H v d:=by
 cases r with
 | cu=>exact .cu
 | bl b=>exact .bl b
 | int i=>exact .int i
 | str x=>exact .str x
 | ty n=>exact .ty n
 | tup h l=>exact .tup (h.elim (λ⟨a,n⟩=>.inl ⟨a,λm=>n (Ad.lS m)⟩) .inr) (aH.cut l c)
 | lv h n l=>exact .lv h (λm=>n (Ad.lS m)) (aH.cut l c)
 | ro h l=>exact .ro (h.elim (λ⟨a,n⟩=>.inl ⟨a,λm=>n (Ad.lS m)⟩) .inr) (aH.cut l c)
 | dv h n l=>exact .dv h (λm=>n (Ad.lS m)) (bO.cut l c)
 | ob e=>exact .ob ((WQ (Wy c)).trans e)
theorem aH.cut{K:FR}{a:Ad}{H:Hp}{n:Nat}{v:List V}{d:List D}(r:aH K a H v d)(c:gS n d=true):aH K (a.cut n) H v d:=by
 cases r with
 | nil=>exact .nil
 | cons r l=>have c:=Wt.mp c;exact .cons (Rep.cut r c.1) (aH.cut l c.2)
theorem bO.cut{K:FR}{a:Ad}{H:Hp}{n:Nat}{v:List (Key×V)}{d:List (Key×D)}(r:bO K a H v d)(c:Mb n d=true):bO K (a.cut n) H v d:=by
 cases r with
 | nil=>exact .nil
 | cons r l=>have c:=Wt.mp c;exact .cons (Rep.cut r c.1) (bO.cut l c.2)
end
mutual
theorem Rep.clean{K:FR}{a:Ad}{H:Hp}{v:V}{d:D}(r:Rep K a H v d):jq a.ob.length d=true:=by
 cases r with
 | tup h l=>exact aH.clean l
 | lv h n l=>exact aH.clean l
 | ro h l=>exact aH.clean l
 | dv h n l=>exact bO.clean l
 | ob e=>exact WB (VW.mp e).1
 | _=>rfl
theorem aH.clean{K:FR}{a:Ad}{H:Hp}{v:List V}{d:List D}(r:aH K a H v d):gS a.ob.length d=true:=by
 cases r with
 | nil=>rfl
 | cons r l=>exact Wt.mpr ⟨Rep.clean r,aH.clean l⟩
theorem bO.clean{K:FR}{a:Ad}{H:Hp}{v:List (Key×V)}{d:List (Key×D)}(r:bO K a H v d):Mb a.ob.length d=true:=by
 cases r with
 | nil=>rfl
 | cons r l=>exact Wt.mpr ⟨Rep.clean r,bO.clean l⟩
end
theorem ED.cut{K:FR}{d:Ad}{H:Hp}{n:Nat}{a:Addr}{o:MO}(x:ED K d H a o)(c:BF n o=true):ED K (d.cut n) H a o:=by
 cases o with
 | lst ds=>obtain⟨b,e,l⟩:=x;exact⟨b,e,l.cut c⟩
 | dct ds=>obtain⟨b,e,l⟩:=x;exact⟨b,e,l.cut c⟩
 | dcH ds=>obtain⟨us,f,e,l,g,p⟩:=x;have c:=Wt.mp c;exact⟨us,f,e,l.cut c.1,g.cut c.2,p⟩
 | exc _=>exact x
theorem ED.clean{K:FR}{b:Ad}{H:Hp}{a:Addr}{o:MO}(x:ED K b H a o):BF b.ob.length o=true:=by
 cases o with
 | lst ds=>obtain⟨c,e,l⟩:=x;exact l.clean
 | dct ds=>obtain⟨c,e,l⟩:=x;exact l.clean
 | dcH ds=>obtain⟨us,f,e,l,d,p⟩:=x;exact Wt.mpr ⟨l.clean,d.clean⟩
 | exc _=>rfl
noncomputable def BO(n:Nat)(h:MH)(d:D):D:=match d with
 | .ob m=>if m < n then .ob m else match h[m]? with
  | some (.lst xs)=>.lv xs
  | some (.dct a)=>.dv a
  | _=>.ob m
 | d=>d
def leave(h:MH)(d:D)(a:MH):Option (D×MH):=
 if jq h.length (BO h.length a d)&&(zJ (a.take h.length) h||(a.take h.length).all (BF h.length)) then some (BO h.length a d,a.take h.length) else none
def MP(len:Nat)(a:SM):Fn:=λb h=>((a (entry len b) h).bind yF).bind λp=>leave h p.1 p.2
theorem dB.leave{K:FR}{u:Ad}{H F:Hp}{h k L:MH}{d M:D}{v:V}(S:bT K u h H)(p:dB K u H k d v F)(e:Sm.leave h d k=some (M,L)):dB K u H L M v F:=by
 obtain⟨f,T,i,r⟩:=p;unfold Sm.leave at e
 by_cases hc:(jq h.length (BO h.length k d)&&(zJ (k.take h.length) h||(k.take h.length).all (BF h.length)))=true
 ·rw[V1 hc] at e;cases e;rw[Wm] at hc;obtain⟨c,s⟩:=hc;have O:h.length<=k.length:=by
   rw[<-S.len,<-i.len];refine X8 λC=>?_;have g:u.ob[f.ob.length]?=some u.ob[f.ob.length]:=V7 C;have:=(VW.mp (T.pre _ _ g)).1
   lia
  have y:∀(m:Nat) o,m < h.length->k[m]?=some o->BF h.length o=true:=by
   intro m o hm I;rw[X1] at s;rcases s with s | s
   ·have g:=Ex s;have w:h[m]?=some o:=by rw[<-g,WQ hm];exact I
    have A:m < u.ob.length:=by rw[S.len];exact hm
    have:=(S.at_ m _ o (V7 A) w).clean;rw[S.len] at this;exact this
   ·rw[WX] at s;exact s o (VX (show(k.take h.length)[m]?=some o by rw[WQ hm];exact I))
  have Q:bT K (f.cut h.length) (k.take h.length) F:=by
   refine⟨by simp[i.len],i.nd.sublist (Zg _ _),λn a o g w=>?_,λb J=>⟨(i.vT b J).1,λm=>(i.vT b J).2 (Y1 m)⟩,λP t=>⟨λz=>(i.tb P t).1 (Ad.lS z),(i.tb P t).2⟩⟩;have hn:n < h.length:=by
    have:=(VW.mp w).1;rw[Wx] at this
    lia
   have g:(f.ob.take h.length)[n]?=some a:=g;rw[WQ hn] at g w;exact(i.at_ n a o g w).cut (y n o hn w)
  refine⟨f.cut h.length,⟨⟨λn a e=>?_,λb o n e=>?_⟩,T.rs,T.res⟩,Q,?_⟩
  ·have hn:n < h.length:=by rw[<-S.len];exact(VW.mp e).1
   show(f.ob.take h.length)[n]?=some a;rw[WQ hn];exact T.pre n a e
  ·obtain⟨n1,g⟩:=T.old b o n e;exact⟨λm=>n1 (Ad.lS m),g⟩
  ·cases d with
   | ob m=>
    unfold BO at c ⊢;dsimp only at c ⊢
    by_cases hm:m < h.length
    ·rw[V1 hm] at c ⊢;exact r.cut c
    ·rw[V4 hm] at c ⊢;cases r with
     | ob hn=>
      rename_i a;have G:¬(f.cut h.length).has a:=by
       intro z;rcases z with z | z
       ·obtain⟨j,hj⟩:=Y2 z;have E:j < h.length:=by
         have:=(VW.mp hj).1;rw[Wx] at this
         lia
        rw[WQ E] at hj;have:=(List.getElem?_inj (VW.mp hj).1 i.nd).mp (hj.trans hn.symm)
        lia
       ·exact(i.vT a z).2 (VX hn)
      cases q:k[m]? with
      | none=>rw[q] at c;exact absurd c (by simp[jq];lia)
      | some o=>
       have x:=i.at_ m a o hn q;cases o with
       | lst xs=>
        rw[q] at c;obtain⟨N,g,l⟩:=x;exact .lv g G (l.cut (by simpa [jq] using c))
       | dct xs=>
        rw[q] at c;obtain⟨N,g,l⟩:=x;exact .dv g G (l.cut (by simpa [jq] using c))
       | dcH xs=>rw[q] at c;exact absurd c (by simp[jq];lia)
       | exc _=>rw[q] at c;exact absurd c (by simp[jq];lia)
   | _=>exact r.cut c
 ·rw[V4 hc] at e;cases e
section
variable {P:Program} {w:World} {K:FR} {mg:Str->Option Value} {base:Heap} {x qual:Str} {st:Stmt} {f:Addr} {fd:FuncData} {N ps:List Str} {k:Nat}
def jl(G:fT P w K mg base pC k f fd ps (EV K ps.length (gZ N.length body))):fT P w K mg base pC k f fd ps (EV K ps.length (MP N.length body)):=by
 refine G.imp λl H Q E hh=>?_;obtain⟨a,h,i,d,m,S,r,hl,e,q⟩:=hh;obtain⟨⟨d1,b⟩,g,c⟩:=bq e;exact⟨a,h,i,d1,b,S,r,hl,g,λv j p=>q v j (p.leave S c)⟩
end
def spT(K:FR):Sp:=λd H Q _=>∃(a:Addr)(ns:List Int),d=[.ref a]/\gU K H a (ns.map V.int)/\ns.length<=63/\(∀b,ju K b->H b=some .tb)/\∀c,(∀b,ju K b->c b=some .tb)->Q (.bl true) c
def LH{P:Program}{w:World}{K:FR}{mg:Str->Option Value}{base:Heap}{k:Nat}{f:Addr}{h:FuncData}{g:List Str}{F:Fn}(G:fT P w K mg base pC k f h g (EV K 1 F))
  (l:∀ns:List Int,ns.length<=63->∃d,F [.ro (ns.map D.int)] []=some (.bl true,d)):fT P w K mg base pC k f h g (spT K):=by
 refine G.imp λp H Q E hh=>?_;obtain⟨a,ns,rfl,c,hl,ht,q⟩:=hh;obtain⟨d,e⟩:=l ns hl;refine⟨⟨[],[]⟩,[],[.ro (ns.map D.int)],.bl true,d,⟨rfl,Zx,λn a o e=>by simp at e,λb j=>absurd j (by simp),λP t=>⟨λz=>z.elim (λz=>absurd z (by simp)) λz=>absurd z (by simp),ht P t⟩⟩,.cons (.ro ?_ (lF ns)) .nil,rfl,e,λv m ⟨i,T,S,r⟩=>?_⟩
 ·rcases c with c | c
  ·exact .inl ⟨c,λz=>z.elim (λz=>absurd z (by simp)) λz=>absurd z (by simp)⟩
  ·exact .inr (.inr c)
 ·cases r;exact q m λb t=>(S.tb b t).2
def DQ(h:MH)(d:D):Option PyData:=match d with
 | .ob n=>match h[n]? with
  | some (.lst xs)=>(kl xs).map .list
  | _=>none
 | d=>ur d
mutual
theorem Rep.vN{K:FR}{f:Ad}{H:Hp}{v:V}{d:D}{p:PyData}(r:Rep K f H v d)(e:ur d=some p):GK K H v p/\p.canLay0=true:=by
 cases r with
 | cu=>cases e;exact⟨.cu,rfl⟩
 | bl b=>cases e;exact⟨.bl b,rfl⟩
 | int i=>cases e;exact⟨.int i,rfl⟩
 | str hs=>cases e;exact⟨.str _,by simpa [PyData.canLay0] using hs⟩
 | tup h l=>obtain⟨q,c,rfl⟩:=gL e;obtain⟨a,b⟩:=aH.vN l c;exact⟨.tup h.sq a,by simpa [PyData.canLay0] using b⟩
 | lv h n l=>obtain⟨q,c,rfl⟩:=gL e;obtain⟨a,b⟩:=aH.vN l c;exact⟨.lst (gU.of h) a,by simpa [PyData.canLay0] using b⟩
 | ro h l=>obtain⟨q,c,rfl⟩:=gL e;obtain⟨a,b⟩:=aH.vN l c;exact⟨.lst h.sq a,by simpa [PyData.canLay0] using b⟩
 | _=>exact ck e
theorem aH.vN{K:FR}{c:Ad}{H:Hp}{v:List V}{d:List D}{p:List PyData}(r:aH K c H v d)(e:kl d=some p):qI K H v p/\PyData.canLayAll0 p=true:=by
 cases r with
 | nil=>cases e;exact⟨.nil,rfl⟩
 | cons r l=>
  obtain⟨a,h,g⟩:=bq e;obtain⟨b,f,rfl⟩:=gL g;obtain⟨a1,a2⟩:=Rep.vN r h;obtain⟨j,i⟩:=aH.vN l f;exact⟨.cons a1 j,by simp[PyData.canLayAll0,a2,i]⟩
end
section
variable {K:FR} {ρ:Ad} {H:Hp} {h:MH} {v:V} {d:D}
def og(S:bT K ρ h H)(r:Rep K ρ H v d)(e:DQ h d=some p):GK K H v p/\p.canLay0=true:=by
 cases r with
 | @ob a n hn=>
  unfold DQ at e;dsimp only at e;cases q:h[n]? with
  | none=>rw[q] at e;cases e
  | some o=>
   rw[q] at e;cases o with
   | dct _=>exact ck e
   | dcH _=>exact ck e
   | exc _=>exact ck e
   | lst xs=>
    obtain⟨m,g,l⟩:=S.at_ n a _ hn q;obtain⟨b,f,c⟩:=gL e;subst c;obtain⟨k,j⟩:=l.vN f;exact⟨.lst (gU.of g) k,by simpa [PyData.canLay0] using j⟩
 | cu=>exact Rep.vN (Rep.cu (ρ:=ρ)) e
 | bl b=>exact Rep.vN (Rep.bl (ρ:=ρ) b) e
 | int i=>exact Rep.vN (Rep.int (ρ:=ρ) i) e
 | str x=>exact Rep.vN (Rep.str (ρ:=ρ) x) e
 | ty n=>exact Rep.vN (Rep.ty (ρ:=ρ) n) e
 | tup h l=>exact Rep.vN (.tup h l) e
 | lv h n l=>exact Rep.vN (.lv h n l) e
 | ro h l=>exact Rep.vN (.ro h l) e
 | dv h n l=>exact Rep.vN (.dv h n l) e
noncomputable def fZ(d:D)(h:MH):Option (List D):=match d with
 | .lv xs=>some xs
 | .ob n=>match h[n]? with
  | some (.lst xs)=>some xs
  | _=>none
 | _=>none
def dD(S:bT K ρ h H)(r:Rep K ρ H v d)(e:fZ d h=some xs):∃a b,v=.ref a/\H a=some (.lst b)/\aH K ρ H b xs:=by
 cases r with
 | @ob a n hn=>
  unfold fZ at e;dsimp only at e;cases q:h[n]? with
  | none=>rw[q] at e;cases e
  | some o=>
   rw[q] at e;cases o with
   | dct _=>exact ck e
   | dcH _=>exact ck e
   | exc _=>exact ck e
   | lst f=>
    cases e;obtain⟨b,c,l⟩:=S.at_ n a _ hn q;exact⟨a,b,rfl,c,l⟩
 | lv h n l=>cases e;exact⟨_,_,rfl,h,l⟩
 | _=>exact ck e
noncomputable def fG(d:D)(h:MH):Option (List (Key×D)):=match d with
 | .dv a=>some a
 | .ob n=>match h[n]? with
  | some (.dct a)=>some a
  | _=>none
 | _=>none
def oX(S:bT K ρ h H)(r:Rep K ρ H v d)(e:fG d h=some xs):∃a b,v=.ref a/\H a=some (.dK b)/\bO K ρ H b xs:=by
 cases r with
 | @ob a n hn=>
  unfold fG at e;dsimp only at e;cases q:h[n]? with
  | none=>rw[q] at e;cases e
  | some o=>
   rw[q] at e;cases o with
   | lst _=>exact ck e
   | dcH _=>exact ck e
   | exc _=>exact ck e
   | dct f=>
    cases e;obtain⟨b,c,l⟩:=S.at_ n a _ hn q;exact⟨a,b,rfl,c,l⟩
 | dv h n l=>cases e;exact⟨_,_,rfl,h,l⟩
 | _=>exact ck e
def sM(S:bT K ρ h H)(r:Rep K ρ H v d)(e:fF d h=some (xs,ws)):∃a c,v=.ref a/\(gU K H a c\/lj K H a c)/\aH K ρ H c xs:=by
 obtain⟨a,f,⟨c,q,l⟩,_⟩:=tQ S r e;refine⟨a,c,f,?_,l⟩;generalize CZ d=b at q;cases q with
 | l q=>exact .inl q
 | t q=>exact .inr q
noncomputable def sA:D->Option Key
 | .int i=>some (.inl i)
 | .str x=>some (.inr x)
 | _=>none
noncomputable def lV(a:List (Key×D))(k:Key):Option D:=(a.find? λb=>decide (b.1=k)).map (·.2)
noncomputable def putD(a:List (Key×D))(k:Key)(v:D):List (Key×D):=
 if(a.any λb=>decide (b.1=k))=true then a.map (λb=>if b.1=k then(b.1,v) else b) else a++[(k,v)]
def lM(r:Rep K ρ H v d)(e:sA d=some k):v=kV k:=by
 cases r with
 | int i=>cases e;rfl
 | str x=>cases e;rfl
 | _=>exact ck e
def bO.val:∀{us:List (Key×V)} {b:List (Key×D)} (k:Key),bO K ρ H us b->(lV b k=none/\kh us k=none)\/∃d v,lV b k=some d/\kh us k=some v/\Rep K ρ H v d:=by
 intro us
 induction us with
 | nil=>intro b k a;cases a;exact .inl ⟨rfl,rfl⟩
 | cons u us c=>
  intro b k a;cases a with | @cons j v _ d ds r l=>
  by_cases z:j=k
  ·exact .inr ⟨d,v,by simp[lV,z],by simp[kh,z],r⟩
  ·have f:lV ((j,d)::ds) k=lV ds k:=by simp only[lV,Yk,z,decide_false]
   have e:kh ((j,v)::us) k=kh us k:=nF z;rw[f,e];exact c k l
theorem bO.length:∀{us:List (Key×V)} {b:List (Key×D)},bO K ρ H us b->us.length=b.length:=by
 intro us
 induction us with
 | nil=>intro b a;cases a;rfl
 | cons u us c=>intro b a;cases a with | cons _ l=>rw[V9,V9,c l]
theorem bO.any(k:Key):∀{us:List (Key×V)} {a:List (Key×D)},bO K ρ H us a->(us.any λb=>decide (b.1=k))=(a.any λb=>decide (b.1=k)):=by
 intro us
 induction us with
 | nil=>intro b a;cases a;rfl
 | cons u us c=>intro b a;cases a with | cons _ l=>rw[YC,YC,c l]
theorem bO.map(r:Rep K ρ H v d):∀{us:List (Key×V)} {b:List (Key×D)},bO K ρ H us b->bO K ρ H (us.map λa=>if a.1=k then(a.1,v) else a) (b.map λa=>if a.1=k then(a.1,d) else a):=by
 intro us
 induction us with
 | nil=>intro b a;cases a;exact .nil
 | cons u us c=>
  intro b a;cases a with | @cons j _ _ _ _ q l=>
  rw[V6,V6]
  by_cases z:j=k
  ·rw[V1 z,V1 z];exact .cons r (c l)
  ·rw[V4 z,V4 z];exact .cons q (c l)
def bO.append:∀{us c:List (Key×V)} {ks b:List (Key×D)},bO K ρ H us ks->bO K ρ H c b->bO K ρ H (us++c) (ks++b):=by
 intro us c
 induction us with
 | nil=>intro ks b a t;cases a;exact t
 | cons u us e=>intro ks b a t;cases a with | cons r l=>exact .cons r (e l t)
def bO.put(l:bO K ρ H us a)(r:Rep K ρ H v d):bO K ρ H (putK us k v) (putD a k d):=by
 unfold putK putD;rw[l.any k]
 by_cases z:(a.any λb=>decide (b.1=k))=true
 ·rw[V1 z,V1 z];exact l.map r
 ·rw[V4 z,V4 z];exact l.append (.cons r .nil)
end
def De(d e:D)(h:MH):Option (D×MH):=match d,e with
 | .int i,.int j=>some (.int (i+j),h)
 | .str a,.str b=>if a.length+b.length<=sizeLine then some (.str (a++b),h) else none
 | .tup [],.tup _=>none
 | .tup (x::f),.tup c=>if f.length+1+c.length<=sizeLine then some (.tup (x::f++c),h) else none
 | d,e=>(fZ d h).bind λf=>(fZ e h).bind λc=>if f.length+c.length<=sizeLine then some (.lv (f++c),h) else none
noncomputable def oN(d e:D)(h:MH):Option (D×MH):=match d,e with
 | .int i,.int j=>some (.int (i-j),h)
 | _,_=>none
noncomputable def oE(i j:Int):Bool:=(decide (-(2^64) < i)&&decide (i < 2^64))||(decide (-(2^64) < j)&&decide (j < 2^64))
def Pw(d e:D)(h:MH):Option (D×MH):=match d,e with
 | .int i,.int j=>if oE i j then some (.int (i*j),h) else none
 | _,_=>none
noncomputable def uY(d e:D)(h:MH):Option (D×MH):=match d,e with
 | .int i,.int j=>if 0 < j then some (.int (i % j),h) else none
 | _,_=>none
noncomputable def zq(d e:D)(h:MH):Option (D×MH):=match d,e with
 | .int i,.int j=>if 0 < j/\j<=10^40 then some (.int (i / j),h) else none
 | _,_=>none
noncomputable def LY(d e:D)(h:MH):Option (D×MH):=match d,e with
 | .int i,.int j=>if 0<=j/\j<=1000000/\i.natAbs < 2^64 then some (.int (i^j.toNat),h) else none
 | _,_=>none
noncomputable def JA(f:Int->Int->Bool)(d e:D)(h:MH):Option (D×MH):=match d,e with
 | .int i,.int j=>some (.bl (f i j),h)
 | _,_=>none
def F5:=JA λi j=>decide (i < j)
def zo:=JA λi j=>decide (i<=j)
def wC:=JA λi j=>decide (j < i)
def Kl:=JA λi j=>decide (j<=i)
def Km(d e:D)(h:MH):Option Bool:=(DQ h d).bind λa=>(DQ h e).bind λb=>if a.depth<=64/\b.depth<=64 then some (PyData.eqv a b) else none
noncomputable def Vd:D->Bool
 | .cu=>true
 | _=>false
def Jg(d e:D)(h:MH):Option (D×MH):=match e with
 | .cu=>some (.bl (Vd d),h)
 | _=>none
noncomputable def yk(d:D)(h:MH):Option (D×MH):=match d with
 | .int i=>some (.int (-i),h)
 | _=>none
def inD(d e:D)(h:MH):Option Bool:=match fG e h with
 | some c=>(sA d).map λk=>(lV c k).isSome
 | none=>match d,e with
  | .str x,.str y=>some (!(Builtin.Str.occurrences y x 0 y.length 1).isEmpty)
  | d,e=>(fF e h).bind λp=>(DQ h d).bind λa=>(kl p.1).bind λbs=>if a.depth<=60/\PyData.depthAll bs<=60 then some (bs.any λb=>PyData.eqv b a) else none
def GH(d e:D)(h:MH):Option (D×MH):=(inD d e h).map λc=>(.bl c,h)
def ir(d e:D)(h:MH):Option (D×MH):=(inD d e h).map λc=>(.bl (!c),h)
def aX(d e:D)(h:MH):Option (D×MH):=match fG d h with
 | some a=>(sA e).bind λk=>(lV a k).map λz=>(z,h)
 | none=>match d,e with
  | .str z,.int i=>if z.length<=sizeLine then(jt z.cps.toList i).map λc=>(.str ⟨#[c]⟩,h) else none
  | d,.int i=>(fF d h).bind λp=>(jt p.1 i).map λz=>(z,h)
  | _,_=>none
def kH{K:FR}{a:Ad}{H:Hp}{x:V}{i:Int}(r:Rep K a H x (.int i)):x=.int i:=by cases r;rfl
def Ci{K:FR}{a:Ad}{H:Hp}{x:V}{i:Str}(r:Rep K a H x (.str i)):x=.str i/\PyData.strOk i=true:=by cases r with | str h=>exact⟨rfl,h⟩
def Hy{K:FR}{b:Ad}{H:Hp}{x:V}{d:List D}(r:Rep K b H x (.tup d)):∃a c,x=.ref a/\TupAt K b H a c/\aH K b H c d:=by cases r with | tup h l=>exact⟨_,_,rfl,h,l⟩
def yS(t:nB X g (rI C q))(w:∀d e h z b,f d e h=some (z,b)->∃i j,d=.int i/\e=.int j/\C i j/\b=h/\∀l H,Rep X.K l H (q i j) z):pz X g f:=by
 intro a s m H x y v u Q I p o hh;obtain⟨l,h,d,e,z,b,S,rd,r,A,k⟩:=hh;obtain⟨i,j,rfl,rfl,c,rfl,n⟩:=w _ _ _ _ _ A;obtain rfl:=kH rd;obtain rfl:=kH r;exact t a s m H _ _ v u Q I p o ⟨i,j,rfl,rfl,c,k _ _ (.here S (n _ _))⟩
def lI(r:nB X g (HL q))(t:∀d e h z b,f d e h=some (z,b)->∃i j,d=.int i/\e=.int j/\b=h/\∀c H,Rep X.K c H (q i j) z):pz X g f:=by
 intro a s l H x y v u Q I o n hh;obtain⟨c,h,d,e,z,b,S,rd,p,w,k⟩:=hh;obtain⟨i,j,rfl,rfl,rfl,m⟩:=t _ _ _ _ _ w;obtain rfl:=kH rd;obtain rfl:=kH p;exact r a s l H _ _ v u Q I o n ⟨i,j,rfl,rfl,k _ _ (.here S (m _ _))⟩
def CA:pz X (binaryOp .Sub) oN:=lI OO λd e h z b a=>by
 cases d <;> first |(exact ck a) | skip
 cases e <;> first |(exact ck a) | skip
 cases a;exact⟨_,_,rfl,rfl,rfl,λ_ _=>.int _⟩
def OL:pz X (binaryOp .Mult) Pw:=yS OR λd e h z b a=>by
 cases d <;> first |(exact ck a) | skip
 cases e <;> first |(exact ck a) | skip
 rename_i i j;unfold Pw at a;dsimp only at a
 by_cases c:oE i j=true
 ·rw[V1 c] at a;cases a;refine⟨i,j,rfl,rfl,?_,rfl,λ_ _=>.int _⟩;unfold oE at c;simp only[X1,Wm,WS] at c;exact c
 ·rw[V4 c] at a;cases a
def uE:pz X (binaryOp .Mod) uY:=yS OS λd e h z b a=>by
 cases d <;> first |(exact ck a) | skip
 cases e <;> first |(exact ck a) | skip
 rename_i i j;unfold uY at a;dsimp only at a
 by_cases c:0 < j
 ·rw[V1 c] at a;cases a;exact⟨i,j,rfl,rfl,c,rfl,λ_ _=>.int _⟩
 ·rw[V4 c] at a;cases a
def CC:pz X (binaryOp .FloorDiv) zq:=yS Iz λd e h z b a=>by
 cases d <;> first |(exact ck a) | skip
 cases e <;> first |(exact ck a) | skip
 rename_i i j;unfold zq at a;dsimp only at a
 by_cases c:0 < j/\j<=10^40
 ·rw[V1 c] at a;cases a;exact⟨i,j,rfl,rfl,c,rfl,λ_ _=>.int _⟩
 ·rw[V4 c] at a;cases a
def Iv:pz X (binaryOp .Pow) LY:=yS OQ λd e h z b a=>by
 cases d <;> first |(exact ck a) | skip
 cases e <;> first |(exact ck a) | skip
 rename_i i j;unfold LY at a;dsimp only at a
 by_cases c:0<=j/\j<=1000000/\i.natAbs < 2^64
 ·rw[V1 c] at a;cases a;exact⟨i,j,rfl,rfl,c,rfl,λ_ _=>.int _⟩
 ·rw[V4 c] at a;cases a
def Ep(a:JA f d e h=some (z,b)):∃i j,d=.int i/\e=.int j/\b=h/\z=.bl (f i j):=by
 cases d <;> first |(exact ck a) | skip
 cases e <;> first |(exact ck a) | skip
 cases a;exact⟨_,_,rfl,rfl,rfl,rfl⟩
def Iy:pz X (compareOp .Lt) F5:=lI RB λd e h z b a=>by
 obtain⟨i,j,rfl,rfl,rfl,rfl⟩:=Ep a;exact⟨i,j,rfl,rfl,rfl,λ_ _=>.bl _⟩
def kT:pz X (compareOp .LtE) zo:=lI RC λd e h z b a=>by
 obtain⟨i,j,rfl,rfl,rfl,rfl⟩:=Ep a;exact⟨i,j,rfl,rfl,rfl,λ_ _=>.bl _⟩
def rD:pz X (compareOp .Gt) wC:=lI RD λd e h z b a=>by
 obtain⟨i,j,rfl,rfl,rfl,rfl⟩:=Ep a;exact⟨i,j,rfl,rfl,rfl,λ_ _=>.bl _⟩
def AF:pz X (compareOp .GtE) Kl:=lI RE λd e h z b a=>by
 obtain⟨i,j,rfl,rfl,rfl,rfl⟩:=Ep a;exact⟨i,j,rfl,rfl,rfl,λ_ _=>.bl _⟩
def BK:Su X (unaryOp .USub) (rU X.K yk):=by
 intro a s c H x v Q I e hh;obtain⟨f,h,d,z,g,S,rd,b,k⟩:=hh;cases rd <;> first |(exact ck b) | skip
 cases b;exact Np a s c H _ v Q I e ⟨_,rfl,k _ _ (.here S (.int _))⟩
def PV(d e:D)(h:MH):Option (D×MH):=(fZ d h).bind λb=>(fZ e h).bind λa=>if b.length+a.length<=sizeLine then some (D.lv (b++a),h) else none
def Tb(d e:D)(h:MH)(p:D×MH):Prop:=(∃i j,d=.int i/\e=.int j)\/(∃a b,d=.str a/\e=.str b)\/(∃x f c,d=.tup (x::f)/\e=.tup c)\/PV d e h=some p
def zO{d e:D}{h:MH}{p:D×MH}(z:PV d e h=some p):Tb d e h p:=.inr (.inr (.inr z))
def Jj{d e:D}{h:MH}{p:D×MH}(c:De d e h=some p):Tb d e h p:=by
 cases d with
 | int i=>cases e with
  | int j=>exact .inl ⟨i,j,rfl,rfl⟩
  | _=>exact zO c
 | str a=>cases e with
  | str b=>exact .inr (.inl ⟨a,b,rfl,rfl⟩)
  | _=>exact zO c
 | tup xs=>cases e with
  | tup f=>cases xs with
   | nil=>exact ck c
   | cons x xs=>exact .inr (.inr (.inl ⟨x,xs,f,rfl,rfl⟩))
  | _=>cases xs <;> exact zO c
 | _=>exact zO c
def ON:pz X (binaryOp .Add) De:=by
 intro f s o H x y v u Q I t r hh;obtain⟨Z,h,d,e,z,O,S,rd,C,g,k⟩:=hh;have n:((fZ d h).bind λm=>(fZ e h).bind λl=>if m.length+l.length<=sizeLine then some (D.lv (m++l),h) else none)=some (z,O)->wpAny (model X.prog X.w) X.A (binaryOp .Add v u) (EP X f o Q) X.xe s:=by
  intro g;obtain⟨m,Y,T⟩:=bq g;obtain⟨l,U,G⟩:=bq T
  by_cases c:m.length+l.length<=sizeLine
  ·rw[V1 c] at G;cases G;obtain⟨a,J,rfl,R,N⟩:=dD S rd Y;obtain⟨b,us,rfl,P,M⟩:=dD S C U;exact IB f s o H _ _ v u Q I t r ⟨a,b,J,us,rfl,rfl,R,P,by rw[N.length,M.length];exact c,λp hp=>k _ _ (.lv S (N.append M) hp)⟩
  ·rw[V4 c] at G;cases G
 rcases(Jj g:(∃i j,d=.int i/\e=.int j)\/(∃a b,d=.str a/\e=.str b)\/(∃x m l,d=.tup (x::m)/\e=.tup l)\/PV d e h=some (z,O)) with⟨i,j,rfl,rfl⟩ |⟨a,b,rfl,rfl⟩ |⟨x0,m,l,rfl,rfl⟩ | z
 ·cases g;obtain rfl:=kH rd;obtain rfl:=kH C;exact OU f s o H _ _ v u Q I t r ⟨_,_,rfl,rfl,k _ _ (.here S (.int _))⟩
 ·unfold De at g;dsimp only at g
  by_cases c:a.length+b.length<=sizeLine
  ·rw[V1 c] at g;cases g;obtain⟨rfl,F⟩:=Ci rd;obtain⟨rfl,L⟩:=Ci C;exact CD f s o H _ _ v u Q I t r ⟨a,b,rfl,rfl,c,k _ _ (.here S (.str (EU F L)))⟩
  ·rw[V4 c] at g;cases g
 ·unfold De at g;dsimp only at g
  by_cases c:m.length+1+l.length<=sizeLine
  ·rw[V1 c] at g;cases g;obtain⟨a,J,rfl,F,q⟩:=Hy rd;obtain⟨b,us,rfl,L,E⟩:=Hy C;refine Lw f s o H _ _ v u Q I t r ⟨a,b,J,us,rfl,rfl,F.sq,L.sq,?_,?_,λz=>?_,λ_ p hp=>k _ _ (.tup S (q.append E) hp)⟩
   ·intro z;rw[z] at q;cases q
   ·rw[q.length,E.length];exact c
   ·rw[z] at E;cases E;rw[WW] at k;exact k _ _ (.here S (.tup F q))
  ·rw[V4 c] at g;cases g
 ·exact n z
def lQ(b:p.canLay0=true)(a:p.depth<=64):SeqAt.shaped p=true:=by
 unfold PySem.SeqAt.shaped;rw[b,WB a];rfl
def KU{K:FR}{a:Ad}{H:Hp}{v:V}{d:D}(r:Rep K a H v d):decide (v=V.cu)=Vd d:=by
 cases r <;> rfl
def OM:pz X (compareOp .Is) Jg:=by
 intro a s c H x y v u Q I g f hh;obtain⟨j,h,d,e,z,l,S,rd,i,b,k⟩:=hh;cases e <;> first |(exact ck b) | skip
 cases b;cases i;refine OT a s c H _ _ v u Q I g f ⟨rfl,?_⟩;rw[KU rd];exact k _ _ (.here S (.bl _))
theorem yb{us:List Value}{a:List PyData}{as:List Addr}(H:ReadsAll h us a as)(c:∀u d as,u∈us->Reads h u d as->d∈a->f u=PyData.eqv d p):us.any f=a.any λb=>PyData.eqv b p:=by
 cases H with
 | nil=>rfl
 | cons r l=>rw[YC,YC,c _ _ _ V3 r V3,yb l λu d as e hr hd=>c u d as (V5 _ e) hr (V5 _ hd)]
open Classical in
noncomputable def Em(h:Heap)(p:PyData)(u:Value):Bool:=if q:∃d as,Reads h u d as/\d.canLay0=true then PyData.eqv q.choose p else false
def qu(r:Reads h u d as)(c:d.canLay0=true):Em h p u=PyData.eqv d p:=by
 have q:∃d as,Reads h u d as/\d.canLay0=true:=⟨d,as,r,c⟩;unfold Em;rw[dif_pos q];obtain⟨e,a,b⟩:=q.choose_spec;rw[PySem.SeqAt.Reads.unique _ _ _ _ _ b a r]
theorem cM:∀{a:List PyData} {d:PyData},PyData.canLayAll0 a=true->d∈a->d.canLay0=true
 | x::r,d,c,m=>by
  simp only[PyData.canLayAll0,Wm] at c;rcases Wh.mp m with rfl | m
  ·exact c.1
  ·exact cM c.2 m
theorem lR:∀{a:List PyData} {d:PyData},d∈a->d.depth<=PyData.depthAll a
 | x::r,d,m=>by
  simp only[PyData.depthAll];rcases Wh.mp m with rfl | m
  ·lia
  ·have:=lR m;lia
theorem lG{us:List Value}{b:List PyData}{as:List Addr}(H:ReadsAll h us b as)(y:Value)(a:y∈us):∃d as,Reads h y d as/\d∈b:=by
 cases H with
 | nil=>cases a
 | cons r l=>
  rcases Wh.mp a with rfl | a
  ·exact⟨_,_,r,V3⟩
  ·obtain⟨d,as,a1,a2⟩:=lG l y a;exact⟨d,as,a1,V5 _ a2⟩
def in_of(hu:X.A.units+64 < cLine)(I:L2.Inv X pins σ H s)(F:L2.RelV x v)(M:L2.RelV y u)(S:bT X.K ρ h H)(rd:Rep X.K ρ H x d)(N:Rep X.K ρ H y e){c:Bool}(o:inD d e h=some c){Q:Bool->Shared->Prop}(q:∀i,L2.Inv X pins σ H i->Q c i):
  wpAny (model X.prog X.w) X.A (compareOp .In v u) (λr i=>∃c,r=.bool c/\Q c i) X.xe s/\wpAny (model X.prog X.w) X.A (compareOp .NotIn v u) (λr i=>∃c,r=.bool (!c)/\Q c i) X.xe s:=by
 unfold inD at o;cases O:fG e h with
 | some kvs=>
  rw[O] at o;obtain⟨k,U,T⟩:=gL o;obtain⟨a,us,rfl,ha,l⟩:=oX S N O;obtain rfl:u=Value.ref a:=M;have ek:=lM rd U;subst ek;have g:wG H a (kV k) (kh us k):=wG.k ha;have ec:(kh us k).isSome=c:=by
   rw[<-T];rcases l.val k with⟨J,G⟩ |⟨d,v,J,G,_⟩
   ·rw[J,G];rfl
   ·rw[J,G];rfl
  refine⟨UP (by lia) I g F λi I'=>⟨c,by rw[ec],q i I'⟩,L5 (by lia) I g F λi I'=>⟨c,by rw[ec],q i I'⟩⟩
 | none=>
  rw[O] at o;dsimp only at o;have z:((fF e h).bind λp=>(DQ h d).bind λa=>(kl p.1).bind λbs=>if a.depth<=60/\PyData.depthAll bs<=60 then some (bs.any λb=>PyData.eqv b a) else none)=some c->
    wpAny (model X.prog X.w) X.A (compareOp .In v u) (λr i=>∃c,r=.bool c/\Q c i) X.xe s/\wpAny (model X.prog X.w) X.A (compareOp .NotIn v u) (λr i=>∃c,r=.bool (!c)/\Q c i) X.xe s:=by
   intro o;obtain⟨⟨xs,ws⟩,U,T⟩:=bq o;obtain⟨p,e3,e4⟩:=bq T;obtain⟨bs,e5,L⟩:=bq e4
   by_cases w:p.depth<=60/\PyData.depthAll bs<=60
   ·rw[V1 w] at L;cases L;obtain⟨a,vs,rfl,n,l⟩:=sM S N U;obtain rfl:u=Value.ref a:=M;obtain⟨r1,c1⟩:=og S rd e3;obtain⟨r2,Y⟩:=l.vN e5;obtain⟨as,ra⟩:=r1.reads I F;have C:∀f:List Value,Vals vs f->(∀y,y∈f->PySem.SeqAt.EqAt X.A.in1 s y v (Em s.heap p y))/\f.any (Em s.heap p)=bs.any λb=>PyData.eqv b p:=by
     intro f rv;obtain⟨bs',rb⟩:=r2.reads I rv;refine⟨λy E=>?_,yb rb λu d as _ hr hd=>qu hr (cM Y hd)⟩;obtain⟨d,Z,hr,hd⟩:=lG rb y E;rw[qu hr (cM Y hd)];refine YK d p _ s y v Z as hr ra (cM Y hd) c1 ?_;have J:=lR hd;have G:min d.depth p.depth<=d.depth:=Yh _ _;show X.A.units+1+min d.depth p.depth < cLine;have h3:=w.2
     lia
    rcases n with n | n
    ·obtain⟨f,rv,pl,_⟩:=I.list n;obtain⟨R,P⟩:=C f rv;have m:∀y,y∈f.toArray->PySem.SeqAt.EqAt X.A.in1 s y v (Em s.heap p y):=λy E=>R y (by simpa using E);have j:f.toArray.any (Em s.heap p)=bs.any λb=>PyData.eqv b p:=by rw[<-P];simp
     exact⟨PySem.SeqAt.in_listAt _ pl.isList m ⟨_,rfl,by rw[j];exact q s I⟩,PySem.SeqAt.notIn_listAt _ pl.isList m ⟨_,rfl,by rw[j];exact q s I⟩⟩
    ·obtain⟨f,rv,pl,_⟩:=I.tuple n;obtain⟨R,P⟩:=C f rv;have m:∀y,y∈f.toArray->PySem.SeqAt.EqAt X.A.in1 s y v (Em s.heap p y):=λy E=>R y (by simpa using E);have j:f.toArray.any (Em s.heap p)=bs.any λb=>PyData.eqv b p:=by rw[<-P];simp
     exact⟨PySem.SeqAt.in_tupleAt _ pl m ⟨_,rfl,by rw[j];exact q s I⟩,PySem.SeqAt.notIn_tupleAt _ pl m ⟨_,rfl,by rw[j];exact q s I⟩⟩
   ·rw[V4 w] at L;cases L
  split at o
  ·cases o;cases rd;cases N;obtain⟨t,rfl⟩:=F;obtain⟨t',rfl⟩:=M;exact⟨in_str ⟨_,rfl,q s I⟩,notIn_str ⟨_,rfl,q s I⟩⟩
  ·exact z o
def MN(n:X.A.units+64 < cLine):pz X (compareOp .In) GH:=by
 intro a s i H x y v u Q I l j hh;obtain⟨t,h,d,e,z,w,S,rd,m,o,k⟩:=hh;obtain⟨c,q,p⟩:=gL o;cases p;refine cx (in_of n I l j S rd m q (Q:=λg b=>g=c/\L2.Inv X a i H b) λb f=>⟨rfl,f⟩).1 λr b u9=>?_;obtain⟨g,hr,hc,f⟩:=u9;subst hr;subst hc;exact⟨.bl _,H,f,rfl,k _ _ (.here S (.bl _))⟩
def Iw(n:X.A.units+64 < cLine):pz X (compareOp .NotIn) ir:=by
 intro a s i H x y v u Q I l j hh;obtain⟨t,h,d,e,z,w,S,rd,m,o,k⟩:=hh;obtain⟨c,q,p⟩:=gL o;cases p;refine cx (in_of n I l j S rd m q (Q:=λg b=>g=c/\L2.Inv X a i H b) λb f=>⟨rfl,f⟩).2 λr b u9=>?_;obtain⟨g,hr,hc,f⟩:=u9;subst hr;subst hc;exact⟨.bl _,H,f,rfl,k _ _ (.here S (.bl _))⟩
def Mk{K:FR}{a:Ad}{H:Hp}{b:List V}{c:List D}{i:Int}{d:D}(l:aH K a H b c)(e:jt c i=some d):∃v,jt b i=some v/\Rep K a H v d:=by
 unfold jt at e;obtain⟨j,h,g⟩:=bq e;obtain⟨v,f,r⟩:=l.got g;exact⟨v,by unfold jt;rw[l.length,h];exact f,r⟩
def F6{d e z:D}{h o:MH}(a:aX d e h=some (z,o)):o=h/\((∃b k,fG d h=some b/\sA e=some k/\lV b k=some z)\/(∃x i c,d=.str x/\e=.int i/\x.length<=sizeLine/\jt x.cps.toList i=some c/\z=.str ⟨#[c]⟩)\/∃i j l,e=.int i/\fF d h=some (j,l)/\jt j i=some z):=by
 unfold aX at a
 split at a
 ·obtain⟨q,n,m⟩:=bq a;obtain⟨p,g,f⟩:=gL m;cases f;exact⟨rfl,.inl ⟨_,q,‹_›,n,g⟩⟩
 ·split at a
  ·split at a
   ·obtain⟨c,g,f⟩:=gL a;cases f;exact⟨rfl,.inr (.inl ⟨_,_,c,rfl,rfl,‹_›,g,rfl⟩)⟩
   ·cases a
  ·obtain⟨⟨j,l⟩,n,m⟩:=bq a;obtain⟨p,g,f⟩:=gL m;cases f;exact⟨rfl,.inr (.inr ⟨_,j,l,rfl,n,g⟩)⟩
  ·cases a
def RN(hu:X.A.units+64 < cLine):SY X (rS X.K aX):=by
 intro b f j s q H x y v u Q I p o hh hs;obtain⟨Z,h,d,e,z,h',S,rd,C,U,k⟩:=hh;obtain⟨rfl,hc⟩:=F6 U;rcases hc with⟨P,L,O,G,n⟩ |⟨x0,i,ch,rfl,rfl,c,n,rfl⟩ |⟨i,xs,ws,rfl,G,n⟩
 ·obtain⟨a,us,rfl,R,l⟩:=oX S rd O;obtain rfl:v=Value.ref a:=p;have T:=lM C G;subst T;rcases l.val L with⟨F,M⟩ |⟨d',w,F,M,r⟩
  ·rw[F] at n;cases n
  ·rw[F] at n;cases n;have g:wG H a (kV L) (some w):=by rw[<-M];exact wG.k R
   exact tail_any (Bj I g) Z2.lookup (Gb (by lia) I g o λw' s3 Y t=>⟨w,H,Y,t,k _ _ (.here S r)⟩) hs
 ·obtain⟨rfl,E⟩:=Ci rd;obtain rfl:=kH C;exact Pe b f j s q H _ _ v u Q I p o ⟨x0,i,ch,rfl,rfl,c,n,k _ _ (.here S (.str (ET E n)))⟩ hs
 ·obtain⟨a,J,rfl,m,l⟩:=sM S rd G;obtain⟨w,N,r⟩:=Mk l n;obtain rfl:=kH C;rcases m with m | m
  ·exact LJ b f j s q H _ _ v u Q I p o ⟨a,J,i,w,rfl,rfl,m,N,k _ _ (.here S r)⟩ hs
  ·exact Pd b f j s q H _ _ v u Q I p o ⟨a,J,i,w,rfl,rfl,m,N,k _ _ (.here S r)⟩ hs
def Q8(e:X.A.units+64 < cLine)(g:SE X a d)(f:SE X b c)(hs:pv b:=by unfold pv;intro _ _;ac_nf):SE X (.Subscript a b pos) (au aX d c):=(Rx (RN e) g f hs).imp λ_ _ _=>DN
abbrev PM:=DS->MH->Option (Option Int×MH)
noncomputable def Cy:PM:=λ_ h=>some (none,h)
noncomputable def Cz(e:EM):PM:=λa h=>(e a h).bind λp=>match p.1 with
 | .int i=>some (some i,p.2)
 | _=>none
inductive SD(K:FR)(m:PM)(σ:L2.St)(H:Hp)(Q:Option Int->Hp->Prop):Prop where
 | mk (ρ δ h b h'):cB K ρ H σ δ->bT K ρ h H->(m δ h=some (b,h'))->(∀ρ' H',dG ρ H ρ' H'->bT K ρ' h' H'->Q b H')->SD K m σ H Q
noncomputable def Vy(K:FR)(m:PM):TO:=λa H Q=>SD K m a H Q
def SP'(X:Cx)(e:Option Expr)(m:PM):Prop:=PO X e (Vy X.K m)
def DK:SP' X none Cy:=λa s c H Q I hh=>by
 obtain⟨d,f,h,b,g,R,S,e,k⟩:=hh;cases e;exact Lg a s c H Q I (k d H (.refl _ _) S)
def DJ(l:SE X e j):SP' X (some e) (Cz j):=λa s f H Q I hh=>by
 obtain⟨g,i,h,b,q,R,S,e,k⟩:=hh;obtain⟨⟨x,p⟩,m,d⟩:=bq e;cases x <;> first |(cases d;done) | skip
 cases d;refine Lf l a s f H Q I ⟨g,i,h,_,_,R,S,m,λv o u9=>?_⟩;obtain⟨c,T,n,r⟩:=u9;cases r;exact⟨_,rfl,k c o T n⟩
noncomputable def cutD(a:List D)(b c:Option Int):List D:=(a.drop (HT.de a.length 0 b)).take (HT.de a.length a.length c-HT.de a.length 0 b)
def RY(d:D)(a b:Option Int)(h:MH):Option (D×MH):=match d with
 | .str z=>if z.length<=sizeLine then some (.str (Txt.slice z a b),h) else none
 | .tup xs=>if HT.de xs.length 0 a=0/\HT.de xs.length xs.length b=xs.length then none else some (.tup (cutD xs a b),h)
 | d=>(fF d h).map λp=>(.lv (cutD p.1 a b),h)
inductive SU(K:FR)(x:V)(lo hi:Option Int)(H:Hp)(Q:VK):Prop where
 | mk (ρ h d z h'):bT K ρ h H->Rep K ρ H x d->(RY d lo hi h=some (z,h'))->(∀v H',dB K ρ H h' z v H'->Q v H')->SU K x lo hi H Q
def VC(K:FR):V->Option Int->Option Int->Hp->VK->Prop:=λx a b H Q=>SU K x a b H Q
theorem aH.vg{K:FR}{a:Ad}{H:Hp}{b:List V}{e:List D}(l:aH K a H b e)(c d:Option Int):aH K a H (L2.vg b c d) (cutD e c d):=by
 unfold L2.vg cutD;rw[l.length];exact(l.drop _).take _
def MB:Qj X (VC X.K):=by
 intro b s m H x v r o f i n Q I t hs pl u hh;obtain⟨N,h,d,z,L,S,rd,e,k⟩:=hh;have g:CZ d=true->((fF d h).map λp=>(D.lv (cutD p.1 f i),h))=some (z,L)->∃T J,typeLookup (.type T) "__getitem__"=pure (some (.builtin J))/\s.TypeIs v T/\wpAny (model X.prog X.w) X.A (getItem v (.ref n)) (EP X b m Q) X.xe s:=by
  intro G C;obtain⟨⟨j,O⟩,M,C⟩:=gL C;cases C;obtain⟨a,rfl,⟨F,q,l⟩,_⟩:=tQ S rd M;rw[G] at q;cases q with
  | l q=>exact KH b s m H _ v r o f i n Q I t hs pl u ⟨a,F,rfl,q,λp hp=>k _ _ (.lv S (l.vg f i) hp)⟩
 cases d with
 | str x0=>
  unfold RY at e;dsimp only at e
  by_cases c:x0.length<=sizeLine
  ·rw[V1 c] at e;cases e;cases rd with | str y=>
   exact NK b s m H _ v r o f i n Q I t hs pl u ⟨x0,rfl,c,k _ _ (.here S (.str (z3 _ _ y)))⟩
  ·rw[V4 c] at e;cases e
 | tup j=>
  unfold RY at e;dsimp only at e
  by_cases c:HT.de j.length 0 f=0/\HT.de j.length j.length i=j.length
  ·rw[V1 c] at e;cases e
  ·rw[V4 c] at e;cases e;cases rd with | tup h0 E=>
   exact NJ b s m H _ v r o f i n Q I t hs pl u ⟨_,_,rfl,h0.sq,by rw[E.length];exact c,λp hp=>k _ _ (.tup S (E.vg f i) hp)⟩
 | _=>exact g rfl e
def Ht{x:Str}{j:String}{p a:Pos}{e:Expr}{b:List Expr}{f:Fn}{m:AM}(hc:gM X (.builtin j) f)(t:Gl X x)(hm:X.mg x=none)(s:bootBuiltins x=some (.builtin j))(u:SA X (e::b) m)(hn:x≠"__name__":=by decide)(i:(x==("__debug__":Str))=false:=by ac_nf)
  (he:starEach (e::b) X.env=(false,eval e X.env)::starEach b X.env:=by ac_nf) (g:(backTo a (starEach b X.env)).any (·.1)=false:=by ac_nf):SE X (.Call (.Name x p) (e::b) [] a) (ar f m):=
 (uy hc t hm s u hn i he g).imp λσ H Q u9=>by
  obtain⟨o,q,h,d,w,R,S,e,k⟩:=u9;obtain⟨⟨n,l⟩,z,y⟩:=bq e;exact⟨o,q,h,n,l,R,S,z,λF c G A C r=>⟨c,l,n,d,w,C,r,y,λv E P=>k v E (P.step A)⟩⟩
def Hr{x:Str}{j:String}{p a:Pos}{e:Expr}{b:List Expr}{f:Fn}{m:AM}(hc:gM X (.type j) f)(t:Gl X x)(hm:X.mg x=none)(s:bootBuiltins x=some (.type j))(u:SA X (e::b) m)(hn:x≠"__name__":=by decide)(i:(x==("__debug__":Str))=false:=by ac_nf)
  (he:starEach (e::b) X.env=(false,eval e X.env)::starEach b X.env:=by ac_nf) (g:(backTo a (starEach b X.env)).any (·.1)=false:=by ac_nf):SE X (.Call (.Name x p) (e::b) [] a) (ar f m):=
 (qe hc t hm s u hn i he g).imp λσ H Q u9=>by
  obtain⟨o,q,h,d,w,R,S,e,k⟩:=u9;obtain⟨⟨n,l⟩,z,y⟩:=bq e;exact⟨o,q,h,n,l,R,S,z,λF c G A C r=>⟨c,l,n,d,w,C,r,y,λv E P=>k v E (P.step A)⟩⟩
def bG:Fn:=λb h=>match b with
 | [.str z]=>if z.length<=sizeLine then some (.int z.length,h) else none
 | [d]=>match fG d h with
  | some a=>some (.int a.length,h)
  | none=>(fF d h).map λp=>(.int p.1.length,h)
 | _=>none
noncomputable def Px:Fn:=λa h=>match a with
 | [.int i]=>some (.int (if i < 0 then -i else i),h)
 | _=>none
noncomputable def Td(d:D)(h:MH):Option String:=match d with
 | .cu=>some "NoneType"
 | .bl _=>some "bool"
 | .int _=>some "int"
 | .str _=>some "str"
 | .tup _=>some "tuple"
 | .lv _=>some "list"
 | .dv _=>some "dict"
 | .ob n=>match h[n]? with
  | some (.lst _)=>some "list"
  | some (.dct _)=>some "dict"
  | _=>none
 | _=>none
noncomputable def DI(t n:String):Bool:=t==n||(t=="bool"&&n=="int")
def ni:Fn:=λa h=>match a with
 | [d,.ty n]=>if n∈["int","str","bool","tuple","list","dict"] then(Td d h).map λt=>(.bl (DI t n),h) else none
 | _=>none
def dU:Fn:=λa h=>match a with
 | [d]=>(fF d h).map λp=>(.tup p.1,h)
 | _=>none
noncomputable def Gr:List D->Option (List Bool)
 | []=>some []
 | .bl b::r=>(Gr r).map λbs=>b::bs
 | _=>none
def wD:Fn:=λb h=>match b with
 | [d]=>(fZ d h).bind λa=>(Gr a).map λbs=>(.bl (bs.all id),h)
 | _=>none
def rep1{K:FR}{a:Ad}{H:Hp}{b:List V}{d:D}(l:aH K a H b [d]):∃v,b=[v]/\Rep K a H v d:=by
 cases l with
 | cons r l=>cases l;exact⟨_,rfl,r⟩
def rep2{K:FR}{a:Ad}{H:Hp}{b:List V}{d e:D}(l:aH K a H b [d,e]):∃v u,b=[v,u]/\Rep K a H v d/\Rep K a H u e:=by
 cases l with
 | cons r l=>cases l with
  | cons c l=>cases l;exact⟨_,_,rfl,r,c⟩
def nu:gM X (.builtin "len") bG:=by
 intro e s g H G us Q I r hh;obtain⟨E,h,C,z,u,S,l,b,k⟩:=hh
 match C,l,b with
 | [],_,b=>cases b
 | _::_::_,_,b=>exact absurd b (by unfold bG;split <;> simp_all)
 | [d],l,b=>
  obtain⟨v,rfl,rd⟩:=rep1 l;have i:(match fG d h with | some f=>some (D.int f.length,h) | none=>(fF d h).map λp=>(D.int p.1.length,h))=some (z,u)->wpAny (model X.prog X.w) X.A (call (.builtin "len") us) (EP X e g Q) X.xe s:=by
   intro b;cases q:fG d h with
   | some f=>
    rw[q] at b;cases b;obtain⟨a,j,rfl,t,lk⟩:=oX S rd q;refine Gn e s g H _ us Q I r ⟨a,j,rfl,t,k _ _ ?_⟩;rw[lk.length];exact .here S (.int _)
   | none=>
    rw[q] at b;obtain⟨⟨F,w⟩,y,x⟩:=gL b;cases x;obtain⟨a,m,rfl,o,n⟩:=sM S rd y;refine zC e s g H _ us Q I r ⟨a,m,rfl,o,k _ _ ?_⟩;rw[n.length];exact .here S (.int _)
  cases d with
  | str x0=>
   unfold bG at b;dsimp only at b
   by_cases c:x0.length<=sizeLine
   ·rw[V1 c] at b;cases b;cases rd;exact zB e s g H _ us Q I r ⟨x0,rfl,c,k _ _ (.here S (.int _))⟩
   ·rw[V4 c] at b;cases b
  | _=>exact i b
def PQ:gM X (.builtin "abs") Px:=by
 intro b s c H g us Q I r hh;obtain⟨f,h,e,z,i,S,l,a,k⟩:=hh
 match e,l,a with
 | [],_,a=>cases a
 | d::_::_,_,a=>cases d <;> exact ck a
 | [d],l,a=>
  obtain⟨v,rfl,rd⟩:=rep1 l;cases rd <;> first |(exact ck a) | skip
  cases a;exact JK b s c H _ us Q I r ⟨_,rfl,k _ _ (.here S (.int _))⟩
def jm:gM X (.type "tuple") dU:=by
 intro e s g H y us Q I r hh;obtain⟨u,h,o,z,A,S,l,c,k⟩:=hh
 match o,l,c with
 | [],_,c=>cases c
 | _::_::_,_,c=>cases c
 | [d],l,c=>
  obtain⟨v,rfl,rd⟩:=rep1 l;obtain⟨⟨x,w⟩,f,n⟩:=gL c;cases n;obtain⟨a,rfl,⟨i,q,j⟩,_⟩:=tQ S rd f;refine wF e s g H _ us Q I r ⟨a,i,rfl,?_⟩;generalize m:CZ d=b at q;cases q with
  | l q=>exact .inl ⟨q,λp hp=>k _ _ (.tup S j hp)⟩
  | t q=>
   refine .inr ⟨q,k _ _ ?_⟩;cases rd <;> first |(cases m;done) | skip
   cases f;exact .here S (.tup ‹_› ‹_›)
def P7{K:FR}{d:Ad}{H:Hp}:∀{b:List V} {c:List D} {bs:List Bool},aH K d H b c->Gr c=some bs->b=bs.map V.bl:=by
 intro b
 induction b with
 | nil=>intro c bs a e;cases a;cases e;rfl
 | cons v b f=>
  intro c bs a e;cases a with | cons r l=>
  cases r <;> first |(cases e;done) | skip
  obtain⟨i,h,g⟩:=gL e;cases g;rw[f l h];rfl
def qz(hc:X.calm=true):gM X (.builtin "all") wD:=by
 intro c s f H t us Q I r hh;obtain⟨p,h,o,z,w,S,l,b,k⟩:=hh
 match o,l,b with
 | [],_,b=>cases b
 | _::_::_,_,b=>cases b
 | [d],l,b=>
  obtain⟨v,rfl,rd⟩:=rep1 l;obtain⟨q,n,m⟩:=bq b;obtain⟨bs,j,i⟩:=gL m;cases i;obtain⟨a,u,rfl,e,g⟩:=dD S rd n;rw[P7 g j] at e;exact JJ hc c s f H _ us Q I r ⟨a,bs,rfl,gU.of e,k _ _ (.here S (.bl _))⟩
def Ea{K:FR}{t n:String}(ht:t∈["NoneType","bool","int","str","tuple","list","dict"])(hn:n∈["int","str","bool","tuple","list","dict"]):PySem.W.kitOne K (.type t) (.type n)=some (DI t n):=by
 simp only[Wh,List.mem_nil_iff,or_false] at ht hn;rcases ht with rfl | rfl | rfl | rfl | rfl | rfl | rfl <;> rcases hn with rfl | rfl | rfl | rfl | rfl | rfl <;> rfl
def Dd{c:List D}{z:D}{h b:MH}(a:ni c h=some (z,b)):∃d n t,c=[d,.ty n]/\n∈["int","str","bool","tuple","list","dict"]/\Td d h=some t/\z=.bl (DI t n)/\b=h:=by
 unfold ni at a
 split at a
 ·split at a
  ·obtain⟨t,f,e⟩:=gL a;cases e;exact⟨_,_,t,rfl,‹_›,f,rfl,rfl⟩
  ·cases a
 ·cases a
def Nq{K:FR}{g:Ad}{H:Hp}{h:MH}{v:V}{d:D}{t:String}(S:bT K g h H)(rd:Rep K g H v d)(c:Td d h=some t):t∈["NoneType","bool","int","str","tuple","list","dict"]/\(o6 K H v (.type t)\/t="tuple"/\∃a e,v=.ref a/\lj K H a e):=by
 cases rd with
 | cu=>cases c;exact⟨by decide,.inl .cu⟩
 | bl b=>cases c;exact⟨by decide,.inl (.bl b)⟩
 | int i=>cases c;exact⟨by decide,.inl (.int i)⟩
 | str h0=>cases c;exact⟨by decide,.inl (.str _)⟩
 | ty _=>exact ck c
 | ro _ _=>exact ck c
 | lv h0 _ _=>cases c;exact⟨by decide,.inl (.lst h0)⟩
 | dv h0 _ _=>cases c;exact⟨by decide,.inl (.dK h0)⟩
 | tup h0 j=>cases c;exact⟨by decide,.inr ⟨rfl,_,_,rfl,h0.sq⟩⟩
 | @ob a m hm=>
  unfold Td at c;dsimp only at c;cases q:h[m]? with
  | none=>rw[q] at c;cases c
  | some o=>
   rw[q] at c;have x:=S.at_ m a o hm q;cases o with
   | lst _=>cases c;obtain⟨e,f,_⟩:=x;exact⟨by decide,.inl (.lst f)⟩
   | dct _=>cases c;obtain⟨e,f,_⟩:=x;exact⟨by decide,.inl (.dK f)⟩
   | dcH _=>exact ck c
   | exc _=>exact ck c
def gI:gM X (.builtin "isinstance") ni:=by
 intro b s f H E us Q I r hh;obtain⟨C,h,J,z,G,S,l,y,k⟩:=hh;obtain⟨d,n,t,rfl,hn,A,rfl,rfl⟩:=Dd y;obtain⟨v,u,rfl,rd,i⟩:=rep2 l;cases i;have c:=k (.bl (DI t n)) H (.here S (.bl _));obtain⟨hm,e |⟨rfl,a,F,rfl,q⟩⟩:=Nq S rd A
 ·exact JI b s f H _ us Q I r ⟨v,n,_,_,rfl,e,Ea hm hn,c⟩
 ·obtain⟨u1,u2,rfl,m,j⟩:=Vals.two r;obtain rfl:u1=Value.ref a:=m;obtain rfl:u2=Value.type n:=j;obtain⟨p,_,⟨o,x,w,_⟩,_⟩:=I.tuple q;exact W6 PySem.W.kitx_tuple I.rK ⟨o,x,w⟩ (Ea (t:="tuple") (by decide) hn) (λz=>nomatch z) λg=>⟨.bl _,H,I.tok g,rfl,c⟩
def EC(m:AM):AM:=λa h=>(m a h).bind λp=>match p.1 with
 | [d]=>(fF d p.2).map λq=>(q.1,p.2)
 | _=>none
def DL(y:Gl X x)(hm:X.mg x=none)(t:bootBuiltins x=some (.type "list"))(A:SA X [e] m)(hl:lz m 1)(hn:x≠"__name__":=by decide)(f:(x==("__debug__":Str))=false:=by ac_nf)(z:starEach [e] X.env=(false,eval e X.env)::starEach [] X.env:=by ac_nf)(c:(backTo pos (starEach [] X.env)).any (·.1)=false:=by ac_nf):tw X (.Call (.Name x p) [e] [] pos) (EC m):=
 (qe zA y hm t A hn f z c).imp λM H Q q=>by
  obtain⟨n,o,h,d,P,R,S,e,k⟩:=q;obtain⟨⟨I,C⟩,i,G⟩:=bq e;refine⟨n,o,h,I,C,R,S,i,λO b L J j r=>?_⟩;obtain⟨d,rfl⟩:=Yc.mp (hl _ _ _ _ i);obtain⟨⟨N,w⟩,F,E⟩:=gL G;cases E;obtain⟨v,rfl,rd⟩:=rep1 r;obtain⟨a,g,rfl,u,s⟩:=sM j rd F;exact⟨a,g,rfl,u,λl hl=>k b L l g J j hl s⟩
def wB(o i v:D)(h:MH):Option MH:=match o with
 | .ob n=>match h[n]? with
  | some (.lst xs)=>match i with
   | .int j=>(zg xs.length j).map λp=>h.set n (.lst (xs.set p v))
   | _=>none
  | some (.dct a)=>(sA i).bind λk=>if a.length < sizeLine then some (h.set n (.dct (putD a k v))) else none
  | _=>none
 | _=>none
def wA(o i:EM):GM:=λv a h=>(o a h).bind λp=>(i a p.2).bind λq=>(wB p.1 q.1 v q.2).map λb=>(a,b)
inductive M8(K:FR)(o i v:V)(H:Hp)(Q:Hp->Prop):Prop where
 | mk (ρ h a b c h'):bT K ρ h H->Rep K ρ H o a->Rep K ρ H i b->Rep K ρ H v c->(wB a b c h=some h')->(∀ρ' H',dG ρ H ρ' H'->bT K ρ' h' H'->Q H')->M8 K o i v H Q
def Ur(K:FR):V->V->V->Hp->(Hp->Prop)->Prop:=λo i v H Q=>M8 K o i v H Q
def Lc(Y:X.A.units+64 < cLine):Qo X (Ur X.K):=by
 intro g s L H o i v G O u Q I ro C rv hh;obtain⟨e,h,a,b,c,Z,S,M,F,E,d,k⟩:=hh;cases M <;> first |(exact ck d) | skip
 rename_i a n hn;unfold wB at d;dsimp only at d;cases q:h[n]? with
 | none=>rw[q] at d;cases d
 | some w=>
  rw[q] at d;have x:=S.at_ n a w hn q;have J:=VX hn;cases w with
  | lst xs=>
   dsimp only at d;cases F <;> first |(exact ck d) | skip
   rename_i j;obtain⟨p,t,f⟩:=gL d;cases f;obtain⟨y,r,l⟩:=x;have T:dG e H e (upd H a (.lst (y.set p v))):=dG.wrote S J;exact set_list g s L H _ _ v G O u Q I ro C rv ⟨a,y,j,p,rfl,rfl,r,by rw[l.length];exact t,k e _ T (S.wrote hn ⟨_,aP,(l.set E p).mono T.toCh⟩)⟩
  | dct m=>
   dsimp only at d;obtain⟨N,t,f⟩:=bq d
   by_cases z:m.length < sizeLine
   ·rw[V1 z] at f;cases f;obtain⟨us,r,l⟩:=x;have P:=lM F t;subst P;obtain rfl:G=Value.ref a:=ro;have T:dG e H e (upd H a (.dK (putK us N v))):=dG.wrote S J;exact Ga (by lia) I (Mt.k r (by rw[l.length];exact z)) C rv λU R=>⟨_,R,k e _ T (S.wrote hn ⟨_,aP,(l.put E).mono T.toCh⟩)⟩
   ·rw[V4 z] at f;cases f
  | dcH _=>exact ck d
  | exc _=>exact ck d
def pO (C:X.A.units+64 < cLine) (E:SE X o mo) (F:SE X i z) (G:∀v,assign (.Subscript o i pos) X.env v=(do
   let a<-holding [v] (eval o X.env);let b<-holding [v,a] (eval i X.env)
   standAt pos
   holding [v,a,b] (setItem a b v)
   release [v,a,b] []):=by intro _;ac_nf):SG X (.Subscript o i pos) (wA mo z):=
 (Oy E F (Lc C) G).imp λv σ H Q u9=>by
  obtain⟨s,m,h,d,t,Z,R,S,r,e,k⟩:=u9;obtain⟨⟨x,p⟩,O,N⟩:=bq e;obtain⟨⟨y,n⟩,M,L⟩:=bq N;obtain⟨h3,J,I⟩:=gL L;cases I;exact⟨s,m,h,x,p,R,S,O,λa H1 ⟨l,f,U,w⟩=>⟨l,m,p,y,n,R.mono f,U,M,λb H2 ⟨j,c,T,u⟩=>
   ⟨j,n,x,y,d,_,T,w.mono c,u,r.mono (f.trans c).toCh,J,λg Y q P=>k g Y σ (f.trans (c.trans q)) P (R.mono (f.trans (c.trans q)).toCh)⟩⟩⟩
abbrev Mr:=D->List D->MH->Option (D×MH)
inductive Vl(K:FR)(f:Mr)(x:V)(vs:List V)(H:Hp)(Q:VK):Prop where
 | mk (ρ h d ds z h'):bT K ρ h H->Rep K ρ H x d->aH K ρ H vs ds->(f d ds h=some (z,h'))->(∀v H',dB K ρ H h' z v H'->Q v H')->Vl K f x vs H Q
def rM(K:FR)(f:Mr):V->List V->Hp->VK->Prop:=λx a H Q=>Vl K f x a H Q
noncomputable def eM(a:D->MH->Bool)(f:Mr)(o:EM)(m:AM):EM:=λb h=>(o b h).bind λp=>if a p.1 p.2 then(m b p.2).bind λq=>f p.1 q.1 q.2 else none
def fU(d:D)(h:MH):Bool:=(fZ d h).isSome
noncomputable def gQ:Mr:=λd a h=>match d,a with
 | .ob n,[y]=>match h[n]? with
  | some (.lst xs)=>if xs.length < sizeLine then some (.cu,h.set n (.lst (xs++[y]))) else none
  | _=>none
 | _,_=>none
def lJ:Mr:=λd b h=>match d,b with
 | .ob n,[y]=>match h[n]? with
  | some (.lst xs)=>(fZ y h).bind λa=>if xs.length+a.length<=sizeLine then some (.cu,h.set n (.lst (xs++a))) else none
  | _=>none
 | _,_=>none
def kr{K:FR}{b:Ad}{H:Hp}{h:MH}{v:V}{d:D}(S:bT K b h H)(r:Rep K b H v d)(e:fU d h=true):Tc K "list" v H:=by
 obtain⟨i,g⟩:=YB.mp e;obtain⟨a,c,rfl,f,_⟩:=dD S r g;exact .inl ⟨rfl,c,gU.of f⟩
def BZ{T u:String}{name:Str}{o e:Expr}{l:List Expr}{g a:Pos}{f:Mr}{E:EM}{m:AM}{isT:D->MH->Bool}(U:∀{K:FR} {r:Ad} {H:Hp} {h:MH} {v:V} {d:D},bT K r h H->Rep K r H v d->isT d h=true->Tc K T v H)
  (N:PlainAttrs T) (slot:Slot T name u) (y:typeOf (.builtin u)=pure (.type "method_descriptor")) (hm:Qw X u (rM X.K f)) (O:SE X o E) (P:SA X (e::l) m)
  (j:attributeBase o name X.env (eval o X.env)=eval o X.env:=by ac_nf)
  (n:((backTo a (starEach (e::l) X.env)).all (λx=>!x.1)&&(backToKw a (keywordEach [] X.env)).all (λx=>x.1.isSome)
   &&decide ((e::l).length+([]:List Keyword).length+(if([]:List Keyword).isEmpty then 0 else 1) < 30))=true:=by ac_nf)
  (i:(g.endLine==a.line)=true:=by ac_nf) (hs:starEach (e::l) X.env=(false,eval e X.env)::starEach l X.env:=by ac_nf) (b:(backTo a (starEach l X.env)).any (·.1)=false:=by ac_nf):
  SE X (.Call (.Attribute o name g) (e::l) [] a) (eM isT f E m):=(Ry N slot y hm O P j n i hs b).imp λσ H Q u9=>by
 obtain⟨r,A,h,d,Y,R,S,e,k⟩:=u9;obtain⟨⟨x,z⟩,e1,q⟩:=bq e;dsimp only at q
 by_cases c:isT x z=true
 ·rw[V1 c] at q;obtain⟨⟨G,F⟩,e3,Z⟩:=bq q;exact⟨r,A,h,x,z,R,S,e1,λv H1 ⟨t,J,L,C⟩=>⟨U L C c,t,A,z,G,F,R.mono J,L,e3,λvs s H2 I S2 M=>⟨s,F,x,G,d,Y,S2,C.mono I,M,Z,λw H3 p=>k w H3 (p.step (J.trans I))⟩⟩⟩
 ·rw[V4 c] at q;cases q
def ID{K:FR}{b:Ad}{H:Hp}{h:MH}{n:Nat}{d:List D}{v:V}(S:bT K b h H)(r:Rep K b H v (.ob n))(q:h[n]?=some (.lst d)):∃a c,v=.ref a/\b.ob[n]?=some a/\H a=some (.lst c)/\aH K b H c d:=by
 cases r with
 | ob hn=>obtain⟨c,e,l⟩:=S.at_ n _ _ hn q;exact⟨_,c,rfl,hn,e,l⟩
def qm:Qw X "list.append" (rM X.K gQ):=by
 intro e s j H x A v us Q I o rs hh;obtain⟨f,h,d,t,z,C,S,rd,l,b,k⟩:=hh;cases d <;> first |(exact ck b) | skip
 rename_i n
 match t,l,b with
 | [],_,b=>exact ck b
 | _::_::_,_,b=>exact ck b
 | [y],l,b=>
  unfold gQ at b;dsimp only at b;cases q:h[n]? with
  | none=>rw[q] at b;cases b
  | some w=>
   rw[q] at b;cases w with
   | dct _=>exact ck b
   | dcH _=>exact ck b
   | exc _=>exact ck b
   | lst m=>
    dsimp only at b
    by_cases c:m.length < sizeLine
    ·rw[V1 c] at b;cases b;obtain⟨a,g,rfl,hn,r,i⟩:=ID S rd q;obtain⟨u,rfl,p⟩:=rep1 l;have T:dG f H f (upd H a (.lst (g++[u]))):=dG.wrote S (VX hn);exact qk e s j H _ _ v us Q I o rs ⟨a,g,u,rfl,rfl,r,by rw[i.length];exact c,k _ _ ⟨f,T,S.wrote hn ⟨_,aP,(i.snoc p).mono T.toCh⟩,.cu⟩⟩
    ·rw[V4 c] at b;cases b
def xA:Qw X "list.extend" (rM X.K lJ):=by
 intro f s r H x M v us Q I C rs hh;obtain⟨i,h,d,L,z,N,S,rd,l,e,k⟩:=hh;cases d <;> first |(exact ck e) | skip
 rename_i n
 match L,l,e with
 | [],_,e=>exact ck e
 | _::_::_,_,e=>exact ck e
 | [y],l,e=>
  unfold lJ at e;dsimp only at e;cases q:h[n]? with
  | none=>rw[q] at e;cases e
  | some w=>
   rw[q] at e;cases w with
   | dct _=>exact ck e
   | dcH _=>exact ck e
   | exc _=>exact ck e
   | lst A=>
    dsimp only at e;obtain⟨t,G,g⟩:=bq e
    by_cases c:A.length+t.length<=sizeLine
    ·rw[V1 c] at g;cases g;obtain⟨a,m,rfl,hn,J,p⟩:=ID S rd q;obtain⟨u,rfl,E⟩:=rep1 l;obtain⟨b,j,rfl,F,o⟩:=dD S E G;have T:dG i H i (upd H a (.lst (m++j))):=dG.wrote S (VX hn);exact Fx f s r H _ _ v us Q I C rs ⟨a,b,m,j,rfl,rfl,J,F,by rw[p.length,o.length];exact c,k _ _ ⟨i,T,S.wrote hn ⟨_,aP,(p.append o).mono T.toCh⟩,.cu⟩⟩
    ·rw[V4 c] at g;cases g
end Sm
namespace Sb
open L2 PyProof.Rows
open Builtin.SmallTypes (nextOf ownedTupleIsFree ownedTupleHandOut)
noncomputable def kn:Bool->String
 | true=>"list_iterator"
 | false=>"tuple_iterator"
def At(b:Bool)(h:Heap)(j l:Addr)(i:Nat):Prop:=∃o,h.get? j=some o/\o.cls=.type (kn b)/\o.data=.fields #[.ref l,.int i 0]
def Of(b:Bool)(h:Heap)(l:Addr)(a:Array Value):Prop:=match b with
 | true=>h.IsList l a
 | false=>h.IsTuple l a
def At.up(x:At b h j l i)(k:∀o,h.get? j=some o->a.get? j=some o):At b a j l i:=let⟨o,e,r⟩:=x;⟨o,k o e,r⟩
def At.lt(x:At b h j l i):j < h.objs.size:=let⟨_,e,_⟩:=x;V8 e
def RG(hj:At b s.heap j l i)(hl:Of b s.heap l items)(h:items[i]?=some x)(k:∀e,At b e j l (i+1)->Heap.SameBut j s.heap e->Q x {s with heap:=e}):wpAny (model P w) A (nextOf (.ref j)) Q E s:=by
 cases b with
 | true=>exact wpAny_nextOf_list_item (show s.heap.IsListIter j l i from hj) (show s.heap.IsList l items from hl) h k
 | false=>
  have d:s.heap.IsTupleIter j l i:=hj;obtain⟨o,a,g,c⟩:=d;obtain⟨n,m,_,p,f⟩:=(show s.heap.IsTuple l items from hl);unfold nextOf;refine VT (XI (name:=Str.ofString "__next__") (show s.TypeIs (.ref j) "tuple_iterator" from⟨o,a,g⟩) YA
   (Xv YA (show s.TypeIs (.ref j) "tuple_iterator" from⟨o,a,g⟩) Aao ?_ (Aai _)))
  show wpAny _ _ (field (.ref j) 0 >>=_) _ _ s;refine VT (Xp a c (x:=.ref l) rfl ?_);show wpAny _ _ (if(Value.ref l==Value.none)=true then _ else _) _ _ s;rw[V4 (show ¬((Value.ref l==Value.none)=true) by exact W0)];show wpAny _ _ (field (.ref j) 1 >>=_) _ _ s;refine VT (Xp a c (x:=.int i 0) rfl ?_);show wpAny _ _ (seqItems? (.ref l) >>=_) _ _ s;refine VT (Ye m f ?_);simp only[X5,h];refine VT (wpAny_setField a c (by simp) (VY ⟨x,rfl,VY (k _ ?_ (ZQ ..))⟩));exact⟨_,Yt _ a (Obj.isFreed_of_fields (Obj.data_mapFields c _)),(Obj.cls_mapFields ..).trans g,by rw[Obj.data_mapFields c];simp[rawInt]⟩
def RH(hh:A.handled=none)(hj:At b s.heap j l i)(hl:Of b s.heap l items)(n:items[i]?=none)(k:∀f e,Heap.ExtBut j s.heap f->(∃o,f.get? e=some o/\o.cls=.type "StopIteration")->E (.ref e) {s with heap:=f}):wpAny (model P w) A (nextOf (.ref j)) Q E s:=by
 cases b with
 | true=>exact wpAny_nextOf_list_end hh (show s.heap.IsListIter j l i from hj) (show s.heap.IsList l items from hl) n k
 | false=>
  have d:s.heap.IsTupleIter j l i:=hj;obtain⟨o,c,p,h⟩:=d;obtain⟨r,q,_,t,g⟩:=(show s.heap.IsTuple l items from hl);unfold nextOf;refine VT (XI (name:=Str.ofString "__next__") (show s.TypeIs (.ref j) "tuple_iterator" from⟨o,c,p⟩) YA
   (Xv YA (show s.TypeIs (.ref j) "tuple_iterator" from⟨o,c,p⟩) Aao ?_ (Aai _)))
  show wpAny _ _ (field (.ref j) 0 >>=_) _ _ s;refine VT (Xp c h (x:=.ref l) rfl ?_);show wpAny _ _ (if(Value.ref l==Value.none)=true then _ else _) _ _ s;rw[V4 (show ¬((Value.ref l==Value.none)=true) by exact W0)];show wpAny _ _ (field (.ref j) 1 >>=_) _ _ s;refine VT (Xp c h (x:=.int i 0) rfl ?_);show wpAny _ _ (seqItems? (.ref l) >>=_) _ _ s;refine VT (Ye q g ?_);simp only[X5,n];refine VT (Yq (VT (wpAny_setField c h (by simp) ?_)));show wpAny _ _ (newExc (.type "StopIteration") [] >>=_) _ _ _;refine VT ?_;simp only[newExc,newTuple];refine VT (W2 ?_ (by size_fits));refine VT (m:=firstArgMember _ _) (wpAny_of_eq (a:=Value.none) (by first |(simp only[firstArgMember];rfl) | rfl) ?_);refine W2 ?_ (by size_fits);simp only[raiseNew];refine VT (wpAny_handled ?_)
  first | rw[hh] | rw[show A.in1.handled=none from hh]
  refine VT (VY (wpAny_throw (k _ _ (((ZQ ..).extBut.push _).push _) ⟨_,Wn _ rfl,rfl⟩)))
open Builtin.SmallTypes (nextOf ownedTupleIsFree ownedTupleHandOut)
variable {P:Program} {w:World} {A:Around} {E:Value->Shared->Prop} {s:Shared} {b c:Bool}
def F9{e j l:Addr}{i:Nat}{R:Array Value}{x old:Value}{Q:Option Value->Shared->Prop}(hE:IsEnum s.heap e j i old)(hj:At b s.heap j l i)(hl:Of b s.heap l R)(hx:R[i]?=some x)(ne:e≠j)
  (k:∀h',IsEnumOut h' e j ((i:Int)+1) x s.heap.objs.size->At b h' j l (i+1)->h'.get? s.heap.objs.size=some {cls:=.type "tuple",data:=.seq #[.int i s.toks,x]}->h'.objs.size=s.heap.objs.size+1->
   (∀a o,a≠e->a≠j->s.heap.get? a=some o->h'.get? a=some o)->Q (some (.ref s.heap.objs.size)) {s with heap:=h',toks:=s.toks+1}):wpAny (model P w) A (pyNext (.ref e)) Q E s:=by
 have hT:s.TypeIs (.ref e) "enumerate":=⟨_,hE,rfl⟩;unfold pyNext;refine VT (ZS (XI (name:=Str.ofString "__next__") hT Yu (Xv Yu hT F.entry_enumerate_next ?_ (F.args_enumerate_next_1 _))));obtain⟨hp,g,d,N,os⟩:=s;show wpAny _ _ (field (.ref e) 2 >>=_) _ _ _;refine VT (Xp hE rfl (x:=.ref j) rfl (VT (RG hj hl hx λf X t=>?_)));replace t:Heap.SameBut j hp f:=t;have M:IsEnum f e j i old:=(t.2 e ne).trans hE;show wpAny _ _ (field (.ref e) 3 >>=_) _ _ ⟨f,g,d,N,os⟩;refine VT (Xp M rfl (x:=rawInt i) rfl ?_);show wpAny _ _ (field (.ref e) 4 >>=_) _ _ ⟨f,g,d,N,os⟩;refine VT (Xp M rfl (x:=.none) rfl ?_);show wpAny _ _ (mkInt i >>=_) _ _ ⟨f,g,d,N,os⟩;refine VT (wpAny_mkInt ?_);show wpAny _ _ (setField (.ref e) 3 (rawInt ((i:Int)+1)) >>=_) _ _ ⟨f,g,d,N+1,os⟩;refine VT (wpAny_setField_rec M (by simp) λu L r=>?_);replace r:Heap.SameBut e f u:=r;replace L:IsEnum u e j ((i:Int)+1) old:=L;show wpAny _ _ (setField (.ref e) 4 .none >>=_) _ _ ⟨u,g,d,N+1,os⟩;refine VT (wpAny_setField_rec L (by simp) λm J p=>?_);replace p:Heap.SameBut e u m:=p;replace J:IsEnum m e j ((i:Int)+1) old:=J;show wpAny _ _ (newTuple [.int i N,x] >>=_) _ _ ⟨m,g,d,N+1,os⟩;refine VT (wpAny_newTuple ?_);have I:IsEnum (m.push {cls:=.type "tuple",data:=.seq #[.int i N,x]}) e j ((i:Int)+1) old:=V0 _ J;generalize n:m.push {cls:=.type "tuple",data:=.seq #[.int i N,x]}=h at I;have sz:m.objs.size=hp.objs.size:=by rw[p.1,r.1,t.1]
 have lte:e < hp.objs.size:=V8 hE;have tp:h.get? hp.objs.size=some {cls:=.type "tuple",data:=.seq #[.int i N,x]}:=by rw[<-n,<-sz];exact Wn _ rfl
 have Z:h.objs.size=hp.objs.size+1:=by rw[<-n,XA,sz]
 have Y:∀a o,a≠e->a≠j->hp.get? a=some o->h.get? a=some o:=λa o z1 z2 q=>by
  rw[<-n];exact V0 _ (p.extBut a o z1 (r.extBut a o z1 (t.extBut a o z2 q)))
 have j₄:At b h j l (i+1):=X.up λo q=>by rw[<-n];exact V0 _ (p.extBut j o (XX ne) (r.extBut j o (XX ne) q))
 show wpAny _ _ (ownedTupleIsFree (.ref e) >>=_) _ _ ⟨h,g,d,N+1,os⟩;rw[sz];clear n J p L r M t X sz m u f;refine VT ?_;unfold ownedTupleIsFree;refine VT (Xp I rfl (x:=.none) rfl (VY ?_));simp only[Ys];refine VT (Yq (VT (Xp I rfl (x:=old) rfl (VT (wpAny_setField_rec I (by simp) λH U C=>?_)))));replace C:Heap.SameBut e h H:=C;replace U:IsEnum H e j ((i:Int)+1) x:=U;show wpAny _ _ (ownedTupleHandOut (.ref e) (.ref hp.objs.size) >>=_) _ _ ⟨H,g,d,N+1,os⟩;refine VT ?_;unfold ownedTupleHandOut;refine VT (wpAny_setField_rec U (by simp) λO T y=>?_);replace y:Heap.SameBut e H O:=y;replace T:IsEnumOut O e j ((i:Int)+1) x hp.objs.size:=T;refine wpAny_setField_rec T (by simp) λG S v=>?_;replace v:Heap.SameBut e O G:=v;replace S:IsEnumOut G e j ((i:Int)+1) x hp.objs.size:=S;have up:∀a o,a≠e->h.get? a=some o->G.get? a=some o:=λa o z q=>v.extBut a o z (y.extBut a o z (C.extBut a o z q));refine VT (Zt (VY ⟨_,rfl,VY (k G S (j₄.up λo q=>up j o (XX ne) q) (up _ _ (Y7 lte) tp) ?_ λa o z1 z2 q=>up a o z1 (Y a o z1 z2 q))⟩));rw[v.1,y.1,C.1,Z]
def Jq{e j l:Addr}{i:Nat}{a:Array Value}{old:Value}{Q:Option Value->Shared->Prop}(hh:A.handled=none)(h:IsEnum s.heap e j i old)(hj:At b s.heap j l i)(hl:Of b s.heap l a)(m:a[i]?=none)
  (k:∀f,Heap.ExtBut j s.heap f->Q none {s with heap:=f}):wpAny (model P w) A (pyNext (.ref e)) Q E s:=by
 have g:s.TypeIs (.ref e) "enumerate":=⟨_,h,rfl⟩;unfold pyNext;refine VT (ZS (XI (name:=Str.ofString "__next__") g Yu (Xv Yu g F.entry_enumerate_next ?_ (F.args_enumerate_next_1 _))));show wpAny _ _ (field (.ref e) 2 >>=_) _ _ _;refine VT (Xp h rfl (x:=.ref j) rfl (VT (RH hh hj hl m λf y d ⟨o,n,hc⟩=>?_)));exact VT (wpAny_isInstance (T:="StopIteration") (b:=true) ⟨o,n,hc⟩ isSubtype_stop (VY (k _ d)))
def F8(x:Of b s.heap l items)(k:∀e,IsEnum e (s.heap.objs.size+1) s.heap.objs.size 0 .none->At b e s.heap.objs.size l 0->e.objs.size=s.heap.objs.size+2->(∀a o,s.heap.get? a=some o->e.get? a=some o)->Q (.ref (s.heap.objs.size+1)) {s with heap:=e}):
  wpAny (model P w) A (call (.type "enumerate") [.ref l]) Q E s:=by
 cases b with
 | true=>exact call_enumerate_list (show s.heap.IsList l items from x) k
 | false=>
  have p:PySem.Meets (Builtin.«enumerate.__new__» ⟨[.type "enumerate",.ref l],[]⟩) (λ_ R s=>s.heap.IsTuple l items/\
    R (.ok (.ret (.ref (s.heap.push {cls:=.type "tuple_iterator",data:=.fields #[.ref l,.int 0 0]}).objs.size)))
     {s with heap:=(s.heap.push {cls:=.type "tuple_iterator",data:=.fields #[.ref l,.int 0 0]}).push {cls:=.type "enumerate",data:=.fields #[.none,.bool false,.ref s.heap.objs.size,rawInt 0,.none,.none]}}):=
   .of_wp λprog w A R s h=>by
    obtain⟨hp,g,d,m,os⟩:=s;obtain⟨hl,h⟩:=h;have n:=sub_enumerate;have f:Heap.IsTuple (Shared.heap ⟨hp,g,d,m,os⟩) l items:=hl;obtain⟨o0,t,v,r,u⟩:=id f
    wp_walk
    refine wpAny_stack_any λst=>VY ?_
    split
    ·rename_i c _ _ _ _ _;cases(c==Value.type "enumerate")
     ·wp_walk using YT f
      exact⟨_,rfl,h⟩
     ·wp_walk using YT f
      exact⟨_,rfl,h⟩
    ·wp_walk using YT f
     exact⟨_,rfl,h⟩
  refine callType_new F.called_enumerate (by decide) (F.typeCall_enumerate_1 _) (F.newCall_enumerate_1 _) (λobj=>F.args_object_init_2 obj _) F.entry_enumerate_new p ⟨x,?_⟩;have i:(s.heap.push {cls:=.type "tuple_iterator",data:=.fields #[.ref l,.int 0 0]}).objs.size=s.heap.objs.size+1:=XA ..;show _/\_;rw[i];have j:IsEnum ((s.heap.push {cls:=.type "tuple_iterator",data:=.fields #[.ref l,.int 0 0]}).push
    {cls:=.type "enumerate",data:=.fields #[.none,.bool false,.ref s.heap.objs.size,rawInt 0,.none,.none]}) (s.heap.objs.size+1) s.heap.objs.size 0 .none:=by
   have q:=Wn (s.heap.push {cls:=.type "tuple_iterator",data:=.fields #[.ref l,.int 0 0]}) (o:={cls:=.type "enumerate",data:=.fields #[.none,.bool false,.ref s.heap.objs.size,rawInt 0,.none,.none]}) rfl;rw[i] at q;exact q
  refine⟨⟨_,j,rfl⟩,k _ j ⟨_,V0 _ (Wn _ rfl),rfl,rfl⟩ (by rw[XA,i]) λa o q=>V0 _ (V0 _ q)⟩
end Sb
namespace Sb
open L2 PyProof.Rows
open Builtin.SmallTypes (nextOf ownedTupleIsFree ownedTupleHandOut)
section
variable {X:Cx} {pins:List (Addr×Obj)} {σ:L2.St} {H:Hp} {s:Shared} {h':Heap} {fp:List Addr}
def DE(I:L2.Inv X pins σ H s)(k:∀b o,b∉fp->s.heap.get? b=some o->h'.get? b=some o)(d:∀b∈fp,i5 X pins H b):L2.Inv X pins σ H {s with heap:=h',toks:=t'}:=by
 have a:∀b u,H b=some u->b∉fp:=λb u e z=>by rw[(d b z).1] at e;cases e
 have f:X.env.locals∉fp:=λz=>(d _ z).2.1 rfl;refine I.step (g':=s.gens) (d':=s.drawn) (ch:=fp) (λb h=>?_) (λb o _ _ hc e _=>k b o hc e) (λb o _ _ hc e _=>⟨o.slots,k b o hc e⟩) (λ_ _ _ _ n=>n)
  (λb o hc e=>⟨o,k b o hc e⟩) (λ_ _ e=>e) (λ_ _ _ e=>e) (λb x e=>⟨#[],by rw[e];simp⟩) (λm hm=>?_) (λb u e=>?_) I.bare
 ·obtain⟨f0,p,y,l,j,i⟩:=d b h;exact⟨l,p,j,i⟩
 ·obtain⟨o,t,w,g,r⟩:=hm;exact⟨o,t,w,k _ o f g,r⟩
 ·refine(I.bu b u e).pN (λc v hc q=>k c v ?_ q) (λ_ q=>q) λ_ _ q=>q;rcases hc with z | z
  ·rw[z];exact a b u e
  ·exact a c _ z
def Kv(I:L2.Inv X pins σ H s)(k:∀b o,b∉fp->s.heap.get? b=some o->h'.get? b=some o)(f:∀b∈fp,i5 X pins H b)(j:∀b∈fp,b < s.heap.objs.size)(ht:h'.get? s.heap.objs.size=some {cls:=.type "tuple",data:=.seq us.toArray n})(r:Vals vs us)(h:vs.length<=sizeLine):L2.Inv X pins σ (upd H s.heap.objs.size (.tup vs)) {s with heap:=h',toks:=t'}:=by
 have d:∀b u,H b=some u->b∉fp:=λb u e z=>by rw[(f b z).1] at e;cases e
 have g:X.env.locals∉fp:=λz=>(f _ z).2.1 rfl;have hp:H s.heap.objs.size=none:=I.bu.fresh (VZ _);have np:∀b o,s.heap.get? b=some o->b≠s.heap.objs.size:=λb o e=>Wk (V8 e);have a:∀b u,H b=some u->b≠s.heap.objs.size:=λb u e=>aQ e hp;refine I.step (g':=s.gens) (d':=s.drawn) (ch:=fp) (λb l=>?_) (λb o _ _ hc e _=>k b o hc e) (λb o _ _ hc e _=>⟨o.slots,k b o hc e⟩) (λb o _ e n=>by rw[aB (np b o e)];exact n)
  (λb o hc e=>⟨o,k b o hc e⟩) (λb _ e=>by rw[aB (a b _ e)];exact e) (λb _ _ e=>by rw[aB (a b _ e)];exact e) (λb E e=>⟨#[],by rw[aB (a b _ e),e];simp⟩) (λm hm=>?_) (λb u e=>?_) I.bare
 ·obtain⟨f0,x,F,w,t,p⟩:=f b l;exact⟨w,x,t,p⟩
 ·obtain⟨o,A,C,i,q⟩:=hm;exact⟨o,A,C,k _ o g i,q⟩
 ·by_cases z:b=s.heap.objs.size
  ·subst z;rw[aP] at e;cases e;exact⟨h,us,r,⟨_,ht,rfl,⟨n,rfl⟩,rfl⟩⟩
  ·rw[aB z] at e;refine(I.bu b u e).pN (λc v hc q=>k c v ?_ q) (λc q=>?_) (λc u q=>?_) λc u q=>?_
   ·rcases hc with y | y
    ·rw[y];exact d b u e
    ·exact d c _ y
   ·rw[aB (a _ _ q)];exact q
   ·rw[aB (a _ _ q)];exact q
   ·rw[aB (a _ _ q)];exact q
end
def Ks(b:Bool)(K:FR)(H:Hp)(l:Addr)(a:List V):Prop:=match b with
 | true=>gU K H l a
 | false=>lj K H l a
def Ks.of(I:L2.Inv X pins σ H s)(q:Ks b X.K H l xs):∃a:List Value,Vals xs a/\Of b s.heap l a.toArray:=by
 cases b with
 | true=>obtain⟨a,r,p,_⟩:=I.list (show gU X.K H l xs from q);exact⟨a,r,p.isList⟩
 | false=>obtain⟨a,r,p,_⟩:=I.tuple (show lj X.K H l xs from q);exact⟨a,r,p⟩
def Ks.inj(I:L2.Inv X pins σ H s)(q:Ks b X.K H l xs)(a:Ks b X.K H l c):xs=c:=by
 cases b with
 | true=>exact I.AR q a
 | false=>exact I.wN q a
def Vq(b:Bool)(K:FR)(l:Addr):It:=
 ⟨λi H=>∃a x,Ks b K H l a/\a[i]?=some x,λi H x c=>∃p y,H p=none/\x=.ref p/\c=upd H p (.tup [.int (i:Int),y])/\∀a,Ks b K H l a->a[i]?=some y,λi H=>∃a,Ks b K H l a/\a.length<=i⟩
def EL{P:Program}{w:World}{K:FR}{es:List Expr}{k0:Nat}{pos:Pos}(b:Bool)(l e j:Addr)(ne:e≠j):Turn P w K (.Tuple es k0 pos) (Vq b K l) [e,j] e (λi h=>(∃old,IsEnum h e j i old)/\At b h j l i) where
 mem:=by simp
 obj:=λi h st a c=>by
  obtain⟨⟨old,d⟩,o,m,_,d2⟩:=st;simp at c;rcases c with rfl | rfl
  ·exact⟨_,d,λv z=>by cases z⟩
  ·exact⟨o,m,λv z=>by rw[d2] at z;cases z⟩
 keep:=λi h h' ⟨⟨old,d⟩,m⟩ k=>⟨⟨old,k e (by simp) _ d⟩,m.up λo q=>k j (by simp) o q⟩
 item:=by
  intro X N J R hc i g s U H E I y st L;subst N J R;obtain⟨Y,x,t,G⟩:=L;obtain⟨⟨old,d⟩,m⟩:=st;obtain⟨C,rv,O⟩:=t.of I;obtain⟨u,hu,Z⟩:=rv.get G;have p:∀a∈[e,j],a < s.heap.objs.size:=λa c=>by
   simp at c;rcases c with rfl | rfl
   ·exact V8 d
   ·exact m.lt
  refine F9 d m O (x:=u) (by simpa using hu) ne λh' a1 a2 a3 a4 a5=>⟨_,rfl,wpAny_letOwnedTupleGo_enum a1 λS b1 T=>?_⟩;have hp:H s.heap.objs.size=none:=I.bu.fresh (VZ _);have I1:=Kv (t':=s.toks+1) (vs:=[.int (i:Int),x]) (us:=[.int i s.toks,u]) (n:=0) I (λa o c q=>a5 a o (λz=>c (by simp[z])) (λz=>c (by simp[z])) q) y p a3 (.cons ⟨_,rfl⟩ (.cons Z .nil)) (show 2<=sizeLine by decide);have r:∀a∈[e,j],i5 X g (upd H s.heap.objs.size (.tup [.int (i:Int),x])) a:=λa c=>by
   obtain⟨f0,f⟩:=y a c;exact⟨by rw[aB (Wk (p a c))];exact f0,f⟩
  have I2:=DE (t':=s.toks+1) I1 (h':=S) (λa o c q=>T.extBut a o (λz=>c (by simp[z])) q) r;exact⟨.ref s.heap.objs.size,_,I2,rfl,⟨_,x,hp,rfl,rfl,λys hy=>by rw[hy.inj I t];exact G⟩,⟨⟨_,by simpa using b1⟩,a2.up λo q=>T.extBut j o (XX ne) q⟩,λa c=>(r a c).1⟩
 done:=by
  intro X N J R hc i g s U H E I y st L;subst N J R;obtain⟨Y,t,G⟩:=L;obtain⟨⟨old,d⟩,m⟩:=st;obtain⟨C,rv,O⟩:=t.of I;have hl:=rv.length;exact Jq (I.ok.hd hc) d m O (by simp;lia) λh' eb=>⟨rfl,DE (t':=s.toks) I (λa o c q=>eb a o (λz=>c (by simp[z])) q) y⟩
 self:=λA i s Q E ⟨⟨old,d⟩,_⟩ q=>by
  have M:s.TypeIs (.ref e) "enumerate":=⟨_,d,rfl⟩;refine wpAny_pyIter_slot M F.slot_enumerate_iter (Xv F.slot_enumerate_iter M F.entry_enumerate_iter ?_ (F.args_enumerate_iter_1 _));show wpAny _ _ (ret (.ref e)) _ _ s;exact VY ⟨_,rfl,"enumerate",_,M,Yu.lookup,q⟩
def Gq:bootBuiltins "enumerate"=some (.type "enumerate"):=by decide+kernel
def Ln(z:Gl X "enumerate")(hm:X.mg "enumerate"=none)(E:PA X [a] o)(hs:starEach [a] X.env=[(false,eval a X.env)]:=by ac_nf):
  PI X (.Tuple es k0 i) (.Call (.Name "enumerate" p) [a] [] pos) (λj H R=>o j H λm g=>∃l b,m=[.ref l]/\(∃k,Ks b X.K g l k)/\R (Vq b X.K l) g):=by
 intro d s j H R I h;refine Call_ (jP I z hm Gq (Xe (cx (E pos d s j H _ I h) λus s1 u9=>?_) hs rfl));obtain⟨m,g,f,t,v⟩:=u9;obtain⟨l,b,e,⟨k,y⟩,q⟩:=v;subst e;obtain⟨u,rfl,r⟩:=Vals.one t;obtain rfl:u=Value.ref l:=r;obtain⟨x,rv,F⟩:=y.of f;refine F8 F λn a1 a2 a3 a4=>?_;have G:L2.Inv X d j g {s1 with heap:=n}:=f.kept (t':=s1.toks) a4;have C:∀c∈[s1.heap.objs.size+1,s1.heap.objs.size],i5 X d g c:=λc hc=>by
  simp at hc;rcases hc with rfl | rfl
  ·exact f.A9 (X3 _) (f.bu.fresh (X3 _))
  ·exact f.A9 (VZ _) (f.bu.fresh (VZ _))
 have T:=EL (P:=X.prog) (w:=X.w) (K:=X.K) (es:=es) (k0:=k0) (pos:=i) b l (s1.heap.objs.size+1) s1.heap.objs.size (Nat.succ_ne_self _);refine T.self X.A 0 {s1 with heap:=n} _ X.xe ⟨⟨_,a1⟩,a2⟩ ?_;exact⟨_,[s1.heap.objs.size+1,s1.heap.objs.size],_,_,g,rfl,G,T,⟨⟨_,a1⟩,a2⟩,C,q⟩
end Sb
namespace Sm
open L2 PyProof.Rows
noncomputable def j8:Nat->List D->List D
 | _,[]=>[]
 | k,x::r=>.tup [.int (k:Int),x]::j8 (k+1) r
theorem qw:∀(a:List D)(k i:Nat),(j8 k a)[i]?=(a[i]?).map λx=>.tup [.int ((k+i:Nat):Int),x]
 | [],k,i=>by simp[j8]
 | x::r,k,0=>by simp[j8]
 | x::r,k,i+1=>by
  show(j8 (k+1) r)[i]?=_;rw[qw r (k+1) i];simp only[WL];congr 1
  funext y
  rw[show k+1+i=k+(i+1) by lia]
theorem eP:∀(a:List D)(k:Nat),(j8 k a).length=a.length
 | [],_=>rfl
 | _::r,k=>by simp[j8,eP r (k+1)]
def SeqAt.Tf{K:FR}{H:Hp}{a:Addr}{c:List V}{b:Bool}(q:SeqAt K H a c b):Sb.Ks b K H a c:=by
 cases q with
 | l q=>exact q
 | t q=>exact q
def uW(m:AM):IM:=λa h=>(m a h).bind λp=>match p.1 with
 | [d]=>(fF d p.2).map λq=>(j8 0 q.1,q.2,p.2)
 | _=>none
def UE{c:Type}{l:List c}(h:l.length=2):∃a b,l=[a,b]:=by
 cases l with
 | nil=>cases h
 | cons a l=>obtain⟨b,rfl⟩:=Yc.mp (Nat.succ.inj h);exact⟨a,b,rfl⟩
def nK(N:Gl X "enumerate")(hm:X.mg "enumerate"=none)(O:SA X [a] m)(hl:lz m 1)(hs:starEach [a] X.env=[(false,eval a X.env)]:=by ac_nf):SI X (.Tuple es k0 r) (.Call (.Name "enumerate" p) [a] [] pos) (uW m):=
 (Sb.Ln N hm O hs).imp λσ H Q G=>by
  obtain⟨E,F,h,xs,c,h',R,S,e,k⟩:=G;obtain⟨⟨ds,U⟩,A,e2⟩:=bq e;refine⟨E,F,h,ds,U,R,S,A,λvs j H1 T1 C J=>?_⟩;obtain⟨d,rfl⟩:=Yc.mp (hl _ _ _ _ A);obtain⟨⟨ys,w⟩,e3,Z⟩:=gL e2;cases Z;obtain⟨v,rfl,rd⟩:=rep1 J;obtain⟨a,rfl,⟨us,q,l⟩,st⟩:=tQ C rd e3;refine⟨a,CZ d,rfl,⟨us,q.Tf⟩,k _ j H1 T1 C ⟨λg H2 T T2 b hc i=>?_⟩⟩;obtain⟨c,s,n⟩:=st g H2 T T2 b hc;refine⟨λt=>⟨c,n.Tf,by rw[s.length];rw[eP] at t;exact t⟩,λx f=>?_⟩;rw[qw] at f;obtain⟨y,Y,f⟩:=gL f;subst f;obtain⟨v,z,rv⟩:=s.got Y;refine⟨⟨c,v,n.Tf,z⟩,λu H3 u9=>?_⟩;obtain⟨p,I,hp,M,P,L⟩:=u9;subst M;subst P;have o:I=v:=by have:=L c n.Tf;rw[z] at this;exact(Option.some.inj this).symm
  subst o;refine⟨dG.laid b hp,b.laid hp,.tup (.inl ⟨.inl aP,b.fresh hp⟩) (.cons ?_ (.cons (rv.mono (dG.laid b hp).toCh) .nil))⟩;rw[Xf];exact .int _
def zr(d:List (Key×D)):List (Key×D)->Option Bool
 | []=>some true
 |(k,v)::r=>match lV d k with
  | none=>some false
  | some u=>(ur v).bind λa=>(ur u).bind λb=>if a.depth<=60/\b.depth<=60 then(zr d r).map λc=>PyData.eqv a b&&c else none
def Jv(ks a:List (Key×D)):Option Bool:=if ks.length=a.length then zr a ks else some false
def MT(d e:D)(h:MH):Option Bool:=match fG d h,fG e h with
 | some ks,some ls=>Jv ks ls
 | _,_=>Km d e h
def cp(d e:D)(h:MH):Option (D×MH):=(MT d e h).map λc=>(.bl c,h)
def iY(d e:D)(h:MH):Option (D×MH):=(MT d e h).map λc=>(.bl (!c),h)
def LU(Z:X.A.units+64 < cLine)(I:L2.Inv X pins σ H s)(M:bO X.K w H C ls)(F:KV C m):
  ∀{us:List (Key×V)} {ks:List (Key×D)} {h:List (Key×Value)} {c:Bool},bO X.K w H us ks->KV us h->zr ls ks=some c->PySem.W.KeqHits X.A.in1 s m h c:=by
 intro us
 induction us with
 | nil=>
  intro ks h c a g e;cases a;cases g;cases e;exact .nil
 | cons u0 us N=>
  intro ks h c a g e;cases a with | @cons k v _ d _ r l=>
  cases g with
  | cons g E=>
   rename_i p h;obtain⟨Y,y⟩:=p;obtain⟨u,t⟩:=g;dsimp only at u t;subst u;simp only[zr] at e;have f:=F.val k;rcases M.val k with⟨o,n⟩ |⟨d',U,o,n,L⟩
   ·rw[o] at e;cases e;rw[n] at f;refine .miss ?_;cases q:valueAt m k with
    | none=>rfl
    | some _=>rw[q] at f;exact f.elim
   ·rw[o] at e;obtain⟨a,R,e⟩:=bq e;obtain⟨b,Q,e⟩:=bq e
    by_cases z:a.depth<=60/\b.depth<=60
    ·rw[V1 z] at e;obtain⟨c',P,O⟩:=gL e;subst O;rw[n] at f;cases q:valueAt m k with
     | none=>rw[q] at f;exact f.elim
     | some x=>
      rw[q] at f;obtain⟨J,T⟩:=r.vN R;obtain⟨G,S⟩:=L.vN Q;obtain⟨as,j⟩:=J.reads I t;obtain⟨bs,i⟩:=G.reads I f;refine .hit q (YK a b _ s y x as bs j i T S ?_) (N l E P);have:min a.depth b.depth<=a.depth:=Yh _ _;show X.A.units+1+min a.depth b.depth < cLine
      lia
    ·rw[V4 z] at e;cases e
def Jp(G:X.A.units+64 < cLine)(I:L2.Inv X pins σ H s)(M:L2.RelV x v)(L:L2.RelV y u)(S:bT X.K J h H)(rd:Rep X.K J H x d)(N:Rep X.K J H y e)(f:MT d e h=some c):
  (∀Q:Value->Shared->Prop,Q (.bool c) s->wpAny (model X.prog X.w) X.A (compareOp .Eq v u) Q X.xe s)/\∀Q:Value->Shared->Prop,Q (.bool (!c)) s->wpAny (model X.prog X.w) X.A (compareOp .NotEq v u) Q X.xe s:=by
 have i:Km d e h=some c->(∀Q:Value->Shared->Prop,Q (.bool c) s->wpAny (model X.prog X.w) X.A (compareOp .Eq v u) Q X.xe s)/\∀Q:Value->Shared->Prop,Q (.bool (!c)) s->wpAny (model X.prog X.w) X.A (compareOp .NotEq v u) Q X.xe s:=by
  intro f;obtain⟨a,e3,e4⟩:=bq f;obtain⟨b,e5,t⟩:=bq e4
  by_cases w:a.depth<=64/\b.depth<=64
  ·rw[V1 w] at t;cases t;obtain⟨r1,Z⟩:=og S rd e3;obtain⟨r2,Y⟩:=og S N e5;obtain⟨as,k⟩:=r1.reads I M;obtain⟨bs,j⟩:=r2.reads I L;exact⟨λQ q=>eq_dataH k j (lQ Z w.1) (lQ Y w.2) G q,λQ q=>ne_dataH k j (lQ Z w.1) (lQ Y w.2) G q⟩
  ·rw[V4 w] at t;cases t
 unfold MT at f;cases o:fG d h with
 | none=>rw[o] at f;exact i f
 | some ks=>
  cases F:fG e h with
  | none=>rw[o,F] at f;exact i f
  | some ls=>
   rw[o,F] at f;obtain⟨a,us,rfl,ha,R⟩:=oX S rd o;obtain⟨b,ws,rfl,hb,P⟩:=oX S N F;obtain rfl:v=Value.ref a:=M;obtain rfl:u=Value.ref b:=L;obtain⟨_,r,m,k,E⟩:=Bi I.bu ha;obtain⟨_,p,l,j,C⟩:=Bi I.bu hb;have U:m.length=ks.length:=by rw[<-R.length];exact(Paired.length k).symm
   have T:l.length=ls.length:=by rw[<-P.length];exact(Paired.length j).symm
   dsimp only[Jv] at f
   by_cases z:ks.length=ls.length
   ·rw[V1 z] at f;have g:=LU G I P j R k f;have n:(m.length==l.length&&c)=c:=by rw[U,T,z,Xm,Z9]
    exact⟨λQ q=>PySem.W.keq_eq r p E C (by lia) (λ_=>g) (by rw[n];exact q),λQ q=>PySem.W.keq_ne r p E C (by lia) (λ_=>g) (by rw[n];exact q)⟩
   ·rw[V4 z] at f;cases f;have n:(m.length==l.length&&false)=false:=Bool.and_false _;have O:m.length=l.length->PySem.W.KeqHits X.A.in1 s l m false:=λq=>absurd (by rw[<-U,<-T];exact q) z;exact⟨λQ q=>PySem.W.keq_eq r p E C (by lia) O (by rw[n];exact q),λQ q=>PySem.W.keq_ne r p E C (by lia) O (by rw[n];exact q)⟩
def mY(i:X.A.units+64 < cLine):pz X (compareOp .Eq) cp:=by
 intro a s n H x y v u Q I f b hh;obtain⟨o,h,d,e,z,p,S,rd,g,j,k⟩:=hh;obtain⟨c,m,l⟩:=gL j;cases l;exact(Jp i I f b S rd g m).1 _ ⟨.bl _,H,I,rfl,k _ _ (.here S (.bl _))⟩
def CB(i:X.A.units+64 < cLine):pz X (compareOp .NotEq) iY:=by
 intro a s n H x y v u Q I f b hh;obtain⟨o,h,d,e,z,p,S,rd,g,j,k⟩:=hh;obtain⟨c,m,l⟩:=gL j;cases l;exact(Jp i I f b S rd g m).2 _ ⟨.bl _,H,I,rfl,k _ _ (.here S (.bl _))⟩
def IH(b:List (Key×D))(c:List (Key×D)):List (Key×D):=c.foldl (λa p=>putD a p.1 p.2) b
def bO.merge{K:FR}{f:Ad}{H:Hp}:∀{c:List (Key×V)} {e:List (Key×D)} {acc:List (Key×V)} {ac:List (Key×D)},bO K f H acc ac->bO K f H c e->bO K f H (kW acc c) (IH ac e):=by
 intro c
 induction c with
 | nil=>intro e acc ac a b;cases b;exact a
 | cons x c g=>intro e acc ac a b;cases b with | @cons k v _ d _ r l=>exact g (acc:=putK acc k v) (ac:=putD ac k d) (a.put r) l
def NG(hN:X.N.Nodup)(A:X.N[i]?=some x)(s:Loc X.env.scope x)(F:SE X e q)(t:SV X op (rS X.K f))(C:X.fn x=true\/X.env.scope.names.lookup x=some .local:=by first | exact .inl rfl | exact .inr rfl | assumption):SS X (.AugAssign (.Name x pos') op e pos) (Hv i f q):=
 (Ot hN A s F t C).imp λE σ H u9=>by
  obtain⟨l,n,h,fl,m,Z,R,S,e,k⟩:=u9;obtain⟨d,Q,P⟩:=bq e;obtain⟨⟨y,g⟩,O,M⟩:=bq P;obtain⟨⟨z,G⟩,L,J⟩:=bq M;cases J;obtain⟨v,I,r⟩:=R.at_ i d (Zo.mp Q);exact⟨v,I,l,n,h,y,g,R,S,O,λu H1 ⟨b,c,U,p⟩=>⟨b,g,d,y,z,G,U,r.mono c,p,L,λw Y ⟨a,j,T,o⟩=>k a Y (c.trans j) T _ ((R.mono (c.trans j).toCh).set o i)⟩⟩
def LL(c:nB X (inplaceOp op) (HL q))(g:∀d e h z a,f d e h=some (z,a)->∃i j,d=.int i/\e=.int j/\a=h/\∀b H,Rep X.K b H (q i j) z):SV X op (rS X.K f):=lI c g
def LM:SV X .Sub (rS X.K oN):=LL LN λd e h z b a=>by
 cases d <;> first |(exact ck a) | skip
 cases e <;> first |(exact ck a) | skip
 cases a;exact⟨_,_,rfl,rfl,rfl,λ_ _=>.int _⟩
def zG:bootBuiltins "list"=some (.type "list"):=by decide+kernel
def dg:bootBuiltins "tuple"=some (.type "tuple"):=by decide+kernel
def Mg:bootBuiltins "bool"=some (.type "bool"):=by decide+kernel
def JN:bootBuiltins "int"=some (.type "int"):=by decide+kernel
def zF:bootBuiltins "str"=some (.type "str"):=by decide+kernel
def ny:bootBuiltins "len"=some (.builtin "len"):=by decide+kernel
def P6:bootBuiltins "abs"=some (.builtin "abs"):=by decide+kernel
def bx:bootBuiltins "isinstance"=some (.builtin "isinstance"):=by decide+kernel
def qC:bootBuiltins "all"=some (.builtin "all"):=by decide+kernel
noncomputable def Nm(a:Scope)(x:Str):Bool:=match a.names.lookup x with
 | some .local=>true
 | some .cell=>true
 | some .free=>true
 | _=>false
noncomputable def IL(a:Scope)(x:Str):Bool:=match a.names.lookup x with
 | some .local=>true
 | some .cell=>true
 | _=>false
noncomputable def RW(X:Cx)(x:Str):Bool:=X.fn x||(match X.env.scope.names.lookup x with
 | some .local=>true
 | _=>false)
def Nk(h:Nm sc x=true):M3 sc x:=by
 unfold Nm at h
 split at h <;> first |(cases h;done) | skip
 ·exact .inl ‹_›
 ·exact .inr (.inl ‹_›)
 ·exact .inr (.inr ‹_›)
def CV(h:IL sc x=true):Loc sc x:=by
 unfold IL at h
 split at h <;> first |(cases h;done) | skip
 ·exact .inl ‹_›
 ·exact .inr ‹_›
def C6(h:RW X x=true):X.fn x=true\/X.env.scope.names.lookup x=some .local:=by
 unfold RW at h;rw[X1] at h;rcases h with h | h
 ·exact .inl h
 ·split at h
  ·exact .inr ‹_›
  ·cases h
def sv(i:Nat)(hN:X.N[i]?=some x:=by ac_nf)(b:Nm X.env.scope x=true:=by ac_nf)(hd:(x==("__debug__":Str))=false:=by ac_nf)(a:(x==("__classdict__":Str))=false:=by ac_nf):SE X (.Name x pos) (aw i):=NQ hN (Nk b) hd a
def sset(i:Nat)(hN:X.N.Nodup)(f:SE X e a)(c:X.N[i]?=some x:=by ac_nf)(b:IL X.env.scope x=true:=by ac_nf)(hs:swapsWith e (some (.Name x pos')) pos.line X.env=pure false:=by ac_nf)(d:RW X x=true:=by ac_nf):SS X (.Assign [.Name x pos'] e pos) (aV i a):=NF hN c (CV b) f hs (C6 d)
def sgn(i:Nat)(hN:X.N.Nodup)(b:X.N[i]?=some x:=by ac_nf)(a:IL X.env.scope x=true:=by ac_nf)(c:RW X x=true:=by ac_nf):SG X (.Name x pos) (gN i):=KJ hN b (CV a) (C6 c)
def Ud(i:Nat)(hN:X.N.Nodup)(h:SE X e a)(c:SV X op (rS X.K f))(d:X.N[i]?=some x:=by ac_nf)(b:IL X.env.scope x=true:=by ac_nf)(g:RW X x=true:=by ac_nf):SS X (.AugAssign (.Name x pos') op e pos) (Hv i f a):=NG hN d (CV b) h c (C6 g)
noncomputable def Hu(i j:Nat)(m:AM):SM:=λc h=>(m c h).bind λp=>match p.1 with
 | [a,b]=>some (.nx,(c.set i (some a)).set j (some b),p.2)
 | _=>none
def NH(i j:Nat){kt l c}(hN:X.N.Nodup)(hl:lz m 2)(hc:X.calm=true)(z:i≠j)(P:PS X (.Assign [.Tuple [.Name x w,.Name y py] kt pt] (.Tuple [a,b] l c) pos) (QQ i j (U9 X.K m))):
  SS X (.Assign [.Tuple [.Name x w,.Name y py] kt pt] (.Tuple [a,b] l c) pos) (Hu i j m):=P.imp λE J H s=>by
 obtain⟨p,r,h,fl,q,M,R,S,e,k⟩:=s;obtain⟨⟨F,A⟩,n,C⟩:=bq e;refine⟨p,r,h,F,A,R,S,n,λL f I o G t=>?_⟩;obtain⟨d,O,rfl⟩:=UE (hl _ _ _ _ n);cases C;obtain⟨v,u,rfl,rd,g⟩:=rep2 t;exact⟨v,u,rfl,k f I o G _ (((R.mono o.toCh).set rd i).set g j)⟩
structure Df(P:Program)(w:World)(K:FR)(mg:Str->Option Value)(base:Heap)(nm:Str)(k:Nat)(ps:List Str)(n:Nat)(F:Fn):Prop where
 ex:∃(f:Addr)(fd:FuncData),fT P w K mg base pC k f fd ps (EV K n F)/\PySem.W.keepIn K (.ref f)=true/\Binds K fd ps []/\mg nm=some (.ref f)
def Rb(d:Df X.prog X.w X.K X.mg X.base nm k s n F)(hr:dh i X.A)(j:k<=i)(q:SA X (e::a) m)(hl:lz m n)(l:Gl X nm:=by unfold Gl;ac_nf)(c:(nm==("__debug__":Str))=false:=by ac_nf)(o:starEach (e::a) X.env=(false,eval e X.env)::starEach a X.env:=by ac_nf)(b:(backTo pos (starEach a X.env)).any (·.1)=false:=by ac_nf):SE X (.Call (.Name nm p) (e::a) [] pos) (ar F m):=by
 obtain⟨f,t,G,h,r,g⟩:=d.ex;exact KP G (hr.mono j) l g h r q hl c o b
def iJ{P:Program}{w:World}{K:FR}{mg:Str->Option Value}{base:Heap}{k n:Nat}{f:Addr}{c:FuncData}{b:List Str}:fT P w K mg base pC k f c b (EV K n λ_ _=>none):=
 ⟨λa H Q E hh=>(by obtain⟨_,_,_,_,_,_,_,_,e,_⟩:=hh;cases e),λA outer s H args us a Q E _ _ _ _ hh=>(by obtain⟨_,_,_,_,_,_,_,_,e,_⟩:=hh;cases e)⟩
end Sm
namespace L2
open PyProof.Rows
abbrev TK:=St->Hp->(St->Hp->Prop)->Prop
def PM(B:Cx)(c:Sem Unit)(t:TK):Prop:=
 ∀(a:List (Addr×Obj)) (s:Shared) (d:St) (H:Hp) (N:St->Hp->Prop),Inv B a d H s->t d H N->wpAny (model B.prog B.w) B.A c (λ_ f=>∃b e,Inv B a b e f/\N b e) B.xe s
def vL(J:It)(g:TG)(n:TT)(tm:TK)(N:St->Hp->Prop)(f:St)(p:Hp):Prop:=
 ∃W:Nat->Nat->St->Hp->Prop,(∃m,W 0 m f p)/\∀i m h d,W i m h d->
  (J.stop i d/\N h d)\/(J.go i d/\∃j:St->Hp->Prop,(∀c e,j c e->∃k,k < m/\W (i+1) k c e)/\∀x e,J.Mv i d x e->g x h e λa o=>
   n a o λb l=>if b=true then tm a l j else j a l)
noncomputable def g8(e:Expr)(d:Nat)(h:Expr)(b:List Expr)(f:Sem Unit)(p:Pos)(a g:Value)(env:Env):Sem Fin:=do
 standAt p
 match<-pyNext a with
 | none=>pure (.done .next)
 | some v=>
  letOwnedTupleGo h a v
  assign h env v
  let mut ok:=true
  for c in b do
   if ok then ok<-isTrue c env (eval c env)
  if ok then f
  again (.compLoop e d a g env)
noncomputable def oD(e:Expr)(d:Nat)(a:Expr)(b:Value)(env:Env):Sem Unit:=do
 let x<-eval a env
 standAt a.pos
 let x<-foldedSetIterable a env x;let _<-runOwn (.compStart e d (<-holding [x] (pyIter x)) b env) env
noncomputable def oR(k v:Expr)(d:Addr)(env:Env):Sem Unit:=do
 let a<-eval k env;let b<-holding [a] (eval v env)
 standAt {k.pos with endLine:=v.pos.endLine,endCol:=v.pos.endCol}
 holding [a,b] (dictSet d a b)
def BN(k v b c:Expr)(e:List Expr)(f:Scope)(a:Pos)(g:Value)(d:Addr)(env:Env):
  compTurn (.DictComp k v [⟨b,c,e,0⟩] f a) 0 g (.ref d) env=g8 (.DictComp k v [⟨b,c,e,0⟩] f a) 0 b e (oR k v d env) c.pos g (.ref d) env:=by rfl
noncomputable def oQ(a:Expr)(b:Value)(env:Env):Sem Unit:=do let _<-call (.builtin "list.append") [b,<-eval a env]
def ym(d g h j f:Expr)(i m:List Expr)(k:Scope)(a:Pos)(l e:Value)(env:Env):
  compTurn (.ListComp d [⟨g,h,i,0⟩,⟨j,f,m,0⟩] k a) 0 l e env=g8 (.ListComp d [⟨g,h,i,0⟩,⟨j,f,m,0⟩] k a) 0 g i (oD (.ListComp d [⟨g,h,i,0⟩,⟨j,f,m,0⟩] k a) 1 f e env) h.pos l e env:=by
 refine Eq.trans (b:=(do
   standAt h.pos
   match<-pyNext l with
   | none=>pure (.done .next)
   | some v=>
    letOwnedTupleGo g l v
    assign g env v
    let mut ok:=true
    for c in i do
     if ok then ok<-isTrue c env (eval c env)
    if ok then
     let x<-eval f env
     standAt f.pos
     let x<-foldedSetIterable f env x;let _<-runOwn (.compStart (.ListComp d [⟨g,h,i,0⟩,⟨j,f,m,0⟩] k a) 1 (<-holding [x] (pyIter x)) e env) env
    again (.compLoop (.ListComp d [⟨g,h,i,0⟩,⟨j,f,m,0⟩] k a) 0 l e env):Sem Fin)) rfl ?_
 unfold g8 oD;simp only[bind_assoc,pure_bind]
def yl(a g j d e:Expr)(k f:List Expr)(h:Scope)(c:Pos)(i b:Value)(env:Env):
  compTurn (.ListComp a [⟨g,j,k,0⟩,⟨d,e,f,0⟩] h c) 1 i b env=g8 (.ListComp a [⟨g,j,k,0⟩,⟨d,e,f,0⟩] h c) 1 d f (oQ a b env) e.pos i b env:=by rfl
structure Plain(e:Expr):Prop where
 loop:∀(P:Program)(w:World)(d:Nat)(it acc:Value)(env:Env),(model P w).den (.compLoop e d it acc env)=(compTurn e d it acc env).onRaise (λx=>do noteFrame x env;theTreesLotGoes x)
 start:∀(P:Program)(w:World)(d:Nat)(it acc:Value)(env:Env),(model P w).den (.compStart e d it acc env)=(compStart e d it acc env).onRaise (λx=>do noteFrame x env;standAt theWindowsPlace)
 ul:∀(A:Around)(d:Nat)(it acc:Value)(env:Env),A.under (.compLoop e d it acc env)=A
 us:∀(A:Around)(d:Nat)(it acc:Value)(env:Env),A.under (.compStart e d it acc env)=A
def uv(b:Expr)(d:List Comprehension)(c:Scope)(a:Pos):Plain (.ListComp b d c a):=⟨λ_ _ _ _ _ _=>rfl,λ_ _ _ _ _ _=>rfl,λ_ _ _ _ _=>rfl,λ_ _ _ _ _=>rfl⟩
def Cu(k v:Expr)(c:List Comprehension)(b:Scope)(a:Pos):Plain (.DictComp k v c b a):=⟨λ_ _ _ _ _ _=>rfl,λ_ _ _ _ _ _=>rfl,λ_ _ _ _ _=>rfl,λ_ _ _ _ _=>rfl⟩
def MX(hk:Plain e)(ht:compTurn e d (.ref it) acc B.env=g8 e d tg ifs act p (.ref it) acc B.env)(hc:B.calm=true)(hx:B.xe=λ_ _=>False)(hg:PG B tg g)(U:GL B ifs tc)(hm:PM B act tm)(I:Inv B pins τ H s)(T:Turn B.prog B.w B.K tg J C it R)(st:R 0 s.heap)(hf:∀b∈C,i5 B pins H b)(hw:vL J g tc tm N τ H):
  codeAny (model B.prog B.w) B.A (.compLoop e d (.ref it) acc B.env) (λr P=>r=.ok .next/\∃a c,Inv B pins a c P/\N a c) s:=by
 obtain⟨W,⟨m0,w0⟩,G⟩:=hw;have j:∀{c:Hp},(∀b∈C,c b=none)->∀b∈C,i5 B pins c b:=λhn b l=>⟨hn b l,(hf b l).2⟩;have up:∀{α:Type} {t:Sem α} {Q:α->Shared->Prop} {E:Value->Shared->Prop} {s:Shared},wpAny (model B.prog B.w) B.A t Q B.xe s->wpAny (model B.prog B.w) B.A t Q E s:=λh=>QM (hx ▸ h);refine codeAny_loop rfl (λn P=>∃i a c,Inv B pins a c P/\R i P.heap/\(∀b∈C,c b=none)/\W i n a c) ?_ m0 ⟨0,_,_,I,st,λb l=>(hf b l).1,w0⟩;rintro n s4 ⟨i,k,Z,J4,L,O,w4⟩;rw[hk.ul,hk.loop];refine wpAny_noted ?_;rw[ht];unfold g8;rcases G i n k Z w4 with⟨stop,qn⟩ |⟨go,N',hN,step⟩
 ·refine VT (W5 (VT (WA (T.done B rfl rfl rfl hc i pins s4 k Z _ J4 (j O) L stop) (λr s5 M=>?_) λ_ _ e=>e)));obtain⟨hr,J5⟩:=M;subst hr;exact VY ⟨rfl,_,_,J5,qn⟩
 ·refine VT (W5 (VT (WA (T.item B rfl rfl rfl hc i pins s4 k Z _ J4 (j O) L go) (λr s5 M=>?_) λ_ _ e=>e)));obtain⟨u,hr,M⟩:=M;subst hr;refine VT (WA M (λ_ s6 h6=>?_) λ_ _ e=>e);obtain⟨x,H6,J6,r6,y6,y,X⟩:=h6;have Y:=J6.pinned (j X) (T.obj _ _ y);refine VT (WA (up (hg _ s6 k H6 x u _ Y r6 (step x H6 y6))) (λ_ s7 h7=>?_) λ_ _ e=>e);obtain⟨v,H7,J7,q7⟩:=h7;have again:∀{f:St} {q:Hp} {z:Shared},Inv B (pins++qc C s6.heap) f q z->N' f q->
    ∃m,m < n/\∃i a c,Inv B pins a c z/\R i z.heap/\(∀b∈C,c b=none)/\W i m a c:=λ{f q z} F n8=>by
   obtain⟨m',hm,w8⟩:=hN f q n8;refine⟨m',hm,i+1,f,q,F.ko,T.keep _ _ _ y λb l o e=>(F.pin (b,o) (Wf _ (Wf _ (fY l e)))).1,λb l=>?_,w8⟩;obtain⟨o,e,d⟩:=T.obj _ _ y b l;exact(F.pin (b,o) (Wf _ (Wf _ (fY l e)))).2.1
  refine VT (WA (up (U _ s7 v H7 _ J7 q7)) (λok z h8=>?_) λ_ _ e=>e);obtain⟨q,F,q8⟩:=h8;cases ok with
  | false=>exact VY ⟨rfl,again F (by simpa using q8)⟩
  | true=>
   have S:tm v q N':=by simpa using q8
   refine VT (WA (up (hm _ z v q _ F S)) (λ_ s9 h9=>?_) λ_ _ e=>e);obtain⟨τ9,H9,J9,n9⟩:=h9;exact VY ⟨rfl,again J9 n9⟩
def Jw{env:Env}{g c:Value}{a:Expr}{prog:Program}{w:World}{A:Around}{s:Shared}{R:Result->Shared->Prop}(k:Plain e)(i:(clausesOf e)[d]?=some ⟨l,a,ifs,0⟩)
  (h0:codeAny (model prog w) A (.compLoop e d g c env) R s)
  (h:wpAny (model prog w) A (pyIter g) (λb f=>codeAny (model prog w) A (.compLoop e d b c env) R f) (notedBy (model prog w) A env λx f=>R (.error x) f) s):
  codeAny (model prog w) A (.compStart e d g c env) R s:=by
 refine Aag ?_;rw[k.us,k.start];refine wpAny_notedAt ?_;unfold compStart;rw[i];show wpAny _ _ (ask >>=_) _ _ s;refine VT (wpAny_askSetting (wpAny_ite ?_))
 split
 ·first
   | exact VT (VY (VY (And.intro rfl h0)))
   | exact VY (And.intro rfl h0)
 ·first
   | exact VT (Yq (VT (W5 (VT (WA h (λb f j=>VY (And.intro rfl j)) λ_ _ x=>x)))))
   |(refine VT (Yq ?_);show wpAny _ _ (standAt a.pos >>=_) _ _ s;exact VT (W5 (VT (WA h (λb f j=>VY (And.intro rfl j)) λ_ _ x=>x))))
def QV(b:TI)(g:TG)(c:TT)(tm:TK):TK:=λa H N=>b a H λJ d=>vL J g c tm N a d
def Lh(l:Plain e)(j:(clausesOf e)[d]?=some ⟨f,iter,ifs,0⟩)(ht:∀c:Addr,compTurn e d (.ref c) acc B.env=g8 e d f ifs act p (.ref c) acc B.env)(hc:B.calm=true)(u:B.xe=λ_ _=>False)(w:PI B f iter n)(y:PG B f g)(i:GL B ifs o)(hm:PM B act tm)(hs:∀x,foldedSetIterable iter B.env x=pure x:=by intro _;rfl):PM B (oD e d iter acc B.env) (QV n g o tm):=by
 intro b s m H N I h;unfold oD;refine VT (cx (w b s m H _ I h) λv O E=>?_);refine VT (W5 (VT (wpAny_of_eq (hs v) (VT (WE (cx E λt M C=>?_))))));obtain⟨c,Q,L,J,R,e,G,T,a,F,z⟩:=C;subst e;have k:=MX l (ht c) hc u y i hm G T a F z;refine VT (wpAny_runOwn (Yr (Jw l j k (T.self B.A 0 _ _ _ a k)) λr P hr=>?_));obtain⟨rfl,q⟩:=hr;exact VY q
def Kb(X:Cx)(d:Sem Value)(o:Addr->HO):Prop:=∀(a:List (Addr×Obj)) (s:Shared) (b:St) (H:Hp) (Q:Value->Shared->Prop) (E:Value->Shared->Prop),Inv X a b H s->
 (∀(obj:Obj)(c:Nat),Inv X a b (upd H s.heap.objs.size (o s.heap.objs.size)) {s with heap:=s.heap.push obj,toks:=c}->Q (.ref s.heap.objs.size) {s with heap:=s.heap.push obj,toks:=c})->wpAny (model X.prog X.w) X.A d Q E s
def pI(a:List (Option Nat))(d:TI)(o:Addr->HO)(g:TG)(e:TT)(tm:Addr->TK):TE:=λb H Q=>d b H λJ c=>∀l,c l=none->vL J g e (tm l) (λ_ f=>Q (.ref l) f) (k6 a b) (upd c l (o l))
section
variable {X:Cx} {N':List Str} {caps:List (Option Nat)} {scope:Scope} {e tg iter:Expr} {ifs:List Expr} {p:Pos} {wi:TI} {g:TG} {tc:TT} {tm:Addr->TK} {o:Addr->HO} {na:Sem Value} {act:Addr->Env->Sem Unit}
def JE(S:bp X N' caps scope)(hc:X.calm=true)(hk:Plain e)(hcl:(clausesOf e)[0]?=some ⟨tg,iter,ifs,0⟩)(ht:∀(U l:Addr)(env:Env),compTurn e 0 (.ref U) (.ref l) env=g8 e 0 tg ifs (act l env) p (.ref U) (.ref l) env)
  (hA:Kb X na o) (hg:∀C a f i pl,PG (gy X N' scope C a f i pl) tg g) (hif:∀C a f i pl,GL (gy X N' scope C a f i pl) ifs tc)
  (hm:∀C a f i pl l,PM (gy X N' scope C a f i pl) (act l (gy X N' scope C a f i pl).env) (tm l)) {d:List (Addr×Obj)} {Y:St} {H:Hp} {s:Shared} {U:Addr} {i:List Addr} {tn:Nat->Heap->Prop} {J:It}
  (I:Inv X d Y H s) (T:Turn X.prog X.w X.K tg J i U tn) (st:tn 0 s.heap) (hf:∀b∈i,i5 X d H b) {Q:VK} {RR:Value->Addr->Result->Shared->Prop} {E:Value->Shared->Prop}
  (h:∀l,H l=none->vL J g tc (tm l) (λ_ R=>Q (.ref l) R) (k6 caps Y) (upd H l (o l)))
  (hRR:∀(l C:Addr)(R:Hp)(L:Shared),R C=none->C≠X.env.locals->X.s₀.heap.objs.size<=C->(∀x c,X.env.cells.lookup x=some c->c≠C)->(∀p∈X.pn++d,p.1≠C)->(∃m,L.heap.Ns C m)->Inv X d Y R L->
   (∀h'':Heap,(∀b u,b≠C->L.heap.get? b=some u->h''.get? b=some u)->Inv X d Y R {L with heap:=h''})->Q (.ref l) R->RR (.ref l) C (.ok .next) L):
  wpAny (model X.prog X.w) X.A na (λacc a=>wpAny (model X.prog X.w) X.A (newFunctionEnv scope X.env.globals (gR X.env scope.names []) [] X.env.qual none .none (some X.env)) (λP Z=>
   codeAny (model X.prog X.w) X.A (.compStart e 0 (.ref U) acc {P with scope:=relabel scope X.env}) (RR acc P.locals) Z) E a) E s:=by
 have hw:=h s.heap.objs.size I.fresh;refine hA d s Y H _ _ I λobj t' G=>ZG S.qj (by intro y hy;simp at hy) (λM t n=>?_) S.kind;have N:∀b∈i,b < s.heap.objs.size:=λb j=>by
  obtain⟨o,e,_⟩:=T.obj 0 _ st b j;exact V8 e
 have F:∀b∈i,i5 X d (upd H s.heap.objs.size (o s.heap.objs.size)) b:=λb j=>⟨by rw[aB (Wk (N b j))];exact(hf b j).1,(hf b j).2⟩;have k:∀b u,(s.heap.push obj).get? b=some u->M.get? b=some u:=λb u e=>n.extBut b u (Wk (V8 e)) (V0 _ e);have st3:tn 0 M:=T.keep 0 _ _ st λb j o e=>k b o (V0 _ e);have O:∀b∈i,b < (s.heap.push obj).objs.size:=λb j=>by
  have:=N b j;rw[XA];exact Zf this
 have J0:=Inv.block S G hc F O t k (t₄:=t');have fpB:∀b∈i,i5 (gy X N' scope (s.heap.push obj).objs.size {s with heap:=s.heap.push obj,toks:=t'} (upd H s.heap.objs.size (o s.heap.objs.size)) i d) [] (upd H s.heap.objs.size (o s.heap.objs.size)) b:=λb j=>by
  obtain⟨f0,f1,f2,f3,f4,f5⟩:=F b j;refine⟨f0,Wk (O b j),λz=>?_,.inl j,λx c e=>f4 x c (S.look G.ok e),λp hp=>?_⟩
  ·rcases Wh.mp (G.pM b z) with q | q
   ·exact f1 q
   ·exact f2 q
  ·rcases Wz.mp hp with q | q
   ·exact f5 p q
   ·cases q
 have lp:=MX hk (ht U s.heap.objs.size _) rfl rfl (hg _ _ _ _ _) (hif _ _ _ _ _) (hm _ _ _ _ _ s.heap.objs.size) J0 T st3 fpB hw;refine Yr (Jw hk hcl lp (T.self X.A 0 _ _ _ st3 lp)) λr L hr=>?_;obtain⟨rfl,τ,R,J,q⟩:=hr;refine hRR _ _ R L J.free ?_ ?_ ?_ ?_ ?_ ?_ ?_ q
 ·exact(Wk G.lt).symm
 ·exact G.sz
 ·intro x c e z;obtain⟨v,o,ho,_⟩:=G.cell x c e;exact Wk (V8 ho) z
 ·intro p hp z;obtain⟨e,_⟩:=G.pin p hp;exact Wk (V8 e) z
 ·obtain⟨m,hm,_⟩:=J.loc;exact⟨m,hm⟩
 ·have:=Inv.sI S G F J (h'':=L.heap) λb u _ e=>e;exact this
 ·exactλh'' hs=>Inv.sI S G F J hs
def Im(S:bp X N' caps scope)(hc:X.calm=true)(F:Plain e)(j:clausesOf e=⟨tg,iter,ifs,0⟩::gs)(ht:∀(n l:Addr)(env:Env),compTurn e 0 (.ref n) (.ref l) env=g8 e 0 tg ifs (act l env) p (.ref n) (.ref l) env)(R:Kb X na o)(G:PI X tg iter wi)(L:∀C a c f pl,PG (gy X N' scope C a c f pl) tg g)(r:∀C a c f pl,GL (gy X N' scope C a c f pl) ifs tc)(hm:∀C a c f pl l,PM (gy X N' scope C a c f pl) (act l (gy X N' scope C a c f pl).env) (tm l))(M:eval e X.env=comprehension e scope X.env p0 na false (eval iter X.env))(hs:∀x,foldedSetIterable iter X.env x=pure x:=by intro _;rfl):PE X e (pI caps wi o g tc tm):=by
 intro d s z H Q I h;rw[M];refine YI (use:=none) j hs (iu (S.has I.ok)) S.kind S.names (cx (G d s z H _ I h) λv s1 Y=>cx Y λE s2 U=>?_);obtain⟨n,f,tn,J,H2,e,I2,T,k,Z,O⟩:=U;subst e;refine JE (RR:=λy C=>compPost (model X.prog X.w) X.A X.xe none (EP X d z Q) y C) S hc F (by rw[j];rfl) ht R L r hm I2 T k Z O ?_;intro l C H' s' _ _ _ _ _ hm _ P q;obtain⟨m,hm⟩:=hm;exact⟨m,hm,λt i=>⟨.ref l,H',P t λb u N e=>i.extBut b u N e,rfl,q⟩⟩
def HZ(hN:X.N.Nodup)(O:X.N[i]?=some y)(hy:X.env.scope.names.lookup y=some .local)(S:bp X N' caps scope)(hc:X.calm=true)(hk:Plain e)(t:clausesOf e=⟨tg,iter,ifs,0⟩::gs)(ht:∀(it l:Addr)(env:Env),compTurn e 0 (.ref it) (.ref l) env=g8 e 0 tg ifs (act l env) p (.ref it) (.ref l) env)(hA:Kb X na o)(hi:PI X tg iter wi)(hg:∀C c d j pl,PG (gy X N' scope C c d j pl) tg g)(M:∀C c d j pl,GL (gy X N' scope C c d j pl) ifs tc)(hm:∀C c d j pl l,PM (gy X N' scope C c d j pl) (act l (gy X N' scope C c d j pl).env) (tm l))(he:∀use,evalThenUse e X.env use=(do let _<-comprehension e scope X.env p0 na false (eval iter X.env) (some use)))(G:swapsWith e (some (.Name y py)) n.line X.env=pure true:=by rfl)(hs:∀x,foldedSetIterable iter X.env x=pure x:=by intro _;rfl):
  PS X (.Assign [.Name y py] e n) (ES (pI caps wi o g tc tm) (rL i)):=by
 intro f s σ H D I h;rw[exec_Assign_Name_used _ _ _ _ G];refine VT (W5 (VT ?_));rw[he];refine VT (WA (YI (use:=some (assign (.Name y py) X.env)) (Q:=λ_ k=>SP X f D .next k) t hs (iu (S.has I.ok)) S.kind S.names
  (cx (hi f s σ H _ I h) λv s1 h1=>cx h1 λitv s2 h2=>?_)) (λ_ k hq=>VY (VY hq)) λ_ _ e=>e)
 obtain⟨it,j,tn,J,H2,e,I2,T,F,f2,hQ⟩:=h2;subst e;refine JE (Q:=λx H1=>rL i x σ H1 D.nx) (RR:=λacc C=>compPost (model X.prog X.w) X.A X.xe (some (assign (.Name y py) X.env)) (λ_ k=>SP X f D .next k) acc C) S hc hk (by rw[t];rfl) ht hA hg M hm I2 T F f2 hQ ?_;intro l C H' k hC E Z u U hm R hI q;obtain⟨m,hm⟩:=hm;show wpAny _ X.A (assign (.Name y py) X.env (.ref l)) _ _ k;refine ZY (pL (v:=.ref l) R hN O (.inl hy) rfl (λs5 I5 P=>?_) (.inr hy));obtain⟨a,L,ha⟩:=P;have Y:C≠a:=by
  rcases ha with z | z
  ·rw[z];exact E
  ·exact(u _ _ z).symm
 refine⟨m,hm.sameBut L Y,λh'' r=>?_⟩;have I6:=I5.turned (t':=s5.toks) (h':=h'') (it:=C) (λb o hb e=>r.extBut b o hb e) hC E (.inr Z) u U;exact⟨_,H',I6,q⟩
end
end L2
namespace Sm
open L2 PyProof.Rows
structure Ac(α:Type)where
 at_:FR->Ad->Hp->Addr->α->Prop
 mono:∀{K:FR} {ρ ρ':Ad} {H H':Hp} {l:Addr} {a:α},at_ K ρ H l a->Ch ρ H ρ' H'->H' l=H l->at_ K ρ' H' l a
abbrev MK(α:Type):=DS->MH->α->Option (DS×MH×α)
def fP{e:Type}(b:W)(g:GM)(c:TM)(m:MK e):List D->MK e
 | [],d,h,a=>if mB b h then some (d,h,a) else none
 | x::r,d,h,a=>if mB b h then(g x d h).bind λq=>(c q.1 q.2).bind λt=>if t.1 then(m q.1 t.2 a).bind λz=>fP b g c m r z.1 z.2.1 z.2.2 else fP b g c m r q.1 t.2 a else none
structure nA(l:Addr)(ρ:Ad)(H:Hp)(ρ':Ad)(H':Hp):Prop where
 ch:Ch ρ H ρ' H'
 rs:ρ'.rs=ρ.rs
 res:∀b∈ρ.rs,b≠l->H' b=H b
theorem nA.refl:nA l a H a H:=⟨.refl _ _,rfl,λ_ _ _=>rfl⟩
theorem nA.trans(a:nA l f H d H1)(b:nA l d H1 c g):nA l f H c g:=⟨a.ch.trans b.ch,b.rs.trans a.rs,λx e n=>(b.res x (a.rs ▸ e) n).trans (a.res x e n)⟩
def dG.Tw(a:dG d H c H1):nA l d H c H1:=⟨a.toCh,a.rs,λb e _=>a.res b e⟩
inductive SF{α:Type}(K:FR)(A:Ac α)(l:Addr)(m:MK α)(τ:L2.St)(H:Hp)(N:L2.St->Hp->Prop):Prop where
 | mk (ρ δ h a δ' h' a'):cB K ρ H τ δ->bT K ρ h H->l∈ρ.rs->A.at_ K ρ H l a->(m δ h a=some (δ',h',a'))->(∀ρ' H' τ',nA l ρ H ρ' H'->bT K ρ' h' H'->cB K ρ' H' τ' δ'->A.at_ K ρ' H' l a'->N τ' H')->SF K A l m τ H N
def My{a:Type}(K:FR)(A:Ac a)(l:Addr)(m:MK a):TK:=λb H N=>SF K A l m b H N
section
variable {α:Type} {K:FR} {A:Ac α} {l:Addr} {g:GM} {mt:TM} {m:MK α}
def DP(It:Qq K J ρ H ws xs)(T1:Ch ρ H d H1)(R:cB K d H1 τ δ)(S:bT K d h H1)(hl:l∈d.rs)(hA:A.at_ K d H1 l a)(e:fP ws g mt m xs δ h a=some (z,h',a'))(k:∀b f o,nA l d H1 b f->bT K b h' f->cB K b f o z->A.at_ K b f l a'->N o f):vL J (GD K g) (DG K mt) (My K A l m) N τ H1:=by
 refine⟨λi n o f=>∃(b:Ad)(w:DS)(C:MH)(a2:α),n=xs.length-i/\i<=xs.length/\nA l d H1 b f/\cB K b f o w/\bT K b C f/\A.at_ K b f l a2/\fP ws g mt m (xs.drop i) w C a2=some (z,h',a'),
  ⟨_,d,δ,h,a,rfl,Xb _,.refl,R,S,hA,e⟩,?_⟩
 rintro i n o f ⟨b,w,C,a2,rfl,hi,E,R2,S2,L,j⟩;have I:l∈b.rs:=by rw[E.rs];exact hl
 cases q:xs.drop i with
 | nil=>
  rw[q] at j;unfold fP at j
  by_cases hc:mB ws C=true
  ·rw[V1 hc] at j;cases j;have hle:xs.length<=i:=by have:=congrArg List.length q;rw[XN,Yj] at this;lia
   exact .inl ⟨(It.run _ f _ (T1.trans E.ch) S2 hc i).1 hle,k _ _ _ E S2 R2 L⟩
  ·rw[V4 hc] at j;cases j
 | cons x r=>
  rw[q] at j;unfold fP at j
  by_cases hc:mB ws C=true
  ·rw[V1 hc] at j;have hx:xs[i]?=some x:=by
    have:=congrArg (λl=>l[0]?) q
    simpa using this
   have hlt:i < xs.length:=(VW.mp hx).1;have hr:xs.drop (i+1)=r:=by
    have:=congrArg List.tail q
    simpa using this
   obtain⟨⟨u,h3⟩,e4,Q⟩:=bq j;obtain⟨⟨t,h4⟩,e6,M⟩:=bq Q;dsimp only at e4 Q e6 M;obtain⟨hgo,hy⟩:=(It.run _ f C (T1.trans E.ch) S2 hc i).2 x hx;refine .inr ⟨hgo,λF y=>∃(c:Ad)(s:DS)(P:MH)(T:α),nA l d H1 c y/\cB K c y F s/\bT K c P y/\A.at_ K c y l T/\fP ws g mt m r s P T=some (z,h',a'),?_,?_⟩
   ·rintro F y ⟨c,s,P,T,O,R5,U,X,Q⟩;exact⟨xs.length-(i+1),by lia,c,s,P,T,rfl,hlt,O,R5,U,X,by rw[hr];exact Q⟩
   ·intro v H3 y3;obtain⟨T3,S3,r3⟩:=hy v H3 y3;refine⟨b,w,C,x,u,h3,R2.mono T3.toCh,S3,r3,e4,λZ H4 τ4 T4 S4 R4=>?_⟩;refine⟨Z,u,h3,t,h4,R4,S4,e6,λc y O U=>?_⟩;have p:dG b f c y:=T3.trans (T4.trans O);have X:A.at_ K c y l a2:=A.mono L p.toCh (p.res l I);cases t with
    | false=>
     rw[V4 (by simp)] at M;exact Pl ⟨c,u,h4,a2,E.trans p.Tw,R4.mono O.toCh,U,X,M⟩
    | true=>
     rw[V1 rfl] at M;obtain⟨⟨G,h6,a6⟩,e8,e9⟩:=bq M;refine Pk ⟨c,u,h4,a2,G,h6,a6,R4.mono O.toCh,U,by rw[p.rs];exact I,X,e8,λY H7 τ7 T7 S7 R7 A7=>?_⟩;exact⟨Y,G,h6,a6,(E.trans p.Tw).trans T7,R7,S7,A7,e9⟩
  ·rw[V4 hc] at j;cases j
def HB(Y:∀f H l,A.at_ K f (upd H l (o l)) l a0)(hh:∃f p h r s t n y E,cB K f H σ p/\bT K f h H/\X p h=some (r,s,t)/\fP s g mt m r (eV e p) t a0=some (n,y,E)/\∀l d v,dG f H d v->bT K d y v->¬d.has l->A.at_ K d v l E->Q (.ref l) v):
  pI e (Nz K X) o (GD K g) (DG K mt) (λl=>My K A l m) σ H Q:=by
 obtain⟨f,p,h,r,s,t,n,y,E,R,S,e1,Z,k⟩:=hh;refine⟨f,p,h,r,s,t,R,S,e1,λJ a L N P It l hl=>?_⟩;have M:¬a.has l:=P.fresh hl;have F:Ch a L (a.keep l) (upd L l (o l)):=Ch.keep hl;refine DP It F (((R.mono N.toCh).k6 e).mono F) (P.keep hl) (V3) (Y _ _ _) Z λw u U I O R2 A2=>?_;obtain⟨i,x⟩:=w;have C:x=l::a.rs:=I.rs;subst C;have c:∀b∈a.rs,b∈l::a.rs:=λb j=>V5 _ j;have T:Ch ⟨i,l::a.rs⟩ u ⟨i,a.rs⟩ u:=Ch.free c;have q:∀b∈a.rs,b≠l:=λb j z=>M (.inr (z ▸ j));have G:dG a L ⟨i,a.rs⟩ u:=⟨(F.trans I.ch).trans T,rfl,λb j=>(I.res b (c b j) (q b j)).trans (aB (q b j))⟩;refine k l _ u (N.trans G) (O.free c) (λz=>?_) (A.mono A2 T rfl);rcases z with z | z
 ·exact(O.vT l V3).2 z
 ·exact M (.inr z)
end
def Tq{b:Type}(X:Cx)(a:Addr->Env->Sem Unit)(A:Ac b)(m:MK b):Prop:=∀l,L2.PM X (a l X.env) (My X.K A l m)
def _root_.L2.PM.imp(h:L2.PM X a t)(i:∀b H Q,d b H Q->t b H Q):L2.PM X a d:=λc s b H Q I q=>h c s b H Q I (i b H Q q)
def xB{d:Type}(i:IM)(g:GM)(c:TM)(m:MK d):MK d:=λb h a=>(i b h).bind λp=>fP p.2.1 g c m p.1 b p.2.2 a
section
variable {α:Type} {X:Cx} {A:Ac α} {g:GM} {mt:TM} {m:MK α} {mi:IM} {e tg iter:Expr} {ifs:List Expr} {d:Nat} {p:Pos} {act:Addr->Env->Sem Unit}
def KC(w:Plain e)(n:(clausesOf e)[d]?=some ⟨tg,iter,ifs,0⟩)(ht:∀(c l:Addr)(env:Env),compTurn e d (.ref c) (.ref l) env=g8 e d tg ifs (act l env) p (.ref c) (.ref l) env)(hc:X.calm=true)(v:X.xe=λ_ _=>False)
  (y:SI X tg iter mi) (z:SG X tg g) (j:M5 X ifs mt) (hm:Tq X act A m) (hs:∀x,foldedSetIterable iter X.env x=pure x:=by intro _;ac_nf):Tq X (λl env=>oD e d iter (.ref l) env) A (xB mi g mt m):=λl=>
 (Lh w n (λc=>ht c l X.env) hc v y z j (hm l) hs).imp λσ H Q u9=>by
  obtain⟨q,s,h,a,r,T,U,R,S,hl,C,F,k⟩:=u9;obtain⟨⟨t,u,E⟩,I,G⟩:=bq F;exact⟨q,s,h,t,u,E,R,S,I,λJ o Y b N It=>DP It (.refl _ _) (R.mono b.toCh) N (by rw[b.rs];exact hl) (A.mono C b.toCh (b.res l hl)) G λi O f L M R2 P=>k i O f (b.Tw.trans L) M R2 P⟩
end
end Sm
namespace L2
open PyProof.Rows
section
variable {P:Program} {w:World} {A:Around} {E:Value->Shared->Prop} {s:Shared} {a:Addr} {ks:List Str}
end
noncomputable def GG(a b:Str):Bool:=!ltCps b.cps.toList a.cps.toList
def jN:GG a b=true↔strKind.kle a.cps.toList b.cps.toList:=by
 unfold GG KeyOrd.kle;rw[ltCps_eq];simp
def xH(a b c:Str)(e:GG a b=true)(d:GG b c=true):GG a c=true:=jN.mpr (KeyOrd.kle_trans (jN.mp e) (jN.mp d))
def FO(a b:Str):(GG a b||GG b a)=true:=by
 rw[X1]
 by_cases z:strKind.klt b.cps.toList a.cps.toList
 ·exact .inr (jN.mpr (KeyOrd.kle_of_klt z))
 ·exact .inl (jN.mpr (KeyOrd.kle_of_not_klt z))
def AV(a b:Str)(d:GG a b=true)(c:GG b a=true):a=b:=by
 have:=KeyOrd.kle_antisymm (jN.mp d) (jN.mp c);cases a;cases b;congr 1;exact Array.toList_inj.mp this
def eT(ks:List Str):List Str:=ks.mergeSort GG
def cg(ks:List Str):(eT ks).Perm ks:=List.mergeSort_perm _ _
def jF(ks:List Str):(eT ks).Pairwise λa b=>GG a b=true:=Aad xH FO ks
theorem xj:∀(l:List Str)(p:Str),risingS p l=true->(p::l).Pairwise λa b=>GG a b=true
 | [],p,_=>by simp
 | x::r,p,h=>by
  have c:(!ltCps x.cps.toList p.cps.toList&&risingS x r)=true:=h;rw[Wm] at c;have e:=xj r x c.2;refine List.pairwise_cons.mpr ⟨λy d=>?_,e⟩;rcases Wh.mp d with rfl | d
  ·exact c.1
  ·exact xH _ _ _ c.1 ((List.pairwise_cons.mp e).1 y d)
def z5(hp:ss.Perm ks)(h:sortedS ss=true):ss=eT ks:=by
 refine Zk (λa b _ _=>AV a b) ?_ (jF ks) (hp.trans (cg ks).symm)
 match ss,h with
 | [],_=>exact .nil
 | x::r,h=>exact xj r x h
def EY{vs:List Value}{p:List Str}{Q:Value->Shared->Prop}(d:StrsAre vs p)(g:vs.length < 64)
  (h:∀i n (out:Array Value),(∀b o,s.heap.get? b=some o->i.get? b=some o)->i.get? s.heap.objs.size=some (seqObj "list" out n)->StrsAre out.toList (eT p)->Q (.ref s.heap.objs.size) {s with heap:=i}):
  wpAny (model P w) A (do let l<-newList vs;let _<-holding [l] (call (.builtin "list.sort") [l] []);ret l) (λj u=>∃v,j=Fin.done (Flow.ret v)/\Q v u) E s:=by
 refine VT (wpAny_newList ?_ (by rw[Xq];lia));have f:(s.heap.push (seqObj "list" vs.toArray 0)).get? s.heap.objs.size=some (seqObj "list" vs.toArray 0):=Wn _ rfl;show wpAny _ _ _ _ _ {s with heap:=s.heap.push (seqObj "list" vs.toArray 0)};refine VT (WE (Xv slot_list_sort ⟨_,f,rfl⟩ entry_list_sort (list_sort_treeK (s:={s with heap:=s.heap.push (seqObj "list" vs.toArray 0)}) strKind_oneLt f d.keysOf (λm k q e=>keyKind_strs (by rw[<-e];exact d)) g λa hp hs=>⟨_,rfl,?_⟩) (args_list_sort _)));obtain⟨t,z,y,x⟩:=sorted_out_str d hp hs;have:=z5 y x;subst this;have c:s.heap.objs.size < (s.heap.push (seqObj "list" vs.toArray 0)).objs.size:=by rw[XA];exact Nat.lt_succ_self _
 obtain⟨n,hn⟩:=sortedHeap_at (vs:=vs) (out:=(arrOf a).map (·.2)) f;refine VY ⟨_,rfl,h _ n _ (λb o e=>?_) hn z⟩;have r:=V8 e;rw[sortedHeap_old (Wk r) (YL r c)];exact V0 _ e
def Fo:Kb X (newList []) (λ_=>.lst []):=λa s b H Q E I h=>W2 (h _ _ (I.LC (t':=s.toks) (its:=[]) (ys:=[]) .nil (Xb _)))
def Fp:Kb X newDict (λ_=>.dK []):=λb s c H Q E I h=>by
 unfold newDict;exact W2 (h _ s.toks (I.laid (a:=s.heap.objs.size) (o:=.dK []) (t':=s.toks) (λ_ _ q=>V0 _ q) (VZ _) (vc s.heap I.big)))
def NA(d:TE)(l:Addr):TK:=λb H N=>d b H λy c=>∃a,c l=some (.lst a)/\a.length < sizeLine/\N b (upd c l (.lst (a++[y])))
def Li(r:PE B elt j):PM B (oQ elt (.ref l) B.env) (NA j l):=λa s b H N I h=>by
 unfold oQ;refine VT (cx (r a s b H _ I h) λy k t=>?_);obtain⟨g,v,u,n,i,q,p,o⟩:=t;refine VT (WA (qk (X:=B) _ k b v (.ref l) [g] (.ref l) [y] (λ_ x=>N b x) u rfl (.cons n .nil) ⟨_,i,g,rfl,rfl,q,p,o⟩) (λ_ m d=>?_) λ_ _ e=>e);obtain⟨_,w,f,_,c⟩:=d;exact VY ⟨_,_,f,c⟩
def NB(f e:TE)(l:Addr):TK:=λb H N=>f b H λx g=>e b g λy d=>∃a c,d l=some (.dK a)/\x=kV c/\a.length < sizeLine/\N b (upd d l (.dK (putK a c y)))
def Lj(C:PE B k o)(w:PE B v n):PM B (oR k v l B.env) (NB o n l):=λa s f H N I h=>by
 unfold oR;refine VT (cx (C a s f H _ I h) λQ p G=>?_);obtain⟨x,M,L,t,u⟩:=G;refine VT (WE (cx (w a p f M _ L u) λO P F=>?_));obtain⟨y,S,j,r,c,g,e,rfl,R,n2⟩:=F;refine VT (W5 (WE ?_));obtain⟨z,hd,m,b,dd⟩:=Bi j.bu e;have i:m.length<=sizeLine:=by rw[<-b.length];exact z
 have hl:(putK c g y).length<=sizeLine:=by have:=iK c g y;lia
 refine wpAny_dictSet_pairs (hsz:=i) (oF t) dd λJ d hs=>?_;have E:∃q,J.get? l=some q:=let⟨q,_,_,A,_⟩:=d;⟨q,A⟩;exact⟨f,_,sV j (by rw[e];exact True.intro) hs E (Dk hl hd (b.put g r) d),n2⟩
end L2
namespace Sm
open L2 PyProof.Rows
noncomputable def Tn:Ac (List D) where
 at_:=λK c H l a=>∃b,H l=some (.lst b)/\aH K c H b a
 mono:=λ⟨b,e,r⟩ T q=>⟨b,q.trans e,r.mono T⟩
noncomputable def To:Ac (List (Key×D)) where
 at_:=λK b H l a=>∃us,H l=some (.dK us)/\bO K b H us a
 mono:=λ⟨c,e,r⟩ T q=>⟨c,q.trans e,r.mono T⟩
noncomputable def mL(e:EM):MK (List D):=λb h a=>(e b h).bind λp=>if a.length < sizeLine then some (b,p.2,a++[p.1]) else none
def mD(k v:EM):MK (List (Key×D)):=λb h a=>(k b h).bind λp=>(v b p.2).bind λq=>(sA p.1).bind λc=>if a.length < sizeLine then some (b,q.2,putD a c q.1) else none
theorem nA.put{K:FR}(T:dG d H a H1)(hl:l∈d.rs):nA l d H a (upd H1 l o):=by
 have c:l∈a.rs:=by rw[T.rs];exact hl
 exact⟨T.toCh.trans (Ch.put c),T.rs,λb e n=>(aB n).trans (T.res b e)⟩
def KD(v:SE X elt r):Tq X (λl env=>oQ elt (.ref l) env) Tn (mL r):=λl=>(Li v).imp λm H N ⟨n,p,h,a,o,A,C,R,S,hl,⟨i,t,j⟩,e,s⟩=>by
 obtain⟨⟨y,z⟩,w,d⟩:=bq e;dsimp only at d
 by_cases g:a.length < sizeLine
 ·rw[V1 g] at d;cases d;refine⟨n,p,h,y,_,R,S,w,λu H1 ⟨b,f,x,q⟩=>⟨i,(f.res l hl).trans t,by rw[j.length];exact g,?_⟩⟩;have c:l∈b.rs:=by rw[f.rs];exact hl
  have k:Ch b H1 b (upd H1 l (.lst (i++[u]))):=Ch.put c;exact s b _ m (nA.put (K:=X.K) f hl) (x.put c) ((R.mono f.toCh).mono k) ⟨_,aP,((j.mono f.toCh).snoc q).mono k⟩
 ·rw[V4 g] at d;cases d
def bO.len{K:FR}{a:Ad}{H:Hp}{us:List (Key×V)}{ks:List (Key×D)}(r:bO K a H us ks):us.length=ks.length:=r.length
def KG(L:SE X k mk)(j:SE X v I):Tq X (λl env=>oR k v l env) To (mD mk I):=λl=>(Lj L j).imp λA H N ⟨C,n,h,a,E,Z,a',R,S,hl,⟨o,j,p⟩,e,J⟩=>by
 obtain⟨⟨x,q⟩,P,O⟩:=bq e;obtain⟨⟨y,Y⟩,s,M⟩:=bq O;obtain⟨c,r,f⟩:=bq M;dsimp only at s r f
 by_cases i:a.length < sizeLine
 ·rw[V1 i] at f;cases f;refine⟨C,n,h,x,q,R,S,P,λu H1 ⟨g,m,U,G⟩=>⟨g,n,q,y,_,R.mono m.toCh,U,s,λu2 w ⟨b,t,Q,F⟩=>⟨o,c,((m.trans t).res l hl).trans j,lM G r,by rw[p.len];exact i,?_⟩⟩⟩;have T:=m.trans t;have d:l∈b.rs:=by rw[T.rs];exact hl
  have z:Ch b w b (upd w l (.dK (putK o c u2))):=Ch.put d;exact J b _ A (nA.put (K:=X.K) T hl) (Q.put d) ((R.mono T.toCh).mono z) ⟨_,aP,((p.mono T.toCh).put F).mono z⟩
 ·rw[V4 i] at f;cases f
end Sm
namespace L2
open PyProof.Rows
def wL{us:List Value}{b:List Str}(a:StrsAre us b):Vals (b.map V.str) us:=by
 induction a with
 | nil=>exact .nil
 | cons x t r c=>exact .cons ⟨t,rfl⟩ c
end L2
namespace Sm
open L2 PyProof.Rows
def Kn{b:Type}(a:List (Option Nat))(i:IM)(g:GM)(c:TM)(m:MK b)(e:b)(out:b->D):EM:=λd h=>(i d h).bind λp=>(fP p.2.1 g c m p.1 (eV a d) p.2.2 e).map λq=>(out q.2.2,q.2.1)
section
variable {α:Type} {K:FR} {A:Ac α} {g:GM} {mt:TM} {m:MK α}
def HA(u:∀b H l,A.at_ K b (upd H l (o l)) l a0)(c:∀b H l a,A.at_ K b H l a->¬b.has l->Rep K b H (.ref l) (out a))(hh:tM K (Kn e s g mt m a0 out) σ H Q):pI e (Nz K s) o (GD K g) (DG K mt) (λl=>My K A l m) σ H Q:=by
 obtain⟨b,p,h,d,G,R,S,v,k⟩:=hh;obtain⟨⟨q,r,t⟩,z,y⟩:=bq v;obtain⟨⟨i,F,C⟩,x,w⟩:=gL y;cases w;exact HB u ⟨b,p,h,q,r,t,i,_,C,R,S,z,x,λl f I T E n j=>k _ _ ⟨f,T,E,c _ _ _ _ j n⟩⟩
def Rh{b:List (Option Nat)}{d:IM}{m:MK (List (Key×D))}{c:L2.St}{H:Hp}{Q:VK}(hh:tM K (Kn b d g mt m [] .dv) c H Q):pI b (Nz K d) (λ_=>.dK []) (GD K g) (DG K mt) (λl=>My K To l m) c H Q:=
 HA (A:=To) (o:=λ_=>.dK []) (a0:=[]) (out:=.dv) (λf H l=>show ∃us,_ from⟨[],aP,.nil⟩) (λf H l a h n=>by obtain⟨us,e,r⟩:=h;exact .dv e n r) hh
def Rg{b:List (Option Nat)}{d:IM}{m:MK (List D)}{c:L2.St}{H:Hp}{Q:VK}(hh:tM K (Kn b d g mt m [] .lv) c H Q):pI b (Nz K d) (λ_=>.lst []) (GD K g) (DG K mt) (λl=>My K Tn l m) c H Q:=
 HA (A:=Tn) (o:=λ_=>.lst []) (a0:=[]) (out:=.lv) (λf H l=>show ∃us,_ from⟨[],aP,.nil⟩) (λf H l a h n=>by obtain⟨us,e,r⟩:=h;exact .lv e n r) hh
end
def KY{X:Cx}{i:Nat}{m:EM}{t:TE}{E:Ends}{a:L2.St}{H:Hp}(hh:Ky X.K (aV i m) E a H)(imp:∀a H Q,tM X.K m a H Q->t a H Q):ES t (rL i) E a H:=imp _ _ _ (Cm hh)
section
variable {X:Cx} {k v tg iter elt tg2 iter2:Expr} {pos:Pos} {mk mv me:EM} {mt mt2:TM} {g g2:GM} {N':List Str} {caps:List (Option Nat)} {scope:Scope} {ifs ifs2:List Expr} {mi mi2:IM}
def Ha(hN:X.N.Nodup)(h:X.N[i]?=some y)(j:X.env.scope.names.lookup y=some .local)(C:bp X N' caps scope)(hc:X.calm=true)(o:SI X tg iter mi)(p:∀C a b c pl,SG (gy X N' scope C a b c pl) tg g)(f:∀C a b c pl,M5 (gy X N' scope C a b c pl) ifs mt)(n:∀C a b c pl,SE (gy X N' scope C a b c pl) k mk)(m:∀C a b c pl,SE (gy X N' scope C a b c pl) v mv)(e:swapsWith (.DictComp k v [⟨tg,iter,ifs,0⟩] scope pos) (some (.Name y py)) d.line X.env=pure true:=by ac_nf)(hs:∀x,foldedSetIterable iter X.env x=pure x:=by intro _;ac_nf):
  SS X (.Assign [.Name y py] (.DictComp k v [⟨tg,iter,ifs,0⟩] scope pos) d) (aV i (Kn caps mi g mt (mD mk mv) [] .dv)):=
 (HZ (g:=GD X.K g) (tc:=DG X.K mt) (tm:=λl=>My X.K To l (mD mk mv)) hN h j C hc (Cu ..) rfl (λr l env=>BN ..) Fp o p f (λC a b c pl l=>KG (n C a b c pl) (m C a b c pl) l) (λ_=>rfl) e hs).imp λE q H hh=>
  KY hh λ_ _ _=>Rh
def E4(C:bp X N' caps scope)(hc:X.calm=true)(m:SI X tg iter mi)(n:∀C a b c pl,SG (gy X N' scope C a b c pl) tg g)(f:∀C a b c pl,M5 (gy X N' scope C a b c pl) ifs mt)
  (h:∀C a b c pl,SI (gy X N' scope C a b c pl) tg2 iter2 mi2) (i:∀C a b c pl,SG (gy X N' scope C a b c pl) tg2 g2) (d:∀C a b c pl,M5 (gy X N' scope C a b c pl) ifs2 mt2)
  (he:∀C a b c pl,SE (gy X N' scope C a b c pl) elt me) (hs:∀x,foldedSetIterable iter X.env x=pure x:=by intro _;ac_nf) (e:∀env x,foldedSetIterable iter2 env x=pure x:=by intro _ _;ac_nf):
  SE X (.ListComp elt [⟨tg,iter,ifs,0⟩,⟨tg2,iter2,ifs2,0⟩] scope pos) (Kn caps mi g mt (xB mi2 g2 mt2 (mL me)) [] .lv):=
 (Im (g:=GD X.K g) (tc:=DG X.K mt) (tm:=λl=>My X.K Tn l (xB mi2 g2 mt2 (mL me))) C hc (uv ..) rfl (λj l env=>ym ..) Fo m n f
  (λC a b c pl l=>KC (X:=gy X N' scope C a b c pl) (uv ..) rfl (λj l env=>yl ..) rfl rfl (h C a b c pl) (i C a b c pl) (d C a b c pl) (KD (he C a b c pl)) (e _) l) rfl hs).imp λ_ _ _=>
  Rg
theorem pV{K:FR}{b:Ad}{H:Hp}:∀(a:List Str),(∀k∈a,PyData.strOk k=true)->aH K b H (a.map V.str) (a.map D.str)
 | [],_=>.nil
 | x::r,h=>.cons (.str (h x V3)) (pV r λk c=>h k (V5 _ c))
end
end Sm
namespace L2
open PyProof.Rows
section
variable {X:Cx} {e st:Expr} {te ts:TE} {pos p2:Pos}
end
end L2
namespace Sm
open L2 PyProof.Rows
section
variable {X:Cx} {e st a b c:Expr} {ma ms mb mc:EM} {pos p2:Pos}
abbrev Qm:=DS->MH->Option (List (Key×D)×MH)
noncomputable def OJ:Qm:=λ_ h=>some ([],h)
def jh(k v:EM)(r:Qm):Qm:=λd h=>(k d h).bind λp=>(v d p.2).bind λq=>(sA p.1).bind λf=>(r d q.2).map λz=>((f,q.1)::z.1,z.2)
inductive Sx(K:FR)(m:Qm)(σ:L2.St)(H:Hp)(Q:List (V×V)->Hp->Prop):Prop where
 | mk (ρ δ h kvs h'):cB K ρ H σ δ->bT K ρ h H->(m δ h=some (kvs,h'))->(∀us ρ' H',dG ρ H ρ' H'->bT K ρ' h' H'->bO K ρ' H' us kvs->Q (us.map λkv=>(kV kv.1,kv.2)) H')->Sx K m σ H Q
def Vx(K:FR)(m:Qm):L2.St->Hp->(List (V×V)->Hp->Prop)->Prop:=λd H Q=>Sx K m d H Q
def SP(X:Cx)(pos:Pos)(g:List (Option Expr))(d:List Expr)(m:Qm):Prop:=∃f,Qv X pos g d f/\∀h H Q,Vx X.K m h H Q->yo f h H Q
def NI:SP X pos [] [] OJ:=⟨[],Le,λσ H Q u9=>by
 obtain⟨d,g,h,f,i,R,S,e,k⟩:=u9;cases e;exact k [] d H (.refl _ _) S .nil⟩
def lD(L:SE X F mk)(J:SE X s E)(hr:SP X pos ks t m):SP X pos (some F::ks) (s::t) (jh mk E m):=by
 obtain⟨w,N,M⟩:=hr;refine⟨_,Ib L J N,λσ H Q u9=>?_⟩;obtain⟨q,i,h,G,h',R,S,P,k⟩:=u9;obtain⟨⟨x,n⟩,e1,e2⟩:=bq P;obtain⟨⟨y,l⟩,e3,e4⟩:=bq e2;obtain⟨I,Z,Y⟩:=bq e4;obtain⟨⟨r,hz⟩,U,T⟩:=gL Y;cases T;refine⟨q,i,h,x,n,R,S,e1,λv H1 ⟨g,j,S1,C⟩=>⟨g,i,n,y,l,R.mono j.toCh,S1,e3,λu H2 u9=>?_⟩⟩;obtain⟨f,p,S2,A⟩:=u9;refine M σ H2 _ ⟨f,i,l,r,_,(R.mono j.toCh).mono p.toCh,S2,U,λus d H3 o S3 z=>?_⟩;have O:=lM C Z;subst O;exact k ((I,u)::us) d H3 ((j.trans p).trans o) S3 (.cons (A.mono o.toCh) z)
end
end Sm
namespace L2
open PyProof.Rows
open HT in
def EN{t c:Addr}{a:Array Value}{j i:Value}{b e:Option Int}{Q:Value->Shared->Prop}(ht:IsTup s.heap t a)(hs:s.heap.IsSliceOf c j i .none)(pl:IsPart j b)(k:IsPart i e)
  (hw:de a.size 0 b=0/\de a.size a.size e=a.size) (h:Q (.ref t) s):wpAny (model prog w) A (getItem (.ref t) (.ref c)) Q E s:=by
 obtain⟨os,d,f,l⟩:=id hs;have g:s.TypeIs (.ref c) "slice":=⟨os,d,f⟩;unfold getItem
 try with_reducible refine WE ?_
 first | refine VT (VY ?_) | skip
 refine VT (wpAny_sequenceKey ht.typeIs (by decide) ?_);refine VT (XI (name:=Str.ofString "__getitem__") ht.typeIs WZ (Xv WZ ht.typeIs entry_tuple_getitem ?_ (args_tuple_getitem _ _)));show wpAny _ _ (Builtin.Tuple.tupleItemsOf (.ref t) >>=_) _ _ s;refine VT (tupleItemsOf_ ht (VT (ZW g ?_)));rw[V1 (by decide)];refine VT (i9 hs pl k ?_);show wpAny _ _ (if(((de a.size 0 b:Nat):Int)==0&&(1:Int)==1&&(de a.size a.size e-de a.size 0 b)==a.size)=true then _ else _) _ _ s;rw[V1 (by rw[hw.1,hw.2];simp)];unfold Builtin.Tuple.tupleIsExact;simp only[bind_assoc,pure_bind];refine VT (ZW ht.typeIs ?_);rw[V1 (by decide)]
 first
  | exact VT (Yq (VY ⟨_,rfl,VY h⟩))
  | exact VT (Yq (VT (VY (VY ⟨_,rfl,VY h⟩))))
def Ul(K:FR):V->Option Int->Option Int->Hp->VK->Prop:=λx c d H Q=>∃a b,x=.ref a/\lj K H a b/\(HT.de b.length 0 c=0/\HT.de b.length b.length d=b.length)/\Q (.ref a) H
def He:Qj X (Ul X.K):=by
 intro d s k H x v m l o t n Q I f hs pl g h;obtain⟨a,e,rfl,i,j,q⟩:=h;cases f;obtain⟨c,r,ht,p⟩:=I.tuple i;have b:c.toArray.size=e.length:=by rw[Wi];exact r.length.symm
 exact⟨"tuple",_,WZ.lookup,ht.typeIs,EN ht hs pl g (by rw[b];exact j) ⟨.ref a,H,I,rfl,q⟩⟩
end L2
namespace Sm
open L2 PyProof.Rows
section
variable {X:Cx}
def ng(d:D)(a b:Option Int)(h:MH):Option (D×MH):=match d with
 | .tup xs=>if HT.de xs.length 0 a=0/\HT.de xs.length xs.length b=xs.length then some (.tup xs,h) else some (.tup (cutD xs a b),h)
 | d=>RY d a b h
def nj(a:EM)(l u:PM):EM:=λb h=>(a b h).bind λp=>(l b p.2).bind λq=>(u b q.2).bind λr=>ng p.1 q.1 r.1 r.2
inductive M7(K:FR)(x:V)(lo hi:Option Int)(H:Hp)(Q:VK):Prop where
 | mk (ρ h d z h'):bT K ρ h H->Rep K ρ H x d->(ng d lo hi h=some (z,h'))->(∀v H',dB K ρ H h' z v H'->Q v H')->M7 K x lo hi H Q
def Uq(K:FR):V->Option Int->Option Int->Hp->VK->Prop:=λx a b H Q=>M7 K x a b H Q
def ND:Qj X (Uq X.K):=by
 intro a s g H x v j i e f l Q I m hs pl o hh;obtain⟨p,h,d,z,q,S,rd,b,k⟩:=hh;cases d with
 | tup xs=>
  unfold ng at b;dsimp only at b
  by_cases c:HT.de xs.length 0 e=0/\HT.de xs.length xs.length f=xs.length
  ·rw[V1 c] at b;cases b;have n:=rd;cases rd with | tup h0 r=>
   exact He a s g H _ v j i e f l Q I m hs pl o ⟨_,_,rfl,h0.sq,by rw[r.length];exact c,k _ _ (.here S n)⟩
  ·rw[V4 c] at b;exact MB a s g H x v j i e f l Q I m hs pl o ⟨p,h,_,z,q,S,rd,by unfold RY;dsimp only;rw[V4 c];exact b,k⟩
 | _=>exact MB a s g H x v j i e f l Q I m hs pl o ⟨p,h,_,z,q,S,rd,b,k⟩
def Hm{a:Expr}{r s:Option Expr}{i E:Pos}{q:EM}{o n:PM}(G:SE X a q)(hl:SP' X r o)(F:SP' X s n):SE X (.Subscript a (.Slice r s none E) i) (nj q o n):=
 (Ih ND G hl F).imp λσ H Q u9=>by
  obtain⟨A,g,h,d,I,R,S,e,k⟩:=u9;obtain⟨⟨x,y⟩,P,O⟩:=bq e;obtain⟨⟨l,t⟩,N,M⟩:=bq O;obtain⟨⟨u,h3⟩,L,J⟩:=bq M;exact⟨A,g,h,x,y,R,S,P,λv H1 ⟨f,m,Y,C⟩=>⟨f,g,y,l,t,R.mono m.toCh,Y,N,λc H2 j U=>⟨c,g,t,u,h3,(R.mono m.toCh).mono j.toCh,U,L,λb H3 z T=>
   ⟨b,h3,x,d,I,T,C.mono (j.trans z).toCh,J,λw Z p=>k w Z (p.step (m.trans (j.trans z)))⟩⟩⟩⟩
noncomputable def zp:Fn:=λa h=>match a with
 | [.bl b]=>some (.int (if b then 1 else 0),h)
 | _=>none
def PN:gM X (.type "int") zp:=by
 intro b s g H j us Q I r hh;obtain⟨i,h,f,z,h',S,l,a,k⟩:=hh
 match f,l,a with
 | [],_,a=>exact ck a
 | _::_::_,_,a=>exact absurd a (by unfold zp;split <;> simp_all)
 | [d],l,a=>
  obtain⟨v,rfl,rd⟩:=rep1 l;cases rd <;> first |(exact ck a) | skip
  cases a;obtain⟨u,rfl,c⟩:=Vals.one r;cases c;exact call_int_bool ⟨.int _,H,I.kept (t':=s.toks+1) (h':=s.heap) λ_ _ e=>e,⟨_,rfl⟩,k _ _ (.here S (.int _))⟩
def kY(d e:D)(h:MH):Option (D×MH):=match d,e with
 | .str x,.int n=>if x.length<=1000/\0<=n/\n<=1000/\PyData.strOk (Txt.mul x n)=true then some (.str (Txt.mul x n),h) else none
 | d,e=>Pw d e h
def jL:pz X (binaryOp .Mult) kY:=by
 intro b s l H x y v u Q I i g hh;obtain⟨m,h,d,e,z,h',S,rd,j,a,k⟩:=hh;unfold kY at a
 split at a
 ·rename_i f n
  by_cases c:f.length<=1000/\0<=n/\n<=1000/\PyData.strOk (Txt.mul f n)=true
  ·rw[V1 c] at a;cases a;cases rd;cases j;obtain⟨A,rfl⟩:=i;obtain⟨w,rfl⟩:=g;obtain⟨t,C,r,q⟩:=c;refine SB.mul ⟨?_,λ_ _=>?_,λ_ _=>?_⟩ λt' o=>⟨.str _,H,I.kept (t':=o) (h':=s.heap) λ_ _ e=>e,⟨t',rfl⟩,k _ _ (.here S (.str q))⟩
   ·rw[WM (by lia),WM (by lia)];rfl
   ·have p:(9007199254740991:Int)<=(2^63-1) / n:=by
     refine Int.le_ediv_of_mul_le (by lia) ?_;have:9007199254740991*n<=9007199254740991*1000:=Int.mul_le_mul_of_nonneg_left r (by decide)
     lia
    lia
   ·have p:f.length*n.toNat<=1000*1000:=Nat.mul_le_mul t (by lia);refine WM ?_;have:=Xq
    lia
  ·rw[V4 c] at a;cases a
 ·exact OL b s l H x y v u Q I i g ⟨m,h,_,_,z,h',S,rd,j,a,k⟩
noncomputable def fv(f e:D->D->MH->Option (D×MH))(d c b:EM):EM:=λa h=>(d a h).bind λp=>(c a p.2).bind λq=>(f p.1 q.1 q.2).bind λr=>match r.1 with
 | .bl true=>(b a r.2).bind λu=>e q.1 u.1 u.2
 | .bl false=>some (.bl false,r.2)
 | _=>none
def As(hh:tM X.K (fv f Y O N M) σ H Q):BR (rS X.K f) (rS X.K Y) (tM X.K O) (tM X.K N) (tM X.K M) σ H Q:=by
 obtain⟨F,j,h,d,U,R,S,Z,k⟩:=hh;obtain⟨⟨x,s⟩,e1,e2⟩:=bq Z;obtain⟨⟨y,r⟩,A,e4⟩:=bq e2;obtain⟨⟨z,h3⟩,t,a⟩:=bq e4;dsimp only at A t a;refine⟨F,j,h,x,s,R,S,e1,λv H1 ⟨i,n,S1,L⟩=>⟨i,j,s,y,r,R.mono n.toCh,S1,A,λu H2 ⟨g,m,S2,p⟩=>⟨g,r,x,y,z,h3,S2,L.mono m.toCh,p,t,λw H3 u9=>?_⟩⟩⟩;obtain⟨e,l,E,J⟩:=u9;cases z with
 | bl b=>
  cases J;refine⟨b,rfl,?_⟩;cases b with
  | false=>
   cases a;exact Pl (k _ _ (dB.step (n.trans (m.trans l)) (.here E (.bl false))))
  | true=>
   obtain⟨⟨o,q⟩,e7,e8⟩:=bq a;have T:=n.trans (m.trans l);exact Pk ⟨e,j,h3,o,q,R.mono T.toCh,E,e7,λv' H4 ⟨c,C,S4,I⟩=>⟨c,q,y,o,d,U,S4,p.mono (l.trans C).toCh,I,e8,λG H5 P=>k G H5 (P.step (T.trans C))⟩⟩
 | _=>exact ck a
def Hq(j:pz X (compareOp op) f)(e:pz X (compareOp d) m)(l:SE X a i)(k:SE X b h)(hc:SE X c g)(hm:lastMarks [op,d] [b,c]=false:=by with_unfolding_all rfl):
  SE X (.Compare a [op,d] [b,c] pos) (fv f m i h g):=(Io j e l k hc hm).imp λ_ _ _=>As
def kz(k:pz X (compareOp op) f)(e:pz X (compareOp d) n)(m:SE X a j)(l:SE X b i)(hc:SE X c g)(hm:lastMarks [op,d] [b,c]=false:=by with_unfolding_all rfl):
  ST X (.Compare a [op,d] [b,c] pos) (az (fv f n j i g)):=(HV k e m l hc hm).imp λo H Q h=>As (KZ h)
end
end Sm
namespace L2
open PyProof.Rows
section
variable {X:Cx} {e st:Expr} {te ts:TE} {pos p2:Pos}
end
end L2
namespace Sm
open L2 PyProof.Rows
section
variable {X:Cx} {e st:Expr} {ma ms:EM} {pos p2:Pos}
end
end Sm
namespace L2
open PyProof.Rows
open HT in
def JF{t b:Addr}{e j:List Value}{Q:Value->Shared->Prop}(ht:IsTup s.heap t e.toArray)(q:IsTup s.heap b j.toArray)(p:e=[])(h:Q (.ref b) s):wpAny (model prog w) A (binaryOp .Add (.ref t) (.ref b)) Q E s:=by
 obtain⟨⟨r,dd,l,o⟩,k,hc,n,hd⟩:=id ht;obtain⟨⟨m,g,i,f⟩,a,d,n2,c⟩:=id q;simp only at hc hd d c;subst hc hd d c;exact concat_meets ⟨_,k,rfl⟩ ⟨_,a,rfl⟩ Z4 seq_tuple_add Zq Zn (Zi _ _)
   (tuple_addW0 t b e.toArray j.toArray n n2 dd g o f (by simp[p])) ⟨k,a,h⟩
def IA:nB X (binaryOp .Add) (λx y H Q=>∃a b c,x=.ref a/\y=.ref b/\lj X.K H a []/\lj X.K H b c/\Q (.ref b) H):=by
 intro d s o H x y v u Q I g f h;obtain⟨a,b,c,rfl,rfl,n,m,q⟩:=h;cases g;cases f;obtain⟨l,i,k,_⟩:=I.tuple n;obtain⟨e,p,j,_⟩:=I.tuple m;exact JF k j (i.sQ.mpr rfl) ⟨.ref b,H,I,rfl,q⟩
end L2
namespace Sm
open L2 PyProof.Rows
def aF(d e:D)(h:MH):Option (D×MH):=match d,e with
 | .tup [],.tup a=>some (.tup a,h)
 | d,e=>De d e h
def bX:pz X (binaryOp .Add) aF:=by
 intro a s g H x y v u Q I j i hh;obtain⟨l,h,d,e,z,p,S,rd,f,b,k⟩:=hh;unfold aF at b
 split at b
 ·cases b;have c:=f;cases rd with | tup o m=>cases f with | tup n q=>
  cases m;exact IA a s g H _ _ v u Q I j i ⟨_,_,_,rfl,rfl,o.sq,n.sq,k _ _ (.here S c)⟩
 ·exact ON a s g H _ _ v u Q I j i ⟨l,h,_,_,z,p,S,rd,f,b,k⟩
noncomputable def Jf:Fn:=λa h=>match a with
 | [.int i,.int j]=>some (.int (if j < i then j else i),h)
 | _=>none
noncomputable def zm:Fn:=λa h=>match a with
 | [.int i,.int j]=>some (.int (if j > i then j else i),h)
 | _=>none
def PJ(hc:X.calm=true):gM X (.builtin "min") Jf:=by
 intro b s c H j us Q I r hh;obtain⟨i,h,g,z,m,S,l,a,k⟩:=hh
 match g,l,a with
 | [],_,a=>exact ck a
 | [_],_,a=>exact absurd a (by unfold Jf;split <;> simp_all)
 | _::_::_::_,_,a=>exact absurd a (by unfold Jf;split <;> simp_all)
 | [d,e],l,a=>
  obtain⟨v,w,rfl,rd,f⟩:=rep2 l;cases rd <;> first |(exact ck a) | skip
  cases f <;> first |(exact ck a) | skip
  cases a;exact Gj hc b s c H _ us Q I r ⟨_,_,rfl,k _ _ (.here S (.int _))⟩
def PL(hc:X.calm=true):gM X (.builtin "max") zm:=by
 intro b s c H j us Q I r hh;obtain⟨i,h,g,z,m,S,l,a,k⟩:=hh
 match g,l,a with
 | [],_,a=>exact ck a
 | [_],_,a=>exact absurd a (by unfold zm;split <;> simp_all)
 | _::_::_::_,_,a=>exact absurd a (by unfold zm;split <;> simp_all)
 | [d,e],l,a=>
  obtain⟨v,w,rfl,rd,f⟩:=rep2 l;cases rd <;> first |(exact ck a) | skip
  cases f <;> first |(exact ck a) | skip
  cases a;exact Gk hc b s c H _ us Q I r ⟨_,_,rfl,k _ _ (.here S (.int _))⟩
end Sm
namespace L2
open PyProof.Rows
section
variable {X:Cx} {a b:Expr} {rest:List Expr} {pos:Pos} {ta tb:TE}
end
end L2
namespace Sm
open L2 PyProof.Rows
section
variable {X:Cx} {a b:Expr} {pos:Pos} {ma mb:EM}
end
end Sm
namespace L2
open PyProof.Rows
end L2
namespace Sm
open L2 PyProof.Rows
def P4:bootBuiltins "min"=some (.builtin "min"):=by decide+kernel
def P5:bootBuiltins "max"=some (.builtin "max"):=by decide+kernel
section
variable {X:Cx} {g:GM} {mt:TM} {ma:EM}
end
end Sm
namespace L2
open PyProof.Rows
noncomputable def km:List Int->Int
 | []=>0
 | i::r=>i+km r
theorem mI:∀{ns:List Int} {us:List Value},Vals (ns.map V.int) us->∃a:List (Int×Tok),us=a.map (λp=>Value.int p.1 p.2)/\a.map (·.1)=ns
 | [],_,.nil=>⟨[],rfl,rfl⟩
 | n::r,_,.cons q l=>by
  obtain⟨t,rfl⟩:=q;obtain⟨a,rfl,e⟩:=mI l;exact⟨(n,t)::a,rfl,by rw[V6,e]⟩
theorem kN(f:Nat->Int)(ns:List Int)(d:∀i n,ns[i]?=some n->f i=n):∀k,k<=ns.length->preSum f k=km (ns.take k)
 | 0,_=>by rw[YO];rfl
 | k+1,h=>by
  have j:k < ns.length:=by lia
  have e:ns[k]?=some ns[k]:=V7 j;show preSum f k+f k=_;rw[kN f ns d k (by lia),d k _ e,Zh,e];have c:∀(a b:List Int),km (a++b)=km a+km b:=λa b=>by
   induction a with
   | nil=>show km b=0+km b;lia
   | cons x r g=>show x+km (r++b)=x+km r+km b;rw[g];lia
  rw[c];show _=_+(ns[k]+0)
  lia
theorem uu:∀(ns:List Int),(∀n∈ns,-(2^40)<=n/\n<=2^40)->-(2^40*(ns.length:Int))<=km ns/\km ns<=2^40*(ns.length:Int)
 | [],_=>by simp[km]
 | n::r,h=>by
  have b:=h n V3;have a:=uu r λm hm=>h m (V5 _ hm);show -(2^40*(((n::r).length:Nat):Int))<=n+km r/\n+km r<=2^40*(((n::r).length:Nat):Int);rw[V9]
  push_cast
  lia
def JG(hc:X.calm=true):fE X (.builtin "sum") (λxs H Q=>∃a ns,xs=[.ref a]/\gU X.K H a (ns.map V.int)/\ns.length<=1000/\(∀n∈ns,-(2^40)<=n/\n<=2^40)/\Q (.int (km ns)) H):=by
 intro f s x H xs us Q I r h;obtain⟨a,ns,rfl,v,hl,l,q⟩:=h;obtain⟨u,rfl,o⟩:=vals1 r;cases o;obtain⟨t,rv,p,y⟩:=I.list v;obtain⟨d,rfl,e⟩:=mI rv;have c:d.length=ns.length:=by rw[<-e,VU]
 have b:∀(i:Nat) n,ns[i]?=some n->numAt d.toArray i=n:=λi n g=>by
  unfold numAt;rw[<-e,Wa] at g;rw[Aar,g];rfl
 have w:s.heap.IsList a (intItems d.toArray):=by
  have:intItems d.toArray=(d.map λp=>Value.int p.1 p.2).toArray:=by unfold intItems;simp
  rw[this];exact p.isList
 refine sum_intList (xs:=d.toArray) (I.ok.hd hc) w (λj hj=>?_) λC m t' k=>⟨.int (km ns),H,I.kept (t':=m) k,⟨t',?_⟩,q⟩
 ·have hj:j < ns.length:=by rw[<-c];simpa using hj
  rw[b j _ (V7 hj),kN _ ns b (j+1) (by lia)];have A:=l _ (ZR hj);have z:=uu (ns.take (j+1)) λn hn=>l n (Y1 hn);have h3:((ns.take (j+1)).length:Int)<=1000:=by rw[Wx];lia
  refine⟨⟨by lia,by lia⟩,?_,?_⟩ <;> lia
 ·rw[show d.toArray.size=ns.length by simpa using c,kN _ ns b _ (VZ _),WT]
theorem pJ:∀{a:List Str} {us:List Value},Vals (a.map V.str) us->StrsAre us a
 | [],_,.nil=>.nil
 | x::r,_,.cons q l=>by obtain⟨t,rfl⟩:=q;exact .cons x t (pJ l)
def Dq:fE X (.builtin "sorted") (λg H Q=>∃a c,g=[.ref a]/\gU X.K H a (c.map V.str)/\c.length < 64/\∀l,H l=none->Q (.ref l) (upd H l (.lst ((eT c).map V.str)))):=by
 intro i s z H g us Q I r h;obtain⟨a,c,rfl,t,w,q⟩:=h;obtain⟨u,rfl,m⟩:=vals1 r;cases m;obtain⟨d,rv,p,A⟩:=I.list t;have v:=pJ rv;have j:d.length=c.length:=by have:=rv.length;rw[VU] at this;exact this.symm
 refine sorted_strs p.isList v (by lia) λout k y x h3=>?_;have:=z5 x h3;subst this;have hl:s.heap.objs.size<=s.heap.objs.size+1:=X3 _;obtain⟨e,n⟩:=sortedAll_at s.heap d out;have f:((eT c).map V.str).length<=sizeLine:=by rw[VU,(cg c).length_eq,Xq];lia
 refine⟨.ref (s.heap.objs.size+1),_,I.laid (t':=s.toks) (o:=.lst ((eT c).map V.str)) (λb o q=>sortedAll_old q) hl ⟨f,out.toList,e,wL y,?_⟩,rfl,q _ (I.bu.fresh hl)⟩;rw[n]
end L2
namespace Sm
open L2 PyProof.Rows
noncomputable def my:List D->Option (List Int)
 | []=>some []
 | .int i::r=>(my r).map λa=>i::a
 | _=>none
theorem oH:∀{a:List D} {ns:List Int},my a=some ns->a=ns.map D.int
 | [],_,e=>by cases e;rfl
 | d::r,ns,e=>by
  cases d <;> first |(exact ck e) | skip
  obtain⟨f,c,b⟩:=gL (show(my r).map _=some ns from e);cases b;rw[oH c];rfl
theorem qp:∀(ns:List Int),my (ns.map D.int)=some ns
 | []=>rfl
 | n::r=>by show(my (r.map D.int)).map _=_;rw[qp r];rfl
def mO{K:FR}{c:Ad}{H:Hp}:∀{b:List V} {ns:List Int},aH K c H b (ns.map D.int)->b=ns.map V.int:=by
 intro b ns
 induction ns generalizing b with
 | nil=>intro a;cases a;rfl
 | cons n r d=>intro a;cases a with | cons q l=>cases q;rw[d l];rfl
def RX:Fn:=λb h=>match b with
 | [d]=>(fZ d h).bind λa=>(my a).bind λns=>if ns.length<=1000/\(ns.all λn=>decide (-(2^40)<=n)&&decide (n<=2^40))=true then some (.int (km ns),h) else none
 | _=>none
def PH(hc:X.calm=true):gM X (.builtin "sum") RX:=by
 intro e s g H w us Q I r hh;obtain⟨t,h,q,z,y,S,l,b,k⟩:=hh
 match q,l,b with
 | [],_,b=>exact ck b
 | _::_::_,_,b=>exact ck b
 | [d],l,b=>
  obtain⟨v,rfl,rd⟩:=rep1 l;obtain⟨u,p,o⟩:=bq b;obtain⟨ns,m,f⟩:=bq o
  by_cases c:ns.length<=1000/\(ns.all λn=>decide (-(2^40)<=n)&&decide (n<=2^40))=true
  ·rw[V1 c] at f;cases f;obtain⟨a,x,rfl,j,i⟩:=dD S rd p;have:=oH m;subst this;have:=mO i;subst this;refine JG hc e s g H _ us Q I r ⟨a,ns,rfl,gU.of j,c.1,λn hn=>?_,k _ _ (.here S (.int _))⟩;have:=WX.mp c.2 n hn
   simpa using this
  ·rw[V4 c] at f;cases f
noncomputable def nI:List D->Option (List Str)
 | []=>some []
 | .str i::r=>(nI r).map λa=>i::a
 | _=>none
theorem tH:∀{a:List D} {ns:List Str},nI a=some ns->a=ns.map D.str
 | [],_,e=>by cases e;rfl
 | d::r,ns,e=>by
  cases d <;> first |(exact ck e) | skip
  obtain⟨f,c,b⟩:=gL (show(nI r).map _=some ns from e);cases b;rw[tH c];rfl
theorem pK:∀(ns:List Str),nI (ns.map D.str)=some ns
 | []=>rfl
 | n::r=>by show(nI (r.map D.str)).map _=_;rw[pK r];rfl
theorem mM{K:FR}{c:Ad}{H:Hp}:∀{b:List V} {ns:List Str},aH K c H b (ns.map D.str)->b=ns.map V.str/\∀k∈ns,PyData.strOk k=true
 | _,[],.nil=>⟨rfl,λ_ h=>(nomatch h)⟩
 | _,n::r,.cons q l=>by
  cases q with
  | str h=>
   obtain⟨e,f⟩:=mM l;refine⟨by rw[e];rfl,λk a=>?_⟩;rcases Wh.mp a with rfl | a
   ·exact h
   ·exact f k a
def Jd:Fn:=λb h=>match b with
 | [d]=>(fZ d h).bind λa=>(nI a).bind λns=>if ns.length < 64 then some (.lv ((eT ns).map D.str),h) else none
 | _=>none
def Jx:gM X (.builtin "sorted") Jd:=by
 intro e s i H A us Q I r hh;obtain⟨w,h,u,z,E,S,l,b,k⟩:=hh
 match u,l,b with
 | [],_,b=>exact ck b
 | _::_::_,_,b=>exact ck b
 | [d],l,b=>
  obtain⟨v,rfl,rd⟩:=rep1 l;obtain⟨y,t,q⟩:=bq b;obtain⟨ns,p,g⟩:=bq q
  by_cases c:ns.length < 64
  ·rw[V1 c] at g;cases g;obtain⟨a,C,rfl,n,j⟩:=dD S rd t;have:=tH p;subst this;obtain⟨o,f⟩:=mM j;subst o;refine Dq e s i H _ us Q I r ⟨a,ns,rfl,gU.of n,c,λl hl=>k _ _ (.lv S (pV _ λx m=>f x ((cg ns).mem_iff.mp m)) hl)⟩
  ·rw[V4 c] at g;cases g
section
variable {α:Type} {K:FR} {A:Ac α} {l:Addr} {g:GM} {mt:TM} {m:MK α}
mutual
theorem Rep.calm(hs:∀a,f.has a->j.has a){v:V}{d:D}(r:Rep K j H v d)(c:jq 0 d=true):Rep K f H v d:=by
 cases r with
 | cu=>exact .cu
 | bl b=>exact .bl b
 | int i=>exact .int i
 | str h=>exact .str h
 | ty n=>exact .ty n
 | tup h l=>exact .tup (h.elim (λ⟨a,n⟩=>.inl ⟨a,λz=>n (hs _ z)⟩) .inr) (aH.calm hs l c)
 | lv h n l=>exact .lv h (λz=>n (hs _ z)) (aH.calm hs l c)
 | ro h l=>exact .ro (h.elim (λ⟨a,n⟩=>.inl ⟨a,λz=>n (hs _ z)⟩) .inr) (aH.calm hs l c)
 | dv h n l=>exact .dv h (λz=>n (hs _ z)) (bO.calm hs l c)
 | ob e=>simp[jq] at c
theorem aH.calm(hs:∀a,b.has a->f.has a){e:List V}{d:List D}(r:aH K f H e d)(c:gS 0 d=true):aH K b H e d:=by
 cases r with
 | nil=>exact .nil
 | cons r l=>have c:=Wt.mp c;exact .cons (Rep.calm hs r c.1) (aH.calm hs l c.2)
theorem bO.calm(hs:∀a,b.has a->f.has a){e:List (Key×V)}{d:List (Key×D)}(r:bO K f H e d)(c:Mb 0 d=true):bO K b H e d:=by
 cases r with
 | nil=>exact .nil
 | cons r l=>have c:=Wt.mp c;exact .cons (Rep.calm hs r c.1) (bO.calm hs l c.2)
end
end
section
variable {X:Cx} {k v tg iter:Expr} {pos:Pos} {mk mv:EM} {mt:TM} {g:GM} {N':List Str} {caps:List (Option Nat)} {scope:Scope} {ifs:List Expr} {mi:IM}
end
def P2:bootBuiltins "sum"=some (.builtin "sum"):=by decide+kernel
def qB:bootBuiltins "sorted"=some (.builtin "sorted"):=by decide+kernel
end Sm
namespace L2
open PyProof.Rows
end L2
namespace Sm
open L2 PyProof.Rows
end Sm
namespace L2
open PyProof.Rows
end L2
namespace Sm
open L2 PyProof.Rows
end Sm
namespace Hd
open PySem.W PyProof.Rows L2 Sm
noncomputable def m9:Obj->Bool
 |⟨.none,none,.fields a,b⟩=>a.isEmpty&&b.isEmpty
 | _=>false
def AX(o:Obj):Bool:=!m9 o
def yn(h:m9 o=true):o={cls:=.none,data:=.fields #[]}:=by
 unfold m9 at h
 split at h
 ·rw[Wm] at h;have b:=Array.isEmpty_iff.mp h.1;have a:=Array.isEmpty_iff.mp h.2;subst b;subst a;rfl
 ·cases h
def iL(h:∀a,o.data≠.fields a):AX o=true:=by
 unfold AX;cases q:m9 o with
 | false=>rfl
 | true=>exact absurd (by rw[yn q]) (h #[])
def Ja{o:Obj}{a:Array Value}{i:Nat}{x:Value}(e:o.data=.fields a)(h:a[i]?=some x):AX o=true:=by
 unfold AX;cases q:m9 o with
 | false=>rfl
 | true=>rw[yn q] at e;cases e;simp at h
def IT(h:Heap)(a:Addr):Option (Addr×Obj):=match h.get? a with
 | some o=>if AX o then some (a,o) else none
 | none=>none
def wz(h:Heap):Frag:=(List.range h.objs.size).filterMap (IT h)
def sW(h:Heap)(c:Addr):Option Value:=match h.get? c with
 | some ⟨.type "code",_,.fields a,_⟩=>match (a[11]?:Option Value) with
  | some (.ref P)=>match h.get? P with
   | some o=>if m9 o then some (.ref P) else none
   | none=>none
  | _=>none
 | _=>none
def BP(h:Heap):List Value:=(List.range h.objs.size).filterMap (sW h)
def aC(h:Heap):Frag:=if((wz h).lookup mainGlobals).isSome=true then wz h++[(mainGlobals,{cls:=.none,data:=.fields (BP h).toArray})] else wz h
def lN{h:Heap}{a:Addr}:(aC h).lookup a=(wz h).lookup a:=by
 unfold aC
 split
 ·rename_i hs;rw[List.lookup_append];cases q:(wz h).lookup a with
  | some o=>rfl
  | none=>
   rw[Option.none_or];rw[WK];cases r:a==mainGlobals with
   | false=>rfl
   | true=>rw[Xz.mp r] at q;rw[q] at hs;cases hs
 ·rfl
theorem lL(h:Heap)(a:Addr):∀l:List Addr,(l.filterMap (IT h)).lookup a=if a∈l then(IT h a).map (·.2) else none
 | []=>rfl
 | b::r=>by
  have c:=lL h a r
  by_cases d:a=b
  ·subst d;rw[V1 V3];rw[Xj];cases e:IT h a with
   | none=>
    dsimp only;rw[c,e]
    split <;> rfl
   | some p=>
    have hp:p.1=a:=by
     unfold IT at e
     split at e
     ·split at e
      ·cases e;rfl
      ·cases e
     ·cases e
    obtain⟨g,i⟩:=p;dsimp only at hp;subst hp;simp
  ·have hm:(a∈b::r)↔a∈r:=by simp[d]
   rw[Xj];cases e:IT h b with
   | none=>dsimp only;rw[c];simp only[hm]
   | some p=>
    have hp:p.1=b:=by
     unfold IT at e
     split at e
     ·split at e
      ·cases e;rfl
      ·cases e
     ·cases e
    obtain⟨g,i⟩:=p;dsimp only at hp;subst hp;have f:(a==g)=false:=by simpa using d
    rw[WK,f];dsimp only;rw[c];simp only[hm]
def bN(e:h.get? a=some o)(f:AX o=true):(aC h).lookup a=some o:=by
 rw[lN];unfold wz;rw[lL,V1]
 ·unfold IT;rw[e];dsimp only;rw[V1 f];rfl
 ·rw[XT];exact V8 e
def LI(h:Heap):(aC h).In h:=λa o e=>by
 rw[lN] at e;unfold wz at e;rw[lL] at e
 split at e
 ·unfold IT at e;cases g:h.get? a with
  | none=>rw[g] at e;cases e
  | some b=>
   rw[g] at e;dsimp only at e
   split at e
   ·cases e;rfl
   ·cases e
 ·cases e
def Dl(e:sW h c=some v):∃P,v=.ref P/\isCodeTable h P/\h.get? P=some {cls:=.none,data:=.fields #[]}:=by
 unfold sW at e
 split at e
 ·rename_i d f hc
  split at e
  ·rename_i P a
   split at e
   ·rename_i o b
    split at e
    ·rename_i ht;cases e;exact⟨P,rfl,⟨c,_,_,hc,rfl,rfl,a⟩,by rw[b,yn ht]⟩
    ·cases e
   ·cases e
  ·cases e
 ·cases e
def Nx(g:h.Ns mainGlobals mg)(t:ju (aC h) b):isCodeTable h b/\h.get? b=some {cls:=.none,data:=.fields #[]}/\(aC h).lookup b=none:=by
 obtain⟨d,m,l⟩:=t;have f:.ref b∈BP h:=by
  have i:∀d:Array Value,(mainGlobals,({cls:=.none,data:=.fields d}:Obj))∉wz h:=λd m=>by
   obtain⟨a,_,e⟩:=XU.mp m;unfold IT at e
   split at e
   ·rename_i o j
    split at e
    ·cases e;obtain⟨s,u,v,p,n,_⟩:=g;rw[p] at j;cases j;cases n
    ·cases e
   ·cases e
  unfold aC at m
  split at m
  ·rcases Wz.mp m with m | m
   ·exact absurd m (i d)
   ·have e:=Wg.mp m;cases e
    simpa using l
  ·exact absurd m (i d)
 obtain⟨c,_,e⟩:=XU.mp f;obtain⟨P,r,q,k⟩:=Dl e;cases r;refine⟨q,k,?_⟩;rw[lN];unfold wz;rw[lL]
 split
 ·unfold IT;rw[k];rfl
 ·rfl
noncomputable def posOf(s:Stmt):Pos:=match s with
 | .FunctionDef _ _ _ _ _ _ _ _ _ p=>p
 | _=>⟨0,0,0,0⟩
def n6(n:Str)(s:Stmt):DefRec:=⟨n,oV s,eQ s,ah s,posOf s⟩
def L8(r:h.CodeRec cd q):codeIn (aC h) cd q=true:=by
 obtain⟨c,o,a,t,rfl,g,d,e⟩:=r;have f:AX o=true:=Ja d e;unfold codeIn;dsimp only;rw[bN g f];obtain⟨j,i,k,b⟩:=o;dsimp only at d;subst d;dsimp only;obtain⟨l⟩:=a;cases l with
 | nil=>cases e
 | cons x l=>cases l with
  | nil=>cases e
  | cons y r=>cases y <;> first |(cases e;simp;done) |(cases e;done)
def Eg{q:Program}{b:List Str}{i:ExcName->Option Value}{mg t:Str->Option Value}{h:Heap}(T:Top q b i mg t h){n:Str}{st:Stmt}(e:(recsOf q).find? (λe=>e.name==n)=some (n6 n st)):
  ∃f u,mg n=some (.ref f)/\vO (aC h) n n st f u:=by
 have hm:n6 n st∈recsOf q:=Z3 e;obtain⟨a,o,s,j,k,m,g,d,c⟩:=T.fn _ hm;have f:AX o=true:=iL λw z=>by rw[d] at z;cases z
 have lk:=bN g f;have kp:keepIn (aC h) (.ref a)=true:=by
  unfold keepIn;dsimp only;rw[lk];obtain⟨r,p,v,l⟩:=o;dsimp only at d;subst d;rfl
 obtain⟨r,p,v,l⟩:=o;dsimp only at d;subst d;exact⟨a,_,m,⟨r,p,.none,k,s,_,j,_,l,rfl,lk,L8 c⟩,kp⟩
def _root_.L2.vO.one{K:Frag}{x a:Str}{st:Stmt}{f:Addr}{g:FuncData}{p:Str}(F:vO K x a st f g)
  (h:∀(kV b d:Value)(e:Option Addr)(c ct:Value)(u:Value),bindArgs (PySem.W.fnOf x a (oV st) (eQ st) (ah st) .none kV b d e c ct) ⟨[u],[]⟩=pure [(p,u)]) (s:Shared) (u:Value):BindsTo s g ⟨[u],[]⟩ [(p,u)]:=by
 obtain⟨l,k,kV,b,d,e,c,ct,i,rfl,lk,j⟩:=F.ex;exact .of_eq (h kV b d e c ct u)
def Pn{l:OpenLaw}{q:Program}{c:List Str}{E:(Str->Option Value)->Heap->Prop}{C:World->Heap->Prop}{d:DefRec}{k:Nat}(hn:l.most=some 63)(r:d.params.defaults=[])(hr:dh k callerA)
  (F:∀(w:World)(s₀:Shared)(mg p:Str->Option Value)(h:Heap),Ground q c [] E w s₀ mg p h->C w h->∃(x:Addr)(v:FuncData),mg d.name=some (.ref x)/\(∀(s:Shared)(u:Value),BindsTo s v ⟨[u],[]⟩ [("_law_script",u)])/\
   ∀base:Heap,(aC h).In base->base.Ns mainGlobals mg->fT l.prog w (aC h) mg base pC k x v ["_law_script"] (spT (aC h))):
  WalkO q c E C l.row.toRowW d [] (λf y=>PySem.call f y):=by
 refine Att.Bu hn r λw s₀ A mg p x o Q S P a y ns G Y R hd J n m j i I=>?_;obtain⟨O,v,e,L,N⟩:=F w s₀ mg p _ G Y;rw[e] at n;cases n;exact IP (LI _) G.T.g G.T.b G.T.builtins G.T.nolimit I m j (V2 i (by decide)) hr N L (λ_=>Nx G.T.g) (λH M ht=>⟨a,ns,rfl,M,i,ht,λ_ t=>⟨rfl,t⟩⟩) λ_ _ _ z=>z
noncomputable def freeOk(q:Program)(a b:List Str):Bool:=b.all λx=>!startupNames.contains x&&!(looseW q a).contains x&&!((recsOf q).map (·.name)).contains x&&!((litsOf q).map (·.1)).contains x&&!((clssOf q (looseW q a)).map (·.name)).contains x
def cG(T:Top q (looseW q loose) a mg c h)(e:freeOk q loose xs=true)(b:x∈xs):mg x=none:=by
 have:=WX.mp e x b;simp only[Wm,Bool.not_eq_true',List.contains_eq_mem,Aaa] at this;exact T.free x this.1.1.1.1 this.1.1.1.2 this.1.1.2 this.1.2 this.2
end Hd
namespace Sm
open L2
noncomputable def RM(f:Expr->Option D):List Expr->Option (List D)
 | []=>some []
 | e::a=>(f e).bind λd=>(RM f a).bind λb=>some (d::b)
def kD:Nat->Expr->Option D
 | 0,_=>none
 | n+1,e=>match e with
  | .Constant .none _ _=>some .cu
  | .Constant (.bool b) _ _=>some (.bl b)
  | .Constant (.int i) _ _=>some (.int i)
  | .Constant (.str x) _ _=>if PyData.strOk x then some (.str x) else none
  | .UnaryOp .USub (.Constant (.int i) _ _) _=>some (.int (-i))
  | .Tuple c _ _=>(RM (kD n) c).bind λa=>if a.length<=1000 then some (.tup a) else none
  | .List c _=>(RM (kD n) c).bind λa=>if a.length<=1000 then some (.lv a) else none
  | .Dict [] [] _=>some (.dv [])
  | _=>none
noncomputable def aK(a:List D):AM:=λ_ h=>some (a,h)
def Sr(a:List D):lz (aK a) a.length:=λb h c d e=>by cases e;rfl
section
variable {X:Cx}
def G9(h:kD n e=some d)(a:List Expr):starEach (e::a) X.env=(false,eval e X.env)::starEach a X.env:=by
 cases n with
 | zero=>exact ck h
 | succ n=>cases e <;> first | rfl |(exfalso;exact(nomatch h))
theorem yC(c:∀{e:Expr} {d:D},f e=some d->SE X e (eK d))(hs:∀{e:Expr} {d:D},f e=some d->∀a:List Expr,starEach (e::a) X.env=(false,eval e X.env)::starEach a X.env):
  ∀{a:List Expr} {b:List D},RM f a=some b->SA X a (aK b)
 | [],b,h=>by cases h;exact aq
 | e::a,b,h=>by
  unfold RM at h;obtain⟨d,g,h⟩:=bq h;obtain⟨r,i,h⟩:=bq h;cases h;exact(aa (c g) (yC c hs i) (hs g a):SA X _ (af (eK d) (aK r)))
theorem eG:∀(n:Nat) {e:Expr} {d:D},kD n e=some d->SE X e (eK d)
 | 0,_,_,h=>by cases h
 | n+1,e,d,h=>by
  cases e <;> first |(exact ck h) | skip
  case Constant c _ _=>
   cases c <;> first |(exact ck h) | skip
   case none=>cases h;exact Hn
   case bool=>cases h;exact MC
   case int=>cases h;exact aT
   case str x=>
    have h:(if PyData.strOk x then some (D.str x) else none)=some d:=h
    by_cases hs:PyData.strOk x=true
    ·rw[V1 hs] at h;cases h;exact bZ hs
    ·rw[V4 hs] at h;cases h
  case UnaryOp o e _=>
   cases o <;> first |(exact ck h) | skip
   cases e <;> first |(exact ck h) | skip
   rename_i c _ _;cases c <;> first |(exact ck h) | skip
   cases h;exact(Hl BK aT:SE X _ (Dg yk (eK _)))
  case Tuple i _ _=>
   obtain⟨b,f,a⟩:=bq h
   by_cases hl:b.length<=1000
   ·rw[V1 hl] at a;cases a;exact(cW (yC (eG n) G9 f) (Sr b) (V2 hl (by decide)):SE X _ (ar bh (aK b)))
   ·rw[V4 hl] at a;cases a
  case List i _=>
   obtain⟨b,f,a⟩:=bq h
   by_cases hl:b.length<=1000
   ·rw[V1 hl] at a;cases a;exact(tw.lv (iS (yC (eG n) G9 f) (Sr b) (V2 hl (by decide))):SE X _ (gH (aK b)))
   ·rw[V4 hl] at a;cases a
  case Dict ks g _=>
   cases ks <;> first |(exact ck h) | skip
   cases g <;> first |(exact ck h) | skip
   cases h;exact Ra
end
end Sm
namespace L2
open PyProof.Rows
noncomputable def lY(ns:List Int):List Int:=ns.mergeSort λa b=>decide (a<=b)
def jE(ns:List Int):(lY ns).Perm ns:=List.mergeSort_perm _ _
def yq(ns:List Int):(lY ns).Pairwise (·<=·):=by
 have:=Aad (le:=λa b:Int=>decide (a<=b)) (λa b c e d=>by simp at e d ⊢;lia) (λa b=>by simp;lia) ns;exact this.imp λh=>by simpa using h
def Hb(hp:ss.Perm ns)(h:ss.Pairwise (·<=·)):ss=lY ns:=
 Zk (λa b _ _ d c=>Int.le_antisymm d c) h (yq ns) (hp.trans (jE ns).symm)
def Dr:fE X (.builtin "sorted") (λg H Q=>∃a c,g=[.ref a]/\gU X.K H a (c.map V.int)/\c.length < 64/\∀l,H l=none->Q (.ref l) (upd H l (.lst ((lY c).map V.int)))):=by
 intro i s z H g us Q I r h;obtain⟨a,c,rfl,t,w,q⟩:=h;obtain⟨u,rfl,m⟩:=vals1 r;cases m;obtain⟨d,rv,p,A⟩:=I.list t;have v:=intsAre_of rv;have j:d.length=c.length:=by have:=rv.length;rw[VU] at this;exact this.symm
 refine sorted_ints p.isList v (by lia) λout k y x h3=>?_;have:=Hb x h3;subst this;have hl:s.heap.objs.size<=s.heap.objs.size+1:=X3 _;obtain⟨e,n⟩:=sortedAll_at s.heap d out;have f:((lY c).map V.int).length<=sizeLine:=by rw[VU,(jE c).length_eq,Xq];lia
 refine⟨.ref (s.heap.objs.size+1),_,I.laid (t':=s.toks) (o:=.lst ((lY c).map V.int)) (λb o q=>sortedAll_old q) hl ⟨f,out.toList,e,pF y,?_⟩,rfl,q _ (I.bu.fresh hl)⟩;rw[n]
end L2
namespace Sm
open L2 PyProof.Rows
def Je:Fn:=λb h=>match b with
 | [d]=>(fZ d h).bind λa=>(my a).bind λns=>if ns.length < 64 then some (.lv ((lY ns).map D.int),h) else none
 | _=>none
theorem repL_ints'{K:FR}{a:Ad}{H:Hp}:∀(ns:List Int),aH K a H (ns.map V.int) (ns.map D.int)
 | []=>.nil
 | n::r=>.cons (.int n) (repL_ints' r)
def Jy:gM X (.builtin "sorted") Je:=by
 intro e s g H u us Q I r hh;obtain⟨q,h,p,z,x,S,l,b,k⟩:=hh
 match p,l,b with
 | [],_,b=>exact ck b
 | _::_::_,_,b=>exact ck b
 | [d],l,b=>
  obtain⟨v,rfl,rd⟩:=rep1 l;obtain⟨t,o,n⟩:=bq b;obtain⟨ns,m,f⟩:=bq n
  by_cases c:ns.length < 64
  ·rw[V1 c] at f;cases f;obtain⟨a,w,rfl,j,i⟩:=dD S rd o;have:=oH m;subst this;have:=mO i;subst this;exact Dr e s g H _ us Q I r ⟨a,ns,rfl,gU.of j,c,λl hl=>k _ _ (.lv S (repL_ints' _) hl)⟩
  ·rw[V4 c] at f;cases f
def Dh(m:Qm):EM:=λa h=>(m a h).bind λp=>if p.1.length<=15 then some (.ob p.2.length,p.2++[.dct (IH [] p.1)]) else none
def Ho(h:SP X pos keys vals m)(U:keys.all (·.isSome)=true)(hl:keys.length=vals.length)(h0:keys≠[])(hp:∀l,Qv X pos keys vals l->PE X (.Dict keys vals pos) (Mz l)):SE X (.Dict keys vals pos) (Dh m):=by
 obtain⟨l,h1,h2⟩:=h;refine(hp l h1).imp λσ H Q ⟨j,Z,h,d,h',R,S,ee,k⟩ p t=>?_;obtain⟨⟨y,F⟩,i,g⟩:=bq ee;dsimp only at g
 by_cases z:y.length<=15
 ·rw[V1 z] at g;cases g;have P:Ch j H (j.keep p) (upd H p (.dK [])):=Ch.keep t;have nl:¬j.has p:=S.fresh t;refine h2 σ _ _ ⟨j.keep p,Z,h,y,_,R.mono P,S.keep t,i,λus I G E u T=>?_⟩;have L:G p=some (.dK []):=(E.res p V3).trans aP;refine⟨L,us,rfl,by rw[T.len];exact z,?_⟩;obtain⟨c,J⟩:=I;have O:J=p::j.rs:=E.rs;subst O;have N:p∈(⟨c,p::j.rs⟩:Ad).rs:=V3;have w:p∉c:=(u.vT p N).2;have q:∀b∈j.rs,b≠p:=λb f z=>nl (.inr (z ▸ f));generalize C:upd G p (.dK (kW [] us))=Y;have r:∀b,b≠p->Y b=G b:=λb f=>by rw[<-C,aB f]
  have s:Ch ⟨c,p::j.rs⟩ G ⟨c++[p],j.rs⟩ Y:=by
   refine⟨λn a e=>?_,λb o v eb=>⟨λz=>?_,?_⟩⟩
   ·show(c++[p])[n]?=_;rw[Wc (VW.mp e).1];exact e
   ·rcases z with z | z
    ·rcases Wz.mp z with z | z
     ·exact v (.inl z)
     ·exact v (.inr (by rw[Wg.mp z];exact V3))
    ·exact v (.inr (V5 _ z))
   ·rw[r b (λz=>v (.inr (by rw[z];exact V3)))];exact eb
  refine k _ _ ⟨⟨c++[p],j.rs⟩,⟨(P.trans E.toCh).trans s,rfl,λb f=>?_⟩,?_,.ob (by show(c++[p])[F.length]?=_;rw[<-u.len];simp)⟩
  ·rw[r b (q b f),E.res b (V5 _ f)];exact aB (q b f)
  ·refine⟨by show(c++[p]).length=_;simp;exact u.len,?_,λn a x i g=>?_,λb f=>?_,S.Nw ((P.trans E.toCh).trans s)⟩
   ·show(c++[p]).Nodup;rw[X4];exact⟨u.nd,by simp,λa F b f z=>w (by rw[<-Wg.mp f,<-z];exact F)⟩
   ·have i:(c++[p])[n]?=some a:=i;have A:c.length=F.length:=u.len
    by_cases hn:n < c.length
    ·rw[Wc hn] at i;rw[Wc (by lia)] at g;exact(u.at_ n a x i g).mono s (r a λz=>w (z ▸ VX i))
    ·have l1:=(VW.mp i).1;simp at l1;have M:n=c.length:=by lia
     subst M;rw[We (VZ _)] at i;rw[We (by lia),A] at g;simp at i g;subst i;subst g;exact⟨kW [] us,by rw[<-C];exact aP,(bO.merge .nil T).mono s⟩
   ·obtain⟨⟨o,eo⟩,v⟩:=u.vT b (V5 _ f);refine⟨⟨o,by rw[r b (q b f)];exact eo⟩,λz=>?_⟩;rcases Wz.mp z with z | z
    ·exact v z
    ·exact q b f (Wg.mp z)
 ·rw[V4 z] at g;cases g
def LX(d e:D)(h:MH):Option (D×MH):=match e with
 | .int n=>(fZ d h).bind λa=>if 0<=n/\n<=1000/\a.length<=1000 then some (.lv (List.replicate n.toNat a).flatten,h) else none
 | _=>none
theorem aH.rep{K:FR}{a:Ad}{H:Hp}{b:List V}{c:List D}(h:aH K a H b c):∀k:Nat,aH K a H (List.replicate k b).flatten (List.replicate k c).flatten
 | 0=>.nil
 | k+1=>by
  rw[XD,XD,Yp,Yp];exact h.append (aH.rep h k)
def Iu:pz X (binaryOp .Mult) LX:=by
 intro b s m H x y v u Q I q p hh;obtain⟨A,h,d,e,z,E,S,rd,r,j,k⟩:=hh;cases e <;> first |(exact ck j) | skip
 rename_i n;obtain⟨g,w,f⟩:=bq (show(fZ d h).bind _=_ from j)
 by_cases c:0<=n/\n<=1000/\g.length<=1000
 ·rw[V1 c] at f;cases f;obtain⟨a,o,rfl,t,i⟩:=dD S rd w;cases r;have C:g.length*n.toNat<=1000*1000:=Nat.mul_le_mul c.2.2 (by lia);exact OP b s m H _ _ v u Q I q p ⟨a,n,o,rfl,rfl,t,by lia,by lia,by rw[i.length,show sizeLine=16777216 from rfl];lia,λl hl=>k _ _ (.lv S (i.rep _) hl)⟩
 ·rw[V4 c] at f;cases f
end Sm
namespace L2
open PyProof.Rows
theorem wM:∀(us:List Value)(o:Nat),(∀(j:Nat) v,us[j]?=some v->∃t,v=.int ((o:Int)+j) t)->Vals ((List.range' o us.length).map λ(k:Nat)=>V.int k) us
 | [],_,_=>.nil
 | u::r,o,h=>by
  rw[V9,List.range'_succ,V6];obtain⟨t,e⟩:=h 0 u rfl;refine .cons ⟨t,by rw[e];simp⟩ (wM r (o+1) λj v a=>?_);obtain⟨t,e⟩:=h (j+1) v (by simpa using a);exact⟨t,by rw[e];congr 1;lia⟩
def Fj(hc:X.calm=true)(C:Gl X "list")(z:X.mg "list"=none)(A:Gl X "range")(y:X.mg "range"=none)(m:bootBuiltins "list"=some (.type "list"))(T:PA X [a] M)(hs:starEach [a] X.env=[(false,eval a X.env)]):
  PE X (.Call (.Name "list" p) [.Call (.Name "range" R) [a] [] d] [] pos) (λw H Q=>M w H λF x=>∃j:Int,F=[.int j]/\0<=j/\j<=1000/\∀l,x l=none->Q (.ref l) (upd x l (.lst ((List.range j.toNat).map λ(k:Nat)=>V.int k)))):=by
 intro f s w H Q I h;refine Xw (jP I C z m ?_);refine Xe ?_ rfl rfl;show wpAny _ _ (spliced ((false,eval (.Call (.Name "range" R) [a] [] d) X.env)::backTo pos (starEach [] X.env))) _ _ s;refine ZT ?_;refine Xw (jP I A y boot_range (Xe (cx (T d f s w H _ I h) λus s1 u9=>?_) hs rfl));obtain⟨F,x,J,O,P⟩:=u9;obtain⟨j,e,Z,Y,q⟩:=P;subst e;cases O with
 | cons r N=>
  cases N;obtain⟨t,rfl⟩:=r;refine call_range_1 ?_;have G:Inv X f w x {s1 with heap:=s1.heap.push {cls:=.type "range",data:=.fields #[.int 0 s1.toks,.int j t,.int 1 (s1.toks+1)]},toks:=s1.toks+1+1}:=J.kept λb o e=>V0 _ e;refine Z0 ?_;refine call_list_range (n:=j.toNat) (J.ok.hd hc) (IsRange.new ..) (small_one (by lia) (by lia) (by lia) (by lia)) (by rw[rangeSize_one];split <;> lia) (by lia) λh' L c U S E g=>?_;have u:c.toList.length=j.toNat:=by rw[XF];exact g.1
  have m:Vals ((List.range j.toNat).map λ(k:Nat)=>V.int k) c.toList:=by
   have:=wM c.toList 0 λi v m=>by
    obtain⟨t,e⟩:=g.2 i v (by simpa using m);exact⟨t,by rw[e];congr 1;simp⟩
   rw[u] at this;rw[List.range_eq_range'];exact this
  refine⟨.ref _,_,G.laid (t':=L) (o:=.lst ((List.range j.toNat).map λ(k:Nat)=>V.int k)) S (VZ _) ⟨by rw[VU,Wv,Xq];lia,c.toList,U,m,?_⟩,rfl,q _ (G.bu.fresh (VZ _))⟩;rw[E]
end L2
namespace Sm
open L2 PyProof.Rows
noncomputable def Qe(m:AM):AM:=λa h=>(m a h).bind λp=>match p.1 with
 | [.int j]=>if 0<=j/\j<=1000 then some ((List.range j.toNat).map λ(k:Nat)=>D.int k,p.2) else none
 | _=>none
theorem ub{K:FR}{a:Ad}{H:Hp}:∀l:List Nat,aH K a H (l.map λ(k:Nat)=>V.int k) (l.map λ(k:Nat)=>D.int k)
 | []=>.nil
 | n::r=>.cons (.int n) (ub r)
def E3(hc:X.calm=true)(n:Gl X "list")(g:X.mg "list"=none)(i:Gl X "range")(f:X.mg "range"=none)(t:bootBuiltins "list"=some (.type "list"))(u:SA X [a] m)(hs:starEach [a] X.env=[(false,eval a X.env)]:=by ac_nf):
  tw X (.Call (.Name "list" p) [.Call (.Name "range" E) [a] [] o] [] pos) (Qe m):=(Fj hc n g i f t u hs).imp λσ H Q ⟨q,r,h,ds,G,R,S,e,k⟩=>by
 obtain⟨⟨A,F⟩,w,b⟩:=bq e;dsimp only at b
 split at b
 ·rename_i j
  split at b
  ·rename_i c;cases b;refine⟨q,r,h,_,_,R,S,w,λC d z x y s=>?_⟩;obtain⟨v,rfl,rd⟩:=rep1 s;cases rd;exact⟨j,rfl,c.1,c.2,λl hl=>k d z l _ x y hl (ub _)⟩
  ·cases b
 ·cases b
def Qf(e d:EM):AM:=λa h=>(e a h).bind λp=>(d a p.2).bind λq=>(fZ p.1 q.2).bind λc=>(fZ q.1 q.2).bind λb=>if c.length+b.length<=sizeLine then some (c++b,q.2) else none
def NM(I:SE X a F)(G:SE X b E):tw X (.BinOp a .Add b pos) (Qf F E):=(ML IB I G).imp λσ H Q ⟨z,j,h,ds,h',R,S,e,k⟩=>by
 obtain⟨⟨x,o⟩,T,P⟩:=bq e;obtain⟨⟨y,M⟩,s,O⟩:=bq P;obtain⟨xs,r,N⟩:=bq O;obtain⟨Z,q,g⟩:=bq N;dsimp only at s r q
 split at g
 ·rename_i c;cases g;refine⟨z,j,h,x,o,R,S,T,λv H1 ⟨f,w,U,C⟩=>⟨f,j,o,y,M,R.mono w.toCh,U,s,λu Y u9=>?_⟩⟩;obtain⟨d,t,i,A⟩:=u9;obtain⟨a,l,rfl,L,n⟩:=dD i (C.mono t.toCh) r;obtain⟨b,us,rfl,J,m⟩:=dD i A q;exact⟨a,b,l,us,rfl,rfl,L,J,by rw[n.length,m.length];exact c,λp hp=>k d Y p (l++us) (w.trans t) i hp (n.append m)⟩
 ·cases g
end Sm
namespace Sm
open L2
def Ji(a b:Int)(h:MH):cp (.int a) (.int b) h=some (.bl (a==b),h):=rfl
theorem uq:∀cs:List Int,kl (cs.map D.int)=some (cs.map PyData.int)
 | []=>rfl
 | c::r=>by simp only[V6,kl,ur,uq r,WJ,WC]
theorem nr:∀cs:List Int,PyData.depthAll (cs.map PyData.int)=0
 | []=>rfl
 | c::r=>by simp only[V6,PyData.depthAll,nr r,PyData.depth];rfl
def F4{h:MH}{c:Nat}{cs:List Int}(hc:h[c]?=some (.lst (cs.map D.int))):iY (.ob c) (.lv []) h=some (.bl (!cs.isEmpty),h):=by
 simp only[iY,MT,fG,hc,Km,DQ,uq,ur,kl,WC,WJ,PyData.depth,nr];cases cs <;> rfl
def kZ(hn:h[n]?=some (.lst xs))(e:jt xs i=some d):aX (.ob n) (.int i) h=some (d,h):=by
 simp only[aX,fG,hn,fF,WJ,e,WC]
def Ei(hn:h[n]?=some (.lst xs)):bG [.ob n] h=some (.int xs.length,h):=by
 simp only[bG,fG,hn,fF,WC]
def zk(hn:h[n]?=some (.lst xs))(e:zg xs.length i=some p):wB (.ob n) (.int i) d h=some (h.set n (.lst (xs.set p d))):=by
 simp only[wB,hn,e,WC]
def JS(cs:List Int)(i:Int)(b:0<=i)(c:i < cs.length):∃z,jt (cs.map D.int) i=some (.int z):=by
 have a:i.toNat < cs.length:=by lia
 refine⟨cs[i.toNat]'a,?_⟩;have e:((i.toNat:Nat):Int)=i:=Y5 b;have q:jt (cs.map D.int) ((i.toNat:Nat):Int)=some (D.int (cs[i.toNat]'a)):=tj (by rw[Wa,V7 a];rfl);rw[e] at q;exact q
def JQ(b:0<=i)(c:i < xs.length):∃v,jt xs i=some v/\v∈xs:=by
 have a:i.toNat < xs.length:=by lia
 have e:((i.toNat:Nat):Int)=i:=Y5 b;have q:jt xs ((i.toNat:Nat):Int)=some (xs[i.toNat]'a):=tj (V7 a);rw[e] at q;exact⟨_,q,ZR a⟩
end Sm
namespace Sm
def Rn{b:Type}(o:Option b)(Q:b->Prop):Prop:=∃a,o=some a/\Q a
def rv(e:o=some a)(q:Q a):Rn o Q:=⟨a,e,q⟩
def Rn.imp(r:Rn o Q)(f:∀a,Q a->b a):Rn o b:=let⟨a,e,q⟩:=r;⟨a,e,f a q⟩
def a9(r:Rn o λa=>Rn (f a) Q):Rn (o.bind f) Q:=by
 obtain⟨a,e,b,c,q⟩:=r;exact⟨b,by rw[e];exact c,q⟩
def Fb(r:Rn o λa=>Q (f a)):Rn (o.map f) Q:=by
 obtain⟨a,e,q⟩:=r;exact⟨f a,by rw[e];rfl,q⟩
def gK(e:a[i]?=some (some d))(q:Q (d,h)):Rn (aw i a h) Q:=⟨(d,h),by unfold aw;rw[e];rfl,q⟩
def K0(q:Q (d,h)):Rn (eK d a h) Q:=⟨_,rfl,q⟩
def wj(r:Rn (a c h) λp=>Rn (b c p.2) λq=>Rn (f p.1 q.1 q.2) Q):Rn (au f a b c h) Q:=a9 (r.imp λ_ r=>a9 r)
def Ug(r:Rn (a b h) λp=>Rn (f p.1 p.2) Q):Rn (Dg f a b h) Q:=a9 r
def kK(q:Q ([],h)):Rn (aD a h) Q:=⟨_,rfl,q⟩
def cJ(r:Rn (a b h) λp=>Rn (m b p.2) λq=>Q (p.1::q.1,q.2)):Rn (af a m b h) Q:=a9 (r.imp λ_ r=>a9 (r.imp λ_ q=>⟨_,rfl,q⟩))
def Av(r:Rn (m a h) λp=>Rn (f p.1 p.2) Q):Rn (ar f m a h) Q:=a9 r
def Uk(r:Rn (t d h) λp=>(p.1=true->Rn (a d p.2) Q)/\(p.1=false->Rn (b d p.2) Q)):Rn (UO t a b d h) Q:=a9 (r.imp λp ⟨f,e⟩=>by
 obtain⟨c,h⟩:=p;cases c with
 | true=>exact f rfl
 | false=>exact e rfl)
def fV(r:Rn (a b h) λp=>∃c,p.1=.bl c/\Q (c,p.2)):Rn (az a b h) Q:=a9 (r.imp λp ⟨c,e,q⟩=>⟨(c,p.2),by rw[e],q⟩)
def pZ(r:Rn (a b h) λp=>∃c,G2 p.1 p.2=some c/\Q (c,p.2)):Rn (dJ a b h) Q:=a9 (r.imp λp ⟨c,e,q⟩=>⟨(c,p.2),by rw[e];rfl,q⟩)
def hY(r:Rn (t a h) λp=>Q (!p.1,p.2)):Rn (Sm.cQ t a h) Q:=Fb r
def N7(r:Rn (a d h) λp=>(p.1=true->Rn (b d p.2) Q)/\(p.1=false->Q (false,p.2))):Rn (Sm.sh a b d h) Q:=a9 (r.imp λp ⟨f,e⟩=>by
 obtain⟨c,h⟩:=p;cases c with
 | true=>exact f rfl
 | false=>exact⟨_,rfl,e rfl⟩)
def HF(r:Rn (a d h) λp=>(p.1=true->Q (true,p.2))/\(p.1=false->Rn (b d p.2) Q)):Rn (Sm.sg a b d h) Q:=a9 (r.imp λp ⟨f,e⟩=>by
 obtain⟨c,h⟩:=p;cases c with
 | true=>exact⟨_,rfl,f rfl⟩
 | false=>exact e rfl)
def HK(r:Rn (a d h) λp=>∃c,p.1=.bl c/\(c=true->Rn (b d p.2) Q)/\(c=false->Q (.bl false,p.2))):Rn (sE a b d h) Q:=a9 (r.imp λp u9=>by
 obtain⟨c,e,g,f⟩:=u9;rw[e];cases c with
 | true=>exact g rfl
 | false=>exact⟨_,rfl,f rfl⟩)
def Uh(r:Rn (a d h) λp=>∃c,p.1=.bl c/\(c=true->Q (.bl true,p.2))/\(c=false->Rn (b d p.2) Q)):Rn (UN a b d h) Q:=a9 (r.imp λp u9=>by
 obtain⟨c,e,g,f⟩:=u9;rw[e];cases c with
 | true=>exact⟨_,rfl,g rfl⟩
 | false=>exact f rfl)
def HH(r:Rn (m a h) λp=>Q (.lv p.1,p.2)):Rn (gH m a h) Q:=Fb r
def Ui(r:Rn (m a h) λp=>Q (.ob p.2.length,p.2++[.lst p.1])):Rn (Jr m a h) Q:=Fb r
def HI(r:Rn (m c h) λp=>∃d a b,p.1=[d]/\fF d p.2=some (a,b)/\Q (a,p.2)):Rn (EC m c h) Q:=a9 (r.imp λp ⟨d,a,b,e,f,q⟩=>⟨(a,p.2),by rw[e];dsimp only;rw[f];rfl,q⟩)
def Ri(q:Q (none,h)):Rn (Cy a h) Q:=⟨_,rfl,q⟩
def Rj(r:Rn (a b h) λp=>∃i,p.1=.int i/\Q (some i,p.2)):Rn (Cz a b h) Q:=a9 (r.imp λp d=>by obtain⟨c,e,q⟩:=d;exact⟨_,by rw[e],q⟩)
abbrev SQ:=Fl×DS×MH->Prop
def kJ(q:Q (.nx,a,h)):Rn (bz a h) Q:=⟨_,rfl,q⟩
def DF(b:SM)(Q:SQ):SQ:=λr=>match r.1 with
 | .nx=>Rn (b r.2.1 r.2.2) Q
 | _=>Q r
def df(r:Rn (a e h) (DF b Q)):Rn (av a b e h) Q:=a9 (r.imp λp q=>by
 obtain⟨f,c,g⟩:=p;cases f with
 | nx=>exact q
 | bk=>exact⟨_,rfl,q⟩
 | ct=>exact⟨_,rfl,q⟩
 | rt d=>exact⟨_,rfl,q⟩)
def uh(r:Rn (e a h) λp=>Q (.nx,a.set i (some p.1),p.2)):Rn (aV i e a h) Q:=a9 (r.imp λ_ q=>⟨_,rfl,q⟩)
def MG(r:Rn (e a h) λp=>Rn (g p.1 a p.2) λq=>Q (.nx,q.1,q.2)):Rn (ft e g a h) Q:=a9 (r.imp λ_ r=>a9 (r.imp λ_ q=>⟨_,rfl,q⟩))
def HJ(r:Rn (e a h) λp=>Q (.nx,a,p.2)):Rn (kG e a h) Q:=a9 (r.imp λ_ q=>⟨_,rfl,q⟩)
def oh(r:Rn (e a h) λp=>Q (.rt p.1,a,p.2)):Rn (aO e a h) Q:=a9 (r.imp λ_ q=>⟨_,rfl,q⟩)
def iH(r:Rn (t d h) λp=>(p.1=true->Rn (a d p.2) Q)/\(p.1=false->Rn (b d p.2) Q)):Rn (dQ t a b d h) Q:=a9 (r.imp λp ⟨f,e⟩=>by
 obtain⟨c,h⟩:=p;cases c with
 | true=>exact f rfl
 | false=>exact e rfl)
def Rk(r:Rn (m c h) λp=>∃a b,p.1=[a,b]/\Q (.nx,(c.set i (some a)).set j (some b),p.2)):Rn (Hu i j m c h) Q:=a9 (r.imp λp d=>by obtain⟨a,b,e,q⟩:=d;exact⟨_,by rw[e],q⟩)
def Fe(q:Q (a.set i (some d),h)):Rn (gN i d a h) Q:=⟨_,rfl,q⟩
def Ob(r:Rn (o a h) λp=>Rn (i a p.2) λq=>Rn (wB p.1 q.1 v q.2) λb=>Q (a,b)):Rn (Sm.wA o i v a h) Q:=a9 (r.imp λ_ r=>a9 (r.imp λ_ r=>Fb r))
def Oa(hn:xs.length=n)(r:Rn (u xs a h) Q):Rn (gT n u (.tup xs) a h) Q:=by
 unfold gT;dsimp only;rw[V1 hn];exact r
def jd(r:Rn (g d a h) λp=>Rn (u xs p.1 p.2) Q):Rn (aj g u (d::xs) a h) Q:=a9 r
def yK(q:Q (a,h)):Rn (bB [] a h) Q:=⟨_,rfl,q⟩
def KS(Q:D×MH->Prop):SQ:=λr=>match r.1 with
 | .rt d=>Q (d,r.2.2)
 | .nx=>Q (.cu,r.2.2)
 | _=>False
def Ux(q:Q (d,h)):KS Q (.rt d,a,h):=q
def Uy(q:Q (.cu,h)):KS Q (.nx,a,h):=q
def kj(r:Rn (b a h) Q):DF b Q (.nx,a,h):=r
def Tx(q:Q (.rt d,a,h)):DF b Q (.rt d,a,h):=q
def MQ(I:DS->MH->Prop)(Q:SQ):SQ:=λz=>match z.1 with
 | .nx=>I z.2.1 z.2.2
 | .ct=>I z.2.1 z.2.2
 | .bk=>Q (.nx,z.2.1,z.2.2)
 | .rt d=>Q (.rt d,z.2.1,z.2.2)
def UG(q:I a h):MQ I Q (.nx,a,h):=q
def bE(r:Rn (b (entry len ds) h) (KS Q)):Rn (gZ len b ds h) Q:=a9 (r.imp λp q=>by
 obtain⟨f,a,c⟩:=p;cases f with
 | nx=>exact⟨_,rfl,q⟩
 | rt d=>exact⟨_,rfl,q⟩
 | bk=>exact q.elim
 | ct=>exact q.elim)
def Rp(r:Rn (i a h) λp=>Rn (oM p.2.1 g b p.1 a p.2.2) Q):Rn (jI i g b a h) Q:=a9 r
theorem dR:∀{c:List D} {a:DS} {h:MH} (I:Nat->DS->MH->Prop),I 0 a h->(∀i a h,i<=c.length->I i a h->mB ws h=true)->
  (∀i x a h,c[i]?=some x->I i a h->Rn (g x a h) λq=>Rn (b q.1 q.2) (MQ (I (i+1)) Q))->(∀a h,I c.length a h->Q (.nx,a,h))->Rn (oM ws g b c a h) Q
 | [],a,h,I,h0,hc,_,k=>by
  unfold oM;rw[V1 (hc 0 a h (VZ _) h0)];exact⟨_,rfl,k a h h0⟩
 | x::c,a,h,I,h0,hc,ht,k=>by
  unfold oM;rw[V1 (hc 0 a h (Xb _) h0)];obtain⟨q,p,z,o,j⟩:=ht 0 x a h rfl h0;rw[p];show Rn ((b q.1 q.2).bind _) Q;rw[o];obtain⟨f,e,l⟩:=z;have next:I 1 e l->Rn (oM ws g b c e l) Q:=λn=>dR (λi=>I (i+1)) n (λi a h hl=>hc (i+1) a h (X7 hl)) (λi x a h m=>ht (i+1) x a h (by simpa using m)) k
  cases f with
  | nx=>exact next j
  | ct=>exact next j
  | bk=>exact⟨_,rfl,j⟩
  | rt d=>exact⟨_,rfl,j⟩
def dw(r:Rn (e c h) λp=>∃a b,fF p.1 p.2=some (a,b)/\Q (a,b,p.2)):Rn (dH e c h) Q:=a9 (r.imp λp ⟨a,b,e,q⟩=>⟨(a,b,p.2),by rw[e];rfl,q⟩)
def hZ(r:Rn (m a h) λp=>∃j:Int,p.1=[.int j]/\-(2^62)<=j/\j < 2^62/\Q ((List.range j.toNat).map λ(k:Nat)=>D.int (k:Int),[],p.2)):Rn (qq m a h) Q:=a9 (r.imp λp u9=>by
 obtain⟨j,e,c,b,q⟩:=u9;rw[e];dsimp only;rw[V1 ⟨c,b⟩];exact⟨_,rfl,q⟩)
def oj(r:Rn (m c h) λp=>∃d a b,p.1=[d]/\fF d p.2=some (a,b)/\Q (j8 0 a,b,p.2)):Rn (uW m c h) Q:=
 a9 (r.imp λp e=>by obtain⟨d,a,b,g,f,q⟩:=e;exact⟨_,by rw[g];dsimp only;rw[f];rfl,q⟩)
def Oc(r:Rn (i b h) λp=>Rn (bJ p.2.1 g c e p.1 (eV a b) p.2.2) λq=>q.1.length<=sizeLine/\Q q):Rn (b8 a i g c e b h) Q:=
 a9 (r.imp λp r=>a9 (r.imp λq ⟨d,f⟩=>⟨q,by rw[V1 d],f⟩))
theorem yL(hc:mB ws h=true)(f:D->Option D)(J:DS->Prop):∀{xs:List D} {a:DS},J a->
  (∀x∈xs,∀a,J a->Rn (g x a h) λq=>q.2=h/\Rn (c q.1 h) λt=>t.2=h/\J q.1/\(t.1=true->∃y,f x=some y/\Rn (e q.1 h) λp=>p=(y,h))/\(t.1=false->f x=none))->
  bJ ws g c e xs a h=some (xs.filterMap f,h)
 | [],a,_,_=>by unfold bJ;rw[V1 hc];rfl
 | x::xs,a,m,ht=>by
  unfold bJ;rw[V1 hc];obtain⟨⟨k,v⟩,r,rfl,⟨t,u⟩,j,rfl,s,d,b⟩:=ht x V3 a m;rw[r];dsimp only[Option.bind_some] at j d b ⊢;rw[j];dsimp only[Option.bind_some];have i:=yL hc f J s (xs:=xs) λy l=>ht y (V5 _ l);cases t with
  | true=>
   obtain⟨y,o,p,n,rfl⟩:=d rfl;rw[V1 rfl,n];dsimp only[Option.bind_some];rw[i,Xj,o];rfl
  | false=>
   rw[V4 (by simp),i,Xj,b rfl]
def HR(h:k∉a.map (·.1)):putD a k v=a++[(k,v)]:=by
 unfold putD;rw[V4];intro z;obtain⟨p,hp,e⟩:=Yx.mp z;exact h (Ww.mpr ⟨p,hp,Wy e⟩)
def L4(hd:fG d h=some kvs)(a:lV kvs (.inr x)=some v):aX d (.str x) h=some (v,h):=by
 simp only[aX,hd,sA,WJ,a,WC]
def C7(hd:fG d h=some kvs):ir (.str x) d h=some (.bl (!(lV kvs (.inr x)).isSome),h):=by
 simp only[ir,inD,hd,sA,WC]
end Sm
namespace Sm
def N6(q:Q (d,h))(e:a[i]?=some (some d):=by with_unfolding_all rfl):Rn (aw i a h) Q:=gK e q
def Ro(r:Rn (u xs a h) Q)(hn:xs.length=n:=by with_unfolding_all rfl):Rn (gT n u (.tup xs) a h) Q:=Oa hn r
end Sm
namespace Sm
open L2
theorem yM:∀(e:List D)(P:List D->DS->MH->α->Prop)(b:DS)(h:MH)(a:α),P e b h a->
  (∀x r b h a,P (x::r) b h a->mB ws h=true/\Rn (g x b h) λq=>Rn (c q.1 q.2) λt=>if t.1=true then Rn (m q.1 t.2 a) λz=>P r z.1 z.2.1 z.2.2 else P r q.1 t.2 a)->
  (∀b h a,P [] b h a->mB ws h=true/\Q (b,h,a))->Rn (fP ws g c m e b h a) Q
 | [],P,b,h,a,p,_,fin=>by
  obtain⟨hc,q⟩:=fin b h a p;exact⟨_,by unfold fP;rw[V1 hc],q⟩
 | x::r,P,b,h,a,p,step,fin=>by
  obtain⟨hc,q,k,t,j,d⟩:=step x r b h a p;unfold fP;rw[V1 hc,k];show Rn ((c q.1 q.2).bind _) Q;rw[j];show Rn (if t.1=true then _ else _) Q
  by_cases z:t.1=true
  ·rw[V1 z] at d ⊢;obtain⟨y,i,f⟩:=d;rw[i];exact yM r P _ _ _ f step fin
  ·rw[V4 z] at d ⊢;exact yM r P _ _ _ d step fin
def Rq{b:Type}{a:List (Option Nat)}{i:IM}{g:GM}{c:TM}{m:MK b}{e:b}{out:b->D}{Q:D×MH->Prop}(hh:Rn (i d h) λp=>Rn (fP p.2.1 g c m p.1 (eV a d) p.2.2 e) λq=>Q (out q.2.2,q.2.1)):Rn (Kn a i g c m e out d h) Q:=
 a9 (hh.imp λp r=>Fb r)
def Uj(hh:Rn (k b h) λp=>Rn (v b p.2) λq=>∃c,sA p.1=some c/\a.length < sizeLine/\Q (b,q.2,putD a c q.1)):Rn (mD k v b h a) Q:=
 a9 (hh.imp λp r=>a9 (r.imp λq ⟨c,d,l,k⟩=>by rw[d];show Rn (if a.length < sizeLine then _ else _) Q;rw[V1 l];exact⟨_,rfl,k⟩))
def Co(hh:Rn (a b h) λp=>Rn (l b p.2) λq=>Rn (u b q.2) λr=>Rn (ng p.1 q.1 r.1 r.2) Q):Rn (nj a l u b h) Q:=a9 (hh.imp λ_ x=>a9 (x.imp λ_ y=>a9 y))
def Aw(hh:Rn (g a h) λp=>Rn (d a p.2) λq=>Rn (f p.1 q.1 q.2) λr=>∃b,r.1=.bl b/\if b=true then Rn (c a r.2) λu=>Rn (i q.1 u.1 u.2) Q else Q (.bl false,r.2)):Rn (fv f i g d c a h) Q:=
 a9 (hh.imp λp x=>a9 (x.imp λq y=>a9 (y.imp λr ⟨b,e,k⟩=>by
  rw[e];cases b with
  | true=>rw[V1 rfl] at k;exact a9 k
  | false=>rw[V4 (by simp)] at k;exact⟨_,rfl,k⟩)))
def QC(q:Q (.tup ds,h)):Rn (bh ds h) Q:=⟨_,rfl,q⟩
def QE(q:Q (.int (-a),h)):Rn (yk (.int a) h) Q:=⟨_,rfl,q⟩
def w_add(q:Q (.int (a+b),h)):Rn (aF (.int a) (.int b) h) Q:=⟨_,rfl,q⟩
def w_sub(q:Q (.int (a-b),h)):Rn (oN (.int a) (.int b) h) Q:=⟨_,rfl,q⟩
def w_lt(q:Q (.bl (decide (a < b)),h)):Rn (F5 (.int a) (.int b) h) Q:=⟨_,rfl,q⟩
def Ts(q:Q (.bl (decide (b < a)),h)):Rn (wC (.int a) (.int b) h) Q:=⟨_,rfl,q⟩
def Tt(q:Q (.bl (decide (b<=a)),h)):Rn (Kl (.int a) (.int b) h) Q:=⟨_,rfl,q⟩
def QL(q:Q (.bl (a==b),h)):Rn (cp (.int a) (.int b) h) Q:=⟨_,rfl,q⟩
def QG(q:Q (.bl (!(a==b)),h)):Rn (iY (.int a) (.int b) h) Q:=⟨_,rfl,q⟩
def QK(q:Q (.bl (x==y),h)):Rn (cp (.str x) (.str y) h) Q:=⟨_,rfl,q⟩
def QF(q:Q (.bl (!(x==y)),h)):Rn (iY (.str x) (.str y) h) Q:=⟨_,rfl,q⟩
def QJ(q:Q (d,h)):Rn (aX (.tup (d::r)) (.int 0) h) Q:=⟨_,by
 show((jt (d::r) 0).map λz=>(z,h))=_;have:jt (d::r) 0=some d:=by unfold jt;rw[show zg (d::r).length 0=some 0 by unfold zg;simp;try lia];rfl
 rw[this];rfl,q⟩
def QI(q:Q (e,h)):Rn (aX (.tup (d::e::r)) (.int 1) h) Q:=⟨_,by
 show((jt (d::e::r) 1).map λz=>(z,h))=_;have:jt (d::e::r) 1=some e:=by unfold jt;rw[show zg (d::e::r).length 1=some 1 by unfold zg;simp;try lia];rfl
 rw[this];rfl,q⟩
def QH(q:Q (f,h)):Rn (aX (.tup (d::e::f::r)) (.int 2) h) Q:=⟨_,by
 show((jt (d::e::f::r) 2).map λz=>(z,h))=_;have:jt (d::e::f::r) 2=some f:=by unfold jt;rw[show zg (d::e::f::r).length 2=some 2 by unfold zg;simp;try lia];rfl
 rw[this];rfl,q⟩
def Nh(q:Q (.int r.length,h)):Rn (bG [.tup r] h) Q:=⟨_,rfl,q⟩
def Ni(q:Q (.int r.length,h)):Rn (bG [.lv r] h) Q:=⟨_,rfl,q⟩
inductive vM{α β:Type}(R:α->β->Prop):List α->List β->Prop where
 | nil:vM R [] []
 | cons {x y xs ys}:R x y->vM R xs ys->vM R (x::xs) (y::ys)
theorem vM.length{c:List α}{b:List β}(a:vM R c b):b.length=c.length:=by
 induction a with
 | nil=>rfl
 | cons _ t d=>rw[V9,V9,d]
def vM.right{c:List α}{b:List β}(a:vM R c b):∀y∈b,∃x∈c,R x y:=by
 induction a with
 | nil=>exactλ_ h=>(nomatch h)
 | cons r t d=>
  intro y h;rcases Wh.mp h with rfl | h
  ·exact⟨_,V3,r⟩
  ·obtain⟨x,e,r⟩:=d y h;exact⟨x,V5 _ e,r⟩
theorem sO(R:D->D->Prop):∀{xs:List D} {δ:DS} {h:MH} (J:Nat->DS->MH->Prop),J 0 δ h->(∀i δ h,i<=xs.length->J i δ h->mB ws h=true)->
  (∀i x δ h,xs[i]?=some x->J i δ h->Rn (g x δ h) λq=>Rn (e q.1 q.2) λy=>R x y.1/\J (i+1) q.1 y.2)->Rn (bJ ws g bY e xs δ h) λp=>vM R xs p.1/\∃b,J xs.length b p.2
 | [],δ,h,J,c,hc,_=>by
  unfold bJ;rw[V1 (hc 0 δ h (VZ _) c)];exact⟨_,rfl,.nil,δ,c⟩
 | x::xs,δ,h,J,c,hc,ht=>by
  unfold bJ;rw[V1 (hc 0 δ h (Xb _) c)];obtain⟨⟨j,m⟩,o,⟨y,t⟩,d,r,f⟩:=ht 0 x δ h rfl c;dsimp only at d r f;obtain⟨⟨k,h3⟩,n,a,b,s⟩:=sO R (xs:=xs) (λi=>J (i+1)) f (λi δ h hl=>hc (i+1) δ h (X7 hl)) λi y δ h l=>ht (i+1) y δ h (by simpa using l);refine⟨(y::k,h3),?_,.cons r a,b,s⟩;rw[o];dsimp only[Option.bind_some];show((some (true,m)).bind _)=_;dsimp only[Option.bind_some];rw[V1 rfl,d];dsimp only[Option.bind_some];rw[n];rfl
theorem sN(R:D->D->Prop):∀{xs:List D} {δ:DS} {h:MH} (J:Nat->DS->MH->Prop),J 0 δ h->(∀i δ h,i<=xs.length->J i δ h->mB ws h=true)->
  (∀i x δ h,xs[i]?=some x->J i δ h->Rn (g x δ h) λq=>Rn (c q.1 q.2) λt=>(t.1=true->Rn (e q.1 t.2) λy=>R x y.1/\J (i+1) q.1 y.2)/\(t.1=false->J (i+1) q.1 t.2))->Rn (bJ ws g c e xs δ h) λp=>p.1.length<=xs.length/\(∀y∈p.1,∃x∈xs,R x y)/\∃b,J xs.length b p.2
 | [],δ,h,J,f,hc,_=>by
  unfold bJ;rw[V1 (hc 0 δ h (VZ _) f)];exact⟨_,rfl,VZ _,λ_ z=>(nomatch z),δ,f⟩
 | x::xs,δ,h,J,f,hc,ht=>by
  unfold bJ;rw[V1 (hc 0 δ h (Xb _) f)];obtain⟨⟨C,L⟩,H,⟨t,I⟩,A,w,v⟩:=ht 0 x δ h rfl f;dsimp only at A w v;rw[H];dsimp only[Option.bind_some];rw[A];dsimp only[Option.bind_some];have next:=λ{b:DS} {F:MH} (j:J 1 b F)=>sN R (xs:=xs) (λi=>J (i+1)) j (λi δ h hl=>hc (i+1) δ h (X7 hl)) λi y δ h E=>ht (i+1) y δ h (by simpa using E)
  cases t with
  | true=>
   obtain⟨⟨y,h3⟩,G,r,j⟩:=w rfl;dsimp only at r j;obtain⟨⟨k,n⟩,o,l,a,b,s⟩:=next j
   refine⟨(y::k,n),?_,X7 l,λz d=>?_,b,s⟩
   ·rw[V1 rfl,G];dsimp only[Option.bind_some];rw[o];rfl
   ·rcases Wh.mp d with rfl | d
    ·exact⟨x,V3,r⟩
    ·obtain⟨u,m,r⟩:=a z d;exact⟨u,V5 _ m,r⟩
  | false=>
   obtain⟨⟨k,n⟩,o,l,a,b,s⟩:=next (v rfl)
   refine⟨(k,n),?_,YM l,λz d=>?_,b,s⟩
   ·rw[V4 (by decide),o]
   ·obtain⟨u,m,r⟩:=a z d;exact⟨u,V5 _ m,r⟩
def Sd(r:Rn (e a h) λp=>Rn (b (a.set i (some p.1)) p.2) Q):Rn (av (aV i e) b a h) Q:=df (uh (r.imp λ_ q=>kj q))
def Si(r:Rn (e a h) λp=>Rn (g p.1 a p.2) λq=>Rn (b q.1 q.2) Q):Rn (av (ft e g) b a h) Q:=df (MG (r.imp λ_ q=>q.imp λ_ q=>kj q))
def P0(r:Rn (e a h) λp=>Rn (b a p.2) Q):Rn (av (kG e) b a h) Q:=df (HJ (r.imp λ_ q=>kj q))
def VJ(r:Rn (m a h) λq=>Q (d::q.1,q.2))(e:a[i]?=some (some d):=by with_unfolding_all rfl):Rn (af (aw i) m a h) Q:=cJ (gK e r)
def VL(r:Rn (m a h) λq=>Q (d::q.1,q.2)):Rn (af (eK d) m a h) Q:=cJ (K0 r)
def UU(r:Rn (f [d] h) Q)(e:a[i]?=some (some d):=by with_unfolding_all rfl):Rn (ar f (af (aw i) aD) a h) Q:=Av (cJ (gK e (kK r)))
def UT(r:Rn (f [d,c] h) Q)(e:a[i]?=some (some d):=by with_unfolding_all rfl)(b:a[j]?=some (some c):=by with_unfolding_all rfl):Rn (ar f (af (aw i) (af (aw j) aD)) a h) Q:=Av (cJ (gK e (cJ (gK b (kK r)))))
def US(r:Rn (f [d,l,c] h) Q)(e:a[i]?=some (some d):=by with_unfolding_all rfl)(g:a[j]?=some (some l):=by with_unfolding_all rfl)(b:a[k]?=some (some c):=by with_unfolding_all rfl):Rn (ar f (af (aw i) (af (aw j) (af (aw k) aD))) a h) Q:=Av (cJ (gK e (cJ (gK g (cJ (gK b (kK r)))))))
def Sf(r:Rn (f d c h) Q)(e:a[i]?=some (some d):=by with_unfolding_all rfl):Rn (au f (aw i) (eK c) a h) Q:=wj (gK e (K0 r))
def Se(r:Rn (f d c h) Q)(e:a[i]?=some (some d):=by with_unfolding_all rfl)(b:a[j]?=some (some c):=by with_unfolding_all rfl):Rn (au f (aw i) (aw j) a h) Q:=wj (gK e (gK b r))
def UQ(r:Rn (b a h) λq=>Rn (f d q.1 q.2) Q)(e:a[i]?=some (some d):=by with_unfolding_all rfl):Rn (au f (aw i) b a h) Q:=wj (gK e r)
def UR(r:Rn (a b h) λq=>Rn (f q.1 c q.2) Q):Rn (au f a (eK c) b h) Q:=wj (r.imp λ_ r=>K0 r)
def Sh(q:Q ((c.set i (some a)).set j (some b),h)):Rn (gT 2 (aj (gN i) (aj (gN j) bB)) (.tup [a,b]) c h) Q:=Oa rfl (jd (Fe (jd (Fe (yK q)))))
def Sg(q:Q (((d.set i (some a)).set j (some b)).set k (some c),h)):Rn (gT 3 (aj (gN i) (aj (gN j) (aj (gN k) bB))) (.tup [a,b,c]) d h) Q:=Oa rfl (jd (Fe (jd (Fe (jd (Fe (yK q)))))))
def PX(q:Q (.rt d,a,h))(e:a[i]?=some (some d):=by with_unfolding_all rfl):Rn (aO (aw i) a h) Q:=oh (gK e q)
def PY(q:Q (.rt d,a,h)):Rn (aO (eK d) a h) Q:=oh (K0 q)
end Sm
namespace L2
open PyProof.Rows
abbrev UD:Hp:=λ_=>none
structure Tab(P:Program)(w:World)(K:FR)(mg:Str->Option Value)(nm:Str)(tb:List (Str×List Int)):Prop where
 ex:∃(a:Addr)(o:Obj)(es:Array DictEntry)(ep:Nat)(kvs:List (Str×Value)),mg nm=some (.ref a)/\K.lookup a=some o/\o.ExactDict/\o.data=.dict es ep/\(a==sysModules)=false/\KeysOf (strKind P w) es/\Pairs (strKind P w) es.toList kvs/\(kvs.map (·.1)).Nodup/\
  Sm.vM (λ(x:Str×List Int)(y:Str×Value)=>x.1=y.1/\∃(t:Addr)(u:Obj)(its:Array Value)(n:Nat),y.2=.ref t/\K.lookup t=some u/\u.cls=.type "tuple"/\u.dict=none/\u.data=.seq its n/\its.size<=sizeLine/\IntsAre its.toList x.2) tb kvs
def ER{K:FR}:∀{tb:List (Str×List Int)} {c:List (Str×Value)},Sm.vM (λ(x:Str×List Int)(y:Str×Value)=>x.1=y.1/\∃(t:Addr)(u:Obj)(d:Array Value)(n:Nat),y.2=.ref t/\K.lookup t=some u/\u.cls=.type "tuple"/\u.dict=none/\u.data=.seq d n/\d.size<=sizeLine/\IntsAre d.toList x.2) tb c->∀x:Str,
  (∀g,tb.lookup x=some g->∃t,valueAt c x=some (.ref t)/\∀H,lj K H t (g.map V.int))/\(valueAt c x).isSome=(tb.lookup x).isSome:=by
 intro tb c h
 induction h with
 | nil=>exactλx=>⟨λg e=>(nomatch e),rfl⟩
 | @cons p q tb c r l s=>
  intro x;obtain⟨a,f⟩:=p;obtain⟨b,v⟩:=q;obtain⟨o,t,u,d,n,m,E,C,h3,A,w,k⟩:=r;dsimp only at o m k;subst o;subst m
  by_cases j:x=a
  ·subst j;have i:valueAt ((x,Value.ref t)::c) x=some (.ref t):=by unfold valueAt;simp
   have hl:((x,f)::tb).lookup x=some f:=by simp
   refine⟨λg e=>?_,by rw[i,hl];rfl⟩;rw[hl] at e;cases e;exact⟨t,i,λH=>.inr ⟨u,d,n,E,C,A,w,pF k,h3⟩⟩
  ·have i:valueAt ((a,Value.ref t)::c) x=valueAt c x:=by
    unfold valueAt;rw[Aam (by simpa using λz=>j z.symm)]
   have hl:((a,f)::tb).lookup x=tb.lookup x:=by
    rw[WK,show(x==a)=false by simpa using j]
   rw[i,hl];exact s x
def Tab.dict(T:Tab X.prog X.w X.K X.mg nm tb)(I:Inv X pins σ H s):∃(a:Addr)(b:List (Str×Value)),X.mg nm=some (.ref a)/\(a==sysModules)=false/\s.heap.DictOf (strKind X.prog X.w) a b/\∀x:Str,
  (∀c,tb.lookup x=some c->∃t,valueAt b x=some (.ref t)/\∀H,lj X.K H t (c.map V.int))/\(valueAt b x).isSome=(tb.lookup x).isSome:=by
 obtain⟨a,o,l,m,b,k,j,h3,i,h,g,f,e,d⟩:=T.ex;exact⟨a,b,k,h,⟨o,l,m,I.rK a o j,h3,i,g,f,e⟩,ER d⟩
def OA(T:Tab X.prog X.w X.K X.mg nm tb)(C:Gl X nm)(A:PE X i o)(hs:Mq i)(hd:(nm==("__debug__":Str))=false):
  PE X (.Subscript (.Name nm p) i pos) (λg H Q=>o g H λy G=>∃x f,y=.str x/\tb.lookup x=some f/\∀t,lj X.K UD t (f.map V.int)->Q (.ref t) G):=by
 intro b s g H Q I h;obtain⟨a,v,hm,z,dd,L⟩:=T.dict I;refine Kz Z2.lookup hs (jO I C hm (cx (A b s g H _ I h) λJ s2 u9=>?_) hd);obtain⟨y,F,n,r,x,f,E,l,q⟩:=u9;subst E;obtain⟨t,rfl⟩:=r;obtain⟨M,k,c,m,d,j⟩:=T.dict n;rw[hm] at c;cases c;obtain⟨u,e,sq⟩:=(j x).1 f l;exact⟨d.typeIs,wpAny_getItem_of (by show Value.isStrOf x (.str x t)=true;unfold Value.isStrOf;simp) d.mapOf e ⟨.ref u,F,n.tok _,rfl,q u (sq _)⟩⟩
def Fm(T:Tab X.prog X.w X.K X.mg nm tb)(m:Gl X nm)(l:PE X o to)(hd:(nm==("__debug__":Str))=false):
  PC X .NotIn o (.Name nm p) (λc H Q=>to c H λy f=>∃x,y=.str x/\Q (.bl (!(tb.lookup x).isSome)) f):=by
 intro b s c H Q I h;refine cx (l b s c H _ I h) λr s1 u9=>?_;obtain⟨y,f,e,g,x,n,q⟩:=u9;subst n;obtain⟨t,rfl⟩:=g;obtain⟨a,i,hm,d,dd,j⟩:=T.dict e;refine jO e m hm ?_ hd;refine wpAny_notIn_of (knd:=PySem.strKind X.prog X.w) (k:=x) (by show Value.isStrOf x (.str x t)=true;unfold Value.isStrOf;simp) d dd.mapOf ?_;rw[(j x).2];exact⟨.bl _,f,e.tok _,rfl,q⟩
end L2
namespace Sm
open L2 PyProof.Rows
noncomputable def Jc(tb:List (Str×List Int))(d:D)(h:MH):Option (D×MH):=match d with
 | .str x=>(tb.lookup x).map λa=>(.tup (a.map D.int),h)
 | _=>none
noncomputable def Jb(tb:List (Str×List Int))(d:D)(h:MH):Option (D×MH):=match d with
 | .str x=>some (.bl (!(tb.lookup x).isSome),h)
 | _=>none
def BX(T:Tab X.prog X.w X.K X.mg nm tb)(m:SE X i l)(n:Gl X nm:=by unfold Gl;ac_nf)(hs:Mq i:=by unfold Mq;intro _ _;ac_nf)(hd:(nm==("__debug__":Str))=false:=by ac_nf):SE X (.Subscript (.Name nm p) i pos) (Dg (Jc tb) l):=
 (OA T n m hs hd).imp λσ H Q ⟨f,g,h,d,A,R,S,e,k⟩=>by
  obtain⟨⟨x,o⟩,s,a⟩:=bq e;dsimp only at a;refine⟨f,g,h,x,o,R,S,s,λv H1 u9=>?_⟩;obtain⟨b,u,z,j⟩:=u9;unfold Jc at a
  split at a
  ·rename_i y;obtain⟨c,r,q⟩:=gL a;cases q;cases j;exact⟨_,c,rfl,r,λt sq=>k _ _ ⟨b,u,z,.tup (.inr sq) (repL_ints' c)⟩⟩
  ·cases a
def KA(T:Tab X.prog X.w X.K X.mg nm tb)(l:SE X i j)(m:Gl X nm:=by unfold Gl;ac_nf)(hd:(nm==("__debug__":Str))=false:=by ac_nf):ST X (.Compare i [.NotIn] [.Name nm p] pos) (az (Dg (Jb tb) j)):=
 (Om (Fm T m l hd) rfl).imp λσ H Q ⟨d,f,h,c,z,R,S,e,k⟩=>by
  obtain⟨⟨y,u⟩,r,o⟩:=bq e;obtain⟨⟨x,n⟩,q,a⟩:=bq r;dsimp only at a;refine⟨d,f,h,x,n,R,S,q,λv H1 u9=>?_⟩;obtain⟨b,s,t,g⟩:=u9;unfold Jb at a
  split at a
  ·rename_i y;cases a;cases o;cases g;exact⟨_,rfl,_,rfl,k _ _ s t⟩
  ·cases a
end Sm
namespace Hd
open PySem.W PyProof.Rows L2 Sm
abbrev Sub(h h':Heap):Prop:=∀b o,h.get? b=some o->h'.get? b=some o
def Ce(k:Sub h b)(x:rowAt h e=some r):rowAt b e=some r:=by
 unfold rowAt at x ⊢
 split at x
 ·split at x
  ·split at x
   ·rename_i u a;rw[k _ _ a];exact x
   ·cases x
  ·cases x
 ·cases x
theorem qY(k:Sub h b):∀{a:List DictEntry} {r:List (Str×Int×List Int)},mJ h a=some r->mJ b a=some r
 | [],_,x=>x
 | e::a,r,x=>by
  unfold mJ at x ⊢;obtain⟨y,d,x⟩:=YH.mp x;obtain⟨f,c,x⟩:=Wl.mp x;rw[Ce k d,qY k c];exact congrArg some x
def BQ(k:Sub h c)(x:tabAt h nm=some r):tabAt c nm=some r:=by
 have d:∀v,h.nsMap mainGlobals nm=some v->c.nsMap mainGlobals nm=some v:=λv e=>by
  unfold Heap.nsMap at e ⊢
  split at e
  ·rename_i o b;rw[k _ _ b];exact e
  ·cases e
 unfold tabAt at x ⊢
 split at x
 ·rename_i a f;rw[d _ f];dsimp only
  split at x
  ·cases x
  ·rename_i hs;rw[V4 hs]
   split at x
   ·rename_i o b;rw[k _ _ b];dsimp only
    split at x
    ·rename_i hc;rw[V1 hc]
     split at x
     ·exact qY k x
     ·cases x
    ·cases x
   ·cases x
 ·cases x
theorem AY:∀{b:List Value} {a:List Int},Ec b=some a->IntsAre b a
 | [],_,e=>by cases e;exact .nil
 | v::r,a,e=>by
  cases v <;> first |(exact ck e) | skip
  obtain⟨f,d,c⟩:=Wl.mp (show(Ec r).map _=some a from e);subst c;exact .cons _ _ (AY d)
def Bn(h:Er v t=true):v=.type t:=by
 unfold Er at h
 split at h
 ·rw[Wy h]
 ·cases h
theorem t7:∀{g:List DictEntry} {tb:List (Str×List Int)},mJ h g=some (tb.map λx=>(x.1,hashStr w x.1,x.2))->
  ∃b:List (Str×Value),(∀e∈g,∃k,(PySem.strKind P w).is k e.key=true/\e.hash=(PySem.strKind P w).hash k)/\Pairs (PySem.strKind P w) g b/\b.map (·.1)=tb.map (·.1)/\
   vM (λ(x:Str×List Int)(y:Str×Value)=>x.1=y.1/\∃(t:Addr)(u:Obj)(c:Array Value)(n:Nat),y.2=.ref t/\(aC h).lookup t=some u/\u.cls=.type "tuple"/\u.dict=none/\u.data=.seq c n/\c.size<=sizeLine/\IntsAre c.toList x.2) tb b
 | [],tb,x=>by
  have o:tb=[]:=by
   have:=Option.some.inj x;exact List.map_eq_nil_iff.mp this.symm
  subst o;exact⟨[],λ_ z=>(nomatch z),.nil,rfl,.nil⟩
 | e::g,tb,x=>by
  unfold mJ at x;obtain⟨y,a,x⟩:=YH.mp x;obtain⟨L,I,x⟩:=Wl.mp x;cases tb with
  | nil=>cases x
  | cons q tb=>
   rw[V6] at x;obtain⟨rfl,rfl⟩:=List.cons.inj x;obtain⟨b,C,A,h3,v⟩:=t7 (P:=P) I;unfold rowAt at a
   split at a
   ·rename_i j l s
    split at a
    ·rename_i t p
     split at a
     ·rename_i u r
      split at a
      ·rename_i hc;rw[Wm] at hc
       split at a
       ·rename_i c n hd
        split at a
        ·rename_i hs;obtain⟨m,H,i⟩:=Wl.mp a;have G:j=q.1:=congrArg (·.1) i;have F:e.hash=hashStr w q.1:=congrArg (·.2.1) i;have E:m=q.2:=congrArg (·.2.2) i;have f:(PySem.strKind P w).is q.1 e.key=true:=by rw[s,G];show Value.isStrOf q.1 (.str q.1 l)=true;unfold Value.isStrOf;simp
         refine⟨(q.1,.ref t)::b,λJ d=>?_,.cons f p A,by rw[V6,V6,h3],.cons ⟨rfl,t,u,c,n,rfl,bN r (iL λM z=>by rw[hd] at z;cases z),Bn hc.1,by simpa using hc.2,hd,V2 hs (by decide),by rw[<-E];exact AY H⟩ v⟩;rcases Wh.mp d with rfl | d
         ·exact⟨q.1,f,F⟩
         ·exact C J d
        ·cases a
       ·cases a
      ·cases a
     ·cases a
    ·cases a
   ·cases a
def tab_of(x:tabAt h nm=some (tb.map λx=>(x.1,hashStr w x.1,x.2)))(g:h.Ns mainGlobals mg)(nd:(tb.map (·.1)).Nodup):Tab P w (aC h) mg nm tb:=by
 unfold tabAt at x
 split at x
 ·rename_i a f
  split at x
  ·cases x
  ·rename_i hs
   split at x
   ·rename_i o c
    split at x
    ·rename_i hc;rw[Wm,Wm] at hc
     split at x
     ·rename_i q s hd;obtain⟨b,k,j,h3,i⟩:=t7 (P:=P) x;have hm:mg nm=some (.ref a):=by
       obtain⟨u,p,r,n,m,_,l⟩:=g;rw[<-l nm,<-f];unfold Heap.nsMap;rw[n];dsimp only;rw[m]
      exact⟨a,o,q,s,b,hm,bN c (iL λt z=>by rw[hd] at z;cases z),⟨Bn hc.1.1,by simpa using hc.1.2,Wy hc.2⟩,hd,by simpa using hs,λe d=>k e (W8.mpr d),j,by rw[h3];exact nd,i⟩
     ·cases x
    ·cases x
   ·cases x
 ·cases x
end Hd
namespace L2
open PyProof.Rows
end L2
namespace Sm
open L2 PyProof.Rows
end Sm
namespace Sb
open L2 PyProof.Rows
open Builtin.SmallTypes (nextOf ownedTupleIsFree ownedTupleHandOut)
end Sb
namespace PySem
end PySem
namespace L2
open PyProof.Rows
end L2
namespace L2
open PyProof.Rows Sb
end L2
namespace Sm
open L2 PyProof.Rows Sb
end Sm
namespace Sb
open L2 PyProof.Rows
variable {P:Program} {w:World} {A:Around} {E:Value->Shared->Prop} {s:Shared} {b c:Bool}
end Sb
namespace Sb
open L2 PyProof.Rows
variable {P:Program} {w:World} {A:Around} {E:Value->Shared->Prop} {s:Shared} {b c:Bool}
end Sb
namespace L2
open PyProof.Rows Sb
end L2
namespace Sm
open L2 PyProof.Rows Sb
end Sm
namespace PySem
end PySem
namespace L2
open PyProof.Rows
end L2
namespace Sm
open L2 PyProof.Rows
end Sm
namespace L2
open PyProof.Rows
def jV(a:Array Nat):Prop:=∀i j (b:i < a.size) (hj:j < a.size),i < j->a[i] < a[j]
theorem vt(a:Array Nat)(j:Nat)(e:jV a):∀(fuel c b:Nat),b-c<=fuel->c<=b->b<=a.size->(∀i (h:i < a.size),i < c->a[i] < j)->(∀i (h:i < a.size),b<=i->j<=a[i])->
  SetTable.below.go a j fuel c b<=a.size/\(∀i (h:i < a.size),i < SetTable.below.go a j fuel c b->a[i] < j)/\(∀i (h:i < a.size),SetTable.below.go a j fuel c b<=i->j<=a[i])
 | 0,c,b,hf,hl,hs,g,f=>by
  have:c=b:=by lia
  subst this;unfold SetTable.below.go;exact⟨hs,g,f⟩
 | fuel+1,c,b,hf,hl,hs,g,f=>by
  unfold SetTable.below.go
  by_cases d:c < b
  ·rw[V1 d];dsimp only;have hm:(c+b) / 2 < a.size:=by lia
   have l:a.getD ((c+b) / 2) j=a[(c+b) / 2]:=by simp[Array.getD,hm]
   rw[l]
   by_cases hc:a[(c+b) / 2] < j
   ·rw[V1 hc];refine vt a j e fuel _ _ (by lia) (by lia) hs (λi h k=>?_) f;rcases Yv i ((c+b) / 2) with q | q
    ·exact YL (e i _ h hm q) hc
    ·have:i=(c+b) / 2:=by lia
     subst this;exact hc
   ·rw[V4 hc];refine vt a j e fuel _ _ (by lia) (by lia) (by lia) g (λi h k=>?_);rcases Yv ((c+b) / 2) i with q | q
    ·have:=e _ i hm h q;lia
    ·have:i=(c+b) / 2:=by lia
     subst this;lia
  ·rw[V4 d];have:c=b:=by lia
   subst this;exact⟨hs,g,f⟩
def jR(a:Array Nat)(j:Nat)(b:jV a):SetTable.below a j<=a.size/\(∀i (h:i < a.size),i < SetTable.below a j->a[i] < j)/\(∀i (h:i < a.size),SetTable.below a j<=i->j<=a[i]):=
 vt a j b _ _ _ (by lia) (by lia) (VZ _) (λi h z=>absurd z (Yg _)) (λi h z=>absurd (Ws h z) (Xs _))
def jr(a:jV xs)(h:xs[i]?=some j):SetTable.below xs j=i:=by
 obtain⟨c,e⟩:=W9.mp h;have b:=jR xs j a;rcases Nat.lt_trichotomy (SetTable.below xs j) i with q | q | q
 ·have f:=b.2.2 (SetTable.below xs j) (by lia) (VZ _);have d:=a _ i (by lia) c q
  lia
 ·exact q
 ·have:=b.2.1 i c q
  lia
def wO{t:SetTable}{i j:Nat}(a:jV t.place)(h:t.place[i]?=some j):t.slot j=.live i:=by
 unfold SetTable.slot;rw[jr a h];dsimp only;rw[V1 (by rw[h];simp)]
def BU{t:SetTable}{j:Nat}(hd:t.dummies=#[])(h:j∉t.place.toList):t.slot j=.empty:=by
 unfold SetTable.slot;dsimp only;rw[V4 (by
  intro z;have z:=eq_of_beq z;exact h (by rw[W8];exact Zw z)),hd]
 rfl
noncomputable def road(t:SetTable)(h:Int):Nat->SetTable.Probe
 | 0=>t.probeStart h
 | n+1=>t.advance (road t h n)
theorem xb(e:t.mask=a.mask)(h:Int):∀n,road t h n=road a h n
 | 0=>by show t.probeStart h=a.probeStart h;unfold SetTable.probeStart;rw[e]
 | n+1=>by
  show t.advance (road t h n)=a.advance (road a h n);rw[xb e h n];unfold SetTable.advance;rw[e]
theorem t8(t:SetTable)(h:Int):∀n,(road t h n).dummy=none
 | 0=>rfl
 | n+1=>by
  have:=t8 t h n;show(t.advance (road t h n)).dummy=none;unfold SetTable.advance
  split
  ·exact this
  ·exact this
theorem ua(hm:t.mask=7)(h:Int):∀n,(road t h n).more=0/\(road t h n).j=(road t h n).i/\(road t h n).i < 8/\(road t h n).perturb=SetTable.bits h / 32^n
 | 0=>by
  show(t.probeStart h).more=0/\_;unfold road SetTable.probeStart SetTable.runEnd;rw[hm];dsimp only;refine⟨by rw[V4 (by lia)];lia,rfl,Nat.mod_lt _ (by lia),by simp⟩
 | n+1=>by
  obtain⟨b,c,h3,a⟩:=ua hm h n;show(t.advance (road t h n)).more=0/\(t.advance (road t h n)).j=(t.advance (road t h n)).i/\(t.advance (road t h n)).i < 8/\(t.advance (road t h n)).perturb=_;unfold SetTable.advance SetTable.leap SetTable.runEnd;rw[hm,b,V4 (by lia)];dsimp only;refine⟨by rw[V4 (by lia)];lia,rfl,Nat.mod_lt _ (by lia),?_⟩;rw[a,Nat.div_div_eq_div_mul,Nat.pow_succ]
def Cf(hm:t.mask=7)(h:Int)(n:Nat):(road t h (n+1)).i=((road t h n).i*5+1+(road t h n).perturb / 32) % 8:=by
 obtain⟨a,c,h3,b⟩:=ua hm h n;show(t.advance (road t h n)).i=_;unfold SetTable.advance SetTable.leap;rw[hm,a,V4 (by lia)]
def Mh(h:Int):SetTable.bits h < 32^13:=by
 unfold SetTable.bits;have:h % (2^64:Int) < 2^64:=Xo _ (by decide);have a:0<=h % (2^64:Int):=Xd _ (by decide)
 lia
noncomputable def VD(i:Nat):Nat:=(i*5+1) % 8
def LF:Nat->Nat->Nat
 | 0,i=>i
 | n+1,i=>VD (LF n i)
theorem t9(hm:t.mask=7)(h:Int):∀k,(road t h (13+k)).j=LF k (road t h 13).j
 | 0=>rfl
 | k+1=>by
  have a:=t9 hm h k;rw[(ua hm h _).2.1] at a;rw[(ua hm h _).2.1,show 13+(k+1)=(13+k)+1 from rfl,Cf hm h (13+k),(ua hm h _).2.2.2];have b:SetTable.bits h / 32^(13+k) / 32=0:=by
   have:SetTable.bits h / 32^(13+k)=0:=by
    refine Nat.div_eq_of_lt (Ws (Mh h) ?_);exact Aax (by lia) (by lia)
   rw[this]
  rw[b,a];rfl
def LG:∀i:_root_.Fin 8,∀j:_root_.Fin 8,∃k:_root_.Fin 8,LF k.1 i.1=j.1:=by decide
def lcg_all'(i j:Nat)(b:i < 8)(hj:j < 8):∃k,k < 8/\LF k i=j:=by
 obtain⟨k,a⟩:=LG ⟨i,b⟩ ⟨j,hj⟩;exact⟨k.1,k.2,a⟩
def E9(hm:t.mask=7)(h:Int)(j:Nat)(hj:j < 8):∃n,n < 21/\(road t h n).j=j:=by
 have a:(road t h 13).j < 8:=by rw[(ua hm h 13).2.1];exact(ua hm h 13).2.2.1
 have hl:=t9 hm h;revert a hl;generalize (road t h 13).j=r;intro a hl;obtain⟨k,b,c⟩:=lcg_all' r j a hj;exact⟨13+k,by lia,(hl k).trans c⟩
theorem uI [DecidableEq W]:∀(l a:List W),l.Nodup->(∀x∈l,x∈a)->l.length<=a.length
 | [],a,_,_=>Xb _
 | x::l,a,hn,hs=>by
  have hn:=X0.mp hn;have c:=hs x (.head _);have:=uI l (a.erase x) hn.2 λy b=>by
   have:y≠x:=λe=>hn.1 (e ▸ b);exact(List.mem_erase_of_ne this).mpr (hs y (.tail _ b))
  rw[List.length_erase_of_mem c] at this;have d:0 < a.length:=Aal c;simp only[V9]
  lia
def Cg(hm:t.mask=7)(h:Int)(hs:t.place.size < 8):∃n,n < 21/\(road t h n).j∉t.place.toList:=by
 have:∃j,j < 8/\j∉t.place.toList:=by
  apply Yy;intro z;have a:List.range 8 ⊆ t.place.toList:=λj hj=>by
   apply Yy;intro q;exact z ⟨j,XT.mp hj,q⟩
  have:=uI (List.range 8) t.place.toList List.nodup_range a;simp at this
  lia
 obtain⟨j,hj,hn⟩:=this;obtain⟨n,c,b⟩:=E9 hm h j hj;exact⟨n,c,by rw[b];exact hn⟩
theorem I9 [DecidablePred p]:∀{n:Nat},p n->∃m,m<=n/\p m/\∀i,i < m->¬p i
 | 0,h=>⟨0,VZ _,h,λi a=>absurd a (Yg _)⟩
 | n+1,h=>by
  by_cases q:∃i,i<=n/\p i
  ·obtain⟨i,a,hp⟩:=q;have:∀k,k<=n->p k->∃m,m<=k/\p m/\∀i,i < m->¬p i:=by
    intro k
    induction k using Nat.strongRecOn with
    | _ k e=>
     intro g b
     by_cases d:∃i,i < k/\p i
     ·obtain⟨i,a,hp⟩:=d;obtain⟨m,f,c,h3⟩:=e i a (by lia) hp;exact⟨m,by lia,c,h3⟩
     ·exact⟨k,VZ _,b,λi a hp=>d ⟨i,a,hp⟩⟩
   obtain⟨m,f,c,h3⟩:=this i a hp;exact⟨m,by lia,c,h3⟩
  ·exact⟨n+1,VZ _,h,λi a hp=>q ⟨i,by lia,hp⟩⟩
theorem AA{t:SetTable}(l:jV t.place)(hd:t.dummies=#[])(a:Nat->Int)(h:Int){N:Nat}(hN:(road t h N).j∉t.place.toList):∀(fuel m:Nat),m<=N->N-m < fuel->(∀i,i < N->(road t h i).j∈t.place.toList)->
  (SetTable.probe.go t a h fuel (road t h m)=some (.empty (road t h N).j none)/\(∀c i,m<=c->c < N->t.place[i]?=some (road t h c).j->a i≠h))\/
  ∃c i,m<=c/\c < N/\t.place[i]?=some (road t h c).j/\a i=h/\(∀g i,m<=g->g < c->t.place[i]?=some (road t h g).j->a i≠h)/\SetTable.probe.go t a h fuel (road t h m)=some (.candidate (road t h c).j i (road t h (c+1)))
 | 0,m,hm,hf,hl=>absurd hf (Yg _)
 | fuel+1,m,hm,hf,hl=>by
  unfold SetTable.probe.go
  by_cases e:m=N
  ·subst e;rw[BU hd hN];refine .inl ⟨?_,λc i n f=>absurd f (by lia)⟩;rw[t8]
  ·have d:m < N:=by lia
   obtain⟨i,v,u⟩:=Aay (W8.mp (hl m d));have o:t.place[i]?=some (road t h m).j:=by rw[WN v,u]
   rw[wO l o];dsimp only;have k:∀b,t.place[b]?=some (road t h m).j->b=i:=λb z=>(jr l z).symm.trans (jr l o)
   by_cases hh:a i=h
   ·refine .inr ⟨m,i,VZ _,d,o,hh,λg b n f=>absurd f (by lia),?_⟩;rw[V1 (by rw[hh];simp)];rfl
   ·rw[V4 (by simpa using hh)];show _\/_;rcases AA l hd a h hN fuel (m+1) d (by lia) hl with⟨n,f⟩ |⟨c,s,n,f,h3,y,x,w⟩
    ·refine .inl ⟨n,λc b hc r hp=>?_⟩;rcases Nat.eq_or_lt_of_le hc with q | q
     ·subst q;rw[k b hp];exact hh
     ·exact f c b q r hp
    ·refine .inr ⟨c,s,by lia,f,h3,y,λg b hc p hp=>?_,w⟩;rcases Nat.eq_or_lt_of_le hc with q | q
     ·subst q;rw[k b hp];exact hh
     ·exact x g b q p hp
end L2
namespace L2
open PyProof.Rows PySem.SeqAt
def yP:∀(n:Nat) {d e:PyData},dc n d=true->dc n e=true->PyData.eqv d e=true->d=e:=by
 intro n
 induction n with
 | zero=>
  intro d e hd i h;cases d <;> cases e <;> simp_all [dc,PyData.eqv]
 | succ n j=>
  have hl:∀(b a:List PyData),b.all (dc n)=true->a.all (dc n)=true->PyData.eqvAll b a=true->b=a:=by
   intro b
   induction b with
   | nil=>intro a _ _ h;cases a with | nil=>rfl | cons _ _=>simp[PyData.eqvAll] at h
   | cons x b c=>
    intro a g f h;cases a with
    | nil=>simp[PyData.eqvAll] at h
    | cons y a=>
     rw[YX,Wm] at g f;rw[PyData.eqvAll,Wm] at h;rw[j g.1 f.1 h.1,c a g.2 f.2 h.2]
  intro d e hd i h;cases d <;> cases e <;> first
   |(simp_all [dc,PyData.eqv];done)
   |(rename_i b a;rw[PyData.eqv] at h;rw[hl b a hd i h])
def sP:∀(n:Nat) {d:PyData},dc n d=true->d.canLay0=true/\d.depth<=n:=by
 intro n
 induction n with
 | zero=>
  intro d hd;cases d <;> simp_all [dc,PyData.canLay0,PyData.depth]
 | succ n e=>
  have hl:∀(a:List PyData),a.all (dc n)=true->PyData.canLayAll0 a=true/\PyData.depthAll a<=n:=by
   intro a
   induction a with
   | nil=>intro _;exact⟨by simp[PyData.canLayAll0],by simp[PyData.depthAll]⟩
   | cons x a b=>
    intro c;rw[YX,Wm] at c;obtain⟨a1,a2⟩:=e c.1;obtain⟨f,g⟩:=b c.2;refine⟨by rw[PyData.canLayAll0,a1,f];rfl,?_⟩;rw[PyData.depthAll]
    lia
  intro d hd;cases d <;> first
   |(simp_all [dc,PyData.canLay0,PyData.depth];done)
   |(rename_i a;obtain⟨a1,a2⟩:=hl a hd;refine⟨(by rw[PyData.canLay0];exact a1),?_⟩;rw[PyData.depth];lia)
def FV:∀(n:Nat) {A:Around} {s:Shared} {d:PyData} {v:Value} {as:List Addr} {Q:Int->Shared->Prop},A.units+n < cLine->dc n d=true->Reads s.heap v d as->(∀k,Q (ip w n d) {s with toks:=s.toks+k})->
  wpAny (model P w) A (pyHash v) Q E s:=by
 have j:∀(n:Nat) {A:Around} {s:Shared} {d:PyData} {v:Value} {as:List Addr} {Q:Int->Shared->Prop},(∀c,d≠.tuple c)->dc n d=true->Reads s.heap v d as->(∀k,Q (ip w n d) {s with toks:=s.toks+k})->wpAny (model P w) A (pyHash v) Q E s:=by
  intro n A s d v as Q f hp hr h;cases hr with
  | int i t=>exact(bM P w).pyHash (k:=.inl i) (rJ P w i t) (by have:=h 1;cases n <;> exact this)
  | str x t=>exact(bM P w).pyHash (k:=.inr x) (rH P w x t) (by have:=h 1;cases n <;> exact this)
  | tuple=>exact absurd rfl (f _)
  | none=>cases n <;> simp[dc] at hp
  | bool=>cases n <;> simp[dc] at hp
  | list=>cases n <;> simp[dc] at hp
  | dict=>cases n <;> simp[dc] at hp
 intro n
 induction n with
 | zero=>
  intro A s d v as Q L hp hr h;exact j 0 (λc e=>by subst e;simp[dc] at hp) hp hr h
 | succ n J=>
  intro A s d v as Q L hp hr h
  by_cases f:∀c,d≠.tuple c
  ·exact j (n+1) f hp hr h
  ·have:∃c,d=.tuple c:=Yy λz=>f λc e=>z ⟨c,e⟩;obtain⟨c,rfl⟩:=this;cases hr with
   | @tuple a o N m _ _ I hc hd r=>
    have y:s.TypeIs (.ref a) "tuple":=⟨o,I,hc⟩;have p:c.all (dc n)=true:=hp;unfold pyHash
    first | unfold pyHashByItsType | skip
    first | refine VT (wpAny_cRoomFor_or (.inr (by lia)) ?_) | skip
    refine VT (YR y YZ.lookup ?_);show wpAny _ _ (if(some (Value.builtin "tuple.__hash__")==some Value.none)=true then _ else _) Q E s;rw[V4 (by rw[beq_builtin_none];exact W0)];refine VT (YR y YZ.lookup ?_);show wpAny _ _ (callSpecialIfBoundUnlessNone? (.ref a) "__hash__" _ >>=_) Q E s;refine VT (wpAny_callSpecialIfBoundUnlessNone?_slot y YZ (Xv YZ y F.entry_tuple_hash ?_ (F.args_tuple_hash_1 _)));show wpAny _ _ (Builtin.Tuple.tupleItemsOf (.ref a) >>=_) _ _ s;refine VT (wpAny_tupleItemsOf I hd ?_);refine VT ?_;rw[<-Zd];refine Y6 _
     (λg (b:Array Int) C=>∃done left l,c=done++left/\ReadsAll s.heap g left l/\b.toList=done.map (ip w n)/\∃k,C={s with toks:=s.toks+k})
     _ ?_ ?_ _ _ ⟨[],c,_,rfl,r,rfl,0,rfl⟩
    ·rintro x g b C ⟨done,left,l,e,hl,u,k,rfl⟩;cases hl with
     | @cons _ _ d1 ds bs cs M q=>
      have G:dc n d1=true:=by
       rw[WX] at p;exact p d1 (by rw[e];simp)
      refine VT (J (A:=A.in1) (s:={s with toks:=s.toks+k}) (by rw[Around.in1_units];lia) G M λH=>?_)
      first
       | exact VY ⟨done++[d1],ds,_,by rw[e];simp,q,by simp[u],k+H,by simp[Yl]⟩
       | exact VT (VY (VY ⟨done++[d1],ds,_,by rw[e];simp,q,by simp[u],k+H,by simp[Yl]⟩))
    ·rintro b C ⟨done,left,l,e,hl,u,k,rfl⟩;cases hl;rw[WW] at e;subst e;show wpAny _ _ (retInt (Builtin.Tuple.tupleHashOf b.toList)) _ _ _;rw[u];refine wpAny_ret_mkInt ?_;show wpAny _ _ (if(decide (-(2:Int)^63<=Builtin.Tuple.tupleHashOf (c.map (ip w n)))&&decide (Builtin.Tuple.tupleHashOf (c.map (ip w n)) < 2^63))=true then _ else _) Q E _;have h:=h (k+1);unfold ip reduceHash at h
     by_cases hr:(decide (-(2:Int)^63<=Builtin.Tuple.tupleHashOf (c.map (ip w n)))&&decide (Builtin.Tuple.tupleHashOf (c.map (ip w n)) < 2^63))=true
     ·rw[V1 hr];rw[V1 hr] at h;exact VY (by simpa [Yl] using h)
     ·rw[V4 hr];rw[V4 hr] at h;exact VT (Yq (VY (by simpa [Yl] using h)))
def Jn(n:Nat)(i:A.units+n < cLine)(c:dc n d=true)(b:dc n e=true)(rd:Reads s.heap u d as)(a:Reads s.heap v e bs)(h:Q (PyData.eqv d e) s):
  wpAny (model P w) A (eqBool u v) Q E s:=by
 have g:=sP n c;have f:=sP n b;refine eqBoolOverData P w A E s u v d e as bs Q rd a g.1 f.1 ?_ h;have:min d.depth e.depth<=d.depth:=Yh _ _
 lia
def q9:∀(n:Nat) {A:Around} {s:Shared} {d:PyData} {v:Value} {as:List Addr} {Q:Bool->Shared->Prop},dc n d=true->Reads s.heap v d as->Q true s->∀m,n<=m->wpAny (model P w) A (eqIsQuiet m v) Q E s:=by
 intro n
 induction n with
 | zero=>
  intro A s d v as Q hp hr h m hm;have:carriedByValue v=true:=by cases hr <;> first | rfl | simp[dc] at hp
  rw[ZZ _ this];exact VY h
 | succ n y=>
  intro A s d v as Q hp hr h m hm;cases hr with
  | @tuple a o u k xs _ p hc hd e=>
   obtain⟨m,rfl⟩:∃x,m=x+1:=⟨m-1,by lia⟩;have q:s.TypeIs (.ref a) "tuple":=⟨o,p,hc⟩;have j:xs.all (dc n)=true:=hp;unfold eqIsQuiet;refine VT (YR q F.slot_tuple_eq.lookup ?_);show wpAny _ _ (isInstance (.ref a) (.type "tuple") >>=_) _ _ s;refine VT (wpAny_isInstance q isSubtype_tuple_tuple ?_);simp only[Ym,WH,Xk];refine VT (Ye p hd ?_);refine VT ?_;show wpAny _ _ (forIn u _ _) _ _ s;rw[<-Zd];refine Y6 _ (λb r g=>r.1=none/\g=s/\∃l f,ReadsAll s.heap b l f/\l.all (dc n)=true) _ ?_ ?_ _ _ ⟨rfl,rfl,xs,_,e,j⟩
   ·rintro v b r g ⟨hr,rfl,l,f,hl,c⟩;cases hl with
    | cons C z=>
     rw[YX,Wm] at c;refine VT (y c.1 C ?_ m (by lia));simp only[Ym,WH,Xk];exact VY ⟨rfl,rfl,_,_,z,c.2⟩
   ·rintro⟨H,G⟩ g ⟨hr,rfl,_⟩;simp only at hr;subst hr;exact VY h
  | int i t=>rw[ZZ _ rfl];exact VY h
  | str i t=>rw[ZZ _ rfl];exact VY h
  | none=>simp[dc] at hp
  | bool=>simp[dc] at hp
  | list=>simp[dc] at hp
  | dict=>simp[dc] at hp
def iZ(n:Nat)(h:carriedByValue v=true):ofAClassStatement n v=pure false:=by
 cases v with
 | ref a=>simp[carriedByValue] at h
 | _=>first | rfl | simp[ofAClassStatement] |(unfold ofAClassStatement;rfl)
def rQ:∀(n:Nat) {A:Around} {s:Shared} {d:PyData} {v:Value} {as:List Addr} {Q:Bool->Shared->Prop},dc n d=true->Reads s.heap v d as->Q false s->∀m,n<=m->wpAny (model P w) A (ofAClassStatement m v) Q E s:=by
 intro n
 induction n with
 | zero=>
  intro A s d v as Q hp hr h m hm;have:carriedByValue v=true:=by cases hr <;> first | rfl | simp[dc] at hp
  rw[iZ _ this];exact VY h
 | succ n x=>
  intro A s d v as Q hp hr h m hm;cases hr with
  | @tuple a o q k xs _ p hc hd e=>
   obtain⟨m,rfl⟩:∃u,m=u+1:=⟨m-1,by lia⟩;have y:s.TypeIs (.ref a) "tuple":=⟨o,p,hc⟩;have j:xs.all (dc n)=true:=hp;unfold ofAClassStatement;refine VT (ZW y ?_);dsimp only;refine VT ?_;refine VY ?_;simp only[Ym,WH,Xk];refine VT (Ye p hd ?_);dsimp only;refine VT ?_;show wpAny _ _ (forIn q _ _) _ _ s;rw[<-Zd];refine Y6 _ (λb r g=>r.1=none/\g=s/\∃l f,ReadsAll s.heap b l f/\l.all (dc n)=true) _ ?_ ?_ _ _ ⟨rfl,rfl,xs,_,e,j⟩
   ·rintro v b r g ⟨hr,rfl,l,f,hl,c⟩;cases hl with
    | cons C z=>
     rw[YX,Wm] at c;refine VT (x c.1 C ?_ m (by lia));simp only[Ym,WH,Xk];exact VY ⟨rfl,rfl,_,_,z,c.2⟩
   ·rintro⟨G,F⟩ g ⟨hr,rfl,_⟩;simp only at hr;subst hr;exact VY h
  | int i t=>rw[iZ _ rfl];exact VY h
  | str i t=>rw[iZ _ rfl];exact VY h
  | none=>simp[dc] at hp
  | bool=>simp[dc] at hp
  | list=>simp[dc] at hp
  | dict=>simp[dc] at hp
def FX:∀(n:Nat) {A:Around} {s:Shared} {d:PyData} {v:Value} {as:List Addr} {Q:Bool->Shared->Prop},dc n d=true->Reads s.heap v d as->(∀b,Q b s)->∀m,wpAny (model P w) A (hashByValue m v) Q E s:=by
 intro n
 induction n with
 | zero=>
  intro A s d v as Q hp hr h m;cases hr with
  | int i t=>rw[Y3 m (x:=.int i t) rfl];exact VY (h _)
  | str i t=>rw[Y3 m (x:=.str i t) rfl];exact VY (h _)
  | none=>simp[dc] at hp
  | bool=>simp[dc] at hp
  | list=>simp[dc] at hp
  | dict=>simp[dc] at hp
  | tuple=>simp[dc] at hp
 | succ n y=>
  intro A s d v as Q hp hr h m;cases hr with
  | @tuple a o u k xs _ q hc hd f=>
   have z:s.TypeIs (.ref a) "tuple":=⟨o,q,hc⟩;have l:xs.all (dc n)=true:=hp;cases m with
   | zero=>unfold hashByValue;exact VY (h _)
   | succ m=>
    unfold hashByValue;refine VT (YR z YZ.lookup ?_);dsimp only;refine VT (Ye q hd ?_);refine VT ?_;show wpAny _ _ (forIn u _ _) _ _ s;rw[<-Zd];refine Y6 _ (λc r j=>r.1=none/\j=s/\∃p g,ReadsAll s.heap c p g/\p.all (dc n)=true) _ ?_ ?_ _ _ ⟨rfl,rfl,xs,_,f,l⟩
    ·rintro v c r j ⟨hr,rfl,p,g,hl,e⟩;cases hl with
     | cons F C=>
      rw[YX,Wm] at e;refine VT (y e.1 F (λb=>?_) m);cases b with
      | true=>
       simp only[Ym,WH,Xk];exact VY ⟨rfl,rfl,_,_,C,e.2⟩
      | false=>
       simp only[Bool.not_false,Ys];exact VY (VY (h _))
    ·rintro⟨H,G⟩ j ⟨hr,rfl,_⟩;simp only at hr;subst hr;exact VY (h _)
  | int i t=>rw[Y3 m (x:=.int i t) rfl];exact VY (h _)
  | str i t=>rw[Y3 m (x:=.str i t) rfl];exact VY (h _)
  | none=>simp[dc] at hp
  | bool=>simp[dc] at hp
  | list=>simp[dc] at hp
  | dict=>simp[dc] at hp
structure o7(es:Array (Int×Value))(t:SetTable):Prop where
 mask:t.mask=7
 R6:t.dummies=#[]
 NZ:jV t.place
 sz:t.place.size=es.size
 le:es.size<=4
 reach:∀(i j:Nat)(e:Int×Value),t.place[i]?=some j->es[i]?=some e->∃n,(road t e.1 n).j=j/\∀m,m < n->(road t e.1 m).j∈t.place.toList
def Kh(w:World)(h:Heap)(n:Nat)(e:Int×Value)(d:PyData):Prop:=dc n d=true/\(∃as,Reads h e.2 d as)/\e.1=ip w n d/\∃a,e.2=.ref a
def i6(w:World)(h:Heap)(n:Nat)(a:Array (Int×Value))(b:List PyData):Prop:=b.length=a.size/\∀(i:Nat)(e:Int×Value)(d:PyData),a[i]?=some e->b[i]?=some d->Kh w h n e d
def i6.at{w:World}{h:Heap}{n:Nat}{b:Array (Int×Value)}{a:List PyData}(E:i6 w h n b a){i:Nat}{e:Int×Value}(c:b[i]?=some e):∃d,a[i]?=some d/\Kh w h n e d:=by
 have f:i < b.size:=(W9.mp c).1;have hd:a[i]?=some (a[i]'(by rw[E.1];exact f)):=V7 _;exact⟨_,hd,E.2 i e _ c hd⟩
theorem o7.fits(T:o7 a t):t.fits a.size=true:=by
 unfold SetTable.fits SetTable.fill;rw[T.sz,T.R6,T.mask];have:=T.le;simp
 lia
def o7.F1(T:o7 g t)(h:Int):∃N,N < 21/\(road t h N).j∉t.place.toList/\∀i,i < N->(road t h i).j∈t.place.toList:=by
 obtain⟨n,f,d⟩:=Cg T.mask h (by rw[T.sz];have:=T.le;lia);obtain⟨m,e,b,a⟩:=I9 (p:=λi=>(road t h i).j∉t.place.toList) d;exact⟨m,by lia,b,λi c=>Yy (a i c)⟩
def Hk(hn:n<=8)(i:dc n l=true)(g:Reads s.heap x l as):∀(c:List Value),(∀y∈c,∃d as,dc n d=true/\Reads s.heap y d as)->∀{Q:Bool->Shared->Prop},Q false s->wpAny (model P w) A (searchCouldBeSeen x c) Q E s:=by
 intro c f Q h;unfold searchCouldBeSeen;refine VT ?_;refine Y6 _ (λa r e=>r.1=none/\e=s/\∀y∈a,∃d as,dc n d=true/\Reads s.heap y d as) _ ?_ ?_ _ _ ⟨rfl,rfl,f⟩
 ·rintro y a r e ⟨hr,rfl,hl⟩;obtain⟨d,bs,j,rd⟩:=hl y (.head _);have b:=λz k=>hl z (.tail _ k);dsimp only
  split
  all_goals
   split
   ·exact VY ⟨rfl,rfl,b⟩
   ·refine VT (q9 n i g ?_ 8 hn);simp only[Ym,WH,Xk];refine VT (q9 n j rd ?_ 8 hn);simp only[Ym,WH,Xk];refine VT (rQ n i g ?_ 8 hn);simp only[WH,Xk];refine VT (rQ n j rd ?_ 8 hn);simp only[WH,Xk];exact VY ⟨rfl,rfl,b⟩
 ·rintro⟨o,m⟩ e ⟨hr,rfl,_⟩;simp only at hr;subst hr;exact VY h
def BW{a b:Addr}{ob:Obj}{p:Array (Int×Value)}{ep:Nat}{t:SetTable}{n:Nat}{ds:List PyData}{v:PyData}{as:List Addr}{h:Int}{N:Nat}{Q:SetFound->Shared->Prop}
  (R:s.heap.get? a=some ob) (hdt:ob.data=.set p ep t) (T:o7 p t) (L:i6 w s.heap n p ds) (hn:n<=8) (hu:A.units+n < cLine) (px:dc n v=true) (rx:Reads s.heap (.ref b) v as) (hh:h=ip w n v)
  (hN:(road t h N).j∉t.place.toList) (hl:∀i,i < N->(road t h i).j∈t.place.toList) (hN21:N < 21)
  (hit:v∈ds->Q (.there none) s) (M:v∉ds->Q (.free (road t h N).j false) s):
  ∀(k g m:Nat)(l:Option SetTable.Probe),N-m=k->m<=N->N-m < g->l.getD (t.probeStart h)=road t h m->(∀(c i:Nat)(d:PyData),c < m->t.place[i]?=some (road t h c).j->ds[i]?=some d->d≠v)->
   wpAny (model P w) A (setSearchFrom a (.ref b) h true g l) Q E s:=by
 intro k
 induction k using Nat.strongRecOn with
 | _ k ih=>
  intro g m l hk hm hf hst Y;obtain⟨g,rfl⟩:∃f,g=f+1:=⟨g-1,by lia⟩;unfold setSearchFrom;refine VT (Zs R hdt T.fits ?_);dsimp only;have hgw:t.gaveWay=false:=by unfold SetTable.gaveWay;rw[T.mask];rfl
  rw[hgw];simp only[WH,Xk];rw[hst];generalize G:(λ(i:Nat)=>((p[i]?.map λ(e:Int×Value)=>e.1).getD 0:Int))=hashAt;have H:N-m < 10*SetTable.turns t.mask:=by unfold SetTable.turns;rw[T.mask];lia
  have hpr:=AA T.NZ T.R6 hashAt h hN (10*SetTable.turns t.mask) m hm H hl;have at_:∀i j,t.place[i]?=some j->∃e,p[i]?=some e:=λi j hj=>by
   have:i < p.size:=by rw[<-T.sz];exact(W9.mp hj).1
   exact⟨p[i],WN this⟩
  have hhe:∀i e,p[i]?=some e->hashAt i=e.1:=λi e u=>by rw[<-G];simp[u]
  rcases hpr with⟨p1,p2⟩ |⟨c,i,c1,c2,c3,c4,c5,c6⟩
  ·have hp:t.probe hashAt h (road t h m)=some (.empty (road t h N).j none):=p1;subst G
   erw [hp]
   dsimp only;refine VY (M λS=>?_);obtain⟨i,Z⟩:=Yn.mp S;have X:i < p.size:=by rw[<-L.1];exact(VW.mp Z).1
   have u:=WN (xs:=p) X;obtain⟨hp1,hr1,hh1,_⟩:=L.2 i _ v u Z;have hpl:i < t.place.size:=by rw[T.sz];exact X
   have hj:=WN (xs:=t.place) hpl;obtain⟨J,r1,r2⟩:=T.reach i _ _ hj u;rw[hh1,<-hh] at r1 r2;have hn0:J < N:=by
    rcases Nat.lt_trichotomy J N with q | q | q
    ·exact q
    ·subst q;exact absurd (by rw[r1];simp) hN
    ·exact absurd (r2 N q) hN
   rcases Yv J m with q | q
   ·exact Y J i v q (by rw[r1];exact hj) Z rfl
   ·exact p2 J i q hn0 (by rw[r1];exact hj) (by rw[hhe i _ u,hh1,hh])
  ·have hp:t.probe hashAt h (road t h m)=some (.candidate (road t h c).j i (road t h (c+1))):=c6;subst G
   erw [hp]
   dsimp only;obtain⟨⟨h',y⟩,u⟩:=at_ i _ c3
   obtain⟨dy,hdy,py,⟨bs,ry⟩,hhy,⟨ya,O⟩⟩:=L.at u;dsimp only at ry hhy O;subst O;have I:∀{Q':Bool->Shared->Prop},Q' false s->wpAny (model P w) A (searchCouldBeSeen (.ref b) ((p.filter (·.1==h)).toList.map (·.2))) Q' E s:=λ{Q'} q=>by
    refine Hk hn px rx _ (λy hy=>?_) q;obtain⟨e,u,rfl⟩:=Ww.mp hy;have x:e∈p.toList:=by
     have:=W8.mp u;exact W8.mpr (Array.mem_filter.mp this).1
    obtain⟨i,Z,hv⟩:=Aay (W8.mp x);obtain⟨d,_,pd,⟨bs,rd⟩,_,_⟩:=L.at (i:=i) (e:=e) (by rw[WN Z,hv]);exact⟨d,bs,pd,rd⟩
   have go:wpAny (model P w) A (do
     let some (_,y):=p[i]? | unsupported "internal:set-entry"
     let equal<-holding [y] (eqBool y (.ref b));let(es',_,t')<-setState a
     if true&&equal then return .there none
     let some same:=t'.sameMemory t.moves t.mask | unsupported "set.changed-during-lookup:is-the-new-block-at-the-old-address"
     let C<-match (if same then t'.slot (road t h c).j else .empty) with
      | .live r=>match es'[r]? with
       | some (_,y')=>do pure (if<-isSame y' y then some r else none)
       | none=>pure none
      | _=>pure none
     match C with
     | none=>rule "set.search.anew";setSearchFrom a (.ref b) h true g none
     | some r=>if equal then return .there (some r) else setSearchFrom a (.ref b) h true g (some (road t h (c+1)))) Q E s:=by
    rw[u];dsimp only;refine VT (WE (Jn n hu py px ry rx ?_));refine VT (Zs R hdt T.fits ?_);dsimp only;cases hq:PyData.eqv dy v with
    | true=>
     rw[Z9,V1 rfl];refine VY (hit ?_);rw[<-yP n py px hq];exact VX hdy
    | false=>
     rw[Z9,V4 W0];have hsm:t.sameMemory t.moves t.mask=some true:=by unfold SetTable.sameMemory;rw[V1 (by simp)]
     rw[hsm];dsimp only;rw[V1 rfl,wO T.NZ c3];dsimp only;rw[u];dsimp only;refine VT (wpAny_isSame_ref_self (VT (VY ?_)));rw[V1 rfl];dsimp only;rw[V4 W0];refine ih (N-(c+1)) (by lia) g (c+1) _ rfl (by lia) (by lia) rfl λc' r d' hc' F o=>?_;have U:r < p.size:=by rw[<-L.1];exact(VW.mp o).1
     have x:=WN (xs:=p) U;obtain⟨pd',_,hh',_⟩:=L.2 r _ d' x o;rcases Yv c' m with q | q
     ·exact Y c' r d' q F o
     ·rcases Yv c' c with q2 | q2
      ·intro z;subst z;exact c5 c' r q q2 F (by rw[hhe r _ x,hh',hh])
      ·have:c'=c:=by lia
       subst this;have:r=i:=(jr T.NZ F).symm.trans (jr T.NZ c3);subst this;intro z;rw[hdy] at o;injection o with o
       rw[o,z,eqv_refl v (sP n px).1] at hq;cases hq
   cases hled:t.led with
   | true=>
    simp only[Ym,WH,Xk];exact go
   | false=>
    simp only[Bool.not_false,Ys];refine VT (I ?_);simp only[WH,Xk];exact go
def oI(a:Array α)(p:Nat)(x:α)(hp:p<=a.size)(i:Nat):(SetTable.insertAt a p x)[i]?=if i < p then a[i]? else if i=p then some x else a[i-1]?:=by
 rw[<-Yo,SetTable.toList_insertAt]
 by_cases b:i < p
 ·rw[V1 b,Wc (by simp;lia),List.getElem?_take,V1 b,Yo]
 ·rw[V4 b,We (by simp;lia)];have hl:(a.toList.take p).length=p:=by simp;lia
  rw[hl]
  by_cases c:i=p
  ·subst c;rw[V1 rfl,Xg];rfl
  ·rw[V4 c];obtain⟨k,d⟩:∃k,i-p=k+1:=⟨i-p-1,by lia⟩;rw[d,WL,List.getElem?_drop,Yo];congr 1
   lia
noncomputable def IW(a:List PyData)(p:Nat)(d:PyData):List PyData:=a.take p++d::a.drop p
def xM(a:List PyData)(p:Nat)(d:PyData):(IW a p d).Perm (a++[d]):=by
 unfold IW;have b:(a.take p++d::a.drop p).Perm (d::(a.take p++a.drop p)):=List.perm_middle;rw[Xc] at b;exact b.trans (List.perm_append_singleton d a).symm
def IV(a:List PyData)(p:Nat)(d:PyData)(hp:p<=a.length)(i:Nat):(IW a p d)[i]?=if i < p then a[i]? else if i=p then some d else a[i-1]?:=by
 unfold IW
 by_cases b:i < p
 ·rw[V1 b,Wc (by simp;lia),List.getElem?_take,V1 b]
 ·rw[V4 b,We (by simp;lia)];have hl:(a.take p).length=p:=by simp;lia
  rw[hl]
  by_cases c:i=p
  ·subst c;rw[V1 rfl,Xg];rfl
  ·rw[V4 c];obtain⟨k,e⟩:∃k,i-p=k+1:=⟨i-p-1,by lia⟩;rw[e,WL,List.getElem?_drop];congr 1
   lia
def jV.ins(s:jV xs)(hj:j∉xs.toList):jV (SetTable.insertAt xs (SetTable.below xs j) j):=by
 obtain⟨C,w,A⟩:=jR xs j s;have g:=oI xs (SetTable.below xs j) j C;generalize SetTable.below xs j=p at C w A g;intro i k G F t;have f:=g i;have c:=g k;rw[WN G] at f;rw[WN F] at c;have m:∀i (h:i < xs.size),p<=i->j < xs[i]:=λi h q=>by
  rcases Yv j xs[i] with z | z
  ·exact z
  ·have J:=A i h q;have E:xs[i]=j:=by lia
   have x:xs[i]∈xs.toList:=by simp
   rw[E] at x;exact absurd x hj
 have a:∀{i v:Nat},some v=xs[i]?->∃h:i < xs.size,v=xs[i]:=λ{i v} e=>by
  obtain⟨I,H⟩:=W9.mp e.symm;exact⟨I,H.symm⟩
 by_cases r:i < p
 ·rw[V1 r] at f;obtain⟨d,u⟩:=a f;rw[u]
  by_cases o:k < p
  ·rw[V1 o] at c;obtain⟨b,l⟩:=a c;rw[l];exact s i k d b t
  ·rw[V4 o] at c
   by_cases n:k=p
   ·rw[V1 n] at c;injection c with c
    rw[c];exact w i d r
   ·rw[V4 n] at c;obtain⟨b,l⟩:=a c;rw[l];exact YL (w i d r) (m _ b (by lia))
 ·rw[V4 r] at f;have o:¬k < p:=by lia
  have n:¬k=p:=by lia
  rw[V4 o,V4 n] at c;obtain⟨b,l⟩:=a c;rw[l]
  by_cases y:i=p
  ·rw[V1 y] at f;injection f with f
   rw[f];exact m _ b (by lia)
  ·rw[V4 y] at f;obtain⟨d,u⟩:=a f;rw[u];exact s _ _ d b (by lia)
def LO(hp:p<=xs.size):k∈(SetTable.insertAt xs p j).toList↔k=j\/k∈xs.toList:=by
 rw[(YY xs p j).mem_iff];simp[or_comm]
def o7.put(T:o7 c t)(v:c.size<=3)(hN:(road t h N).j∉t.place.toList)(hl:∀i,i < N->(road t h i).j∈t.place.toList)(ht:g.mask=t.mask/\g.dummies=t.dummies/\g.place=SetTable.insertAt t.place (SetTable.below t.place (road t h N).j) (road t h N).j):
  o7 (SetTable.insertAt c (SetTable.below t.place (road t h N).j) (h,x)) g:=by
 obtain⟨q,u,f⟩:=ht;have p:=(jR t.place (road t h N).j T.NZ).1;have o:SetTable.below t.place (road t h N).j<=c.size:=by rw[<-T.sz];exact p
 have l:(SetTable.insertAt t.place (SetTable.below t.place (road t h N).j) (road t h N).j).size=t.place.size+1:=by
  have:=(YY t.place (SetTable.below t.place (road t h N).j) (road t h N).j).length_eq
  simpa using this
 have d:(SetTable.insertAt c (SetTable.below t.place (road t h N).j) (h,x)).size=c.size+1:=by
  have:=(YY c (SetTable.below t.place (road t h N).j) (h,x)).length_eq
  simpa using this
 have hr:∀k n,road g k n=road t k n:=λk n=>xb q k n;refine⟨q.trans T.mask,u.trans T.R6,by rw[f];exact T.NZ.ins hN,by rw[f,l,d,T.sz],by rw[d];lia,λi j e a b=>?_⟩;rw[f,oI _ _ _ p] at a;rw[oI _ _ _ o] at b;simp only[hr,f,LO p]
 by_cases s:i < SetTable.below t.place (road t h N).j
 ·rw[V1 s] at a b;obtain⟨n,n1,n2⟩:=T.reach i j e a b;exact⟨n,n1,λm hm=>.inr (n2 m hm)⟩
 ·rw[V4 s] at a b
  by_cases r:i=SetTable.below t.place (road t h N).j
  ·rw[V1 r] at a b;injection a with a
   injection b with b
   subst a;subst b;exact⟨N,rfl,λm hm=>.inr (hl m hm)⟩
  ·rw[V4 r] at a b;obtain⟨n,n1,n2⟩:=T.reach _ j e a b;exact⟨n,n1,λm hm=>.inr (n2 m hm)⟩
def i6.put(L:i6 w h n c ds)(hp:p<=c.size)(E:Kh w h n e d):i6 w h n (SetTable.insertAt c p e) (IW ds p d):=by
 have b:p<=ds.length:=by rw[L.1];exact hp
 refine⟨?_,λi l m a hd=>?_⟩
 ·have k:=(YY c p e).length_eq;have j:=(xM ds p d).length_eq;simp at k j;rw[j,k,L.1]
 ·rw[oI _ _ _ hp] at a;rw[IV _ _ _ b] at hd
  by_cases g:i < p
  ·rw[V1 g] at a hd;exact L.2 i l m a hd
  ·rw[V4 g] at a hd
   by_cases f:i=p
   ·rw[V1 f] at a hd;injection a with a
    injection hd with hd
    subst a;subst hd;exact E
   ·rw[V4 f] at a hd;exact L.2 _ l m a hd
def mQ(k:∀b o a m,h.get? b=some o->o.data=.seq a m->h'.get? b=some o):∀(n:Nat) {d:PyData} {v:Value} {as:List Addr},dc n d=true->Reads h v d as->Reads h' v d as:=by
 intro n
 induction n with
 | zero=>
  intro d v as hp hr;cases hr with
  | int i t=>exact .int i t
  | str x t=>exact .str x t
  | none=>simp[dc] at hp
  | bool=>simp[dc] at hp
  | list=>simp[dc] at hp
  | dict=>simp[dc] at hp
  | tuple=>simp[dc] at hp
 | succ n j=>
  have hl:∀(c:List PyData) {a:List Value} {as:List Addr},c.all (dc n)=true->ReadsAll h a c as->ReadsAll h' a c as:=by
   intro c
   induction c with
   | nil=>intro a as _ hr;cases hr;exact .nil
   | cons d c e=>
    intro a as hp hr;rw[YX,Wm] at hp;cases hr with
    | cons g f=>exact .cons (j hp.1 g) (e hp.2 f)
  intro d v as hp hr;cases hr with
  | int i t=>exact .int i t
  | str x t=>exact .str x t
  | none=>simp[dc] at hp
  | bool=>simp[dc] at hp
  | list=>simp[dc] at hp
  | dict=>simp[dc] at hp
  | tuple g f h3 l=>exact .tuple (k _ _ _ _ g h3) f h3 (hl _ hp l)
def i6.keep(L:i6 w h n g ds)(c:∀b o a m,h.get? b=some o->o.data=.seq a m->h'.get? b=some o):i6 w h' n g ds:=
 ⟨L.1,λi e d f hd=>by
  obtain⟨a1,⟨as,a2⟩,a3,a4⟩:=L.2 i e d f hd;exact⟨a1,⟨as,mQ c n a1 a2⟩,a3,a4⟩⟩
noncomputable def FY(a:List PyData)(d:PyData):Bool:=a.any λe=>PyData.eqv e d
def qF(a:List PyData)(d:PyData):List PyData:=if FY a d then a else a++[d]
def IY(hs:∀e∈ds,dc n e=true)(hd:dc n d=true):FY ds d=true↔d∈ds:=by
 unfold FY;rw[Yx];constructor
 ·rintro⟨e,a,q⟩;rw[<-yP n (hs e a) hd q];exact a
 ·intro h;exact⟨d,h,eqv_refl d (sP n hd).1⟩
def sub_tuple_set':isSubtype (.type "tuple") (.type "set")=pure false:=by rw[isSubtype_type];ac_nf
def sub_tuple_frozenset':isSubtype (.type "tuple") (.type "frozenset")=pure false:=by rw[isSubtype_type];ac_nf
structure Mu(P:Program)(w:World)(A:Around)(h₀:Heap)(S:Addr)(items:Array Value)(J:Nat->Heap->Prop):Prop where
 frame:∀(i:Nat)(h h':Heap),(∀o,h.get? S=some o->h'.get? S=some o)->J i h->J i h'
 fresh:∀(led:Bool)(h:Heap),h.get? S=some {cls:=.type "set",dict:=none,data:=.set #[] 0 (.fresh 0 0 led)}->J 0 h
 step:∀(i:Nat)(v:Value)(s:Shared)(E:Value->Shared->Prop)(Q:Bool->Shared->Prop),items[i]?=some v->J i s.heap->(∀b o,h₀.get? b=some o->s.heap.get? b=some o)->
  (∀r h' tk,s.toks<=tk->Heap.SameBut S s.heap h'->J (i+1) h'->Q r {s with heap:=h',toks:=tk})->wpAny (model P w) A (setAdd S v) Q E s
def Hj{A:Around}{R:Result->Shared->Prop}{I:Addr}{U m:List Addr}{G:Array GenState->Array GenState->Prop}{a:Array Value}{St:Nat->Shared->Prop}{c:Heap}{S:Addr}{J:Nat->Heap->Prop}
  (W:WalksS P w A.in1 I U m G a.size (λi v=>a[i]?=some v) St) (x:S∉U) (D:Mu P w A.in1 c S a J) (E:∀b∈m,c.get? b=none) (L:c.get? S=none):
  ∀(k i:Nat)(s:Shared),a.size-i=k->i<=a.size->St i s->J i s.heap->(∀b o,c.get? b=some o->s.heap.get? b=some o)->
   (∀d,Moved (S::m) G s d->J a.size d.heap->R (.ok (.ret .none)) d)->
   codeAny (model P w) A (.builtin "set.update.loop" ⟨[.ref S,.ref I],[]⟩) R s:=by
 have u:S∉m:=λh=>x (W.sub _ h);have f:∀b∈m,b∈S::m:=λb l=>V5 _ l;intro k
 induction k with
 | zero=>
  intro i s Y Z g Q T M;have H:i=a.size:=by lia
  subst H;refine XJ F.entry_set_update_loop ?_;rw[XB ZO _];show wpAny _ A.in1 (pyNext (.ref I) >>=_) _ _ s;refine VT (W.done s _ _ g λd hm=>?_);show wpAny _ A.in1 (ret Value.none) _ _ d;exact VY (M d (hm.mono f) (D.frame _ _ _ (λo e=>hm.heap S o u e) Q))
 | succ k X=>
  intro i s Y Z g Q T M;have t:i < a.size:=by lia
  refine XJ F.entry_set_update_loop ?_;rw[XB ZO _];show wpAny _ A.in1 (pyNext (.ref I) >>=_) _ _ s;refine VT (W.item i s _ _ t g λv d hP p hm=>?_);have O:=D.frame i s.heap d.heap (λo e=>hm.heap S o u e) Q;have z:∀b o,c.get? b=some o->d.heap.get? b=some o:=λb o e=>hm.heap b o (λl=>by rw[E b l] at e;cases e) (T b o e);show wpAny _ A.in1 (holding [v] (setAdd S v) >>=_) _ _ d;refine VT (WE (D.step i v d _ _ hP O z λr h' tk n j N=>?_));refine VY ⟨YJ ZO _,X (i+1) _ (by lia) t (W.frame _ d _ _ p n λb l o e=>?_) N (λb o e=>?_) λC q y=>?_⟩
  ·rw[j.2 b (λh:b=S=>x (by rw[<-h];exact l))];exact e
  ·rw[j.2 b (λh:b=S=>by rw[h,L] at e;cases e)];exact z b o e
  ·refine M C (Moved.trans W.gtrans ((hm.mono f).then_heap n λb o l e=>?_) q) y;rw[j.2 b (λh:b=S=>l (by rw[h];exact V3))];exact e
set_option maxHeartbeats 3200000 in
def k7{l:Addr}{items:Array Value}{J:Nat->Heap->Prop}{Q:Value->Shared->Prop}
  (hh:A.handled=none) (hl:s.heap.IsTuple l items) (D:∀Z:Around,Z.handled=none->Z.units<=A.units+8->Mu P w Z s.heap s.heap.objs.size items J)
  (h:∀(g:Heap)(L:Nat),J items.size g->(∀b o,b < s.heap.objs.size->s.heap.get? b=some o->g.get? b=some o)->Q (.ref s.heap.objs.size) {s with heap:=g,toks:=L}):
  wpAny (model P w) A (call (.type "set") [.ref l]) Q E s:=by
 obtain⟨c,tl,hmro⟩:=YF.mro;have S:=YF.made;have hsub:=YF.sub;refine wpAny_call (Aag ?_);show wpAny _ _ (callAny (.type "set") _) _ _ _;refine VY ⟨Code.quiet_builtin _ (by decide+kernel),XJ F.entry_type_call ?_⟩;rw[Around.under_plain (weight_type_call_type "set" [.ref l] []) rfl];have h1:=YF.notType;have h2:=YF.canCreate;have hct:=F.typeCall_set_1 (.ref l)
 repeat(any_goals (first | assumption | wp_step))
 refine Yr (code_set_new_1 (.ref l) (E:=E) (Q₁:=λobj k=>∃a:Bool,obj=.ref s.heap.objs.size/\k={s with heap:=s.heap.push {cls:=.type "set",dict:=none,data:=.set #[] 0 (.fresh 0 0 a)}}) λa=>⟨a,rfl,rfl⟩) λr k hr=>?_;cases r with
 | error e=>exact hr
 | ok fl=>
  cases fl with
  | ret obj=>
   obtain⟨a,rfl,rfl⟩:=hr;have hS:(s.heap.push {cls:=.type "set",dict:=none,data:=.set #[] 0 (.fresh 0 0 a)}).get? s.heap.objs.size=some {cls:=.type "set",dict:=none,data:=.set #[] 0 (.fresh 0 0 a)}:=Wn _ rfl;have hT:Shared.TypeIs {s with heap:=s.heap.push {cls:=.type "set",dict:=none,data:=.set #[] 0 (.fresh 0 0 a)}} (.ref s.heap.objs.size) "set":=⟨_,hS,rfl⟩;have hli:=YF.init.lookup;have hbi:=YF.init.bind (.ref s.heap.objs.size)
   repeat(any_goals (first | assumption | wp_step))
   refine Yr (ZI (R:=wants (λr j=>r=.none/\∃g L,j={s with heap:=g,toks:=L}/\J items.size g/\
     (∀b o,b < s.heap.objs.size->s.heap.get? b=some o->g.get? b=some o)) E) YF.init.plain F.entry_set_init (check_set_init_1 hT ?_)) λu j f=>?_
   ·obtain⟨ol,x,I,nl,H⟩:=hl;obtain⟨ocls,m,O,i⟩:=ol;simp only at I H;subst I;subst H;have v:(s.heap.push {cls:=.type "set",dict:=none,data:=.set #[] 0 (.fresh 0 0 a)}).get? l=some {cls:=.type "tuple",dict:=m,data:=.seq items nl,slots:=i}:=V0 _ x;have hsls:=sub_tuple_set';have hslf:=sub_tuple_frozenset';have hne:(Value.type "tuple"==Value.type "dict")=false:=by decide
    have C:(s.heap.push {cls:=.type "set",dict:=none,data:=.set #[] 0 (.fresh 0 0 a)}).IsTuple l items:=⟨_,v,rfl,nl,rfl⟩;unfold Builtin.«set.__init__» noKeywords Builtin.Frozenset.updateFrom;generalize Y:pyIter=PI
    wp_walk
    subst Y;refine YT C ?_;refine VT (wpAny_runValue ?_);have z:l < s.heap.objs.size:=V8 x;have G:A.in1.in1.in1.handled=none:=by simp[hh]
    have y:l≠(s.heap.push {cls:=.type "set",dict:=none,data:=.set #[] 0 (.fresh 0 0 a)}).objs.size:=by
     rw[XA];exact Wk (Zf z)
    have X:s.heap.objs.size∉[(s.heap.push {cls:=.type "set",dict:=none,data:=.set #[] 0 (.fresh 0 0 a)}).objs.size,l]:=by
     rw[XA];simp only[Wh,Wg,List.not_mem_nil,or_false,not_or];exact⟨Wk (Nat.lt_succ_self _),Y7 z⟩
    have d:∀b,s.heap.objs.size<=b->s.heap.get? b=none:=λb n=>by
     cases q:s.heap.get? b with
     | none=>rfl
     | some o=>exact absurd (V8 q) (Nat.not_lt.mpr n)
    refine Hj ((Walks.tuple G _ l y items).toS) X (D _ G (by simp only[Around.in1_units];lia)) (λb n=>?_) (d _ (VZ _)) (items.size-0) 0 _ (by lia) (Xb _)
     ⟨⟨_,Wn _ rfl,rfl,rfl⟩,(C.push _)⟩ ?hS0 ?hK ?hR
    ·rw[Wg] at n;subst n;exact d _ (by rw[XA];lia)
    case hS0=>
     exact(D A hh (by lia)).fresh a _ (V0 _ hS)
    case hK=>
     intro b o e;exact V0 _ (V0 _ e)
    case hR=>
     intro s' hm p;obtain⟨g,g',d',M,N⟩:=s';have eg:g'=s.gens:=hm.gens;have ed:d'=s.drawn:=hm.drawn;have eo:N=s.os:=hm.os;subst eg;subst ed;subst eo;show wpAny _ _ _ _ _ _;refine VY ?_;show wpAny _ _ (ret Value.none) _ _ _;refine VY ⟨rfl,g,M,rfl,p,λb o n e=>?_⟩;have Po:b≠s.heap.objs.size:=Wk n;have U:b≠(s.heap.push {cls:=.type "set",dict:=none,data:=.set #[] 0 (.fresh 0 0 a)}).objs.size:=by
      rw[XA];exact Wk (Zf n)
     exact hm.heap b o (by simp only[Wh,Wg,List.not_mem_nil,or_false,not_or];exact⟨Po,U⟩) (V0 _ (V0 _ e))
   ·cases u with
    | error e=>exact f
    | ok t=>
     cases t with
     | ret r=>
      obtain⟨rfl,g,L,rfl,p,T⟩:=f
      repeat(any_goals (first | assumption | wp_step))
      exact h _ _ p T
     | _=>exact f.elim
  | _=>exact hr.elim
def UZ(w:World)(b h:Heap)(a:Addr)(n:Nat)(f:List PyData):Prop:=
 ∃o d e t c,h.get? a=some o/\o.ExactSet/\o.data=.set d e t/\o7 d t/\i6 w b n d c/\c.Perm f
def vP(keep:∀b o,h₀.get? b=some o->s.heap.get? b=some o)(hS:UZ w h₀ s.heap a n ds)(hn:n<=8)(hu:A.units+n < cLine)(G:dc n g=true)(F:Reads h₀ (.ref b) g as)(v:ds.length<=3)(h:∀r h',Heap.SameBut a s.heap h'->UZ w h₀ h' a n (qF ds g)->Q r {s with heap:=h'}):wpAny (model P w) A (setAddHashed a (.ref b) (ip w n g)) Q E s:=by
 obtain⟨ob,C,ep,t,ds',m,X,k,T,L0,f⟩:=id hS;have L:=L0.keep (h':=s.heap) λb o _ _ e _=>keep b o e;have Z:=mQ (h':=s.heap) (λb o _ _ e _=>keep b o e) n G F;obtain⟨N,N1,N2,N3⟩:=T.F1 (ip w n g);have M:∀e∈ds,dc n e=true:=λe he=>by
  obtain⟨i,hi⟩:=Yn.mp (f.mem_iff.mpr he);have U:i < C.size:=by rw[<-L.1];exact(VW.mp hi).1
  exact(L.2 i _ e (WN U) hi).1
 have p:=IY M G;unfold setAddHashed setAddHashedIn;refine WE (VT (Zs m k T.fits ?_));dsimp only;rw[V4 (by show ¬(byScan (Value.ref b) C=true);unfold byScan Value.scannable;simp)];refine VT ?_;unfold setSearch;refine BW m k T L hn hu G Z rfl N2 N3 N1 (λS=>?_) (λH=>?_) _ 100000 0 none rfl (Xb _) (by lia) rfl (λc i d hc=>absurd hc (Yg _))
 ·dsimp only;refine VY ?_;refine h false s.heap (Heap.SameBut.refl a s.heap) ?_;unfold qF;rw[V1 (p.mpr (f.mem_iff.mp S))];exact hS
 ·dsimp only;have O:FY ds g=false:=by
   cases q:FY ds g with
   | false=>rfl
   | true=>exact absurd (f.mem_iff.mpr (p.mp q)) H
  refine VT (Zs m k T.fits ?_);dsimp only;have I:C.size<=3:=by rw[<-L.1,f.length_eq];exact v
  have Y:SetTable.below t.place (road t (ip w n g) N).j<=C.size:=by rw[<-T.sz];exact(jR _ _ T.NZ).1
  have y:(t.put (road t (ip w n g) N).j).1.dummies=t.dummies:=by
   unfold SetTable.put;dsimp only;rw[T.R6];rfl
  have z:∀(l:SetTable),l.mask=t.mask->l.dummies=t.dummies->l.place=SetTable.insertAt t.place (SetTable.below t.place (road t (ip w n g) N).j) (road t (ip w n g) N).j->l.led=t.led->
    wpAny (model P w) A (do
     storeSet a (SetTable.insertAt C (SetTable.below t.place (road t (ip w n g) N).j) (ip w n g,.ref b)) l
     if(!false&&l.tooFull)=true then do
      setRelay a (SetTable.grown (C.size+1))
      pure true
     else pure true) Q E s:=λl m1 m2 m3 m4=>by
   have J:=T.put I (x:=.ref b) N2 N3 ⟨m1,m2,m3⟩;have hsz:=J.le;refine VT (wpAny_storeSet_of m k ?_ (fits_of_scanBound (by unfold scanBound;lia)));have R:l.tooFull=false:=by
    unfold SetTable.tooFull SetTable.fill;have h1:=J.sz;rw[J.mask,J.R6];simp
    lia
   rw[R,V4 (by simp)];refine VY (h true _ (ZQ s.heap a (Obj.putSet _ l)) ?_);have u:=Yt (Obj.putSet (SetTable.insertAt C (SetTable.below t.place (road t (ip w n g) N).j) (ip w n g,.ref b)) l) m (by rw[putSet_of _ l k];rfl);rw[putSet_of _ l k] at u;unfold qF;rw[V4 (by rw[O];simp)];exact⟨_,_,_,_,_,u,X,rfl,J,L0.put Y ⟨G,⟨as,F⟩,rfl,⟨b,rfl⟩⟩,(xM _ _ _).trans (f.append_right _)⟩
  cases hpn:(t.put (road t (ip w n g) N).j).1.plain with
  | true=>
   rw[V1 rfl];refine VT (FX n G Z (λbv=>?_) 8);cases bv with
   | true=>exact z _ rfl y rfl rfl
   | false=>exact z _ rfl y rfl rfl
  | false=>
   rw[V4 W0];refine VT (VY ?_);exact z _ rfl y rfl rfl
def jT(a:List PyData):List PyData:=a.foldl qF []
def Bx(a:List PyData)(d:PyData):jT (a++[d])=qF (jT a) d:=by unfold jT;rw[ZM];rfl
def Ka(a:List PyData)(d:PyData):(qF a d).length<=a.length+1:=by unfold qF;split <;> simp
def vA(b:List PyData):(jT b).length<=b.length:=by
 have:∀(b a:List PyData),(b.foldl qF a).length<=a.length+b.length:=by
  intro b
  induction b with
  | nil=>intro a;simp
  | cons d b c=>intro a;rw[YE];have:=c (qF a d);have:=Ka a d;simp only[V9];lia
 have:=this b [];unfold jT
 simpa using this
def take_snoc{a:Type}{l:List a}{i:Nat}{x:a}(h:l[i]?=some x):l.take (i+1)=l.take i++[x]:=by rw[Zh,h];rfl
theorem ReadsAll.Vb:∀{a:List Value} {b:List PyData} {as:List Addr} {i:Nat} {v:Value},ReadsAll h a b as->a[i]?=some v->∃d bs,b[i]?=some d/\Reads h v d bs
 | _,_,_,0,_,.cons j _,e=>by simp at e;subst e;exact⟨_,_,rfl,j⟩
 | _,_,_,i+1,_,.cons _ g,e=>by
  rw[WL] at e;obtain⟨d,bs,f,c⟩:=ReadsAll.Vb g e;exact⟨d,bs,f,c⟩
noncomputable def uU:PyData->Bool
 | .tuple _=>true
 | _=>false
def JY{P:Program}{w:World}{A:Around}{c:Heap}{S:Addr}{a:Array Value}{ds:List PyData}{as:List Addr}(q:A.units+8 < cLine)(hr:ReadsAll c a.toList ds as)(hp:ds.all (dc 8)=true)(ht:ds.all uU=true)(hl:ds.length<=4):
  Mu P w A c S a (λi h=>UZ w c h S 8 (jT (ds.take i))) where
 frame:=λi h h' k=>by
  rintro⟨o,I,J,t,p,e,r⟩;exact⟨o,I,J,t,p,k o e,r⟩
 fresh:=λx h e=>by
  refine⟨_,#[],0,_,[],e,⟨rfl,rfl,rfl⟩,rfl,⟨rfl,rfl,λi j n=>absurd n (Yg _),rfl,Xb _,λi j e n=>?_⟩,⟨rfl,λi e d C=>?_⟩,?_⟩
  ·exact absurd n (by simp[SetTable.fresh])
  ·exact absurd C (by simp)
  ·rw[YO];exact .refl _
 step:=λi v s E Q y H keep h=>by
  obtain⟨d,bs,hd,rd⟩:=ReadsAll.Vb hr (by rw[Yo];exact y);have hm:d∈ds:=VX hd;have l:=WX.mp hp d hm;have u:=WX.mp ht d hm;have z:i < ds.length:=(VW.mp hd).1;have f:(jT (ds.take i)).length<=3:=by
   have M:=vA (ds.take i);have L:(ds.take i).length<=i:=by rw[Wx];exact Yh _ _
   lia
  have F:∃b,v=.ref b:=by cases rd <;> first | exact⟨_,rfl⟩ |(simp[uU] at u;done)
  obtain⟨b,rfl⟩:=F;unfold setAdd;refine WE ?_;have g:=mQ (h':=s.heap) (λb o _ _ e _=>keep b o e) 8 l rd;refine VT (FV 8 q l g λk=>?_);refine vP (s:={s with toks:=s.toks+k}) keep H (VZ _) q l rd f λr h' m G=>?_;refine h r h' (s.toks+k) (by lia) m ?_;rw[take_snoc hd,Bx];exact G
noncomputable def kc(ks:List Key)(k:Key):List Key:=if ks.any (λx=>decide (x=k)) then ks else ks++[k]
def kd(ks:List Key):List Key:=ks.foldl kc []
def vz(ks:List Key)(d:Key):kd (ks++[d])=kc (kd ks) d:=by unfold kd;rw[ZM];rfl
def Gw(a:List Key)(d:Key):(kc a d).length<=a.length+1:=by unfold kc;split <;> simp
def ye(b:List Key):(kd b).length<=b.length:=by
 have:∀(b a:List Key),(b.foldl kc a).length<=a.length+b.length:=by
  intro b
  induction b with
  | nil=>intro a;simp
  | cons d b c=>intro a;rw[YE];have:=c (kc a d);have:=Gw a d;simp only[V9];lia
 have:=this b [];unfold kd
 simpa using this
def BV{P:Program}{w:World}{h:Heap}{a:Addr}{S b:Key->Bool}{n c:Nat}(d:h.SetOf (bM P w) a S n)(e:∀k,S k=b k)(f:n=c):h.SetOf (bM P w) a b c:=by
 have:S=b:=funext e;subst this;subst f;exact d
def JZ{P:Program}{w:World}{A:Around}{f:Heap}{S:Addr}{a:Array Value}{ks:List Key}(y:∀(i:Nat)(v:Value),a[i]?=some v->∃k,ks[i]?=some k/\RelV (kV k) v)(hl:ks.length<=1000):
  Mu P w A f S a (λi h=>h.SetOf (bM P w) S (λj=>(kd (ks.take i)).any λx=>decide (x=j)) (kd (ks.take i)).length) where
 frame:=λi h p k=>by
  rintro⟨o,G,H,t,e,r⟩;exact⟨o,G,H,t,k o e,r⟩
 fresh:=λq h e=>by
  rw[YO];exact⟨_,#[],0,_,e,⟨rfl,rfl,rfl⟩,rfl,λe C=>by simp at C,λk=>by simp[kd],by decide,rfl,rfl⟩
 step:=λi v s E Q u F keep h=>by
  obtain⟨k,d,g⟩:=y i v u;have z:i < ks.length:=(VW.mp d).1;have b:(kd (ks.take i)).length+1 < scanBound:=by
   have J:=ye (ks.take i);have I:(ks.take i).length<=i:=by rw[Wx];exact Yh _ _
   unfold scanBound
   lia
  have l:v.scannable=true:=by
   cases k with
   | inl i=>obtain⟨t,e⟩:=(show ∃t,v=Value.int i t from g);subst e;rfl
   | inr x=>obtain⟨t,e⟩:=(show ∃t,v=Value.str x t from g);subst e;rfl
  unfold setAdd;refine WE ?_;refine VT ((bM P w).pyHash (k:=k) (oF g) ?_);refine wpAny_setAddHashed_of (knd:=bM P w) (s:={s with toks:=s.toks+1}) (oF g) l F b λp m n=>?_;refine h _ p (s.toks+1) (by lia) m (BV n (λj=>?_) ?_)
  ·rw[take_snoc d,vz];unfold kc
   by_cases c:((kd (ks.take i)).any λx=>decide (x=k))=true
   ·rw[V1 c]
    by_cases e:j=k
    ·subst e;rw[c];rfl
    ·rw[WM e,Bool.or_false]
   ·rw[V4 c,List.any_append];congr 1;simp[eq_comm]
  ·rw[take_snoc d,vz];unfold kc
   split <;> simp
def Ke(h:Heap)(a:Addr)(n:Nat):Prop:=n<=4096/\∃o b c t,h.get? a=some o/\o.ExactSet/\o.data=.set b c t/\t.fits b.size=true/\b.size=n
noncomputable def DB(a:Addr)(n:Nat):HO:=.ext λh=>Ke h a n
def O6(x:Ke h a n):bQ P w H h a (DB a n):=
 ⟨x,by obtain⟨_,o,_,_,_,e,_⟩:=x;exact⟨o,e⟩,λf d y k=>by obtain⟨q,o,b,c,t,e,r⟩:=y;exact⟨q,o,b,c,t,k o e,r⟩⟩
def Gm:fE X (.builtin "len") (λd H Q=>∃a n,d=[.ref a]/\H a=some (DB a n)/\Q (.int n) H):=by
 intro f s p H d us Q I r h;obtain⟨a,n,rfl,e,q⟩:=h;obtain⟨u,rfl,g⟩:=vals1 r;cases g;obtain⟨⟨hn,o,c,v,t,m,l,k,j,i⟩,_,_⟩:=I.bu a _ e;subst i;have b:(c.size:Int) < 2^63:=by
  have:(c.size:Int)<=4096:=by lia
  exact XW this (by decide)
 refine call_len_set m l k j b ?_;exact⟨.int c.size,H,I.tok _,⟨_,rfl⟩,q⟩
def Gi(hc:X.calm=true)(hu:X.A.units+64 < cLine):fE X (.type "set") (λT H Q=>∃a F n,T=[.ref a]/\lj X.K H a F/\
  ((∃ks,F=ks.map kV/\ks.length<=1000/\n=(kd ks).length)\/(∃ds,qI X.K H F ds/\ds.all (dc 8)=true/\ds.all uU=true/\ds.length<=4/\n=(jT ds).length))/\∀l,H l=none->Q (.ref l) (upd H l (DB l n))):=by
 intro j s Z H T us Q I r h;obtain⟨a,F,n,rfl,hq,g,q⟩:=h;obtain⟨u,rfl,rx⟩:=vals1 r;cases rx;obtain⟨c,rv,pt,hz⟩:=I.tuple hq;have w:=rv.length;have C:∀(d:Heap)(f:Nat),Ke d s.heap.objs.size n->(∀b o,b < s.heap.objs.size->s.heap.get? b=some o->d.get? b=some o)->EP X j Z Q (.ref s.heap.objs.size) {s with heap:=d,toks:=f}:=λd f hL k=>
  ⟨.ref _,_,I.laid (t':=f) (o:=DB s.heap.objs.size n) (λb o e=>k b o (V8 e) e) (VZ _) (O6 hL),rfl,q _ I.fresh⟩
 rcases g with⟨ks,rfl,G,rfl⟩ |⟨ds,hr,h1,h2,h3,rfl⟩
 ·have y:ks.length=c.length:=by rw[<-w,VU]
  refine k7 (items:=c.toArray) (I.ok.hd hc) pt (λA' _ _=>JZ (ks:=ks) (λi v hv=>?_) G) λd f L k=>C d f ?_ k
  ·have m:c[i]?=some v:=by simpa using hv
   have hi:i < ks.length:=by rw[y];exact(VW.mp m).1
   have z:ks[i]?=some ks[i]:=V7 hi;obtain⟨u,p,ru⟩:=Vals.get rv (x:=kV ks[i]) (i:=i) (by rw[Wa,z];rfl);rw[m] at p;cases p;exact⟨_,z,ru⟩
  ·obtain⟨o,M,N,t,S,R,P,_,_,Y,O,E⟩:=L;have hs:c.toArray.size=ks.length:=by rw[y];rfl
   rw[hs,WT] at E;have:=ye ks;exact⟨by lia,o,M,N,t,S,R,P,O,E⟩
 ·obtain⟨as,U⟩:=hr.reads I rv;have J:ds.length=c.length:=by have:=ReadsAll.length _ _ _ U;lia
  refine k7 (items:=c.toArray) (I.ok.hd hc) pt (λA' _ hA=>JY (ds:=ds) (as:=as) (by lia) U h1 h2 h3) λd f L k=>C d f ?_ k;obtain⟨o,M,N,t,ds',S,R,P,Y,O,E⟩:=L;have hs:c.toArray.size=ds.length:=by rw[J];rfl
  rw[hs,WT] at E;have:=vA ds;exact⟨by lia,o,M,N,t,S,R,P,Y.fits,by rw[<-O.1,E.length_eq]⟩
end L2
namespace Sm
open L2 PyProof.Rows
def uR:List D->Option (List Key)
 | []=>some []
 | x::r=>(sA x).bind λk=>(uR r).map λks=>k::ks
def jM:D->Option Nat
 | .tup xs=>match uR xs with
  | some ks=>if ks.length<=1000 then some (kd ks).length else none
  | none=>(kl xs).bind λa=>if(a.all (dc 8)&&a.all uU&&decide (a.length<=4))=true then some (jT a).length else none
 | _=>none
def oU(m:EM):EM:=λa h=>(m a h).bind λp=>(jM p.1).map λ(n:Nat)=>(D.int (n:Int),p.2)
theorem AW{K:FR}{c:Ad}{H:Hp}{a:List V}{b:List D}{ks:List Key}(z:aH K c H a b)(e:uR b=some ks):a=ks.map kV:=by
 cases z with
 | nil=>cases e;rfl
 | cons r l=>
  obtain⟨k,h,g⟩:=bq e;obtain⟨ks,f,d⟩:=gL g;cases d;rw[lM r h,AW l f];rfl
theorem Aj{K:FR}{d:Ad}{H:Hp}:∀{a:List V} {c:List D} {b:List PyData},aH K d H a c->kl c=some b->qI K H a b:=by
 intro a
 induction a with
 | nil=>intro c b h e;cases h;cases e;exact .nil
 | cons u us n=>
  intro c b h e;cases h with | cons r l=>
  obtain⟨k,i,h⟩:=bq e;obtain⟨ks,g,f⟩:=gL h;cases f;exact .cons (r.vN i).1 (n l g)
def wQ(hc:X.calm=true)(G:X.A.units+64 < cLine)(o:Gl X "len")(j:X.mg "len"=none)(m:Gl X "set")(i:X.mg "set"=none)(I:SE X e F)(hs:starEach [e] X.env=(false,eval e X.env)::starEach [] X.env:=by ac_nf):
  SE X (.Call (.Name "len" p) [.Call (.Name "set" U) [e] [] s] [] pos) (oU F):=
 (uy Gm o j (by decide+kernel) (om (qe (Gi hc G) m i (by decide+kernel) (om I yR hs) (by decide) (by decide) hs) yR)).imp λσ H Q u9=>by
  obtain⟨y,z,h,d,Y,R,S,L,k⟩:=u9;obtain⟨⟨d1,J⟩,P,O⟩:=bq L;obtain⟨n,b,N⟩:=gL O;cases N;refine⟨y,z,h,d1,J,R,S,P,λv H1 u9=>?_⟩;obtain⟨x,T,w,E⟩:=u9;have r:∀l,H1 l=none->∃a t,[V.ref l]=[V.ref a]/\upd H1 l (DB l n) a=some (DB a t)/\Q (.int t) (upd H1 l (DB l n)):=λl hl=>
   ⟨l,n,rfl,aP,k _ _ (dB.step (T.trans (dG.laid w hl)) (dB.here (w.laid hl) (.int _)))⟩
  cases d1 with
  | tup xs=>
   cases E with
   | @tup a C _ ht u=>
    refine⟨a,C,n,rfl,ht.sq,?_,r⟩;unfold jM at b;dsimp only at b;cases q:uR xs with
    | some ks=>
     rw[q] at b;dsimp only at b
     by_cases c:ks.length<=1000
     ·rw[V1 c] at b;cases b;exact .inl ⟨ks,AW u q,c,rfl⟩
     ·rw[V4 c] at b;cases b
    | none=>
     rw[q] at b;obtain⟨g,M,f⟩:=bq b
     by_cases c:(g.all (dc 8)&&g.all uU&&decide (g.length<=4))=true
     ·rw[V1 c] at f;cases f;rw[Wm,Wm] at c;exact .inr ⟨g,Aj u M,c.1.1,c.1.2,Wy c.2,rfl⟩
     ·rw[V4 c] at f;cases f
  | _=>cases b
def EE(mg:Str->Option Value)(x:Str)(d:D):Prop:=∃(v:V)(u:Value),mg x=some u/\RelV v u/\∀K a H,Rep K a H v d
def cS(C:EE X.mg x d)(b:Gl X x)(hd:(x==("__debug__":Str))=false:=by ac_nf):SE X (.Name x pos) (eK d):=by
 obtain⟨v,u,e,c,h3⟩:=C;exact KO b e c (λa H=>h3 X.K a H) hd
end Sm
namespace Hd
open PySem.W PyProof.Rows L2 Sm
def gq(T:Top q loose a mg d h)(e:valOf q x=some (.int i)):EE mg x (.int i):=by
 obtain⟨v,c,b⟩:=T.const x _ e;have:=b h;cases this with
 | int _ t=>exact⟨.int i,_,c,⟨t,rfl⟩,λ_ _ _=>.int i⟩
def L7(T:Top q loose a mg d h)(e:valOf q x=some (.str s))(ok:PyData.strOk s=true):EE mg x (.str s):=by
 obtain⟨v,c,b⟩:=T.const x _ e;have:=b h;cases this with
 | str _ t=>exact⟨.str s,_,c,⟨t,rfl⟩,λ_ _ _=>.str ok⟩
end Hd
namespace L2
open PyProof.Rows
noncomputable def Vp(x:Str):It:=⟨λi _=>i < x.cps.size,λi H y a=>a=H/\∃c,x.cps[i]?=some c/\y=.str ⟨#[c]⟩,λi _=>x.cps.size<=i⟩
def G0{P:Program}{w:World}{K:FR}{Q:Expr}(d:Addr)(x:Str)(t:Tok):Turn P w K Q (Vp x) [d] d (λi h=>h.IsStrIter d "str_ascii_iterator" x t i) where
 mem:=by simp
 obj:=λi h st b f=>by
  have e:b=d:=by simpa using f
  subst e;obtain⟨o,j,O,h3⟩:=st;exact⟨o,j,λv z=>by rw[h3] at z;cases z⟩
 keep:=λi h m st k=>let⟨o,j,r⟩:=st;⟨o,k d (by simp) o j,r⟩
 item:=by
  intro X A q C hc i a s M H E I l st y;subst A q C;obtain⟨f0,L,T,J,G,F⟩:=l d (by simp);have W:=Walks.strAscii (prog:=X.prog) (w:=X.w) (I.ok.hd hc) d x t;refine W.item i s _ _ y st λv m N S g R=>?_;obtain⟨c,u,p,rfl⟩:=S;have Y:Inv X a M H {s with heap:=m,toks:=N}:=I.turned (λb o f e=>R b o (by simpa using f) e) f0 L J G F;obtain⟨o,j,O,h3⟩:=id g;exact⟨_,rfl,AZ (s:={s with heap:=m,toks:=N}) (n:="str_ascii_iterator") j O h3 (by decide) ⟨.str ⟨#[c]⟩,H,Y,⟨u,rfl⟩,⟨rfl,c,p,rfl⟩,g,λb f=>(l b f).1⟩⟩
 done:=by
  intro X A q C hc i a s M H E I l st y;subst A q C;obtain⟨f0,L,T,J,G,F⟩:=l d (by simp);have p:x.cps[i]?=none:=Array.getElem?_eq_none (show x.cps.size<=i from y);exact wpAny_pyNext_ascii_end (I.ok.hd hc) st p λm U=>⟨rfl,I.turned (t':=s.toks) (λb o f e=>U b o f e) f0 L J G F⟩
 self:=λ_ _ _ _ _ st h=>wpAny_pyIter_striter_ascii st h
def Ov{X:Cx}{i:Expr}{l:Expr}{g:TE}(hl:PE X l g):PI X i l (λc H R=>g c H λv f=>∃x:Str,v=.str x/\x.cps.all (· < 128)=true/\R (Vp x) f):=by
 intro a s c H R I h;refine cx (hl a s c H _ I h) λv s1 u9=>?_;obtain⟨y,f,d,j,k⟩:=u9;obtain⟨x,e,n,q⟩:=k;subst e;obtain⟨t,rfl⟩:=j;refine wpAny_pyIter_ascii n ?_;refine⟨s1.heap.objs.size,[s1.heap.objs.size],_,_,f,rfl,d.kept (t':=s1.toks) λb o e=>V0 _ e,G0 _ x t,⟨_,Wn _ rfl,rfl,rfl⟩,λb m=>?_,q⟩;have e:b=s1.heap.objs.size:=by simpa using m
 subst e;exact d.A9 (VZ _) (d.bu.fresh (VZ _))
end L2
namespace Sm
open L2 PyProof.Rows
noncomputable def LQ(e:EM):IM:=λa h=>(e a h).bind λp=>match p.1 with
 | .str x=>if x.cps.all (· < 128)=true then some (x.cps.toList.map λc=>D.str ⟨#[c]⟩,[],p.2) else none
 | _=>none
def CT(h:c < 128):PyData.strOk ⟨#[c]⟩=true:=by
 unfold PyData.strOk;simp
 lia
theorem Ah{K:FR}{a:Ad}{H:Hp}:∀(cs:List Nat),(∀c∈cs,c < 128)->aH K a H (cs.map λc=>V.str ⟨#[c]⟩) (cs.map λc=>D.str ⟨#[c]⟩)
 | [],_=>.nil
 | c::r,h=>.cons (.str (CT (h c (.head _)))) (Ah r λd hd=>h d (.tail _ hd))
def NL(h:SE X e z):SI X G e (LQ z):=(Ov h).imp λσ H Q u9=>by
 obtain⟨q,r,h,xs,ws,J,R,S,e,k⟩:=u9;obtain⟨⟨x,g⟩,C,f⟩:=bq e;refine⟨q,r,h,x,g,R,S,C,λv H1 u9=>?_⟩;obtain⟨l,E,F,y⟩:=u9;cases x with
 | str x=>
  by_cases c:x.cps.all (· < 128)=true
  ·rw[show(match D.str x with | .str x=>if x.cps.all (· < 128)=true then some (x.cps.toList.map λc=>D.str ⟨#[c]⟩,([]:W),g) else none | _=>none)=some (x.cps.toList.map λc=>D.str ⟨#[c]⟩,([]:W),g) from V1 c] at f;cases f;cases y;refine⟨x,rfl,c,k _ l H1 E F ?_⟩;have b:∀d∈x.cps.toList,d < 128:=λd hd=>by
    rw[YQ] at c
    simpa using c d (W8.mp hd)
   refine uT λp O I T M hc=>⟨x.cps.toList.map λc=>V.str ⟨#[c]⟩,Ah _ b,λi o=>?_,λi v n=>?_⟩
   ·rw[VU,XF] at o;exact o
   ·rw[Wa] at n;obtain⟨j,m,A⟩:=gL n;have a:i < x.cps.toList.length:=(VW.mp m).1;rw[XF] at a;refine⟨a,λu N ⟨w,L,t,s⟩=>⟨w,?_⟩⟩;rw[Yo,t] at m;cases m;rw[s,A]
  ·rw[show(match D.str x with | .str x=>if x.cps.all (· < 128)=true then some (x.cps.toList.map λc=>D.str ⟨#[c]⟩,([]:W),g) else none | _=>none)=none from V4 c] at f;cases f
 | _=>exact ck f
end Sm
namespace L2
open PyProof.Rows
def Br:fE X (.builtin "sorted") (λj H Q=>∃a b,j=[.ref a]/\lj X.K H a (b.map V.str)/\b.length < 64/\∀l,H l=none->Q (.ref l) (upd H l (.lst ((eT b).map V.str)))):=by
 intro c s t H j us Q I r h;obtain⟨a,b,rfl,z,g,q⟩:=h;obtain⟨u,rfl,v⟩:=vals1 r;cases v;obtain⟨e,rv,p,G⟩:=I.tuple z;have A:=pJ rv;have d:e.length=b.length:=by have:=rv.length;rw[VU] at this;exact this.symm
 obtain⟨o,F,E,n,C⟩:=id p;refine Calls.call_function_entry kind_sorted plain_sorted entry_sorted (args_sorted1 _) ?_;unfold Builtin.«sorted»;refine VT (m:=checkCount "sorted" 1 1 _) (VY ?_);refine VT (wpAny_collect_seq a (.inr rfl) F E C (λi w=>?_) (by simp;rw[Xq];lia));refine EY (s:={s with heap:=i}) A (by rw[d];exact g) λJ n out y hl x=>?_;have f:((eT b).map V.str).length<=sizeLine:=by rw[VU,(cg b).length_eq,Xq];lia
 have k:Inv X c t H {s with heap:=i}:=I.kept (t':=s.toks) w;refine⟨.ref i.objs.size,_,k.laid (t':=s.toks) (o:=.lst ((eT b).map V.str)) y (VZ _) ⟨f,out.toList,n,wL x,?_⟩,rfl,q _ (k.bu.fresh (VZ _))⟩;rw[hl]
end L2
namespace Sm
open L2 PyProof.Rows
def zj:Fn:=λa h=>match a with
 | [.tup xs]=>(nI xs).bind λns=>if ns.length < 64 then some (.lv ((eT ns).map D.str),h) else none
 | _=>none
def Gd:gM X (.builtin "sorted") zj:=by
 intro e s j H u us Q I r hh;obtain⟨t,h,i,z,o,S,l,b,k⟩:=hh
 match i,l,b with
 | [],_,b=>exact ck b
 | d::_::_,_,b=>cases d <;> exact ck b
 | [d],l,b=>
  obtain⟨v,rfl,rd⟩:=rep1 l;cases rd <;> first |(exact ck b) | skip
  rename_i a w i ht m _;obtain⟨ns,q,g⟩:=bq (show((nI i).bind λns=>if ns.length < 64 then some (D.lv ((eT ns).map D.str),h) else none)=some (z,o) from b)
  by_cases c:ns.length < 64
  ·rw[V1 c] at g;cases g;have:=tH q;subst this;obtain⟨p,f⟩:=mM m;subst p;refine Br e s j H _ us Q I r ⟨a,ns,rfl,ht.sq,c,λl hl=>k _ _ (.lv S (pV _ λx n=>f x ((cg ns).mem_iff.mp n)) hl)⟩
  ·rw[V4 c] at g;cases g
end Sm
namespace L2
open PyProof.Rows
end L2
namespace Sm
open L2
end Sm
namespace Sm
open L2 PyProof.Rows
end Sm
namespace L2
open PyProof.Rows
end L2
namespace Sm
open L2 PyProof.Rows
def fz(d:Df X.prog X.w X.K X.mg X.base nm k l n F)(hr:dh f X.A)(j:SA X (e::a) m)(g:k<=f:=by decide)(hl:lz m n:=by repeat(first | exact aL | refine ai ?_))(h:Gl X nm:=by unfold Gl;ac_nf)(c:(nm==("__debug__":Str))=false:=by ac_nf)(i:starEach (e::a) X.env=(false,eval e X.env)::starEach a X.env:=by ac_nf)(b:(backTo pos (starEach a X.env)).any (·.1)=false:=by ac_nf):SE X (.Call (.Name nm p) (e::a) [] pos) (ar F m):=Rb d hr g j hl h c i b
def lZ{x:Str}{g:String}{p a:Pos}{e:Expr}{b:List Expr}{f:Fn}{m:AM}(hc:gM X (.builtin g) f)(hm:X.mg x=none)(h:bootBuiltins x=some (.builtin g))(j:SA X (e::b) m)(i:Gl X x:=by unfold Gl;ac_nf)(hn:x≠"__name__":=by decide)(d:(x==("__debug__":Str))=false:=by ac_nf)
  (he:starEach (e::b) X.env=(false,eval e X.env)::starEach b X.env:=by ac_nf) (c:(backTo a (starEach b X.env)).any (·.1)=false:=by ac_nf):SE X (.Call (.Name x p) (e::b) [] a) (ar f m):=Ht hc i hm h j hn d he c
def NT{x:Str}{g:String}{p a:Pos}{e:Expr}{b:List Expr}{f:Fn}{m:AM}(hc:gM X (.type g) f)(hm:X.mg x=none)(h:bootBuiltins x=some (.type g))(j:SA X (e::b) m)(i:Gl X x:=by unfold Gl;ac_nf)(hn:x≠"__name__":=by decide)(d:(x==("__debug__":Str))=false:=by ac_nf)
  (he:starEach (e::b) X.env=(false,eval e X.env)::starEach b X.env:=by ac_nf) (c:(backTo a (starEach b X.env)).any (·.1)=false:=by ac_nf):SE X (.Call (.Name x p) (e::b) [] a) (ar f m):=Hr hc i hm h j hn d he c
def GF(hm:X.mg x=none)(a:bootBuiltins x=some (.type n))(b:Gl X x:=by unfold Gl;ac_nf)(hn:x≠"__name__":=by decide)(hd:(x==("__debug__":Str))=false:=by ac_nf):SE X (.Name x pos) (eK (.ty n)):=Q6 b hm a hn hd
def six(hr:dh k X.A)(f:SE X a d)(e:SE X b c)(hs:pv b:=by unfold pv;intro _ _;ac_nf):SE X (.Subscript a b pos) (au aX d c):=Q8 hr.units f e hs
end Sm
namespace Hd
open PySem.W PyProof.Rows L2 Sm
def u0{P:List Value->Prop}(h:P [])(us:List Value)(hl:us.length=0):P us:=by cases us with | nil=>exact h | cons _ _=>cases hl
def u1{P:List Value->Prop}(h:∀a,P [a])(us:List Value)(hl:us.length=1):P us:=by
 cases us with
 | nil=>cases hl
 | cons a r=>exact u0 (P:=λr=>P (a::r)) (h a) r (Nat.succ.inj hl)
def u2{P:List Value->Prop}(h:∀a b,P [a,b])(us:List Value)(hl:us.length=2):P us:=by
 cases us with
 | nil=>cases hl
 | cons a r=>exact u1 (P:=λr=>P (a::r)) (h a) r (Nat.succ.inj hl)
def u3{P:List Value->Prop}(h:∀a b c,P [a,b,c])(us:List Value)(hl:us.length=3):P us:=by
 cases us with
 | nil=>cases hl
 | cons a r=>exact u2 (P:=λr=>P (a::r)) (h a) r (Nat.succ.inj hl)
def u4{P:List Value->Prop}(h:∀a b c d,P [a,b,c,d])(us:List Value)(hl:us.length=4):P us:=by
 cases us with
 | nil=>cases hl
 | cons a r=>exact u3 (P:=λr=>P (a::r)) (h a) r (Nat.succ.inj hl)
def u5{P:List Value->Prop}(h:∀a b c d e,P [a,b,c,d,e])(us:List Value)(hl:us.length=5):P us:=by
 cases us with
 | nil=>cases hl
 | cons a r=>exact u4 (P:=λr=>P (a::r)) (h a) r (Nat.succ.inj hl)
def u6{P:List Value->Prop}(h:∀a b c d e f,P [a,b,c,d,e,f])(us:List Value)(hl:us.length=6):P us:=by
 cases us with
 | nil=>cases hl
 | cons a r=>exact u5 (P:=λr=>P (a::r)) (h a) r (Nat.succ.inj hl)
def u7{P:List Value->Prop}(h:∀a b c d e f g,P [a,b,c,d,e,f,g])(us:List Value)(hl:us.length=7):P us:=by
 cases us with
 | nil=>cases hl
 | cons a r=>exact u6 (P:=λr=>P (a::r)) (h a) r (Nat.succ.inj hl)
def RJ{q:Program}{b:List Str}{c:ExcName->Option Value}{mg i:Str->Option Value}{h base:Heap}{P:Program}{w:World}(T:Top q b c mg i h){n:Str}{st:Stmt}(e:(recsOf q).find? (λe=>e.name==n)=some (n6 n st)){d:List Str}{k N:Nat}{F:Fn}
  (g:∀{f:Addr} {a:FuncData},vO (aC h) n n st f a->Binds (aC h) a d []) (ok:∀{f:Addr} {a:FuncData},vO (aC h) n n st f a->keepIn (aC h) (.ref f)=true->Binds (aC h) a d []->mg n=some (.ref f)->fT P w (aC h) mg base pC k f a d (EV (aC h) N F)):Df P w (aC h) mg base n k d N F:=by
 obtain⟨f,a,m,G⟩:=Eg T e;exact⟨f,a,ok G G.kp (g G) m,G.kp,g G,m⟩
end Hd
namespace L2
open PyProof.Rows Builtin.Str
end L2
namespace L2
open PyProof.Rows
end L2
namespace Sm
open L2 PyProof.Rows Builtin.Str
end Sm
namespace L2
open PyProof.Rows
def BJ{prog:Program}{w:World}{A:Around}{I:Addr}{c b:List Addr}{n:Nat}{P:Nat->Value->Prop}{St:Nat->Heap->Prop}(W:Walks prog w A I c b (n+1) P St):Walks prog w A I c b n (λi=>P (i+1)) (λi=>St (i+1)) where
 sub:=W.sub
 frame:=λi=>W.frame (i+1)
 item:=λi s Q E d st a=>W.item (i+1) s Q E (Nat.succ_lt_succ d) st a
 done:=λs Q E st a=>W.done s Q E st a
 self:=λi=>W.self (i+1)
def zX{prog:Program}{w:World}{A:Around}{E:Value->Shared->Prop}{s:Shared}{t:Addr}{x:Value}{r:List Value}{Q:List Value->Shared->Prop}(hh:A.handled=none)(ht:IsTup s.heap t (x::r).toArray)(u:r.length<=sizeLine)
  (G:∀(q:Heap) v,(∀b o,s.heap.get? b=some o->q.get? b=some o)->Q [x,.ref q.objs.size] {s with heap:=q.push {cls:=.type "list",data:=.seq r.toArray},toks:=v}):
  wpAny (model prog w) A (unpackItems (.ref t) 2 (some 1)) Q E s:=by
 have h:t≠s.heap.objs.size:=by obtain⟨o,F,_⟩:=ht;exact Wk (V8 F)
 unfold unpackItems;refine VT ?_;unfold notIterableAtAll;refine VT (YR ht.typeIs slot_tuple_iter.lookup ?_);refine VY ?_;simp only[WH,Xk];refine VT (WE (iter_tuple ht ?_));refine VT (WE (draw_tuple h 1 0 _ _ ⟨_,Wn _ rfl,rfl,rfl⟩ (ht.push _) (by simp) λf a d=>?_));rw[show List.take 1 (List.drop 0 (x::r).toArray.toList)=[x] by simp];rw[V4 (by simp)];have c:IsTup f t (x::r).toArray:=(ht.push _).extBut d.extBut h;have W:=(BJ (n:=r.length) (by simpa using Walks.tuple (prog:=prog) (w:=w) (A:=A.in1) hh s.heap.objs.size t h (x::r).toArray)).toS;have C:∀b o,s.heap.get? b=some o->f.get? b=some o:=λb o e=>d.extBut b o (Wk (V8 e)) (V0 _ e);refine VT (WE (wpAny_collect_iter (.inr (.inr (.inr rfl))) W (λi p st=>st.1.typeIs) ⟨a,c⟩ (λb l=>?_) (by simp) (λp k m g=>?_) u))
 ·rcases Wh.mp l with rfl | l
  ·obtain⟨o,e,_⟩:=a;exact V8 e
  ·obtain rfl:=Wg.mp l;obtain⟨o,e,_⟩:=c;exact V8 e
 have M:k.toList=r:=by
  refine ZN λj=>?_;have N:=g.1
  by_cases z:j < r.length
  ·have H:=g.2 j (k[j]'(by lia)) (by simp);have h3:r[j]?=some k[j]:=by simpa using H
   rw[h3];simp
  ·rw[W4 (by simp;lia),W4 (by lia)]
 rw[M];rw[V4 (by simp)];simp only[Xg,Aaj,WT,List.drop_length];refine VT (W2 ?_ u);refine VY ?_;have y:∀b o,s.heap.get? b=some o->p.heap.get? b=some o:=λb o e=>m.heap b o (λl=>by
  have:=Wg.mp l;exact Wk (V8 e) this) (C b o e)
 have L:=m.gens;have J:=m.drawn;have I:=m.os;cases p;cases s;dsimp only at*;subst L J I;exact G _ _ y
section
variable {X:Cx}
def RU(K:FR)(t:Mo):TG:=λv c H Q=>∃a x b,v=.ref a/\lj K H a (x::b)/\∀l,H l=none->t [x,.ref l] c (upd H l (.lst b)) Q
def Lp{d:List Expr}{t:Mo}{k:_}{e:Pos}(hc:X.calm=true)(h:Mp X d t)(hn:(assignEach d X.env).length=2:=by rfl)(g:(assignEach d X.env).findIdx? (·.1)=some 1:=by rfl):PG X (.Tuple d k e) (RU X.K t):=by
 intro c s i H v u Q I r f;obtain⟨a,x,n,E,C,f⟩:=f;subst E;cases r;obtain⟨z,rv,ht,A⟩:=I.tuple C;cases rv with
 | cons p rv=>
  rename_i y j;rw[V9] at A;have hl:=rv.length;rw[assign_Tuple];refine VT (W5 ?_);unfold unpack;rw[hn,g];refine VT (WE (zX (I.ok.hd hc) ht (by lia) λh' l w=>?_));have m:Inv X c i H {s with heap:=h',toks:=l}:=I.kept w;have F:=m.laid (t':=l) (h':=h'.push {cls:=.type "list",data:=.seq j.toArray}) (a:=h'.objs.size) (o:=.lst n) (λb ob q=>V0 _ q) (VZ _) ⟨by lia,j,_,rv,Wn _ rfl⟩;exact h c _ i _ [x,.ref h'.objs.size] _ Q F (.cons p (.cons (show RelV (.ref h'.objs.size) (.ref h'.objs.size) from rfl) .nil)) (f _ (m.bu.fresh (VZ _)))
end
end L2
namespace Sm
open L2 PyProof.Rows
noncomputable def UJ(u:GB):GM:=λd a h=>match d with
 | .tup (x::xs)=>u [x,.lv xs] a h
 | _=>none
section
variable {X:Cx}
def Hi{c b:List Expr}{m:GB}(h:M6 X c m)(hs:(assignEach b X.env).map (·.2)=(assignEach c X.env).map (·.2):=by ac_nf):M6 X b m:=λa s d H e us Q I r q=>by
 rw[hs];exact h a s d H e us Q I r q
def E2{b a:Expr}{d c:GM}{p:Pos}(f:SG X b d)(e:SG X a c)(a1:(assignEach [b,a] X.env).map (·.2)=assign b X.env::(assignEach [a] X.env).map (·.2):=by ac_nf)(a2:(assignEach [a] X.env).map (·.2)=[assign a X.env]:=by ac_nf)(hs:(assignEach [b,.Starred a p] X.env).map (·.2)=(assignEach [b,a] X.env).map (·.2):=by ac_nf):M6 X [b,.Starred a p] (aj d (aj c bB)):=
 Hi (aN f (aN e eF a2) a1) hs
def KI{b:List Expr}{o:GB}{t:_}{j:Pos}(hc:X.calm=true)(h:M6 X b o)(hn:(assignEach b X.env).length=2:=by ac_nf)(m:(assignEach b X.env).findIdx? (·.1)=some 1:=by ac_nf):SG X (.Tuple b t j) (UJ o):=
 (Lp hc h hn m).imp λv σ H Q ⟨C,q,h,d,i,u,R,S,r,e,k⟩=>by
  cases r <;> first |(exact absurd e (by intro z;cases z)) | skip
  rename_i a E F ht l _;cases l with
  | nil=>exact ck e
  | cons r l=>
   unfold UJ at e;dsimp only at e;refine⟨a,_,_,rfl,ht.sq,λp hp=>?_⟩;obtain⟨g,n,y,s⟩:=dB.lv (K:=X.K) (h:=h) S l hp;exact⟨g,q,h,_,i,u,R.mono n.toCh,y,.cons (r.mono n.toCh) (.cons s .nil),e,λf A c w x R2=>k f A c (n.trans w) x R2⟩
end
def FU{h:Heap}{f:Value->Bool}{p:PyData}:∀{us:List Value} {a:List PyData} {as:List Addr},ReadsAll h us a as->(∀u d as,u∈us->Reads h u d as->d∈a->f u=PyData.eqv d p)->us.findIdx? f=a.findIdx? λb=>PyData.eqv b p:=by
 intro us
 induction us with
 | nil=>intro a as r _;cases r;rfl
 | cons v us e=>
  intro a as r c;cases r with | cons r l=>
  rw[List.findIdx?_cons,List.findIdx?_cons,c _ _ _ V3 r V3,e l λu d as g hr hd=>c u d as (V5 _ g) hr (V5 _ hd)]
def D6:Mr:=λd c h=>match c with
 | [x]=>(fZ d h).bind λa=>(DQ h x).bind λp=>(kl a).bind λbs=>if p.depth<=60/\PyData.depthAll bs<=60 then(bs.findIdx? λb=>PyData.eqv b p).map λj:Nat=>(D.int (Int.ofNat j),h) else none
 | _=>none
def FD{X:Cx}(hu:X.A.units+64 < cLine):Qw X "list.index" (rM X.K D6):=by
 intro G s σ H x xs v us Q I N rs hh;obtain⟨ρ,h,d,ds,z,h',S,rd,l,b,k⟩:=hh
 match ds,l,b with
 | [],_,b=>exact ck b
 | _::_::_,_,b=>exact ck b
 | [y],l,b=>
  obtain⟨ys,e1,e2⟩:=bq b;obtain⟨p,e3,e4⟩:=bq e2;obtain⟨bs,e5,i⟩:=bq e4
  by_cases w:p.depth<=60/\PyData.depthAll bs<=60
  ·rw[V1 w] at i;obtain⟨j,e7,e8⟩:=gL i;cases e8;obtain⟨a,vs,rfl,ha,Y⟩:=dD S rd e1;obtain rfl:v=Value.ref a:=N;obtain⟨yv,rfl,M⟩:=rep1 l;obtain⟨u,rfl,O⟩:=Vals.one rs;obtain⟨T,c1⟩:=og S M e3;obtain⟨R,t⟩:=Y.vN e5;obtain⟨as,P⟩:=T.reads I O;obtain⟨c,rv,pl,hz⟩:=I.list (.inl (.inl ha));obtain⟨bs',E⟩:=R.reads I rv;have hj:=(FU (f:=Em s.heap p) E λu d as _ hr hd=>qu hr (cM t hd)).trans e7;obtain⟨j1,j2,Z⟩:=List.findIdx?_eq_some_iff_getElem.mp hj;have q:∀y,y∈c.toArray->PySem.SeqAt.EqAt X.A.in1 s y u (Em s.heap p y):=by
    intro y hy;obtain⟨d,C,hr,hd⟩:=lG E y (by simpa using hy);rw[qu hr (cM t hd)];refine YK d p _ s y u C as hr P (cM t hd) c1 ?_;have h1:=lR hd;have h2:min d.depth p.depth<=d.depth:=Yh _ _;show X.A.units+1+min d.depth p.depth < cLine;have h3:=w.2
    lia
   obtain⟨o,n,g,o1,L,J⟩:=pl;obtain⟨oc,od,U,os⟩:=o;dsimp only at o1 L J;subst o1 L J;have hz2:=rv.length;rw[Xq] at hz;refine ZA Aab ⟨_,g,rfl⟩ PySem.F.entry_list_index (PySem.F.args_list_index_2 _ _)
    (PySem.SeqAt.list_indexAt a c.toArray n none os u (Em s.heap p) j (by simpa using j1) (by lia) (by simpa using j2) (λm hm r=>by simpa using Z m r)) ⟨g,q,?_⟩
   exact⟨.int _,H,I.kept (t':=s.toks+1) λ_ _ e=>e,⟨_,rfl⟩,k _ _ (.here S (.int _))⟩
  ·rw[V4 w] at i;cases i
end Sm
namespace L2
open PyProof.Rows
end L2
namespace Sm
open L2 PyProof.Rows
end Sm
namespace L2
open PyProof.Rows
section
variable {P:Program} {w:World} {A:Around} {E:Value->Shared->Prop} {s:Shared} {a:Addr} {es:Array (Int×Value)}
end
end L2
namespace L2
open PyProof.Rows PySem.SeqAt
end L2
namespace L2
open PyProof.Rows
section
variable {P:Program} {w:World} {A:Around} {E:Value->Shared->Prop} {s:Shared} {a:Addr} {ks:List Int}
end
end L2
namespace Sm
open L2 PyProof.Rows
end Sm
namespace L2
open PyProof.Rows
end L2
namespace Sm
open L2 PyProof.Rows
end Sm
namespace L2
open PyProof.Rows PySem.SeqAt
section
variable {P:Program} {w:World} {E:Value->Shared->Prop}
end
noncomputable local instance:DecidableEq PyData:=λa b=>Classical.propDecidable _
end L2
namespace L2
open PyProof.Rows PySem.W
section
variable {ks:List PKey} {i j:Nat}
end
section
variable {P:Program} {w:World} {A:Around} {E:Value->Shared->Prop} {s:Shared}
end
end L2
namespace L2
open PyProof.Rows PySem.W PySem.SeqAt
section
variable {P:Program} {w:World} {A:Around} {E:Value->Shared->Prop} {s:Shared} {a:Addr}
end
end L2
namespace Sm
open L2 PyProof.Rows
end Sm
namespace L2
open PyProof.Rows
noncomputable def Ms(a c:Int)(n:Nat):It:=⟨λi _=>i < n,λi H x b=>b=H/\x=.int (a+i*c),λi _=>n<=i⟩
def zZ{P:Program}{w:World}{K:FR}{L:Expr}(d:Addr)(j c:Int)(n:Nat):Turn P w K L (Ms j c n) [d] d (λi h=>IsRangeIter h d (j+(i:Nat)*c) ((n:Int)-(i:Nat)) c) where
 mem:=by simp
 obj:=λi h st b f=>by
  have e:b=d:=by simpa using f
  subst e;exact⟨_,st,λv z=>by
   have J:Data.fields _=Data.cell v:=z;cases J⟩
 keep:=λi h m st k=>k d (by simp) _ st
 item:=by
  intro X r p u hc i a s F H E I l st q;subst r p u;obtain⟨f0,C,O,A,y,x⟩:=l d (by simp);have W:=Walks.range (prog:=X.prog) (w:=X.w) (I.ok.hd hc) d j c n;refine W.item i s _ _ q st λv m G N g M=>?_;obtain⟨t,rfl⟩:=N;have R:Inv X a F H {s with heap:=m,toks:=G}:=I.turned (λb o f e=>M b o (by simpa using f) e) f0 C A y x;exact⟨_,rfl,AZ (s:={s with heap:=m,toks:=G}) (n:="range_iterator") g rfl rfl (by decide) ⟨.int (j+i*c),H,R,⟨t,rfl⟩,⟨rfl,rfl⟩,g,λb f=>(l b f).1⟩⟩
 done:=by
  intro X r p u hc i a s F H E I l st q;subst r p u;obtain⟨f0,C,O,A,y,x⟩:=l d (by simp);exact wpAny_pyNext_range_end (I.ok.hd hc) st (by have:n<=i:=q;lia) λm Q=>⟨rfl,I.turned (t':=s.toks) (λb o f e=>Q b o f e) f0 C A y x⟩
 self:=λ_ _ _ _ _ st h=>wpAny_pyIter_rangeiter st h
def Kj(i j c:Int):Prop:=(-1000000<=i/\i<=1000000)/\(-1000000<=j/\j<=1000000)/\0 < c/\c<=1000
instance:Decidable (Kj i j c):=by unfold Kj;exact inferInstance
def size_pos(h:Kj i j c):0<=Builtin.Range.rangeSize i j c/\Builtin.Range.rangeSize i j c<=2000000:=by
 obtain⟨f,e,h3,d⟩:=h;unfold Builtin.Range.rangeSize;rw[V1 h3]
 split
 ·have:=Int.ediv_nonneg (a:=j-i-1) (b:=c) (by lia) (by lia);have:=Int.ediv_le_self (a:=j-i-1) c (by lia)
  lia
 ·lia
def Fd{d:List (Addr×Obj)}{g:St}{H:Hp}{s:Shared}{R:It->Hp->Prop}{E:Value->Shared->Prop}{a f c:Int}{t u v:Tok}{h:Nat}(I:Inv X d g H s)(j:Kj a f c)
  (q:R (Ms a c (Builtin.Range.rangeSize a f c).toNat) H):wpAny (model X.prog X.w) X.A (pyIter (.ref s.heap.objs.size)) (U1 X d g r R) E {s with heap:=s.heap.push {cls:=.type "range",data:=.fields #[.int a t,.int f u,.int c v]},toks:=h}:=by
 have k:=size_pos j;refine wpAny_pyIter_range (IsRange.new ..) ?_ ?_
 ·obtain⟨z,y,m,x⟩:=j;unfold Builtin.Range.small;simp only[Builtin.Range.rangeFitsLong,Wm,X1,WS,Xz,show c > 0 from m,Ys];refine⟨⟨⟨⟨⟨?_,?_⟩,?_,?_⟩,?_,?_⟩,?_,?_⟩,.inr ⟨?_,?_⟩⟩ <;> lia
 have i:Inv X d g H {s with heap:=s.heap.push {cls:=.type "range",data:=.fields #[.int a t,.int f u,.int c v]},toks:=h}:=I.kept λb o e=>V0 _ e;refine⟨(s.heap.push {cls:=.type "range",data:=.fields #[.int a t,.int f u,.int c v]}).objs.size,[(s.heap.push {cls:=.type "range",data:=.fields #[.int a t,.int f u,.int c v]}).objs.size],_,_,H,rfl,
  i.kept (t':=h) λb o e=>V0 _ e,zZ _ a c (Builtin.Range.rangeSize a f c).toNat,?_,λb l=>?_,q⟩
 ·have p:a+((0:Nat):Int)*c=a:=by simp
  have n:(((Builtin.Range.rangeSize a f c).toNat:Nat):Int)-((0:Nat):Int)=Builtin.Range.rangeSize a f c:=by lia
  show IsRangeIter _ _ (a+((0:Nat):Int)*c) ((((Builtin.Range.rangeSize a f c).toNat:Nat):Int)-((0:Nat):Int)) c;rw[p,n];exact Wn _ rfl
 ·have e:b=(s.heap.push {cls:=.type "range",data:=.fields #[.int a t,.int f u,.int c v]}).objs.size:=by simpa using l
  subst e;exact i.A9 (VZ _) (i.bu.fresh (VZ _))
def RO(d:TA):TI:=λa H R=>d a H λb e=>∃i j c:Int,b=[.int i,.int j,.int c]/\Kj i j c/\R (Ms i c (Builtin.Range.rangeSize i j c).toNat) e
def Fh{X:Cx}{v a b c:Expr}{p g:Pos}{o:TA}(A:Gl X "range")(hm:X.mg "range"=none)(C:PA X [a,b,c] o)(hs:starEach [a,b,c] X.env=[(false,eval a X.env),(false,eval b X.env),(false,eval c X.env)]:=by rfl)(l:starEach [b,c] X.env=[(false,eval b X.env),(false,eval c X.env)]:=by rfl):
  PI X v (.Call (.Name "range" p) [a,b,c] [] g) (RO o):=by
 intro k s u H R I h;refine Call_ (jP I A hm boot_range (Xe (cx (C g k s u H _ I h) λus s1 ⟨F,H1,E,x,z⟩=>?_) (by rw[hs,l]) (by rw[l];rfl)));obtain⟨i,j,d,e,n,q⟩:=z;subst e;cases x with
 | cons r f=>
  cases f with
  | cons y f=>
   cases f with
   | cons m f=>
    cases f;obtain⟨t,rfl⟩:=r;obtain⟨G,rfl⟩:=y;obtain⟨w,rfl⟩:=m;refine call_range_3 (by have:=n.2.2.1;lia) (Fd E n q) (.inl ?_);obtain⟨N,M,L,J⟩:=n;exact PyProof.noPylong_small (by lia)
end L2
namespace Sm
open L2 PyProof.Rows
noncomputable def LR(m:AM):IM:=λa h=>(m a h).bind λp=>match p.1 with
 | [.int i,.int j,.int c]=>if Kj i j c then some ((List.range (Builtin.Range.rangeSize i j c).toNat).map λ(k:Nat)=>D.int (i+(k:Int)*c),[],p.2) else none
 | _=>none
def LK{K:FR}{ρ:Ad}{H:Hp}(b c:Int)(n:Nat):Qq K (Ms b c n) ρ H [] ((List.range n).map λ(k:Nat)=>D.int (b+(k:Int)*c)):=by
 refine uT λd m o T S hc=>⟨(List.range n).map λ(k:Nat)=>V.int (b+(k:Int)*c),?_,λi f=>?_,λi v e=>?_⟩
 ·have:=lF (K:=K) (ρ:=d) (H:=m) ((List.range n).map λ(k:Nat)=>b+(k:Int)*c);rw[Xh,Xh] at this;exact this
 ·rw[VU,Wv] at f;exact f
 ·rw[Wa] at e;obtain⟨j,l,h⟩:=gL e;obtain⟨a,g⟩:=VW.mp l;rw[Wv] at a;rw[ZF] at g;subst g;subst h;exact⟨a,λu r ⟨p,q⟩=>⟨p,q⟩⟩
def EZ{X:Cx}{u a b c:Expr}{p o:Pos}{m:AM}(y:Gl X "range")(hm:X.mg "range"=none)(A:SA X [a,b,c] m)(hs:starEach [a,b,c] X.env=[(false,eval a X.env),(false,eval b X.env),(false,eval c X.env)]:=by ac_nf)(q:starEach [b,c] X.env=[(false,eval b X.env),(false,eval c X.env)]:=by ac_nf)(hl:lz m 3):
  SI X u (.Call (.Name "range" p) [a,b,c] [] o) (LR m):=
 (Fh y hm A hs q).imp λσ H Q ⟨s,t,h,xs,ws,L,R,S,e,k⟩=>by
  obtain⟨⟨x,C⟩,E,f⟩:=bq e;refine⟨s,t,h,x,C,R,S,E,λJ g I F G v=>?_⟩;dsimp only at f
  split at f
  ·rename_i _ i j d
   by_cases z:Kj i j d
   ·rw[V1 z] at f;cases f;refine⟨i,j,d,?_,z,k _ g I F G (LK i d _)⟩;cases v with
    | cons r l=>cases l with
     | cons w l=>cases l with
      | cons n l=>cases l;cases r;cases w;cases n;rfl
   ·rw[V4 z] at f;cases f
  ·cases f
end Sm
namespace L2
open PyProof.Rows PySem.SeqAt
end L2
namespace Sm
open L2 PyProof.Rows
end Sm
namespace Sm
open L2 PyProof.Rows PySem.SeqAt
noncomputable local instance:DecidableEq PyData:=λa b=>Classical.propDecidable _
section
variable {K:FR} {ρ ρ':Ad} {H H':Hp}
end
section
variable {X:Cx}
end
end Sm
namespace Sm
open L2 PyProof.Rows
abbrev v0:EM:=aw 0
abbrev v1:EM:=aw 1
abbrev v2:EM:=aw 2
abbrev v3:EM:=aw 3
abbrev v4:EM:=aw 4
abbrev v5:EM:=aw 5
abbrev v6:EM:=aw 6
abbrev v7:EM:=aw 7
abbrev v8:EM:=aw 8
abbrev v9:EM:=aw 9
abbrev v10:EM:=aw 10
abbrev v11:EM:=aw 11
abbrev Tv:EM:=aw 12
abbrev Tu:EM:=aw 13
abbrev U8:EM:=aw 14
abbrev ki(i:Int):EM:=eK (.int i)
abbrev ks(x:Str):EM:=eK (.str x)
abbrev a1(x:EM):AM:=af x aD
abbrev a2(x y:EM):AM:=af x (af y aD)
abbrev a3(x y z:EM):AM:=af x (af y (af z aD))
abbrev a4(x y z u:EM):AM:=af x (af y (af z (af u aD)))
section
variable {P:Program} {w:World} {K:FR} {mg:Str->Option Value} {base:Heap} {x qual:Str} {st:Stmt} {f:Addr} {fd:FuncData} {N ps:List Str} {k:Nat}
def aE(F:vO K x qual st f fd)(b:ax N ps (ah st))(d:∀(a:Value)(A:Around)(outer:List Env)(s:Shared)(H:Hp)(E:XK),dh k (A.deeper (envOfC qual (ah st) s.heap.objs.size f a))->N.Nodup->Gy (f9 pC P w K mg base N qual (ah st) f a A outer s H E).IF (eQ st) body):
  fT P w K mg base pC (k+1) f fd ps (EV K ps.length (gZ N.length body)):=Pr F b λc A o s H E hr=>d c A o s H E hr b.nd
end
def Q1{c:CmpOp}(g:pz X (compareOp c) f)(i:SE X a e)(h:SE X b d)(hm:behindInMarks c b=false:=by first | exact cK _ | ac_nf):ST X (.Compare a [c] [b] pos) (az (au f e d)):=eX g i h hm
def Q5{c:CmpOp}(g:pz X (compareOp c) f)(i:SE X a e)(h:SE X b d)(hm:behindInMarks c b=false:=by first | exact cK _ | ac_nf):SE X (.Compare a [c] [b] pos) (au f e d):=pP g i h hm
def T8{a}(h:SA X b aD):SE X (.Tuple b a pos) (ar bh aD):=cW h aL
def TZ{a}(h:SA X b (af m0 aD)):SE X (.Tuple b a pos) (ar bh (af m0 aD)):=cW h (ai aL)
def TY{a}(h:SA X c (af m0 (af b aD))):SE X (.Tuple c a pos) (ar bh (af m0 (af b aD))):=cW h (ai (ai aL))
def TX{a}(h:SA X d (af m0 (af c (af b aD)))):SE X (.Tuple d a pos) (ar bh (af m0 (af c (af b aD)))):=cW h (ai (ai (ai aL)))
def TV{a}(h:SA X e (af m0 (af d (af c (af b aD))))):SE X (.Tuple e a pos) (ar bh (af m0 (af d (af c (af b aD))))):=cW h (ai (ai (ai (ai aL))))
def TU{a}(h:SA X g (af m0 (af f (af e (af d (af c (af b aD))))))):SE X (.Tuple g a pos) (ar bh (af m0 (af f (af e (af d (af c (af b aD))))))):=cW h (ai (ai (ai (ai (ai (ai aL))))))
def Uc(h:SA X a aD):tw X (.List a pos) aD:=iS h aL
def Ub(h:SA X a (af m0 aD)):tw X (.List a pos) (af m0 aD):=iS h (ai aL)
def Ua(h:SA X b (af m0 (af a aD))):tw X (.List b pos) (af m0 (af a aD)):=iS h (ai (ai aL))
def T9(h:SA X i (af m0 (af g (af f (af e (af d (af c (af b (af a aD))))))))):tw X (.List i pos) (af m0 (af g (af f (af e (af d (af c (af b (af a aD)))))))):=iS h (ai (ai (ai (ai (ai (ai (ai (ai aL))))))))
end Sm
namespace Hd
open PySem.W PyProof.Rows L2 Sm
def aZ{q:Program}{a:List Str}{c:ExcName->Option Value}{mg g:Str->Option Value}{h base:Heap}{P:Program}{w:World}(T:Top q a c mg g h){n:Str}{st:Stmt}(e:(recsOf q).find? (λe=>e.name==n)=some (n6 n st)){d:List Str}{k N:Nat}{F:Fn}
  (ok:∀{f:Addr} {b:FuncData},vO (aC h) n n st f b->keepIn (aC h) (.ref f)=true->Binds (aC h) b d []->mg n=some (.ref f)->fT P w (aC h) mg base pC k f b d (EV (aC h) N F)) (i:∀{f:Addr} {b:FuncData},vO (aC h) n n st f b->Binds (aC h) b d []:=by walk_at "b"):Df P w (aC h) mg base n k d N F:=RJ T e i ok
end Hd
namespace L2
open PyProof.Rows
section
variable {P:Program} {w:World} {A:Around} {E:Value->Shared->Prop} {s:Shared} {d J:Addr} {o:Obj} {es:Array DictEntry} {ep:Nat}
end
end L2
namespace Sm
open L2 PyProof.Rows PySem.SeqAt
end Sm
namespace Sb
open L2 PyProof.Rows
open Builtin.SmallTypes (nextOf ownedTupleIsFree ownedTupleHandOut)
section
variable {P:Program} {w:World} {A:Around} {E:Value->Shared->Prop} {s:Shared} {b c:Bool}
end
section
variable {P:Program} {w:World} {A:Around} {E:Value->Shared->Prop} {s:Shared}
end
end Sb
namespace Sm
open L2 PyProof.Rows
end Sm
namespace L2
open PyProof.Rows
end L2
namespace Sm
open L2 PyProof.Rows
mutual
noncomputable def MI:D->Bool
 | .cu=>true
 | .bl _=>true
 | .int _=>true
 | .str _=>true
 | .tup xs=>HS xs
 | _=>false
noncomputable def HS:List D->Bool
 | []=>true
 | x::r=>MI x&&HS r
end
section
variable {K:FR} {ρ ρ':Ad} {H H':Hp} (hh:∀b vs,Rd H b (.tup vs)->¬ρ.has b->Rd H' b (.tup vs)/\¬ρ'.has b)
include hh
mutual
theorem Hx{v:V}{d:D}(r:Rep K ρ H v d)(f:MI d=true):Rep K ρ' H' v d:=by
 cases r with
 | cu=>exact .cu
 | bl b=>exact .bl b
 | int i=>exact .int i
 | str h=>exact .str h
 | tup h l=>exact .tup (h.elim (λ⟨a,n⟩=>.inl (hh _ _ a n)) .inr) (xf l f)
 | _=>cases f
theorem xf{vs:List V}{a:List D}(r:aH K ρ H vs a)(f:HS a=true):aH K ρ' H' vs a:=by
 cases r with
 | nil=>exact .nil
 | cons h t=>
  have f:=Wt.mp f;exact .cons (Hx h f.1) (xf t f.2)
end
end
end Sm
namespace L2
open PyProof.Rows
def Vf(h:Heap)(x T:Addr)(C:Value):Prop:=
 ∃a b d c,h.get? x=some a/\a.cls=C/\a.data=.fields b/\b[1]?=some (.ref T)/\T≠x/\h.get? T=some d/\d.data=.fields c/\c[3]?=some .none
def jB(P:Program)(w:World):EF:=λouter H s E e a=>∃x T C b,e=.ref x/\s.heap.get? x=none/\s.heap.get? T=none/\b x=none/\b T=none/\Vf a.heap x T C/\a.os=s.os/\AllBare a.gens/\
 Un (lP outer) [] H b s.heap a.heap/\ll P w b a.heap/\E C none b
def bQ.ex(x:bQ P w H h a o):∃u,h.get? a=some u:=by
 cases o with
 | lst xs=>obtain⟨_,_,_,_,e⟩:=x;exact⟨_,e⟩
 | tup xs=>obtain⟨_,_,_,o,e,_⟩:=x;exact⟨_,e⟩
 | dK b=>obtain⟨_,_,_,_,o,_,_,e,_⟩:=x;exact⟨_,e⟩
 | dT b=>obtain⟨_,_,_,_,o,_,_,e,_⟩:=x;exact⟨_,e⟩
 | set S n=>obtain⟨o,_,_,_,e,_⟩:=x;exact⟨_,e⟩
 | ins C i fs=>obtain⟨_,_,_,e,_⟩:=x;exact⟨_,e⟩
 | own y=>exact x
 | xd fs=>obtain⟨_,⟨_,_,_,e,_⟩,_⟩:=x;exact⟨_,e⟩
 | Tg lo g=>obtain⟨_,_,_,e⟩:=x;exact⟨_,e⟩
 | nD ob u=>exact⟨_,x.1⟩
 | Mw d=>exact⟨_,x⟩
 | met f y=>exact⟨_,x⟩
 | ext c=>exact x.2.1
 | El c=>exact x.2.1
 | tb=>obtain⟨_,e,_⟩:=x;exact⟨_,e⟩
theorem sT{h base a:Heap}:∀{l:List Env},h.FunFrames base l->(∀b∈lP l,a.get? b=none)->h.FunFrames a l
 | [],_,_=>trivial
 | env::r,⟨f,⟨L,o,hf,hn,e,hd⟩,hr⟩,k=>by
  have d:∀b,b=L\/b∈lP r->a.get? b=none:=λb c=>k b (by unfold lP;rw[Xj,hf];exact Wh.mpr c);exact⟨f,⟨L,o,hf,d L (.inl rfl),e,hd⟩,sT hr λb c=>d b (.inr c)⟩
abbrev PF(CX:EF)(P:Program)(w:World)(K:FR)(mg:Str->Option Value)(base:Heap)(N:List Str)(qual:Str)(scope:Scope)(fn:Str->Bool)(cl:List (Str×Addr))(f:Addr)(cd:Value)(A:Around)(outer:List Env)(s:Shared)(H:Hp)(E:XK):Cx where
 prog:=P
 w:=w
 K:=K
 mg:=mg
 base:=base
 A:=A.deeper (PySem.W.envX qual scope s.heap.objs.size f cd cl)
 N:=N
 s₀:=s
 H₀:=H
 env:=PySem.W.envX qual scope s.heap.objs.size f cd cl
 outer:=outer
 stack:=PySem.W.envX qual scope s.heap.objs.size f cd cl::outer
 ex:=[]
 calm:=true
 fn:=fn
 pn:=[]
 xe:=λe s'=>wpAny (model P w) (A.deeper (PySem.W.envX qual scope s.heap.objs.size f cd cl)) (leaving (PySem.W.envX qual scope s.heap.objs.size f cd cl) e) (λ_ s''=>CX outer H s E e s'') (λe' s''=>CX outer H s E e' s'') s'
section
variable {CX:EF} {P:Program} {w:World} {K:FR} {mg:Str->Option Value} {base:Heap} {N:List Str} {qual:Str} {scope:Scope} {fn:Str->Bool} {cl:List (Str×Addr)} {f:Addr} {cd:Value} {A:Around} {outer:List Env} {s₀:Shared} {H₀:Hp} {E:XK} {pins:List (Addr×Obj)} {σ:St} {H:Hp} {s:Shared} {x T:Addr} {C:Value}
def AU(J:Inv (PF (jB P w) P w K mg base N qual scope fn cl f cd A outer s₀ H₀ E) pins σ H s)(p:s₀.heap.get? x=none)(F:H x=none)(t:∀b,b∈(x::ts)->H b=none/\s₀.heap.get? b=none){G:Heap}
  (hl:Heap.Left (PySem.W.hideAll s.heap ((x::ts)++lP (PySem.W.envX qual scope s₀.heap.objs.size f cd cl::outer))) (PySem.W.envX qual scope s₀.heap.objs.size f cd cl::outer) x C s.heap G) (e:E C none H):jB P w outer H₀ s₀ E (.ref x) {s with heap:=G}:=by
 obtain⟨st,ff,⟨Z,X,T,oT,tr,he,hc,hd,h1,j,r,h,i,h3⟩,Q⟩:=hl;have keep:∀b o,s.heap.get? b=some o->b∉(x::ts)->b∉lP (PySem.W.envX qual scope s₀.heap.objs.size f cd cl::outer)->G.get? b=some o:=λb o a n1 n2=>
  st b o (Y4 _ a λz=>(Wz.mp z).elim n1 n2)
 have fr:∀b∈lP (PySem.W.envX qual scope s₀.heap.objs.size f cd cl::outer),H b=none:=J.sJ;have fo:∀b o,s₀.heap.get? b=some o->b∉lP outer->b∉lP (PySem.W.envX qual scope s₀.heap.objs.size f cd cl::outer):=λb o a n z=>by
  rcases Wh.mp (show b∈s₀.heap.objs.size::lP outer from z) with z | z
  ·rw[z] at a;exact absurd (V8 a) (Xs _)
  ·exact n z
 have l:H T=none/\s₀.heap.get? T=none:=by
  by_cases z:T∈x::ts
  ·exact t T z
  ·by_cases L:T∈lP (PySem.W.envX qual scope s₀.heap.objs.size f cd cl::outer)
   ·obtain⟨_,o,d,hn⟩:=ff.mem L;rw[h] at d;cases d;exact absurd i (hn _)
   ·have hn:s.heap.get? T=none:=by
     cases q:s.heap.get? T with
     | none=>rfl
     | some o=>rw[Y4 _ q λy=>(Wz.mp y).elim z L] at j;cases j
    refine⟨?_,?_⟩
    ·cases q:H T with
     | none=>rfl
     | some u=>obtain⟨o,d⟩:=(J.bu T u q).ex;rw[hn] at d;cases d
    ·cases q:s₀.heap.get? T with
     | none=>rfl
     | some o=>obtain⟨R,d⟩:=J.base.there T o q (λy=>(nomatch y));rw[hn] at d;cases d
 have O:∀b o,s₀.heap.get? b=some o->b∉x::ts:=λb o a z=>by rw[(t b z).2] at a;cases a
 refine⟨x,T,C,H,rfl,p,l.2,F,l.1,⟨Z,X,oT,tr,he,hc,hd,h1,r,h,i,h3⟩,J.os,J.bare,⟨λb o a n k _=>?_,λb o a n k _=>?_,λb o a n _=>J.base.free b o a n (λy=>(nomatch y)),λb o a _=>?_,J.base.pG,J.base.oK,J.base.pH⟩,?_,e⟩
 ·exact keep b o (J.base.keep b o a n k (λy=>(nomatch y))) (O b o a) (fo b o a k)
 ·obtain⟨Y,m⟩:=J.base.slot b o a n k (λy=>(nomatch y));obtain⟨_,R,d,hn⟩:=J.stack.mem (V5 _ k);rw[m] at d;cases d;obtain⟨g,I⟩:=Q b _ m hn;exact⟨g,I⟩
 ·obtain⟨o1,m⟩:=J.base.there b o a (λy=>(nomatch y))
  by_cases z:b∈lP (PySem.W.envX qual scope s₀.heap.objs.size f cd cl::outer)
  ·obtain⟨_,R,d,hn⟩:=J.stack.mem z;obtain⟨g,I⟩:=Q b _ d hn;exact⟨_,I⟩
  ·exact⟨_,keep b _ m (O b o a) z⟩
 ·have S:∀b u,H b=some u->b∉x::ts/\b∉lP (PySem.W.envX qual scope s₀.heap.objs.size f cd cl::outer):=λb u a=>⟨λz=>(by rw[(t b z).1] at a;cases a),λz=>(by rw[fr b z] at a;cases a)⟩;intro b u a;refine(J.bu b u a).pN (λc v hc q=>?_) (λ_ q=>q) λ_ _ q=>q;have:∃u,H c=some u:=by
   rcases hc with rfl | hc
   ·exact⟨u,a⟩
   ·exact⟨_,hc⟩
  obtain⟨M,U⟩:=this;exact keep c v q (S c M U).1 (S c M U).2
def EG(J:Inv (PF (jB P w) P w K mg base N qual scope fn cl f cd A outer s₀ H₀ E) pins σ H s)(a:s₀.heap.get? x=none)(c:H x=none){d:Obj}{h:Array Value}(i:s.heap.get? x=some d)(hd:d.data=.fields h)(j:h[1]?=some .none)(e:E d.cls none H):
  (PF (jB P w) P w K mg base N qual scope fn cl f cd A outer s₀ H₀ E).xe (.ref x) s:=by
 refine wpAny_leaving_first (base:=PySem.W.hideAll s.heap ([x]++lP (PySem.W.envX qual scope s₀.heap.objs.size f cd cl::outer))) J.ok.frames (sT J.stack λb g=>Xu _ (Wf _ g)) rfl i (λb o k=>Y9 _ k) (Xu _ (WU _ V3)) hd j λl hl=>?_;refine AU (ts:=[]) J a c (λb g=>?_) hl e;rw[Wg.mp g];exact⟨c,a⟩
def GO(J:Inv (PF (jB P w) P w K mg base N qual scope fn cl f cd A outer s₀ H₀ E) pins σ H s)(a:s₀.heap.get? x=none)(j:s₀.heap.get? T=none)(d:H x=none)(k:H T=none)(q:Vf s.heap x T C)(e:E C none H):
  (PF (jB P w) P w K mg base N qual scope fn cl f cd A outer s₀ H₀ E).xe (.ref x) s:=by
 obtain⟨m,l,n,tr,p,hc,hd,r,i,g,h,h3⟩:=q;refine wpAny_leaving_next (cls:=C) (base:=PySem.W.hideAll s.heap ([x,T]++lP (PySem.W.envX qual scope s₀.heap.objs.size f cd cl::outer))) J.ok.frames (sT J.stack λb c=>Xu _ (Wf _ c)) rfl ⟨m,l,T,n,tr,p,hc,hd,r,Xu _ (WU _ (V5 _ V3)),i,g,h,h3⟩ (λb o t=>Y9 _ t) (Xu _ (WU _ V3)) λu hl=>?_;refine AU (ts:=[T]) J a d (λb c=>?_) hl e;rcases Wh.mp c with rfl | c
 ·exact⟨d,a⟩
 ·rw[Wg.mp c];exact⟨k,j⟩
def DZ:Passes (jB P w) (PF (jB P w) P w K mg base N qual scope fn cl f cd A outer s₀ H₀ E) E:=λpins σ H s e c I h=>by
 obtain⟨x,T,C,k,rfl,nx,d,g,j,X,os,bare,un,bu,q⟩:=h;have J:Inv (PF (jB P w) P w K mg base N qual scope fn cl f cd A outer s₀ H₀ E) pins σ k c:=I.call' os un bu bare λb z=>(nomatch z);have old:∀b,s.heap.get? b=none->s₀.heap.get? b=none:=λb i=>by
  cases q:s₀.heap.get? b with
  | none=>rfl
  | some o=>obtain⟨l,a⟩:=I.base.there b o q (λy=>(nomatch y));rw[i] at a;cases a
 exact GO J (old x nx) (old T d) g j X q
end
section
variable {P:Program} {w:World} {K:FR} {mg:Str->Option Value} {base:Heap} {N:List Str} {qual:Str} {scope:Scope} {f:Addr} {cd:Value} {A:Around} {outer:List Env} {s₀:Shared} {H₀:Hp} {E:XK} {pins:List (Addr×Obj)} {σ:St} {H:Hp} {s:Shared} {x T:Addr} {C:Value}
def GP(J:Inv (f9 (jB P w) P w K mg base N qual scope f cd A outer s₀ H₀ E) pins σ H s)(b:s₀.heap.get? x=none)(c:H x=none){a:Obj}{d:Array Value}(g:s.heap.get? x=some a)(hd:a.data=.fields d)(h:d[1]?=some .none)(e:E a.cls none H):
  (f9 (jB P w) P w K mg base N qual scope f cd A outer s₀ H₀ E).xe (.ref x) s:=EG (fn:=λ_=>true) (cl:=cellsFrom (s₀.heap.objs.size+1) scope.names []) J b c g hd h e
def yQ:Passes (jB P w) (f9 (jB P w) P w K mg base N qual scope f cd A outer s₀ H₀ E) E:=DZ (fn:=λ_=>true) (cl:=cellsFrom (s₀.heap.objs.size+1) scope.names [])
end
structure Gx(mg:Str->Option Value)(base:Heap)(nm:Str)(C:Addr):Prop where
 own:OwnCls nm C [.type "ValueError",.type "Exception",.type "BaseException",.type "object"] "ValueError.__new__" mg base
section
variable {P:Program} {w:World} {K:FR} {mg:Str->Option Value} {base:Heap} {N:List Str} {qual:Str} {scope:Scope} {f:Addr} {cd:Value} {A:Around} {outer:List Env} {s₀:Shared} {H₀:Hp} {E:XK}
def HW{nm:Str}{C:Addr}{a:Expr}{np b k:Pos}{r:TA}(O:Gx mg base nm C)(J:Gl (f9 (jB P w) P w K mg base N qual scope f cd A outer s₀ H₀ E) nm)(L:PA (f9 (jB P w) P w K mg base N qual scope f cd A outer s₀ H₀ E) [a] r)
  (he:starEach [a] (envOfC qual scope s₀.heap.objs.size f cd)=[(false,eval a (envOfC qual scope s₀.heap.objs.size f cd))]) (n:(nm==("__debug__":Str))=false):
  PS (f9 (jB P w) P w K mg base N qual scope f cd A outer s₀ H₀ E) (.Raise (some (.Call (.Name nm np) [a] [] b)) none k) (λ_ i H=>r i H λp j=>p.length<=sizeLine/\E (.ref C) none j):=by
 intro c s i H D I h;obtain⟨x,R,l,q,bs,hdct,sn,sub,ab,col,dd,k0,k1,k2,k3,k5,mN,M,hN,m,T⟩:=O.own.obj;refine wpAny_Raise_call_subU (C:=C) (nm:=l) (q:=q) (N:=R) (bs:=bs) (bm:=x) (hdct:=hdct) (sn:=sn) (sub:=sub) (ab:=ab) (col:=col) (dd:=dd) (k0:=k0) (k1:=k1) (k2:=k2) (k3:=k3) (k5:=k5)
  Za (by decide) Za (mN:=mN) (T.hasType Za.hasBase) (I.ok.hd rfl) (by
   show(backTo b (starEach [a] (envOfC qual scope s₀.heap.objs.size f cd))).any (·.1)=false;rw[he];rfl) m (jO I J O.own.bound ⟨rfl,?_⟩ n)
 show wpAny _ _ (evalArgs (.ref C) true (backTo b (starEach [a] (envOfC qual scope s₀.heap.objs.size f cd))) []) _ _ s;have hh:=L b c s i H _ I h;have hh:wpAny _ _ (spliced (backTo b (starEach [a] (envOfC qual scope s₀.heap.objs.size f cd)))) _ _ s:=hh;rw[he] at hh ⊢;refine Calls.evalArgs_plain (WA hh (λus v G=>?_) λ_ _ y=>y);obtain⟨p,j,d,z,hl,F⟩:=G;refine⟨rfl,by rw[<-z.length];exact hl,d.bk _ _ M,hN.keeps d.bk,T.keeps d.bk,λQ e hm=>?_⟩;have S:Inv (f9 (jB P w) P w K mg base N qual scope f cd A outer s₀ H₀ E) c i j {v with heap:=Q}:=d.kept (t':=v.toks) hm.keeps;obtain⟨t,ht,_,_⟩:=hm.there;refine GP S ?_ ?_ ht rfl rfl F
 ·cases q:s₀.heap.get? e with
  | none=>rfl
  | some o=>obtain⟨U,g⟩:=d.base.there e o q (λy=>(nomatch y));rw[hm.new] at g;cases g
 ·cases q:j e with
  | none=>rfl
  | some u=>obtain⟨o,g⟩:=(d.bu e u q).ex;rw[hm.new] at g;cases g
end
end L2
namespace Sm
open L2 PyProof.Rows
abbrev XM:=DS->MH->Option (Str×MH)
abbrev Xn:=List D->MH->Option (Str×MH)
def Ss(K:FR)(mg:Str->Option Value)(E:XK)(d:Ad)(H:Hp)(c:Str)(e:MH):Prop:=∀C a b,mg c=some C->dG d H a b->bT K a e b->E C none b
def Ss.step{K:FR}{mg:Str->Option Value}{E:XK}{d a:Ad}{H f:Hp}{c:Str}{e:MH}(k:Ss K mg E d H c e)(T:dG d H a f):Ss K mg E a f c e:=λC b h m g S=>k C b h m (T.trans g) S
inductive Sv(K:FR)(mg:Str->Option Value)(E:XK)(x:XM)(σ:L2.St)(H:Hp):Prop where
 | mk (ρ δ h c h'):cB K ρ H σ δ->bT K ρ h H->x δ h=some (c,h')->Ss K mg E ρ H c h'->Sv K mg E x σ H
def XE(X:Cx)(E:XK)(e:Expr)(x:XM):Prop:=PE X e λa H _=>Sv X.K X.mg E x a H
def XS(X:Cx)(E:XK)(s:Stmt)(x:XM):Prop:=PS X s λ_ a H=>Sv X.K X.mg E x a H
def Kq(X:Cx)(E:XK)(s:List Stmt)(x:XM):Prop:=zU X s λ_ a H=>Sv X.K X.mg E x a H
noncomputable def Nf:XM:=λ_ _=>none
noncomputable def DD(a b:XM):XM:=λc h=>match a c h with
 | some r=>some r
 | none=>b c h
noncomputable def GU(t:TM)(a b:XM):XM:=λc h=>(t c h).bind λp=>if p.1 then a c p.2 else b c p.2
noncomputable def sf(a:SM)(b:XM):XM:=λc h=>(a c h).bind λr=>match r.1 with
 | .nx=>b r.2.1 r.2.2
 | _=>none
noncomputable def Ki(f:Xn)(a:AM):XM:=λb h=>(a b h).bind λp=>f p.1 p.2
noncomputable def jC(c:Str)(a:AM):XM:=λb h=>(a b h).map λp=>(c,p.2)
def Fy(len:Nat)(a:XM):Xn:=λb h=>a (entry len b) h
inductive SO(K:FR)(mg:Str->Option Value)(n:Nat)(F:Xn)(vs:List V)(H:Hp)(E:XK):Prop where
 | mk (ρ h ds c h'):bT K ρ h H->aH K ρ H vs ds->ds.length=n->F ds h=some (c,h')->Ss K mg E ρ H c h'->SO K mg n F vs H E
def Q3(K:FR)(mg:Str->Option Value)(n:Nat)(F:Xn):Sp:=λa H _ E=>SO K mg n F a H E
section
variable {X:Cx} {E:XK} {a b c e tg iter elt:Expr} {es:List Expr} {st:Stmt} {sa sb sts:List Stmt} {pos:Pos} {ma mb:EM} {mt:TM} {ms mu:SM} {m:AM} {x y:XM}
def pD:Kq X E sts Nf:=λ_ _ _ _ _ _ h=>by obtain⟨_,_,_,_,_,_,_,z,_⟩:=h;cases z
def tx(j:Kq X E sts x)(i:Kq X E sts y):Kq X E sts (DD x y):=λpins s σ H D I u9=>by
 obtain⟨f,d,h,c,g,R,S,z,k⟩:=u9;unfold DD at z;cases q:x d h with
 | none=>rw[q] at z;exact i pins s σ H D I ⟨f,d,h,c,g,R,S,z,k⟩
 | some r=>rw[q] at z;cases z;exact j pins s σ H D I ⟨f,d,h,c,g,R,S,q,k⟩
def cw(i:XS X E st x):Kq X E (st::sts) x:=λd s g H D I h=>
 XZ (cx (i d s g H {nx:=λ_ _=>False,rt:=λ_ _=>False,bk:=λ_ _=>False,ct:=λ_ _=>False} I h) λf j q=>by
  cases f with
  | next=>obtain⟨_,_,_,q⟩:=q;exact q.elim
  | ret v=>obtain⟨_,_,_,_,_,q⟩:=q;exact q.elim
  | brk=>obtain⟨_,_,_,q⟩:=q;exact q.elim
  | cont=>obtain⟨_,_,_,q⟩:=q;exact q.elim)
def gu(g:SS X st ms)(p:Kq X E sts x):Kq X E (st::sts) (sf ms x):=(Az g p).imp λD σ H u9=>by
 obtain⟨n,o,h,c,q,R,S,z,k⟩:=u9;obtain⟨⟨fl,f,g⟩,r,i⟩:=bq z;refine⟨n,o,h,fl,f,g,R,S,r,λj v s t=>?_⟩;cases fl with
 | nx=>exactλl u=>⟨j,f,g,c,q,u,t,i,k.step s⟩
 | bk=>cases i
 | ct=>cases i
 | rt d=>cases i
def wJ(hc:ST X c mt)(q:Kq X E sa x)(p:Kq X E sb y):XS X E (.If c sa sb pos) (GU mt x y):=(MJ hc q p).imp λD σ H u9=>by
 obtain⟨o,i,h,c,l,R,S,z,k⟩:=u9;obtain⟨⟨b,j⟩,r,f⟩:=bq z;refine⟨o,i,h,b,j,R,S,r,λd s g n=>?_⟩;cases b with
 | true=>rw[V1 rfl] at f ⊢;exact⟨d,i,j,c,l,R.mono g.toCh,n,f,k.step g⟩
 | false=>rw[V4 (by simp)] at f ⊢;exact⟨d,i,j,c,l,R.mono g.toCh,n,f,k.step g⟩
def Nb(h:XE X E e x)(hs:swapsWithSole [tg] e pos.line X.env=pure false:=by ac_nf)(d:swappedStores [tg] e X.env=pure none:=by ac_nf)(i:(assignEach [tg] X.env).map (·.2)=[assign tg X.env]:=by ac_nf)
  (f:PG X tg g):XS X E (.Assign [tg] e pos) x:=Ia h f hs d i
def Kt(G:fT X.prog X.w X.K X.mg X.base (jB X.prog X.w) k f fd v (Q3 X.K X.mg n F))(hp:Passes (jB X.prog X.w) X E)(hr:dh k X.A)(I:Gl X nm)(hm:X.mg nm=some (.ref f))(C:PySem.W.keepIn X.K (.ref f)=true)(L:Binds X.K fd v [])
  (M:SA X (e::es) m) (hl:lz m n) (i:(nm==("__debug__":Str))=false:=by ac_nf) (J:starEach (e::es) X.env=(false,eval e X.env)::starEach es X.env:=by ac_nf) (g:(backTo pos (starEach es X.env)).any (·.1)=false:=by ac_nf):
  XE X E (.Call (.Name nm p) (e::es) [] pos) (Ki F m):=(DW (E:=E) G hr I hm C L .nil hp M i J g).imp λσ H Q u9=>by
 obtain⟨r,s,h,c,N,R,S,z,q⟩:=u9;obtain⟨⟨o,j⟩,l,O⟩:=bq z;refine⟨r,s,h,o,j,R,S,l,λt d U P T u=>?_⟩;show Q3 X.K X.mg n F (t++[]) U Q E;rw[WW];exact⟨d,j,o,c,N,T,u,hl _ _ _ _ l,O,q.step P⟩
end
section
variable {P:Program} {w:World} {K:FR} {mg:Str->Option Value} {base:Heap} {N:List Str} {qual:Str} {scope:Scope} {f:Addr} {cd:Value} {A:Around} {outer:List Env} {s₀:Shared} {H₀:Hp} {E:XK}
def GN{nm:Str}{C:Addr}{a:Expr}{np b g:Pos}{j:EM}(O:Gx mg base nm C)(p:Gl (f9 (jB P w) P w K mg base N qual scope f cd A outer s₀ H₀ E) nm)(q:SE (f9 (jB P w) P w K mg base N qual scope f cd A outer s₀ H₀ E) a j)
  (he:starEach [a] (envOfC qual scope s₀.heap.objs.size f cd)=[(false,eval a (envOfC qual scope s₀.heap.objs.size f cd))]:=by ac_nf) (i:(nm==("__debug__":Str))=false:=by ac_nf):
  XS (f9 (jB P w) P w K mg base N qual scope f cd A outer s₀ H₀ E) E (.Raise (some (.Call (.Name nm np) [a] [] b)) none g) (jC nm (af j aD)):=
 (HW O p (aa q aq he) he i).imp λD σ H u9=>by
  obtain⟨m,n,h,c,I,R,S,z,k⟩:=u9;obtain⟨⟨u,r⟩,l,t⟩:=Wl.mp z;cases t;refine⟨m,n,h,u,r,R,S,l,λF e y v x o=>⟨?_,k _ e y O.own.bound v x⟩⟩;rw[o.length];obtain⟨⟨d,G⟩,J,s⟩:=bq l;cases s;exact(by decide:1<=sizeLine)
end
section
variable {P:Program} {w:World} {K:FR} {mg:Str->Option Value} {base:Heap} {x qual:Str} {st:Stmt} {f:Addr} {fd:FuncData} {N ps:List Str} {k:Nat} {body:XM}
def LW(F:vO K x qual st f fd)(j:ax N ps (ah st))(n:∀(a:Value)(A:Around)(outer:List Env)(s:Shared)(H:Hp)(E:XK),dh k (A.deeper (envOfC qual (ah st) s.heap.objs.size f a))->N.Nodup->Kq (f9 (jB P w) P w K mg base N qual (ah st) f a A outer s H E) E (eQ st) body):
  fT P w K mg base (jB P w) (k+1) f fd ps (Q3 K mg ps.length (Fy N.length body)):=by
 obtain⟨u,t,kV,o,p,v,a,ct,m,rfl,lk,b⟩:=F.ex;refine I0 lk b j (λl H Q E h=>?_) λA outer s H l Q E hr h=>?_
 ·obtain⟨d,h,i,c,g,S,r,hl,_⟩:=h;rw[r.length];exact hl
 ·obtain⟨d,h,i,c,g,S,r,hl,e,q⟩:=h;exact⟨_,n a A outer s H E hr j.nd,d,entry N.length i,h,c,g,cB.entry N r,S,e,q⟩
end
end Sm
namespace L2
open PyProof.Rows PySem.F
def Bz(h:Heap)(C:Addr)(bm:List Value):Prop:=∃nm q N bs b sn c k d dd j i g f e a,h.get? C=some (excClassObj nm q C N bs bm b sn c k d dd j i g f e a)
section
variable {M:Model} {A:Around} {E:Value->Shared->Prop}
def Qy{h:Heap}{g:Array GenState}{d:Drawn}{t:Nat}{os:OsState}{e C D:Addr}{m:Obj}{bm c:List Value}{Q:Bool->Shared->Prop}
  (j:Bz h D bm) (k:Bz h C c) (o:h.get? e=some m) (i:m.cls=.ref D) (a:c.contains (.type "BaseException")=true) {b:Bool} (p:(Value.ref D::bm).contains (.ref C)=b)
  (n:Q b ⟨h,g,d,t,os⟩):wpAny M A (excMatches (.ref e) (.ref C)) Q E ⟨h,g,d,t,os⟩:=by
 obtain⟨_,_,_,_,_,_,_,_,_,_,_,_,_,_,_,_,j⟩:=j;obtain⟨_,_,_,_,_,_,_,_,_,_,_,_,_,_,_,_,k⟩:=k;have l:(Value.ref C::c).contains (.type "BaseException")=true:=by rw[List.contains_cons,a,Bool.or_true]
 have f:=tc_notTuple;unfold excMatches
 repeat(first |(with_reducible refine ZX o ?_;rw[i]) | with_reducible refine ZX k ?_ | with_reducible refine ZX j ?_ |(with_reducible refine wpAny_isSubtype_exc k ?_;rw[l]) |(with_reducible refine wpAny_isSubtype_exc j ?_;rw[p]) | wp_step)
 cases b with
 | true=>repeat(first | exact n | wp_step)
 | false=>repeat(first | exact n | wp_step)
end
end L2
namespace L2
open PySem.W PySem.Calls PyProof.Rows Builtin Builtin.ObjectAttr Builtin.Getset_descriptor
section
variable {prog:Program} {w:World} {A:Around} {E:Value->Shared->Prop} {s:Shared} {K:Frag} {x D:Addr}
structure XQ(K:Frag)(D:Addr):Prop where
 ga:findIn K (.ref D) "__getattribute__"=some (some (.builtin "BaseException.__getattribute__"))
 gr:findIn K (.ref D) "__getattr__"=some none
 cl:findIn K (.ref D) "__class__"=some (some (.builtin "object.__class__"))
 ob:mroIn K D (.type "object")=some true
 be:mroIn K D (.type "BaseException")=some true
def BH.type{M:Model}{h:Heap}(I:BH h x D):Looks M h (typeOf (.ref x)) (.ref D):=by
 obtain⟨o,b,a⟩:=I;exact a ▸ (Looks.ld b).andThen .now
def Nc{R:Result->Shared->Prop}{a:Value}(X:K.In s.heap)(I:BH s.heap x D)(hm:mroIn K D (.type "object")=some true)(h:R (.ok (.ret (.ref D))) s):
  codeAny (model prog w) A (.call (.builtin "getset_descriptor.__get__") ⟨[.builtin "object.__class__",.ref x,a],[]⟩) R s:=by
 obtain⟨hh,g,b,t,os⟩:=s;have d:=I.type (M:=model prog w);have c:=looks_mroIn (M:=model prog w) X hm;refine ZI KF.slot_gs.plain KF.entry_gs (KF.slot_gs.check _ _ _ _ _ _ _ _ KF.type_class (KF.args_gs _ _ _) ?_);unfold Builtin.«getset_descriptor.__get__» descrGet;rw[dga_obj];refine VT (VY ?_);unfold descrGetter descrCheckInstance descrNameAndClass isInstance;simp only[KF.owner_class]
 repeat lk
 refine⟨Code.quiet_builtin _ (by decide+kernel),XJ KF.entry_class ?_⟩;unfold Builtin.«object.__class__» shownTypeOf
 repeat lk
 exact h
def GQ{a:Tok}{Q:Fin->Shared->Prop}(C:XQ K D)(X:K.In s.heap)(I:BH s.heap x D)(b:Q (.done (.ret (.ref D))) s):
  wpAny (model prog w) A (Builtin.«object.__getattribute__» ⟨[.ref x,.str "__class__" a],[]⟩) Q E s:=by
 obtain⟨h,g,d,t,os⟩:=s;have e:=I.type (M:=model prog w);have c:=looks_findIn (M:=model prog w) X C.cl;unfold Builtin.«object.__getattribute__»
 repeat(any_goals (first | assumption | lk | wp_step))
 show wpAny _ _ (run (.call (.builtin "getset_descriptor.__get__") ⟨[.builtin "object.__class__",.ref x,.ref D],[]⟩) none) _ _ _;refine wpAny_run (Nc X I C.ob ?_);exact VY (VY b)
def GS{M:Model}{a:Value}{Q:Unit->Shared->Prop}(C:XQ K D)(X:K.In s.heap)(I:BH s.heap x D)(c:Q () s):wpAny M A (checkBuiltinCall "BaseException.__getattribute__" ⟨[.ref x,a],[]⟩) Q E s:=by
 obtain⟨h,g,d,t,os⟩:=s;have e:builtinKind "BaseException.__getattribute__"=some .slot:=by decide+kernel
 have b:splitId "BaseException.__getattribute__"=some ("BaseException","__getattribute__"):=by decide+kernel
 have f:=F.args_bexc_ga (.ref x) a;have j:=I.type (M:=M);have i:=looks_mroIn (M:=M) X C.be;simp only[checkBuiltinCall,e,b];refine VT ?_
 ·unfold isInstance
  repeat(first | lk | wp_step)
  exact c
def QB{c:Tok}{b a:Bool}{Q:Value->Shared->Prop}(C:XQ K D)(X:K.In s.heap)(I:BH s.heap x D)(j:Q (.ref D) s):
  wpAny (model prog w) A (getAttrBy (.ref x) (.str "__class__" c) b a) Q E s:=by
 obtain⟨h,g,d,t,os⟩:=s;have i:(a&&onTheHeap (Value.builtin "BaseException.__getattribute__"))=false:=by cases a <;> rfl
 have e:(Value.builtin "BaseException.__getattribute__"==Value.builtin "object.__getattribute__")=false:=by decide+kernel
 have f:(onTheHeap (Value.ref D)&&Value.builtin "BaseException.__getattribute__"==Value.builtin "object.__getattribute__")=false:=by rw[e];rfl
 have k:=F.excAttr_ValueError.ga.bind (.ref x);have m:=I.type (M:=model prog w);have l:=looks_findIn (M:=model prog w) X C.ga;have L2:=looks_findIn (M:=model prog w) X C.gr;unfold getAttrBy
 repeat(any_goals (first | assumption | lk | wp_step))
 show wpAny _ _ (Sem.attempt (holding _ (callGetattribute (.ref x) (.str "__class__" c) (.builtin "BaseException.__getattribute__") a))) _ _ _;refine ZS (WE ?_);unfold callGetattribute
 repeat(any_goals (first | assumption | lk | wp_step))
 show wpAny _ _ (run (.call (.builtin "BaseException.__getattribute__") ⟨[.ref x,.str "__class__" c],[]⟩) none) _ _ _;refine wpAny_run (ZI F.attrBase_ValueError.ga.plain F.entry_bexc_ga (GS C X I (GQ C X I ?_)));exact VY (handed_on rfl j)
def GR{Q:Option Value->Shared->Prop}(C:XQ K D)(X:K.In s.heap)(I:BH s.heap x D)(h:Q (some (.ref D)) {s with toks:=s.toks+1}):wpAny (model prog w) A (getAttr? (.ref x) "__class__") Q E s:=by
 obtain⟨hh,g,d,t,os⟩:=s;unfold getAttr? getAttrBy?;refine VT (wpAny_mkText (VT (ZS (QB (s:=⟨hh,g,d,t+1,os⟩) C X I ?_))));exact VY h
end
def IS{K:Frag}{x D:Addr}(C:XQ K D)(b:(clsIn K D).isSome=true):KitX K (.ref x) (.ref D) (λh=>BH h x D) where
 ty:=λ_ _ _ I=>I.type
 it:=λ_ _ X _=>by
  obtain⟨g,a⟩:=YB.mp b;unfold clsIn at a
  split at a
  ·rename_i o m i c f;intro u s t r k q;unfold isType loadHead;exact VT (wpAny_loadPart (k _ _ (X _ _ f)) (VY q))
  ·cases a
 ne:=λh j dd l n p X d=>by
  obtain⟨g,a⟩:=YB.mp b;refine Bool.eq_false_iff.mpr λq=>?_;have e:D=j:=Value.ref.inj (Xz.mp q);subst e;unfold clsIn at a
  split at a
  ·rename_i o m i c f;have z:=(X _ _ f).symm.trans d;cases z
  ·cases a
 ca:=λX I k=>GR C X I k
def CY{prog:Program}{w:World}{A:Around}{E:Value->Shared->Prop}{s:Shared}{Q:Value->Shared->Prop}{K:Frag}{x D:Addr}{c:Value}{b:Bool}(C:XQ K D)(a:(clsIn K D).isSome=true)(X:K.In s.heap)(I:BH s.heap x D)(e:kitOne K (.ref D) c=some b)
  (h:∀d,Q (.bool b) {s with toks:=d}):wpAny (model prog w) A (call (.builtin "isinstance") [.ref x,c]) Q E s:=W6 (IS C a) X I e (λz=>nomatch z) h
end L2
namespace L2
open PyProof.Rows
section
variable {X:Cx} {pins:List (Addr×Obj)} {σ:St} {H:Hp} {s s':Shared} {E:XK} {e:Value} {L:Addr} {rest:List Env}
def vo(I:Inv X pins σ H s)(hs:X.stack=X.env::rest)(hf:X.env.frame=some L)(h:jB X.prog X.w X.stack H s E e s'):
  ∃x C m,e=.ref x/\E C none m/\∀{M:Model} {B:Around} {F:Value->Shared->Prop} {Q:Unit->Shared->Prop},B.frames=some X.stack->
   (∀G,Inv X pins σ m G->(∃o f,G.heap.get? x=some o/\o.cls=C/\o.data=.fields f)->m x=none->s.heap.get? x=none->
    (∀{M':Model} {B':Around} {F':Value->Shared->Prop} {Q':Unit->Shared->Prop},(∀S,Inv X pins σ m S->(∃o f,S.heap.get? x=some o/\o.cls=C/\o.data=.fields f)->Q' () S)->wpAny M' B' (setFlight (.ref x) none) Q' F' G)->Q () G)->
   wpAny M B (noteFrame (.ref x) X.env) (λ_ s2=>wpAny M B (setFlight (.ref x) none) Q F s2) F s':=by
 obtain⟨x,T,C,m,rfl,nx,nT,hx,hT,⟨oe,f,oT,tr,he,hc,hd,N,hTx,Z,hdT,h3⟩,os,bare,un,bu,q⟩:=h;have J:Inv X pins σ m s':=I.call' os un bu bare λb z=>(nomatch z);refine⟨x,C,m,rfl,q,λ{M B F Q} hfr k=>?_⟩;have h0:f[0]?=some (f[0]'(YL (by decide) (W9.mp N).1)):=WN _;have i:∀b,b∈[x,T]++lP X.stack->(PySem.W.hideAll s'.heap ([x,T]++lP X.stack)).get? b=none:=λb l=>Xu _ l;have FL:Heap.FlyingW (PySem.W.hideAll s'.heap ([x,T]++lP X.stack)) (X.env::rest) x C (f[0]'(YL (by decide) (W9.mp N).1)) s'.heap:=
  ⟨λb o a=>Y9 _ a,i x (WU _ V3),hs ▸ sT J.stack (λb l=>i b (Wf _ l)),oe,f,T,oT,tr,he,⟨hc,h0⟩,hd,N,i T (WU _ (V5 _ V3)),hTx,Z,hdT,h3⟩
 have fr:∀b∈lP X.stack,m b=none:=J.sJ;have A:∀b o,s.heap.get? b=some o->b≠x/\b≠T:=λb o a=>⟨λz=>(by rw[z,nx] at a;cases a),λz=>(by rw[z,nT] at a;cases a)⟩;have y:∀d,Heap.FlyingW (PySem.W.hideAll s'.heap ([x,T]++lP X.stack)) (X.env::rest) x C (f[0]'(YL (by decide) (W9.mp N).1)) d->s'.heap.UpToSlots d->
   Inv X pins σ m {s' with heap:=d}/\∃o f,d.get? x=some o/\o.cls=C/\o.data=.fields f:=λd fl U=>by
  obtain⟨st,_,ff,tr⟩:=fl;have keep:∀b o,s'.heap.get? b=some o->b≠x->b≠T->b∉lP X.stack->d.get? b=some o:=λb o a n1 n2 n3=>st b o (Y4 _ a λz=>by
   rcases Wz.mp z with z | z
   ·rcases Wh.mp z with z | z
    ·exact n1 z
    ·exact n2 (Wg.mp z)
   ·exact n3 z)
  refine⟨I.call' (ch:=[]) os ⟨λb o a n l g=>keep b o (un.keep b o a n l g) (A b o a).1 (A b o a).2 l,λb o a n l g=>?_,un.free,λb o a g=>?_,un.pG,un.oK,un.pH⟩ (λb u a=>?_) bare λb z=>(nomatch z),?_⟩
  ·obtain⟨sl1,P⟩:=un.slot b o a n l g;obtain⟨_,o',O,hn⟩:=J.stack.mem l;rw[P] at O;cases O;obtain⟨r,e2⟩:=U b _ P hn;exact⟨r,e2⟩
  ·obtain⟨o1,P⟩:=un.there b o a g
   by_cases z:b∈lP X.stack
   ·obtain⟨_,o',O,hn⟩:=J.stack.mem z;obtain⟨r,e2⟩:=U b _ O hn;exact⟨_,e2⟩
   ·exact⟨_,keep b _ P (A b o a).1 (A b o a).2 z⟩
  ·refine(bu b u a).pN (λc v j t=>?_) (λ_ t=>t) λ_ _ t=>t;have:∃u,m c=some u:=by
    rcases j with rfl | j
    ·exact⟨u,a⟩
    ·exact⟨_,j⟩
   obtain⟨u',p⟩:=this;exact keep c v t (λz=>by rw[z,hx] at p;cases p) (λz=>by rw[z,hT] at p;cases p) λz=>by rw[fr c z] at p;cases p
  ·obtain⟨Y,R,_,_,_,he',j,hd',_⟩:=tr;exact⟨Y,R,he',j.1,hd'⟩
 refine wpAny_looks_onW (hs ▸ hfr) hf FL λh2 hh u1=>wpAny_landsW hh λd fl u2=>?_;obtain⟨J3,x3⟩:=y d fl (u1.trans u2);refine k _ J3 x3 hx nx λ{M' B' F' Q'} k'=>?_;obtain⟨st,fb,ff,tr⟩:=id fl;refine wpAny_setFlight_noneW (s:={s' with heap:=d}) st ff tr λh4' k1 k2 k3 k4=>?_;obtain⟨J4,x4⟩:=y h4' ⟨k1,fb,k2,k3⟩ ((u1.trans u2).trans λb o l hn=>⟨o.slots,k4 b o l hn⟩);exact k' _ J4 x4
end
end L2
namespace L2
open PySem.Calls PyProof.Rows
section
variable {prog:Program} {w:World} {A:Around} {E:Value->Shared->Prop} {s:Shared} {env:Env}
def FZ{e C D:Addr}{bm x:List Value}{t:Expr}{n:Str}{i:Stmt}{b:List Stmt}{j:Pos}{r:List ExceptHandler}{Q:Flow->Shared->Prop}(k:x.contains (.type "BaseException")=true)(H:(Value.ref D::bm).contains (.ref C)=true)
  (h:wpAny (model prog w) (A.mark (some (.ref e))) (eval t env) (λc a=>c=.ref C/\Bz a.heap D bm/\Bz a.heap C x/\(∃z,a.heap.get? e=some z/\z.cls=.ref D)/\
   wpAny (model prog w) (A.mark (some (.ref e))) (setFlight (.ref e) none) (λ_ p=>
     wpAny (model prog w) (A.mark (some (.ref e))) (storeName env n (.ref e)) (λ_ o=>
      wpAny (model prog w) (A.mark (some (.ref e))) (execs (i::b) env)
       (λf m=>wpAny (model prog w) A (do bindName env n .none;unbindBehindTheSuite env n j) (λ_ l=>Q f l) E m)
       (AsSuiteRaised (model prog w) (A.mark (some (.ref e))) env n j (notedBy (model prog w) (A.mark (some (.ref e))) env (cameBackBy (model prog w) A env E))) o) (notedBy (model prog w) (A.mark (some (.ref e))) env (cameBackBy (model prog w) A env E)) p) (notedBy (model prog w) (A.mark (some (.ref e))) env (cameBackBy (model prog w) A env E)) a) (notedBy (model prog w) (A.mark (some (.ref e))) env (cameBackBy (model prog w) A env E)) s):
  wpAny (model prog w) A (handleBy (.ref e) env (.ExceptHandler (some t) (some n) (i::b) j::r)) Q E s:=by
 refine wpAny_handleBy_cons (codeAny_handlers_test (WA h (λc a u=>?_) λ_ _ y=>y)) (by intro q;cases q);obtain⟨rfl,I,J,⟨z,G,v⟩,F⟩:=u;obtain⟨hh,g,d,L,os⟩:=a;exact Qy I J G v k H (codeAny_handlers_suite_as F)
end
abbrev Cx.Kk(X:Cx)(v:Value)(E:Value->Shared->Prop):Cx:={X with A:=X.A.mark (some v),calm:=false,xe:=E}
section
variable {X:Cx} {v:Value} {E:Value->Shared->Prop} {pins:List (Addr×Obj)} {σ:St} {H:Hp} {s:Shared}
theorem Cx.Ok.Kk(ok:X.Ok):(X.Kk v E).Ok:=
 ⟨ok.mod,ok.kind,ok.glob,ok.blt,ok.above,ok.inj,ok.has,ok.Qu,(λz=>nomatch z),ok.frames,ok.Q0,ok.UM,ok.bs,ok.Kp,ok.Fv,ok.Jk,ok.qr,ok.MR⟩
theorem Inv.Kk(I:Inv X pins σ H s):Inv (X.Kk v E) pins σ H s:=⟨I.ok.Kk,I.os,I.bare,I.base,I.loc,I.cell,I.free,I.iq,I.pin,I.bu,I.len⟩
def Inv.Uz(I:Inv X pins σ H s){b:Shared}{a:St}{c:Hp}(J:Inv (X.Kk v E) pins a c b):Inv X pins a c b:=⟨I.ok,J.os,J.bare,J.base,J.loc,J.cell,J.free,J.iq,J.pin,J.bu,J.len⟩
end
section
variable {X:Cx} {pins:List (Addr×Obj)} {σ:St} {H:Hp} {s:Shared}
def EJ{M:Model}{A:Around}{E:Value->Shared->Prop}{i:Nat}{x:Str}{v:V}{Q:Unit->Shared->Prop}(I:Inv X pins σ H s)(hN:X.N.Nodup)(P:X.N[i]?=some x)(O:X.env.scope.names.lookup x=some .local)(hv:σ[i]?=some (some v))
  (h:∀U,Inv X pins (σ.set i none) H U->Q () U):wpAny M A (unbindName X.env x) Q E s:=by
 obtain⟨m,hn,hl⟩:=id I.loc;have u:(X.env.scope.kind==.class||(X.env.scope.kind==.module&&X.env.locals !=X.env.globals))=false:=by rw[I.ok.kind];rfl
 have t:i < σ.length:=by rw[I.len];exact(VW.mp P).1
 have Jz:=I.Jz;have f:∀{a:Addr} {C:Heap},(∃o,s.heap.get? a=some o/\H a=none)->Heap.SameBut a s.heap C->ll X.prog X.w H C:=λ{a C} ha hs b ob e=>by
  obtain⟨_,_,g⟩:=ha;refine(I.bu b ob e).pN (λc S hc q=>(hs.2 c ?_).trans q) (λ_ q=>q) λ_ _ q=>q;rintro rfl;rcases hc with rfl | hc
  ·rw[g] at e;cases e
  ·rw[g] at hc;cases hc
 obtain⟨u0,_,q0⟩:=hl i x v P hv (.inl O);have hm:m x=some u0:=by
  rcases q0 with⟨_,e⟩ |⟨k,_⟩
  ·exact e
  ·have L:X.env.kindOf x=some .local:=O;rw[L] at k;rcases k with k | k <;> cases k
 refine wpAny_unbindName_local (m:=m) O hn hm u λC T J hs=>?_;obtain⟨oL,_,_,G,_⟩:=id hn;refine h _ ⟨I.ok,I.os,I.bare,⟨λb o e n R r=>?_,λb o e n R r=>?_,I.base.free,λb o e r=>?_,I.base.pG,I.base.oK,I.base.pH⟩,⟨_,J,λj y Y l F e3=>?_⟩,λy c e=>?_,I.free,I.iq,λp hp=>?_,f ⟨oL,G,I.free⟩ hs,by simpa using I.len⟩
 ·exact(hs.2 b (Wk (Ws (V8 e) I.ok.above))).trans (I.base.keep b o e n R r)
 ·obtain⟨Z,l⟩:=I.base.slot b o e n R r;exact⟨Z,(hs.2 b (Wk (Ws (V8 e) I.ok.above))).trans l⟩
 ·obtain⟨o',l⟩:=I.base.there b o e r;exact⟨o',(hs.2 b (Wk (Ws (V8 e) I.ok.above))).trans l⟩
 ·by_cases hj:j=i
  ·subst hj;rw[WG t] at F;cases F
  ·rw[WR (XX hj)] at F;obtain⟨T,r',q⟩:=hl j y Y l F e3;refine⟨T,r',?_⟩;rcases q with⟨k,e⟩ |⟨k,c,e,z⟩
   ·refine .inl ⟨k,?_⟩;have:y≠x:=λe=>hj (uJ hN l (e ▸ P));simp[this,e]
   ·exact .inr ⟨k,c,e,z.sameBut hs (Jz y c e)⟩
 ·obtain⟨S,z⟩:=I.cell y c e;exact⟨S,z.sameBut hs (Jz y c e)⟩
 ·obtain⟨e,n,ne,nf,d⟩:=I.pin p hp;exact⟨(hs.2 p.1 ne).trans e,n,ne,nf,d⟩
end
end L2
namespace L2
open PySem.W PySem.Calls PyProof.Rows
structure GA(K:Frag)(mg:Str->Option Value)(cd:Value)(P:Addr):Prop where
 hd:∃c o vs file tf flags tg inF text tt,cd=.ref c/\K.lookup c=some o/\o.cls=.type "code"/\o.data=.fields vs/\vs[11]?=some (.ref P)/\vs.getD 11 .none=.ref P/\vs.getD 18 .none=.str file tf/\
  vs.getD 7 .none=.int flags tg/\vs.getD 9 .none=.bool inF/\vs.getD 10 .none=.int text tt/\c≠P
 tab:ju K P
 bm:∃bm ob,mg "__builtins__"=some (.ref bm)/\bm≠builtinsNs/\K.lookup bm=some ob/\ob.cls=.type "module"/\ob.dict=some builtinsNs/\ob.data=.plain
def Dw{d:Pos}{x c:Value}{a b:Int}:∀(l:List Value),TriplesOk l->codeAmong d (l++[rawInt a,rawInt b,c])=some x->codeAmong d l=some x\/x=c:=by
 intro l
 fun_induction TriplesOk l with
 | case1=>
  intro _ h;right;simp only[Yi,codeAmong,rawInt] at h
  split at h
  ·exact(Option.some.inj h).symm
  ·cases h
 | case2 j t i u y rest e=>
  intro ht h;simp only[XO,codeAmong] at h ⊢
  split at h
  ·left;rename_i hc;rw[V1 hc];exact h
  ·rename_i hc;rw[V4 hc];exact e ht h
 | case3 l g f=>exactλh=>h.elim
section
variable {X:Cx} {pins:List (Addr×Obj)} {σ:St} {H:Hp} {s:Shared} {P:Addr} {params:Arguments} {body:Expr} {scope:Scope} {pos:Pos} {cl:List (Str×Addr)} {Q:Value->Shared->Prop} {E:Value->Shared->Prop}
structure Vo(K:Frag)(mg:Str->Option Value)(P:Addr)(params:Arguments)(body:Expr)(scope:Scope)(cl:List (Str×Addr))(H:Hp)(f:Addr):Prop where
 ex:∃qn c' ctv oc vs q t,H f=some (.nD (kla_obj "<lambda>" qn params body scope cl ((mg "__name__").getD .none) c' ctv) (.own f))/\H c'=some (.nD oc (.own P))/\oc.data=.fields vs/\vs[1]?=some (.str q t)
def O7(I:Inv X pins σ H s)(L:GA X.K X.mg X.env.code P)(M:H P=some .tb)(hd:defaultsOf params X.env=([],[]))(hcl:closureFor scope X.env=pure cl)
  (h:∀s' H' f,Inv X pins σ H' s'->(∀b o,H b=some o->H' b=some o)->(∀b,s.heap.objs.size<=b\/H' b=H b)->s.heap.objs.size<=f->Vo X.K X.mg P params body scope cl H' f->Q (.ref f) s'):
  wpAny (model X.prog X.w) X.A (eval (.Lambda params body scope pos) X.env) Q E s:=by
 obtain⟨c,oc,vsc,file,tf,J,tg,inF,S,tt,ec,hc,c1,c2,c3,c4,c5,c6,c7,c8,c9⟩:=L.hd;have C:CodeHd s.heap c P:=⟨oc,vsc,file,tf,J,tg,inF,S,tt,I.rK _ _ hc,c1,c2,c3,c4,c5,c6,c7,c8,c9⟩;obtain⟨U,hP,ht,i⟩:=(show bQ X.prog X.w H s.heap P .tb from I.bu P _ M);have hg:s.heap.Ns mainGlobals X.mg:=I.mod.glob.keeps I.bk;obtain⟨bm,ob,b1,b2,b3,b4,b5,b6⟩:=L.bm;have F:=I.rK _ _ b3;have hgP:mainGlobals≠P:=λq=>by
  obtain⟨o,es,ep,e,hd,_⟩:=hg;rw[q,hP] at e;cases e;cases hd
 have hbP:bm≠P:=λq=>by rw[q,hP] at F;cases F;cases b4
 have hbG:bm≠mainGlobals:=λq=>by
  obtain⟨o,es,ep,e,hd,_⟩:=hg;rw[<-q,F] at e;cases e;rw[hd] at b6;cases b6
 have hB:s.heap.BuiltinsAt X.mg P:=⟨bm,ob,b1,b2,hbG,hbP,F,b4,b5,b6⟩;refine kla_eval hd ?_;have old:∀b o,H b=some o->b < s.heap.objs.size:=λb o e=>I.bu.lt e;cases hf:codeAmong pos U.toList with
 | some cv=>
  obtain⟨d,g,p,q',t',rfl,e1,e2,e3⟩:=i pos cv hf;refine kla_makeFunctionHit (mg:=X.mg) hcl I.ok.glob hg ec C hP ht hf hB λk a tk hk t=>?_;have hn:H a.objs.size=none:=I.bu.fresh t;refine h _ (upd H a.objs.size (.nD (kla_obj "<lambda>" (X.env.qual++"<lambda>") params body scope cl ((X.mg "__name__").getD .none) d k) (.own a.objs.size))) _ (I.laid (t':=tk) (λb o e=>V0 _ (hk b o e)) t ?_) (λb o e=>by rw[aB (aQ e hn)];exact e) (λb=>?_) t ⟨_,d,k,g,p,q',t',aP,by rw[aB (aQ e1 hn)];exact e1,e2,e3⟩
  ·exact⟨Wn _ rfl,_,Wn _ rfl⟩
  ·by_cases l:b=a.objs.size
   ·exact .inl (l ▸ t)
   ·exact .inr (aB l)
 | none=>
  refine kla_makeFunction (mg:=X.mg) hcl I.ok.glob hg ec C hP ht hf hgP hB λd k a tk hx G hlt hrec htb=>?_;obtain⟨c₂,g,p,t',e2,hoc,hd',hv⟩:=hrec;cases e2;have hPs:P < s.heap.objs.size:=V8 hP;have j:s.heap.objs.size<=a.objs.size:=V2 G (XG hlt);have n1:H d=none:=I.bu.fresh G;have n2:H a.objs.size=none:=I.bu.fresh j;have nf:d≠a.objs.size:=Wk hlt;generalize hfo:kla_obj "<lambda>" (X.env.qual++"<lambda>") params body scope cl ((X.mg "__name__").getD .none) d k=N;have hfr:N.isFreed=false:=by rw[<-hfo];rfl
  have nn:∀{b o},H b=some o->upd (upd H d (.nD g (.own P))) a.objs.size (.nD N (.own a.objs.size)) b=some o:=λ{b o} e=>by
   rw[aB (aQ e n2),aB (aQ e n1)];exact e
  have nb:∀{b},b < s.heap.objs.size->upd (upd H d (.nD g (.own P))) a.objs.size (.nD N (.own a.objs.size)) b=H b:=λ{b} e=>by
   rw[aB (Wk (Ws e j)),aB (Wk (Ws e G))]
  have kp:∀b o,b≠P->s.heap.get? b=some o->(a.push N).get? b=some o:=λb o l e=>V0 _ (hx b o l e);have I':Inv X pins σ (upd (upd H d (.nD g (.own P))) a.objs.size (.nD N (.own a.objs.size))) {s with heap:=a.push N,toks:=tk}:=by
   refine I.step (g':=s.gens) (d':=s.drawn) (t':=tk) (ch:=[]) (λ_ z=>nomatch z) (λb o _ _ _ e n=>kp b o (λz=>by rw[z,M] at n;cases n) e) (λb o _ _ _ e n=>⟨o.slots,kp b o (λz=>by rw[z,M] at n;cases n) e⟩)
    (λb o _ e n=>by rw[nb (V8 e)];exact n) (λb o _ e=>?_) (λb xs e=>nn e) (λb o u e=>nn e) (λb qs e=>⟨#[],by rw[nn e];simp⟩) (λm hm=>?_) (λb u e=>?_) I.bare
   ·by_cases l:b=P
    ·exact⟨_,V0 _ (l ▸ htb)⟩
    ·exact⟨o,kp b o l e⟩
   ·obtain⟨o,es,ep,ho,r⟩:=hm;exact⟨o,es,ep,kp _ o (λz=>by have:=I.free;rw[z,M] at this;cases this) ho,r⟩
   ·by_cases h1:b=a.objs.size
    ·subst h1;rw[aP] at e;cases e;exact⟨Wn _ hfr,_,Wn _ hfr⟩
    ·rw[aB h1] at e
     by_cases h2:b=d
     ·subst h2;rw[aP] at e;cases e;exact⟨V0 _ hoc,_,V0 _ hoc⟩
     ·rw[aB h2] at e
      by_cases h3:b=P
      ·subst h3;rw[M] at e;cases e;refine⟨_,V0 _ htb,?_,λY x ex=>?_⟩
       ·rw[show(U++#[rawInt pos.line,rawInt pos.col,Value.ref d]).toList=U.toList++[rawInt pos.line,rawInt pos.col,.ref d] by simp];exact TriplesOk_snoc _ _ _ _ ht
       ·rw[show(U++#[rawInt pos.line,rawInt pos.col,Value.ref d]).toList=U.toList++[rawInt pos.line,rawInt pos.col,.ref d] by simp] at ex;rcases Dw _ ht ex with z | z
        ·obtain⟨c₃,Z,O,T,R,f1,f2,f3⟩:=i Y x z;exact⟨c₃,Z,O,T,R,f1,nn f2,f3⟩
        ·exact⟨d,g,p,_,t',z,by rw[aB nf,aP],hd',hv⟩
      ·refine(I.bu b u e).pN (λc v y q=>?_) (λ_ q=>nn q) (λ_ _ q=>nn q) λ_ _ q=>nn q;refine kp c v ?_ q;rcases y with rfl | y
       ·exact h3
       ·intro z;rw[z,M] at y;cases y
  refine h _ _ _ I' (λb o e=>nn e) (λb=>?_) j ⟨_,d,k,g,p,_,t',by rw[hfo];exact aP,by rw[aB nf,aP],hd',hv⟩
  by_cases l:b < s.heap.objs.size
  ·exact .inr (nb l)
  ·exact .inl (X8 l)
end
abbrev L6(CX:EF)(P:Program)(w:World)(K:FR)(mg:Str->Option Value)(base:Heap)(N:List Str)(qual:Str)(scope:Scope)(cl:List (Str×Addr))(f:Addr)(cd:Value)(A:Around)(outer:List Env)(s:Shared)(H:Hp)(E:XK):Cx where
 prog:=P
 w:=w
 K:=K
 mg:=mg
 base:=base
 A:=A.deeper (envX qual scope s.heap.objs.size f cd cl)
 N:=N
 s₀:=s
 H₀:=H
 env:=envX qual scope s.heap.objs.size f cd cl
 outer:=outer
 stack:=envX qual scope s.heap.objs.size f cd cl::outer
 ex:=[]
 calm:=true
 fn:=λ_=>false
 pn:=[]
 xe:=λe s'=>wpAny (model P w) (A.deeper (envX qual scope s.heap.objs.size f cd cl)) (leaving (envX qual scope s.heap.objs.size f cd cl) e) (λ_ s''=>CX outer H s E e s'') (λe' s''=>CX outer H s E e' s'') s'
structure S9(H:Hp)(h:Heap)(N:List Str)(scope:Scope)(cl:List (Str×Addr))(σ:St):Prop where
 inj:∀x y c,cl.lookup x=some c->cl.lookup y=some c->x=y
 has:∀x,scope.names.lookup x=some .free->∃c,cl.lookup x=some c
 cell:∀x c,cl.lookup x=some c->H c=none/\∃v,h.IsCell c v
 val:∀(j:Nat) x v,N[j]?=some x->σ[j]?=some (some v)->∃u c,RelV v u/\scope.names.lookup x=some .free/\cl.lookup x=some c/\h.IsCell c (some u)
 len:σ.length=N.length
def S9.keep(C:S9 H h N scope cl σ)(k:∀b o,H b=none->h.get? b=some o->(∃d,h'.get? b=some {o with slots:=d})/\p b=none):S9 p h' N scope cl σ:=
 ⟨C.inj,C.has,λx c e=>by
  obtain⟨n,v,o,g,hd⟩:=C.cell x c e;obtain⟨⟨d,a⟩,b⟩:=k c o n g;exact⟨b,v,_,a,hd⟩,λj x v m i=>by
  obtain⟨u,c,r,f,l,o,g,hd⟩:=C.val j x v m i;obtain⟨⟨d,a⟩,b⟩:=k c o (C.cell x c l).1 g;exact⟨u,c,r,f,l,_,a,hd⟩,C.len⟩
structure vH(N:List Str)(sc:Scope):Prop where
 kind:sc.kind=.function
 co:sc.isCoroutine=false
 gen:sc.isGenerator=false
 qj:∀y∈sc.names,y.2≠.cell
section
variable {CX:EF} {P:Program} {w:World} {K:FR} {mg:Str->Option Value} {base:Heap} {N:List Str} {scope:Scope} {f Pt:Addr} {A:Around} {outer:List Env} {s:Shared} {H:Hp} {E:XK} {Q:VK} {params:Arguments} {body:Expr} {cl:List (Str×Addr)} {σ:St} {t:TE}
def IQ(S:vH N scope)(hp:∀M:FuncData,M.params=params->M.defaults=.none->M.kwdefaults=.none->bindArgs M ⟨[],[]⟩=pure [])(d:Kg P w K mg base A outer s H)(hr:A.handled=none)(L:A.depth < recursionLimit)(F:Vo K mg Pt params body scope cl H f)(C:S9 H s.heap N scope cl σ)
  (hb:∀q cd,PE (L6 CX P w K mg base N q scope cl f cd A outer s H E) body t) (ht:t σ H Q):
  codeAny (model P w) A (.call (.ref f) ⟨[],[]⟩) (CR CX outer P w H s Q E) s:=by
 obtain⟨qn,n,ctv,oc,vs,q,tk,h1,h2,h3,h4⟩:=F.ex;obtain⟨Z,_⟩:=(show bQ P w H s.heap f _ from d.bu f _ h1);obtain⟨T,_⟩:=(show bQ P w H s.heap n _ from d.bu n _ h2);have O:s.heap.NoLimit:=d.mod.nolimit.keeps λb o e=>(d.bs b o e).1;refine Aag ?_;show wpAny _ A.in1 (callAny (.ref f) ⟨[],[]⟩) _ _ s;simp only[callAny];refine VT (wpAny_load Z ?_);simp only[callFunction,S.co,S.gen];refine VT (m:=field (.ref n) 1) (Xp T h3 h4 (VT (VY ?_)));rw[hp _ rfl rfl rfl];refine VT (VY ?_);refine VT (ZG S.qj (λx G=>nomatch G) (λg U R=>?_) S.kind);have a:∀b o,s.heap.get? b=some o->g.get? b=some o:=λb o e=>R.extBut b o (Wk (V8 e)) (V0 _ e);refine VT (wpAny_enterFrame (O.keeps a) L (VY (And.intro rfl ?_)));show codeAny _ A (.expr body (envX q scope s.heap.objs.size f (.ref n) cl)) _ _;have i:∀b:Addr,b∉(L6 CX P w K mg base N q scope cl f (.ref n) A outer s H E).ex:=λb z=>absurd (show b∈([]:List Addr) from z) (by simp);have I:Inv (L6 CX P w K mg base N q scope cl f (.ref n) A outer s H E) [] σ H {s with heap:=g,toks:=s.toks+([]:List (Str×Value)).length}:=by
  refine⟨⟨d.mod,S.kind,rfl,rfl,VZ _,C.inj,λx G=>?_,λy c h _=>absurd (show false=true from h) (by decide),λ_=>hr,Around.frames_deeper d.frames,.inr ⟨rfl,rfl⟩,λb z=>absurd z (i b),d.bs,d.Kp,λb _ _=>i b,λb z=>absurd z (i b),d.qr,d.MR⟩,
   rfl,d.bare,Un.kept a,⟨_,U,λj x v e1 e2 e3=>?_⟩,λx c e=>?_,d.bu.fresh (VZ _),λx c e=>(C.cell x c e).1,λp hp=>absurd (show p∈([]:List (Addr×Obj)) from hp) (by simp),d.bu.kept a,C.len⟩
  ·have G:scope.names.lookup x=some .cell\/scope.names.lookup x=some .free:=G;rcases G with z | z
   ·exact absurd rfl (S.qj _ (WI z))
   ·exact C.has x z
  ·obtain⟨u,c,r,fr,l,o,k,hd⟩:=C.val j x v e1 e2;exact⟨u,r,.inr ⟨.inr fr,c,l,o,a _ _ k,hd⟩⟩
  ·obtain⟨_,v,o,k,hd⟩:=C.cell x c e;exact⟨v,o,a _ _ k,hd⟩
 refine kla_codeExpr (WA (hb q (.ref n) [] _ σ H Q I ht) (λu X hs=>?_) λe X hs=>hs);obtain⟨v,H',J,rv,Y⟩:=hs;exact⟨v,H',J.os,J.bare,J.base,J.bu,rv,Y⟩
end
section
variable {X:Cx} {pins:List (Addr×Obj)} {σ:St} {H:Hp} {s:Shared}
def Inv.QN{a:Addr}{u:HO}(I:Inv X pins σ H s)(n:H a=none)(A:X.s₀.heap.get? a=none)(hd:∃o l,s.heap.get? a=some o/\o.data=.fields l)(hp:∀p∈X.pn++pins,p.1≠a)(new:bQ X.prog X.w (upd H a u) s.heap a u):
  Inv X pins σ (upd H a u) s:=by
 obtain⟨F,E,j,h⟩:=hd;have old:∀b o,X.s₀.heap.get? b=some o->b≠a:=λb o e z=>by rw[z,A] at e;cases e
 have nn:∀{b o},H b=some o->upd H a u b=some o:=λ{b o} e=>by rw[aB (aQ e n)];exact e
 refine⟨I.ok,I.os,I.bare,⟨I.base.keep,I.base.slot,λb o e m y=>?_,I.base.there,λb k e=>nn (I.base.pG b k e),λb o u e=>nn (I.base.oK b o u e),λb t e=>?_⟩,I.loc,I.cell,?_,λx c e=>?_,λp i=>?_,λb v e=>?_,I.len⟩
 ·rw[aB (old b o e)];exact I.base.free b o e m y
 ·obtain⟨more,C⟩:=I.base.pH b t e;exact⟨more,nn C⟩
 ·obtain⟨m,⟨o,G,J,d,f,_⟩,_⟩:=I.loc;rw[aB (λz=>by rw[z,j] at d;cases d;rw[h] at f;cases f)];exact I.free
 ·obtain⟨v,o,d,g⟩:=I.cell x c e;rw[aB (λz=>by rw[z,j] at d;cases d;rw[h] at g;cases g)];exact I.iq x c e
 ·obtain⟨e,m,r⟩:=I.pin p i;exact⟨e,by rw[aB (hp p i)];exact m,r⟩
 ·by_cases z:b=a
  ·subst z;rw[aP] at e;cases e;exact new
  ·rw[aB z] at e;exact(I.bu b v e).pN (λ_ _ _ q=>q) (λ_ q=>nn q) (λ_ _ q=>nn q) λ_ _ q=>nn q
def Py{g:Str}{f:Addr}{t j:Pos}{i:Nat}{n:Obj}{q:FuncData}{Q:Value->Shared->Prop}{E:Value->Shared->Prop}(I:Inv X pins σ H s)(hN:X.N[i]?=some g)(v:M3 X.env.scope g)(k:σ[i]?=some (some (.ref f)))(x:s.heap.get? f=some n)(hd:n.data=.func q)
  (h:wpAny (model X.prog X.w) X.A (call (.ref f) []) Q E s) (d:(g==("__debug__":Str))=false) (p:(g==("__classdict__":Str))=false):
  wpAny (model X.prog X.w) X.A (eval (.Call (.Name g t) [] [] j) X.env) Q E s:=by
 refine Xw ?_;obtain⟨m,hn,hl⟩:=I.loc;obtain⟨u,r,l⟩:=hl i g _ hN k v;obtain rfl:u=Value.ref f:=r;have e:wpAny (model X.prog X.w) X.A (callWith j (.ref f) [] (backTo j (starEach [] X.env)) (backToKw j (keywordEach [] X.env))) Q E s:=by
  refine callWith_of (P:=λh=>∃o,h.get? f=some o/\o.data=.func q) rfl (λh ⟨o,z,y⟩=>⟨.frame,.inl rfl,(Looks.ld (part:=none) z).andThen ?_⟩) (evalArgs_nil3 ⟨⟨n,x,hd⟩,h⟩);rw[y];exact .now
 rcases l with⟨b,hm⟩ |⟨b,c,hc,a⟩
 ·exact Zz (ZH I.ok.kind b hn hm e) d
 ·rcases b with b | b
  ·exact Zz (ZP I.ok.kind b hc a e) d
  ·exact Zz (wpAny_loadName_free I.ok.kind b hc a e p) d
end
section
variable {X:Cx} {pins:List (Addr×Obj)} {σ:St} {H:Hp} {s:Shared}
def G1{L:Addr}{rest:List Env}{j l:Str}{Z:Addr}{p4 p5 p6 p7 p8 p9:Pos}{m:List Stmt}{Qn:Hp->Prop}{E1:XK}{Q:Flow->Shared->Prop}{E:Value->Shared->Prop}
  (I:Inv X pins σ H s) (hs:X.stack=X.env::rest) (hf:X.env.frame=some L) (g:X.N.Nodup) (h1:X.N[1]?=some j) (u:X.N[2]?=some l) (l1:X.env.scope.names.lookup j=some .local) (t:X.env.scope.names.lookup l=some .local)
  (hg:Gl X "StuckError") (hm:X.mg "StuckError"=some (.ref Z)) (M:swapsWith (.Name l p6) (some (.Name j p5)) p7.line X.env=pure false) (hd:(l==("__debug__":Str))=false) (O:(l==("__classdict__":Str))=false)
  (n:wpAny (model X.prog X.w) X.A (execs m X.env) (λf d=>f=.next/\∃c,Inv X pins σ c d/\Qn c) (λe d=>jB X.prog X.w X.stack H s E1 e d) s)
  (hE:∀C c,E1 C none c->∃D bm r,C=.ref D/\(∀h,X.K.In h->Bz h D bm/\Bz h Z r)/\r.contains (.type "BaseException")=true/\(Value.ref D::bm).contains (.ref Z)=true)
  (hz:∀b,s.heap.get? b=none->X.s₀.heap.get? b=none)
  (k1:∀d c,Inv X pins σ c d->Qn c->Q .next d)
  (k2:∀d c x D,Inv X pins ((((σ.set 2 (some (.ref x))).set 1 (some (.ref x))).set 2 (some .cu)).set 2 none) (upd c x (.El λ_ h=>BH h x D)) d->E1 (.ref D) none c->c x=none->Q .next d):
  wpAny (model X.prog X.w) X.A (exec (.Try m [.ExceptHandler (some (.Name "StuckError" p4)) (some l) [.Assign [.Name j p5] (.Name l p6) p7] p8] [] [] p9) X.env) Q E s:=by
 refine wpAny_Try_except (WA n (λf d hq=>?_) λe d hx=>?_)
 ·obtain⟨rfl,c,I',q⟩:=hq;exact YS (k1 _ _ I' q)
 ·obtain⟨x,C,c,rfl,e1,kk⟩:=vo I hs hf hx;refine kk I.ok.frames λs3 Y fx nx n0 R=>?_;obtain⟨D,bm,r,rfl,ho,Po,P⟩:=hE _ _ e1;obtain⟨o,vs,e3,e4,e5⟩:=fx;refine FZ Po P ?_;refine jO (X:=X.Kk (.ref x) E) Y.Kk hg hm ?_;refine⟨rfl,(ho _ Y.rK).1,(ho _ Y.rK).2,⟨o,e3,e4⟩,R λs4 I4 u9=>?_⟩;obtain⟨J,G,S,f4,f5⟩:=u9;have U:Inv X pins σ (upd c x (.El λ_ h=>BH h x D)) s4:=I4.QN nx (hz x n0) ⟨J,G,S,f5⟩ (λp hp z=>by
   obtain⟨e,_⟩:=I.pin p hp;rw[z,n0] at e;cases e) ⟨⟨J,S,f4⟩,⟨J,S⟩,λh1 u ⟨o,a,b⟩ k=>⟨o,k o a,b⟩⟩
  have y:2 < σ.length:=by rw[I.len];exact(VW.mp u).1
  refine g9 (v:=.ref x) U g u (.inl t) rfl (λs5 I5=>?_) (.inr t);refine XZ (cx (Cs (X:=X.Kk (.ref x) (AsSuiteRaised (model X.prog X.w) (X.A.mark (some (.ref x))) X.env l p8 (notedBy (model X.prog X.w) (X.A.mark (some (.ref x))) X.env (cameBackBy (model X.prog X.w) X.A X.env E)))) (i:=1) g h1 (.inl l1) (Ig (i:=2) u (.inl t) hd O) M (.inr l1) pins s5 _ _
   {nx:=λF H2=>F=(σ.set 2 (some (.ref x))).set 1 (some (.ref x))/\H2=upd c x (.El λ_ h=>BH h x D),rt:=λ_ _=>False,bk:=λ_ _=>False,ct:=λ_ _=>False} I5.Kk ⟨.ref x,by rw[WG y],rfl,rfl⟩) λf s6 q=>?_)
  cases f with
  | ret v=>obtain⟨_,_,_,_,_,q⟩:=q;exact q.elim
  | brk=>obtain⟨_,_,_,q⟩:=q;exact q.elim
  | cont=>obtain⟨_,_,_,q⟩:=q;exact q.elim
  | next=>
   obtain⟨σ6,H6,T,rfl,rfl⟩:=q;have T:=I4.Uz T;refine YS ?_;refine VT (wpAny_bindName (g9 (v:=.cu) T g u (.inl t) rfl (λs7 I7=>?_) (.inr t)));unfold unbindBehindTheSuite;refine wpAny_onRaise (EJ (v:=.cu) I7 g u t (by rw[WG];simpa using y) λs8 I8=>?_);exact k2 _ _ x D I8 e1 nx
end
section
variable {X:Cx} {pins:List (Addr×Obj)} {σ:St} {H:Hp} {s:Shared} {N':List Str} {caps:List (Option Nat)} {scope:Scope}
def Inv.cells(S:bp X N' caps scope)(I:Inv X pins σ H s):S9 H s.heap N' scope (gR X.env scope.names []) (k6 caps σ):=by
 refine⟨λx y c J G=>I.ok.inj x y c (S.look I.ok J) (S.look I.ok G),λx h=>jn (env:=X.env) scope.names [] (WI h),λx c e=>⟨I.iq x c (S.look I.ok e),I.cell x c (S.look I.ok e)⟩,λj x v M L=>?_,by
  show(caps.map _).length=N'.length;rw[VU];exact S.len⟩
 have a:(caps.map λo=>o.bind λi=>(σ[i]?).join)[j]?=some (some v):=L;rw[Wa] at a;cases k:caps[j]? with
 | none=>rw[k] at a;cases a
 | some C=>
  rw[k] at a;have f:(C.bind λi=>(σ[i]?).join)=some v:=Option.some.inj a;cases C with
  | none=>cases f
  | some i=>
   have b:(σ[i]?).join=some v:=f;have n:σ[i]?=some (some v):=by
    cases hs:σ[i]? with
    | none=>rw[hs] at b;cases b
    | some w=>rw[hs] at b;rw[show w=some v from b]
   obtain⟨F,g⟩:=S.Ve j i x k M;obtain⟨m,_,hl⟩:=I.loc;have d:=S.vo _ (WI g) rfl;have p:M3 X.env.scope x:=by
    rcases d with z | z
    ·exact .inr (.inl z)
    ·exact .inr (.inr z)
   obtain⟨u,E,lk⟩:=hl i x v F n p;obtain⟨c,r⟩:=jn (env:=X.env) scope.names [] (WI g);refine⟨u,c,E,g,r,?_⟩;rcases lk with⟨z,_⟩ |⟨_,N,t,l⟩
   ·have A:X.env.kindOf x=some .local:=z;rcases d with q | q
    ·rw[A] at q;cases q
    ·rw[A] at q;cases q
   ·have:=S.look I.ok r;rw[this] at t;cases t;exact l
end
abbrev zT(X:Cx)(ns:List Str)(fn:Str)(st:Stmt)(fr:Addr)(cdv:Value)(s1:Shared)(H1:Hp):Cx:=f9 pC X.prog X.w X.K X.mg X.base ns fn (ah st) fr cdv X.A X.stack s1 H1 λ_ _ _=>False
end L2
namespace Sm
open L2 PySem.W PySem.Calls PyProof.Rows
def G4(a:SM)(c:Str)(h:MH):Option (D×MH):=((a [none,some (.ob h.length),none,none] (h++[.exc c])).bind yF).bind λp=>leave h p.1 p.2
def G5(a:SM)(h:MH):Option (D×MH):=((a [none,some .cu,none,none] h).bind yF).bind λp=>leave h p.1 p.2
def eZ(b:List Str)(a:List (Option Nat))(e:SM)(x:XM)(m:EM):EM:=λd h=>match x (eV a d) h with
 | some (c,f)=>if c∈b then G4 e c f else none
 | none=>(m (eV a d) h).bind λp=>G5 e p.2
structure XC(K:Frag)(mg:Str->Option Value)(CS:Addr)(c:Str):Prop where
 ex:∃D bm bmC,mg c=some (.ref D)/\Pq K c=some (.ref D)/\(∀h,K.In h->Bz h D bm/\Bz h CS bmC)/\bmC.contains (.type "BaseException")=true/\(Value.ref D::bm).contains (.ref CS)=true
section
variable {X:Cx} {fn cn cau en mk:Str} {fr CS Pt:Addr} {fd:FuncData} {st:Stmt} {tail:List Stmt} {mt:SM} {k:Nat} {x:XM} {m:EM} {Nl:List Str} {caps:List (Option Nat)} {scope:Scope} {params:Arguments} {body:Expr} {cls:List Str}
 {pa pb' pc p1 p2 p3 p4 p5 p6 p7 p8 p9 pn lpos pos:Pos} {j:Nat}
def BY(F:vO X.K fn fn st fr fd)(Sc:ax [cn,cau,en,mk] [cn] (ah st))(hmf:X.mg fn=some (.ref fr))(hkf:keepIn X.K (.ref fr)=true)
  (hbind:∀(s:Shared)(u:Value),BindsTo s fd ⟨[u],[]⟩ [(cn,u)])
  (hbody:eQ st=.Assign [.Name cau pa] (.Constant .none j pb') pc::.Try [.Expr (.Call (.Name cn p1) [] [] p2) p3] [.ExceptHandler (some (.Name "StuckError" p4)) (some en) [.Assign [.Name cau p5] (.Name en p6) p7] p8] [] [] p9::tail)
  (l0:(ah st).names.lookup cn=some .local) (l1:(ah st).names.lookup cau=some .local) (l2:(ah st).names.lookup en=some .local) (lg:(ah st).names.lookup ("StuckError":Str)=some .globalImplicit)
  (hms:X.mg "StuckError"=some (.ref CS)) (hC:∀c∈cls,XC X.K X.mg CS c)
  (n0:(cn==("__debug__":Str))=false) (n0':(cn==("__classdict__":Str))=false) (n2:(en==("__debug__":Str))=false) (n2':(en==("__classdict__":Str))=false)
  (sw1:∀env,swapsWith (.Constant .none j pb') (some (.Name cau pa)) pc.line env=pure false) (sw2:∀env,swapsWith (.Name en p6) (some (.Name cau p5)) p7.line env=pure false) (sw3:∀env,swapsWith (.Call (.Name cn p1) [] [] p2) none p3.line env=pure false)
  (htail:∀(g:Value)(A:Around)(outer:List Env)(s:Shared)(H:Hp)(E:XK),dh (k+1) (A.deeper (envOfC fn (ah st) s.heap.objs.size fr g))->Gy (f9 pC X.prog X.w X.K X.mg X.base [cn,cau,en,mk] fn (ah st) fr g A outer s H E).IF tail mt)
  (hr:dh (k+2) X.A) (L:GA X.K X.mg X.env.code Pt) (hd:defaultsOf params X.env=([],[])) (hp:∀fd:FuncData,fd.params=params->fd.defaults=.none->fd.kwdefaults=.none->bindArgs fd ⟨[],[]⟩=pure []) (LS:vH Nl scope) (C:bp X Nl caps scope)
  (hx:∀(q:Str)(P:Value)(f:Addr)(cl:List (Str×Addr)) (A:Around) (outer:List Env) (s:Shared) (H:Hp) (E:XK),dh k (A.deeper (envX q scope s.heap.objs.size f P cl))->XE (L6 (jB X.prog X.w) X.prog X.w X.K X.mg X.base Nl q scope cl f P A outer s H E) E body x)
  (hm:∀(q:Str)(P:Value)(f:Addr)(cl:List (Str×Addr)) (A:Around) (outer:List Env) (s:Shared) (H:Hp) (E:XK),dh k (A.deeper (envX q scope s.heap.objs.size f P cl))->SE (L6 (jB X.prog X.w) X.prog X.w X.K X.mg X.base Nl q scope cl f P A outer s H E) body m)
  (hg:Gl X fn) (hdb:(fn==("__debug__":Str))=false) (hst:starEach [.Lambda params body scope lpos] X.env=[(false,eval (.Lambda params body scope lpos) X.env)]):
  SE X (.Call (.Name fn pn) [.Lambda params body scope lpos] [] pos) (eZ cls caps mt x m):=by
 rintro pins s σ H Q I ⟨ρ,δ,h,d,h',R,S,ee,kq⟩;refine Xw (jO I hg hmf ?_ hdb);refine PySem.W.callWith_K (h₀:=X.base) (rest:=[]) I.ok.mod.Ti hkf ?_ hst (by rfl);rw[hst];show wpAny _ _ (spliced ((false,eval (.Lambda params body scope lpos) X.env)::backTo pos [])) _ _ s;have tP:H Pt=some .tb:=(S.tb Pt L.tab).2;refine ZT (O7 I L tP hd (iu (C.has I.ok)) λM H1 f I1 hext hnew hfs Fl=>Z0 ⟨I1.rK,?_⟩);have T1:dG ρ H ρ H1:=⟨⟨λ_ _ e=>e,λb o n e=>⟨n,hext b o e⟩⟩,rfl,λb hb=>by
  obtain⟨u,e⟩:=(S.vT b hb).1;rw[e,hext b u e]⟩
 have S1:bT X.K ρ h H1:=S.same T1 λa ha=>by
  obtain⟨u,e⟩:=S.has (.inl ha);rw[e,hext a u e]
 have R1:cB X.K ρ H1 (k6 caps σ) (eV caps δ):=(R.mono T1.toCh).k6 caps;have Cl1:=I1.cells C;have e0:=I1.PB;obtain⟨oc,od,kV,doc,pm,an,g,ct,osl,rfl,lk,hcd⟩:=F.ex;have KX:X.K.In M.heap:=I1.rK;have lim:M.heap.NoLimit:=I1.nolimit;have hkind:∀y∈[(cn,Value.ref f)],(ah st).names.lookup y.1=some .local\/((ah st).names.lookup y.1=some .cell/\((cellsFrom (M.heap.objs.size+1) (ah st).names []).lookup y.1).isSome=true):=λy hy=>by
  rw[Wg.mp hy];exact .inl l0
 show wpAny _ _ (call (.ref fr) [.ref f]) _ _ M;refine wpAny_call (Yr (R:=CR pC X.stack X.prog X.w H1 M Q (λ_ _ _=>False)) (codeAny_call_function hr.depth (KX _ _ lk) rfl Sc.co Sc.gen rfl (codeRec_of KX hcd) (hbind _ _ _ _ _ _ ?_)) λr Y O=>?_);rotate_left
 ·cases r with
  | error e=>exact False.elim O
  | ok fl=>
   cases fl with
   | ret u=>exact I1.after O
   | next=>exact False.elim O
   | brk=>exact False.elim O
   | cont=>exact False.elim O
 refine Aat Sc.kind hkind λenv he s2 z=>?_;subst he;refine⟨lim.keeps z.toInCall.keep,codeAny_func ?_⟩;have Ir:Inv (zT X [cn,cau,en,mk] fn st fr g M H1) [] (start [cn,cau,en,mk] [.ref f]) H1 s2:=xK (us:=[.ref f]) (vs:=[.ref f]) Sc hr.hd e0 rfl (.cons rfl .nil) z;have hr1:dh (k+1) (zT X [cn,cau,en,mk] fn st fr g M H1).A:=hr.deeper _;rw[hbody];refine XZ (WA (Cs (X:=zT X [cn,cau,en,mk] fn st fr g M H1) (i:=1) Sc.nd rfl (.inl l1) Ii (sw1 _) (.inl rfl) [] s2 _ H1
  {nx:=λU H2=>U=[some (.ref f),some .cu,none,none]/\H2=H1,rt:=λ_ _=>False,bk:=λ_ _=>False,ct:=λ_ _=>False} Ir ⟨rfl,rfl⟩) (λfl s3 q=>?_) λe Y O=>O)
 cases fl with
 | ret v=>obtain⟨_,_,_,_,_,q⟩:=q;exact q.elim
 | brk=>obtain⟨_,_,_,q⟩:=q;exact q.elim
 | cont=>obtain⟨_,_,_,q⟩:=q;exact q.elim
 | next=>
 obtain⟨σ3,N,I3,rfl,rfl⟩:=q;have fin:∀{Y:Shared} {U:L2.St} {l:Hp} {v:V} {u:Value},Inv (zT X [cn,cau,en,mk] fn st fr g M N) [] U l Y->RelV v u->Q v l->CE X.stack X.prog X.w N M Q u Y:=
  λ{Y U l v u} J rv q=>⟨v,l,J.os,J.bare,J.base,J.bu,rv,q⟩
 have tl:∀{s4:Shared} {σ4:L2.St} {Z:Hp} {ρ4:Ad} {δ4:DS} {h4:MH} {d4:D} {h5:MH},Inv (zT X [cn,cau,en,mk] fn st fr g M N) [] σ4 Z s4->cB X.K ρ4 Z σ4 δ4->bT X.K ρ4 h4 Z->(mt δ4 h4).bind yF=some (d4,h5)->(∀v l,dB X.K ρ4 Z h5 d4 v l->Q v l)->
   wpAny (model X.prog X.w) (zT X [cn,cau,en,mk] fn st fr g M N).A (execs tail (zT X [cn,cau,en,mk] fn st fr g M N).env) (λfl Y=>CR pC X.stack X.prog X.w N M Q (λ_ _ _=>False) (.ok (.ret (match fl with | .ret v=>v | _=>.none))) Y) (zT X [cn,cau,en,mk] fn st fr g M N).xe s4:=λ{s4 σ4 Z ρ4 δ4 h4 d4 h5} I4 R4 S4 e4 k4=>by
  obtain⟨⟨fl,δ5,h6⟩,e5,e6⟩:=bq e4;refine WA (htail g X.A X.stack M N (λ_ _ _=>False) hr1 [] s4 σ4 Z {nx:=λ_ l=>Q .cu l,rt:=Q} (I4.tD _) ⟨ρ4,δ4,h4,fl,δ5,h6,R4,S4,e5,λρ6 H6 T6 S6=>?_⟩) (λf' Y hs=>?_) λe Y O=>O.elim
  ·cases fl with
   | nx=>cases e6;exactλU R'=>k4 _ _ ⟨ρ6,T6,S6,.cu⟩
   | rt d=>cases e6;exactλv r=>k4 _ _ ⟨ρ6,T6,S6,r⟩
   | bk=>cases e6
   | ct=>cases e6
  ·cases f' with
   | ret u=>obtain⟨v,U,l,J,rv,q⟩:=hs;exact fin J.iR rv q
   | next=>obtain⟨U,l,J,q⟩:=hs;exact fin (v:=V.cu) (u:=Value.none) J.iR rfl q
   | brk=>obtain⟨_,_,_,q⟩:=hs;exact False.elim q
   | cont=>obtain⟨_,_,_,q⟩:=hs;exact False.elim q
 have run:∀{t:TE} {Qn:VK} {E1:XK},(∀q P,PE (L6 (jB X.prog X.w) X.prog X.w X.K X.mg X.base Nl q scope (gR X.env scope.names []) f P (zT X [cn,cau,en,mk] fn st fr g M N).A (zT X [cn,cau,en,mk] fn st fr g M N).stack s3 N E1) body t)->t (k6 caps σ) N Qn->
   wpAny (model X.prog X.w) (zT X [cn,cau,en,mk] fn st fr g M N).A (execs [.Expr (.Call (.Name cn p1) [] [] p2) p3] (zT X [cn,cau,en,mk] fn st fr g M N).env) (λf' Y=>f'=.next/\∃l,Inv (zT X [cn,cau,en,mk] fn st fr g M N) [] [some (.ref f),some .cu,none,none] l Y/\∃v,Qn v l) (λe Y=>jB X.prog X.w (zT X [cn,cau,en,mk] fn st fr g M N).stack N s3 E1 e Y) s3:=λ{t Qn E1} hb ht=>by
  obtain⟨qn,c',ctv',oc',vs',q',tk',f1,f2,f3,f4⟩:=Fl.ex;obtain⟨hof,_⟩:=(show bQ X.prog X.w N s3.heap f _ from I3.bu f _ f1);refine XZ (wpAny_Expr_any (Py (X:=(zT X [cn,cau,en,mk] fn st fr g M N)) (i:=0) I3 rfl (.inl l0) rfl hof rfl (wpAny_call (Yr (IQ LS hp I3.PB hr1.hd hr1.depth Fl (Cl1.keep λb o n e=>⟨I3.base.any e n (λz=>nomatch z),n⟩) hb ht) λr Y O=>?_)) n0 n0') I3.quiet (sw3 _));cases r with
  | error e=>exact O
  | ok fl=>
   cases fl with
   | ret u=>
    obtain⟨v,l,I',_,q⟩:=I3.after O;exact YS ⟨rfl,l,I',v,q⟩
   | next=>exact False.elim O
   | brk=>exact False.elim O
   | cont=>exact False.elim O
 have hz:∀b,s3.heap.get? b=none->M.heap.get? b=none:=λb hb=>by
  cases q:M.heap.get? b with
  | none=>rfl
  | some o=>obtain⟨o',e⟩:=I3.base.there b o q (λz=>nomatch z);rw[hb] at e;cases e
 have hrl:∀(q:Str)(P:Value),dh k ((zT X [cn,cau,en,mk] fn st fr g M N).A.deeper (envX q scope s3.heap.objs.size f P (gR X.env scope.names []))):=λq P=>hr1.deeper _;unfold eZ at ee;cases O:x (eV caps δ) h with
 | some p=>
  obtain⟨c,h1⟩:=p;rw[O] at ee;dsimp only at ee
  by_cases hc:c∈cls
  ·rw[V1 hc] at ee;obtain⟨⟨d4,h5⟩,e4,e6⟩:=bq ee;obtain⟨D,bm,bmC,mD,gD,hob,Po,hb2⟩:=(hC c hc).ex;refine XZ (G1 (X:=(zT X [cn,cau,en,mk] fn st fr g M N)) (rest:=X.stack) (L:=M.heap.objs.size) (E1:=λC _ l=>∃G,X.mg c=some C/\dG ρ N G l/\bT X.K G h1 l) (Qn:=λl=>∃v:V,(λ_ _=>False:VK) v l) I3 rfl rfl Sc.nd rfl rfl l1 l2 lg hms (sw2 _) n2 n2'
    (run (t:=λσ H _=>Sv X.K X.mg (λC _ l=>∃G,X.mg c=some C/\dG ρ N G l/\bT X.K G h1 l) x σ H) (Qn:=λ_ _=>False) (E1:=(λC _ l=>∃G,X.mg c=some C/\dG ρ N G l/\bT X.K G h1 l)) (λq P=>hx q P f _ _ _ s3 N _ (hrl q P)) ⟨ρ,_,h,c,h1,R1,S1,O,λC G l m T S=>⟨G,m,T,S⟩⟩) (λC l hh=>?_) hz (λs4 Z _ hh=>?_) λs4 Z y D4 I4 hh hn=>?_)
   ·obtain⟨G,m,_⟩:=hh;rw[mD] at m;cases m;exact⟨D,bm,bmC,rfl,hob,Po,hb2⟩
   ·obtain⟨_,q⟩:=hh;exact q.elim
   ·obtain⟨G,m,T,S4⟩:=hh;rw[mD] at m;cases m;have S5:bT X.K (G.more y) (h1++[.exc c]) (upd Z y (.El λ_ h=>BH h y D)):=S4.made hn ⟨D,gD,aP⟩;refine WA (tl I4 (ρ4:=G.more y) (δ4:=[none,some (.ob h1.length),none,none]) ⟨rfl,λi d hd=>?_⟩ S5 e4 λv l pp=>?_) (λ_ _ q=>q) λ_ _ q=>q
    ·match i,hd with
     | 0,hd=>cases hd
     | 1,hd=>cases hd;exact⟨.ref y,rfl,.ob (by show(G.ob++[y])[h1.length]?=_;rw[<-S4.len];simp)⟩
     | 2,hd=>cases hd
     | 3,hd=>cases hd
     | _+4,hd=>cases hd
    ·obtain⟨ρ6,T6,S6,r6⟩:=pp;have p2:dB X.K G Z h5 d4 v l:=⟨ρ6,(dG.made S4 hn).trans T6,S6,r6⟩;obtain⟨ρ7,T7,S7,r7⟩:=p2.leave S4 e6;exact kq v l ⟨ρ7,(T1.trans T).trans T7,S7,r7⟩
  ·rw[V4 hc] at ee;cases ee
 | none=>
  rw[O] at ee;dsimp only at ee;obtain⟨⟨d1,h1⟩,e1,e2⟩:=bq ee;obtain⟨⟨d4,h5⟩,e4,e6⟩:=bq e2;refine XZ (G1 (X:=(zT X [cn,cau,en,mk] fn st fr g M N)) (rest:=X.stack) (L:=M.heap.objs.size) (E1:=λ_ _ _=>False) (Qn:=λl=>∃v:V,dB X.K ρ N h1 d1 v l) I3 rfl rfl Sc.nd rfl rfl l1 l2 lg hms (sw2 _) n2 n2'
    (run (t:=tM X.K m) (Qn:=dB X.K ρ N h1 d1) (E1:=λ_ _ _=>False) (λq P=>hm q P f _ _ _ s3 N _ (hrl q P)) ⟨ρ,_,h,d1,h1,R1,S1,e1,λv l p=>p⟩) (λC l hh=>hh.elim) hz (λs4 Z I4 hh=>?_) λs4 Z y D4 I4 hh hn=>hh.elim)
  obtain⟨v0,G,T,S4,r0⟩:=hh;refine WA (tl I4 (ρ4:=G) (δ4:=[none,some .cu,none,none]) ⟨rfl,λi d hd=>?_⟩ S4 e4 λv l pp=>?_) (λ_ _ q=>q) λ_ _ q=>q
  ·match i,hd with
   | 0,hd=>cases hd
   | 1,hd=>cases hd;exact⟨.cu,rfl,.cu⟩
   | 2,hd=>cases hd
   | 3,hd=>cases hd
   | _+4,hd=>cases hd
  ·obtain⟨ρ7,T7,S7,r7⟩:=dB.leave S4 pp e6;exact kq v l ⟨ρ7,(T1.trans T).trans T7,S7,r7⟩
end
structure EX(K:Frag)(mg:Str->Option Value)(tb:List (Str×List Str))(ns:List Str):Prop where
 own:∀c as,tb.lookup c=some as->∃D,mg c=some (.ref D)/\Pq K c=some (.ref D)/\XQ K D/\(clsIn K D).isSome=true/\(∀n∈ns,∃N,mg n=some (.ref N)/\kitOne K (.ref D) (.ref N)=some (decide (n∈as)))/\kitOne K (.ref D) (.type "ValueError")=some true
noncomputable def qx(tb:List (Str×List Str))(n:Str)(m:EM):EM:=λa h=>(m a h).bind λp=>match p.1 with
 | .ob k=>match p.2[k]? with
  | some (.exc c)=>(tb.lookup c).map λas=>(.bl (decide (n∈as)),p.2)
  | _=>none
 | _=>none
section
variable {X:Cx} {a b:Expr} {m:EM} {tb:List (Str×List Str)} {ns:List Str} {n:Str} {pn pb pos:Pos}
def Pm{d:Ad}{H:Hp}{h:MH}{k:Nat}{c:Str}{v:V}(S:bT X.K d h H)(r:Rep X.K d H v (.ob k))(e:h[k]?=some (.exc c)):∃x C,v=.ref x/\Pq X.K c=some (.ref C)/\H x=some (.El λ_ h=>BH h x C):=by
 cases r with
 | ob f=>
  obtain⟨C,g,x⟩:=S.at_ _ _ _ f e;exact⟨_,C,rfl,g,x⟩
def JH:fE X (.builtin "isinstance") (λf H Q=>∃x D d b,f=[.ref x,d]/\H x=some (.El λ_ h=>BH h x D)/\XQ X.K D/\(clsIn X.K D).isSome=true/\(∀u,RelV d u->kitOne X.K (.ref D) u=some b)/\Q (.bl b) H):=by
 rintro pins s σ H f us Q I r ⟨x,D,d,b,e,l,g,c,p,q⟩;subst e;obtain⟨u1,u2,rfl,k,j⟩:=Vals.two r;obtain rfl:u1=Value.ref x:=k;obtain⟨⟨o,v,t⟩,_,_⟩:=(show bQ X.prog X.w H s.heap x _ from I.bu x _ l);exact CY g c I.rK ⟨o,v,t⟩ (p u2 j) λi=>⟨.bl _,H,I.tok i,rfl,q⟩
def wR{cv:V}(I:SE X a m)(G:PE X b (tC cv))(E:∀c as,tb.lookup c=some as->∃D,Pq X.K c=some (.ref D)/\XQ X.K D/\(clsIn X.K D).isSome=true/\∀u,RelV cv u->kitOne X.K (.ref D) u=some (decide (n∈as)))
  (F:Gl X "isinstance") (hm:X.mg "isinstance"=none) (q:starEach [a,b] X.env=(false,eval a X.env)::starEach [b] X.env) (l:starEach [b] X.env=[(false,eval b X.env)]) (j:(backTo pos (starEach [b] X.env)).any (·.1)=false):
  SE X (.Call (.Name "isinstance" pn) [a,b] [] pos) (qx tb n m):=
 (uy (JH (X:=X)) F hm boot_isinstance (om I (om G yR l) q) (by decide) (by decide) q j).imp λσ H Q u9=>by
  obtain⟨t,w,h,d,U,R,S,M,z⟩:=u9;obtain⟨⟨d1,J⟩,P,e⟩:=bq M;cases d1 with
  | ob k=>
   dsimp only at e;cases i:J[k]? with
   | none=>rw[i] at e;cases e
   | some o=>
    rw[i] at e;cases o with
    | exc c=>
     obtain⟨as,O,N⟩:=gL e;cases N;obtain⟨D,L,y,p,f⟩:=E c as O;refine⟨t,w,h,.ob k,_,R,S,P,λv H1 u9=>?_⟩;obtain⟨g,T,s,rv⟩:=u9;obtain⟨x,C,rfl,r,A⟩:=Pm s rv i;rw[L] at r;cases r;exact⟨x,D,cv,_,rfl,A,y,p,f,z _ _ ⟨g,T,s,.bl _⟩⟩
    | _=>cases e
  | _=>cases e
def NS(E:EX X.K X.mg tb ns)(t:SE X a m)(v:∃c as,tb.lookup c=some as)(hn:n∈ns)(g:Gl X n)(r:Gl X "isinstance")(hm:X.mg "isinstance"=none)(hd:(n==("__debug__":Str))=false)(s:starEach [a,.Name n pb] X.env=(false,eval a X.env)::starEach [.Name n pb] X.env)(h:starEach [.Name n pb] X.env=[(false,eval (.Name n pb) X.env)])
  (f:(backTo pos (starEach [.Name n pb] X.env)).any (·.1)=false):SE X (.Call (.Name "isinstance" pn) [a,.Name n pb] [] pos) (qx tb n m):=by
 obtain⟨y,k,x⟩:=v;obtain⟨_,_,_,_,_,j,_⟩:=E.own y k x;obtain⟨N,l,_⟩:=j n hn;refine wR (cv:=.ref N) t (DV g l rfl hd) (λc as e=>?_) r hm s h f;obtain⟨D,mD,w,o,i,j,_⟩:=E.own c as e;obtain⟨z,d,q⟩:=j n hn;rw[l] at d;cases d;exact⟨D,w,o,i,λu p=>by cases(show u=Value.ref N from p);exact q⟩
def KN(E:EX X.K X.mg tb ns)(p:SE X a m)(l:∀c as,tb.lookup c=some as->decide (("ValueError":Str)∈as)=true)(g:Gl X "ValueError")(f:X.mg "ValueError"=none)(o:Gl X "isinstance")(hm:X.mg "isinstance"=none)
  (he:starEach [a,.Name "ValueError" pb] X.env=(false,eval a X.env)::starEach [.Name "ValueError" pb] X.env) (h:starEach [.Name "ValueError" pb] X.env=[(false,eval (.Name "ValueError" pb) X.env)])
  (d:(backTo pos (starEach [.Name "ValueError" pb] X.env)).any (·.1)=false):SE X (.Call (.Name "isinstance" pn) [a,.Name "ValueError" pb] [] pos) (qx tb "ValueError" m):=by
 refine wR (cv:=.ty "ValueError") p (DX g f (u:=.type "ValueError") (by ac_nf) rfl) (λc as e=>?_) o hm he h d;obtain⟨D,mD,r,j,i,_,q⟩:=E.own c as e;exact⟨D,r,j,i,λu k=>by cases(show u=Value.type "ValueError" from k);rw[l c as e];exact q⟩
end
def D7:Mr:=λd c h=>match c with
 | [x]=>(fZ d h).bind λa=>(DQ h x).bind λp=>(kl a).bind λbs=>if p.depth<=60/\PyData.depthAll bs<=60 then some (D.int (Int.ofNat (bs.countP λb=>PyData.eqv b p)),h) else none
 | _=>none
def Gh{h:Heap}{f:Value->Bool}{p:PyData}:∀{us:List Value} {a:List PyData} {as:List Addr},ReadsAll h us a as->(∀u d as,u∈us->Reads h u d as->d∈a->f u=PyData.eqv d p)->us.countP f=a.countP λb=>PyData.eqv b p:=by
 intro us
 induction us with
 | nil=>intro a as r _;cases r;rfl
 | cons v us e=>
  intro a as r c;cases r with | cons r l=>
  rw[List.countP_cons,List.countP_cons,c _ _ _ V3 r V3,e l λu d as g hr hd=>c u d as (V5 _ g) hr (V5 _ hd)]
def FE{X:Cx}(hu:X.A.units+64 < cLine):Qw X "list.count" (rM X.K D7):=by
 intro t s σ H x xs v us Q I J rs hh;obtain⟨ρ,h,d,ds,z,h',S,rd,l,b,k⟩:=hh
 match ds,l,b with
 | [],_,b=>exact ck b
 | _::_::_,_,b=>exact ck b
 | [y],l,b=>
  obtain⟨ys,e1,e2⟩:=bq b;obtain⟨p,e3,Z⟩:=bq e2;obtain⟨bs,Y,i⟩:=bq Z
  by_cases w:p.depth<=60/\PyData.depthAll bs<=60
  ·rw[V1 w] at i;cases i;obtain⟨a,vs,rfl,U,R⟩:=dD S rd e1;obtain rfl:v=Value.ref a:=J;obtain⟨yv,rfl,G⟩:=rep1 l;obtain⟨u,rfl,L⟩:=Vals.one rs;obtain⟨O,c1⟩:=og S G e3;obtain⟨N,m⟩:=R.vN Y;obtain⟨as,M⟩:=O.reads I L;obtain⟨c,rv,pl,hz⟩:=I.list (.inl (.inl U));obtain⟨bs',r⟩:=N.reads I rv;have hj:=Gh (f:=Em s.heap p) r λu d as _ hr hd=>qu hr (cM m hd);have j:∀y,y∈c.toArray->PySem.SeqAt.EqAt X.A.in1 s y u (Em s.heap p y):=by
    intro y T;obtain⟨d,q,hr,hd⟩:=lG r y (by simpa using T);rw[qu hr (cM m hd)];refine YK d p _ s y u q as hr M (cM m hd) c1 ?_;have h1:=lR hd;have h2:min d.depth p.depth<=d.depth:=Yh _ _;show X.A.units+1+min d.depth p.depth < cLine;have h3:=w.2
    lia
   obtain⟨o,n,g,o1,E,C⟩:=pl;obtain⟨oc,od,P,os⟩:=o;dsimp only at o1 E C;subst o1 E C;refine ZA Aac ⟨_,g,rfl⟩ PySem.F.entry_list_count (PySem.F.args_list_count_2 _ _)
    (PySem.SeqAt.list_countAt a c.toArray n none os u (Em s.heap p)) ⟨g,j,?_⟩
   exact⟨.int _,H,I.kept (t':=s.toks+1) λ_ _ e=>e,⟨s.toks,by rw[<-hj];rfl⟩,k _ _ (.here S (.int _))⟩
  ·rw[V4 w] at i;cases i
end Sm
namespace Hd
open PySem.W PyProof.Rows L2 Sm
section
variable {h:Heap}
def O0{ns:Addr}{name:Str}{r:Option Value}(e:xx h ns name=some r):nsIn (aC h) ns name=some r:=by
 unfold xx at e;unfold nsIn
 split at e
 ·rename_i c d g n f a;rw[bN a (iL λb z=>by cases z)];exact e
 ·cases e
def Lv{v:Value}{name:Str}{r:Option Value}(e:kS h name v=some r):ownIn (aC h) name v=some r:=by
 cases v with
 | ref a=>
  unfold kS at e;unfold ownIn;dsimp only at e ⊢
  split at e
  ·rename_i c d i g b;rw[bN b (iL λf z=>by cases z)];exact O0 e
  ·cases e
 | _=>exact e
theorem yc{name:Str}{r:Option Value}:∀{vs:List Value},cV h name vs=some r->alongIn (aC h) name vs=some r
 | [],e=>e
 | c::vs,e=>by
  unfold cV at e;unfold alongIn;cases q:kS h name c with
  | none=>rw[q] at e;cases e
  | some w=>
   rw[q] at e;rw[Lv q];cases w with
   | some v=>exact e
   | none=>exact yc (vs:=vs) e
def sX{c:Str}{C:Addr}{b:ClassData}(e:clsAt h c=some (C,b)):h.nsMap mainGlobals c=some (.ref C)/\∃d a,(aC h).lookup C=some ⟨.type "type",d,.cls b,a⟩:=by
 unfold clsAt at e
 split at e
 ·rename_i k g
  split at e
  ·rename_i d i a f;cases e;exact⟨g,d,a,bN f (iL λj z=>by cases z)⟩
  ·cases e
 ·cases e
def RT{mg:Str->Option Value}{c:Str}{v:Value}(g:h.Ns mainGlobals mg)(e:mg c=some v):Pq (aC h) c=some v:=by
 obtain⟨o,f,i,a,hd,d,hm⟩:=g;unfold Pq;rw[bN a (iL λb z=>by rw[hd] at z;cases z)];dsimp only;rw[hd];dsimp only;rw[<-hm c] at e;unfold nsFind findBy at e;rw[<-Array.find?_toList] at e;rw[show(λe:DictEntry=>e.key.isStr c)=λe=>Value.isStrOf c e.key from funext λx=>by cases x.key <;> rfl] at e;exact e
def zd{o:Obj}(hd:∀b,o.data≠.fields b){a:Addr}{base:Heap}(X:(aC h).In base)(e:h.get? a=some o):base.get? a=some o:=X _ _ (bN e (iL hd))
def D2{base:Heap}(X:(aC h).In base){N:Addr}{m:Str->Option Value}(x:h.Ns N m):base.Ns N m:=by
 obtain⟨o,b,c,a,hd,r⟩:=x;exact⟨o,b,c,zd (λd z=>by rw[hd] at z;cases z) X a,hd,r⟩
def EO{base:Heap}(X:(aC h).In base){a c:List Value}(T:OwnTail h a c):OwnTail base a c:=by
 induction T with
 | base=>exact .base
 | own e hN b _ d=>exact .own (zd (λf z=>by cases z) X e) (D2 X hN) b d
abbrev GZ:List Value:=[.type "ValueError",.type "Exception",.type "BaseException",.type "object"]
section
variable {q:Program} {loose:List Str} {mean:ExcName->Option Value} {mg mb:Str->Option Value} {c:Str}
def DC{base:Heap}(T:Top q loose mean mg mb h)(hs:specOf q c=some ("ValueError.__new__",GZ))(X:(aC h).In base):∃C,Gx mg base c C:=by
 obtain⟨C,O,_⟩:=T.ownAt hs;have O:=O.own;obtain⟨bm,N,nm,f,bs,a,sn,b,o,e,dd,m,l,k,j,i,g,n,hN,d,p⟩:=O.obj;exact⟨C,⟨O.bound,bm,N,nm,f,bs,a,sn,b,o,e,dd,m,l,k,j,i,g,zd (λr z=>by cases z) X n,D2 X hN,d,EO X p⟩⟩
def yE{cs ns:List Str}{tab:List (Option (List (Option Bool)))}(Y:sD h cs ns=tab){i:Nat}(a:cs[i]?=some c){r:List (Option Bool)}(hr:tab[i]?=some (some r)):mz h ns c=some r:=by
 subst Y;unfold sD at hr;rw[Wa,a] at hr;exact Option.some.inj hr
def u9{ns:List Str}{r:List (Option Bool)}(e:mz h ns c=some r):∃C a,clsAt h c=some (C,a)/\cV h "__getattribute__" a.mro=some (some (.builtin "BaseException.__getattribute__"))/\cV h "__getattr__" a.mro=some none/\cV h "__class__" a.mro=some (some (.builtin "object.__class__"))/\
  a.mro.contains (.type "object")=true/\a.mro.contains (.type "BaseException")=true/\a.mro.contains (.type "ValueError")=true/\a.mro.contains (.ref C)=true/\r=ns.map (isAt h a):=by
 unfold mz at e;obtain⟨⟨C,a⟩,d,b⟩:=YH.mp e;dsimp only at b
 split at b
 ·rename_i hh;simp only[Wm] at hh;cases b;exact⟨C,a,d,Xz.mp hh.1.1.1.1.1.1,Xz.mp hh.1.1.1.1.1.2,Xz.mp hh.1.1.1.1.2,hh.1.1.1.2,hh.1.1.2,hh.1.2,hh.2,rfl⟩
 ·cases b
def D3{C:Addr}{a:ClassData}{d:Option Addr}{f:Array (Option Value)}(lk:(aC h).lookup C=some ⟨.type "type",d,.cls a,f⟩){v:Value}{b:Bool}(e:a.mro.contains v=b)(hn:a.mro.contains (.type "object")=true):mroIn (aC h) C v=some b:=by
 have hc:clsIn (aC h) C=some a:=by unfold clsIn;rw[lk]
 unfold mroIn;rw[hc];show(if a.mro.isEmpty then none else some (a.mro.contains v))=some b;rw[V4 (λz=>by rw[List.isEmpty_iff.mp z] at hn;cases hn),e]
def mg_of{mg:Str->Option Value}{n:Str}{v:Value}(g:h.Ns mainGlobals mg)(e:h.nsMap mainGlobals n=some v):mg n=some v:=by
 obtain⟨o,f,i,d,b,_,a⟩:=g;rw[<-a n,<-e];unfold Heap.nsMap;rw[d];dsimp only;rw[b]
def RZ{tb:List (Str×List Str)}{ns:List Str}(T:Top q loose mean mg mb h)(Y:sD h (tb.map (·.1)) ns=tb.map λp=>some (ns.map λn=>some (decide (n∈p.2)))):EX (aC h) mg tb ns:=by
 refine⟨λc as e=>?_⟩;obtain⟨i,o⟩:=Y2 (WI e);have hr:=yE (c:=c) Y (i:=i) (by rw[Wa,o];rfl) (r:=ns.map λn=>some (decide (n∈as))) (by rw[Wa,o];rfl);obtain⟨D,s,hc,a1,a2,a3,b,C,A,x,hn⟩:=u9 hr;obtain⟨g,d,E,lk⟩:=sX hc;have mD:=mg_of T.g g;have j:clsIn (aC h) D=some s:=by unfold clsIn;rw[lk]
 have k:∀{nm:Str} {r:Option Value},cV h nm s.mro=some r->findIn (aC h) (.ref D) nm=some r:=λ{nm r} e=>by
  unfold findIn;dsimp only;rw[lk];exact yc e
 refine⟨D,mD,RT T.g mD,⟨k a1,k a2,k a3,D3 lk b b,D3 lk C b⟩,by rw[j];rfl,λn f=>?_,?_⟩
 ·have v:=List.map_inj_left.mp hn n f;obtain⟨⟨N,m⟩,w,l⟩:=Wl.mp v.symm;obtain⟨gN,F,u,a⟩:=sX w;refine⟨N,mg_of T.g gN,?_⟩;dsimp only at l;unfold kitOne
  by_cases z:N=D
  ·subst z;rw[V1 (by simp),<-l,x]
  ·rw[V4 (by simpa using λy=>z y.symm)];unfold kitCls;dsimp only;rw[V1 (by
    have:clsIn (aC h) N=some m:=by unfold clsIn;rw[a]
    have t:typeIn (aC h) (.ref N)=some (.type "type"):=by unfold typeIn;dsimp only;rw[a];rfl
    rw[this,t];rfl)]
   rw[<-l];exact D3 lk rfl b
 ·unfold kitOne;rw[V4 (by simp)];unfold kitCls;dsimp only;rw[V1 (by decide+kernel)];exact D3 lk A b
def QA{tb:List (Str×List Str)}{ns:List Str}{i1 i2:String}{E:Addr}(T:Top q loose mean mg mb h)(Y:sD h (tb.map (·.1)) ns=tb.map λp=>some (ns.map λn=>some (decide (n∈p.2))))(t:mg "StuckError"=some (.ref E))(hS:specOf q "StuckError"=some (i2,GZ))(hn:("StuckError":Str)∈ns)
  (hs:specOf q c=some (i1,GZ)) (he:∃as,tb.lookup c=some as/\("StuckError":Str)∈as):XC (aC h) mg E c:=by
 obtain⟨as,e,hm⟩:=he;obtain⟨i,v⟩:=Y2 (WI e);have hr:=yE (c:=c) Y (i:=i) (by rw[Wa,v];rfl) (r:=ns.map λn=>some (decide (n∈as))) (by rw[Wa,v];rfl);obtain⟨D,cd,hc,_,_,_,_,b2,_,_,j⟩:=u9 hr;obtain⟨g,d,sl,lk⟩:=sX hc;have mD:=mg_of T.g g;have hx:=List.map_inj_left.mp j _ hn;obtain⟨⟨N,cdN⟩,e1,w⟩:=Wl.mp hx.symm;obtain⟨gN,_⟩:=sX e1;have u:=mg_of T.g gN;rw[t] at u;cases u;obtain⟨C1,C,_⟩:=T.ownAt hs;obtain⟨C2,A,_⟩:=T.ownAt hS;have o:=C.bound;rw[mD] at o;cases o;have m:=A.bound;rw[t] at m;cases m;obtain⟨f,N1,L,q1,bs1,hd1,G,I,ab1,y,dd1,k10,k11,k12,k13,k15,O,b,_,_,T1⟩:=C.obj;obtain⟨l,N2,J,q2,bs2,hd2,F,H,ab2,x,dd2,Z,U,S,R,Q,M,k,_,_,T2⟩:=A.obj;have a:=bN b (iL λs z=>by cases z);have P:=bN k (iL λs z=>by cases z);rw[lk] at a;refine⟨D,f,l,mD,RT T.g mD,λh' X=>⟨⟨_,_,_,_,_,_,_,_,_,_,_,_,_,_,_,_,X _ _ (bN b (iL λs z=>by cases z))⟩,⟨_,_,_,_,_,_,_,_,_,_,_,_,_,_,_,_,X _ _ P⟩⟩,T2.tail.hasType (by decide),?_⟩;have ec:cd.mro=.ref D::f:=by injection a with a;injection a with _ _ a _;injection a with a;rw[a]
 rw[<-ec];dsimp only at w;rw[w];exact WB hm
def D9{n:Str}{st:Stmt}{f:Addr}{E:FuncData}(T:Top q loose mean mg mb h)(e:(recsOf q).find? (λe=>e.name==n)=some (n6 n st))(F:vO (aC h) n n st f E)(m:mg n=some (.ref f)):∃P,GA (aC h) mg E.code P:=by
 obtain⟨a,o,R,c,P,r,N,hd,w,O,ht⟩:=T.tab _ (Z3 e);have r:mg n=some (.ref a):=r;rw[m] at r;cases r;obtain⟨oc,od,kV,doc,pm,an,cdv,ct,L,rfl,lk,_⟩:=F.ex;have i:=bN N (iL λp z=>by rw[hd] at z;cases z);rw[lk] at i;cases i;cases hd;obtain⟨A,p,k,J,b,I,u,d,tt,op,t,l,Z,Y,X,U,S,_,_,_,y⟩:=O;obtain⟨⟨M,H,s,j,C,x⟩,Q⟩:=ht;rw[t] at s;cases s;rw[l] at C;cases C;obtain⟨bm,ob,b1,b2,b3,b4,b5,G⟩:=T.bmain;refine⟨P,⟨c,A,p,k,J,b,I,u,d,tt,w,bN t (Ja l x),j,l,x,Z,Y,X,U,S,y⟩,?_,⟨bm,ob,b1,b2,bN b3 (iL λp z=>by rw[G] at z;cases z),b4,b5,G⟩⟩;have v:.ref P∈BP h:=by
  refine XU.mpr ⟨c,XT.mpr (V8 t),?_⟩;obtain⟨k0,k1,k2,k3⟩:=A;dsimp only at j l;subst j l;simp[sW,t,x,Q,m9]
 unfold aC;have hs:((wz h).lookup mainGlobals).isSome=true:=by
  obtain⟨o,es,ep,s,j,_⟩:=T.g;rw[<-lN,bN s (iL λp z=>by rw[j] at z;cases z)];rfl
 rw[V1 hs];exact⟨_,Wf _ (Wg.mpr rfl),by simpa using v⟩
end
end
section
variable {h h':Heap}
def IE(k:Sub h h'){n:Str}{v:Value}(e:h.nsMap mainGlobals n=some v):h'.nsMap mainGlobals n=some v:=by
 unfold Heap.nsMap at e ⊢
 split at e
 ·rename_i o a;rw[k _ _ a];exact e
 ·cases e
def Bm(k:Sub h h'){c:Str}{p:Addr×ClassData}(e:clsAt h c=some p):clsAt h' c=some p:=by
 unfold clsAt at e ⊢
 split at e
 ·rename_i i b;rw[IE k b];dsimp only
  split at e
  ·rename_i d f g a;rw[k _ _ a];exact e
  ·cases e
 ·cases e
def Fu(k:Sub h h'){ns:Addr}{name:Str}{r:Option Value}(e:xx h ns name=some r):xx h' ns name=some r:=by
 unfold xx at e ⊢
 split at e
 ·rename_i c d f n b a;rw[k _ _ a];exact e
 ·cases e
def Iq(k:Sub h h'){v:Value}{name:Str}{r:Option Value}(e:kS h name v=some r):kS h' name v=some r:=by
 cases v with
 | ref a=>
  unfold kS at e ⊢;dsimp only at e ⊢
  split at e
  ·rename_i c d g f b;rw[k _ _ b];exact Fu k e
  ·cases e
 | _=>exact e
theorem jS(k:Sub h h'){name:Str}{r:Option Value}:∀{vs:List Value},cV h name vs=some r->cV h' name vs=some r
 | [],e=>e
 | c::vs,e=>by
  unfold cV at e ⊢;cases q:kS h name c with
  | none=>rw[q] at e;cases e
  | some w=>
   rw[q] at e;rw[Iq k q];cases w with
   | some v=>exact e
   | none=>exact jS k (vs:=vs) e
def Hw(k:Sub h h'){ns:List Str}{c:Str}{bs:List Bool}(e:mz h ns c=some (bs.map some)):mz h' ns c=some (bs.map some):=by
 obtain⟨C,d,hc,a1,a2,a3,m,l,j,i,hn⟩:=u9 e;unfold mz;rw[Bm k hc];show(if _ then some (ns.map (isAt h' d)) else none)=_;rw[V1 (by rw[jS k a1,jS k a2,jS k a3,m,l,j,i];rfl)];congr 1;rw[hn];refine List.map_congr_left λn a=>?_;have:∃b,isAt h d n=some b:=by
  have:isAt h d n∈bs.map some:=by rw[hn];exact Yz a
  obtain⟨b,_,e⟩:=Ww.mp this;exact⟨b,e.symm⟩
 obtain⟨b,f⟩:=this;unfold isAt at f ⊢;obtain⟨p,g,o⟩:=Wl.mp f;rw[g,Bm k g]
abbrev Bf(tb:List (Str×List Str))(ns:List Str):List (Option (List (Option Bool))):=tb.map λp=>some (ns.map λn=>some (decide (n∈p.2)))
theorem xR(k:Sub h h'){ns:List Str}:∀{tb:List (Str×List Str)},sD h (tb.map (·.1)) ns=Bf tb ns->sD h' (tb.map (·.1)) ns=Bf tb ns
 | [],_=>rfl
 | p::tb,e=>by
  obtain⟨a,b⟩:=List.cons.inj (show mz h ns p.1::sD h (tb.map (·.1)) ns=some (ns.map λn=>some (decide (n∈p.2)))::Bf tb ns from e);have a:mz h ns p.1=some ((ns.map λn=>decide (n∈p.2)).map some):=by rw[a,Xh];rfl
  show mz h' ns p.1::sD h' (tb.map (·.1)) ns=_;rw[xR k b,Hw k a,Xh];rfl
end
structure Dx(P:Program)(w:World)(K:FR)(mg:Str->Option Value)(base:Heap)(nm:Str)(k:Nat)(ps:List Str)(n:Nat)(F:Xn):Prop where
 ex:∃(f:Addr)(fd:FuncData),fT P w K mg base (jB P w) k f fd ps (Q3 K mg n F)/\PySem.W.keepIn K (.ref f)=true/\Binds K fd ps []/\mg nm=some (.ref f)
def D5{q:Program}{a:List Str}{c:ExcName->Option Value}{mg g:Str->Option Value}{h base:Heap}{P:Program}{w:World}{n:Str}{st:Stmt}{k N:Nat}{d:List Str}{F:Xn}(T:Top q a c mg g h)(e:(recsOf q).find? (λe=>e.name==n)=some (n6 n st))
  (ok:∀{f:Addr} {b:FuncData},vO (aC h) n n st f b->fT P w (aC h) mg base (jB P w) k f b d (Q3 (aC h) mg N F)) (i:∀{f:Addr} {b:FuncData},vO (aC h) n n st f b->Binds (aC h) b d []:=by walk_at "b"):Dx P w (aC h) mg base n k d N F:=by
 obtain⟨f,b,m,Fn⟩:=Eg T e;exact⟨f,b,ok Fn,Fn.kp,i Fn,m⟩
end Hd
namespace Sm
open L2 PySem.W PySem.Calls PyProof.Rows
section
variable {X:Cx} {E:XK} {e:Expr} {es:List Expr} {m:AM} {nm:Str} {k k' n:Nat} {ps:List Str} {F:Xn} {p pos:Pos}
def Qz(d:Hd.Dx X.prog X.w X.K X.mg X.base nm k ps n F)(hr:dh k' X.A)(hp:Passes (jB X.prog X.w) X E)(l:SA X (e::es) m)(h:k<=k':=by decide)(hl:lz m n:=by repeat(first | exact aL | refine ai ?_))(i:Gl X nm:=by unfold Gl;ac_nf)(b:(nm==("__debug__":Str))=false:=by ac_nf)(j:starEach (e::es) X.env=(false,eval e X.env)::starEach es X.env:=by ac_nf)(a:(backTo pos (starEach es X.env)).any (·.1)=false:=by ac_nf):
  XE X E (.Call (.Name nm p) (e::es) [] pos) (Ki F m):=by
 obtain⟨f,q,G,g,o,c⟩:=d.ex;exact Kt G hp (hr.mono h) i c g o l hl b j a
end
def Na{X:Cx}{E:XK}{e a:Expr}{b:Pos}{x:XM}{g:GM}(f:XE X E e x)(d:SG X a g)(hs:swapsWithSole [a] e b.line X.env=pure false:=by ac_nf)(c:swappedStores [a] e X.env=pure none:=by ac_nf)(h:(assignEach [a] X.env).map (·.2)=[assign a X.env]:=by ac_nf):XS X E (.Assign [a] e b) x:=Nb f hs c h d
section
variable {P:Program} {w:World} {K:FR} {mg:Str->Option Value} {base:Heap} {N:List Str} {qual:Str} {scope:Scope} {f:Addr} {cd:Value} {A:Around} {outer:List Env} {s₀:Shared} {H₀:Hp} {E:XK} {cl:List (Str×Addr)}
def DY:Passes (jB P w) (L6 (jB P w) P w K mg base N qual scope cl f cd A outer s₀ H₀ E) E:=DZ (fn:=λ_=>false) (cl:=cl)
def Qs{nm:Str}{a:Expr}{np b c:Pos}{e:EM}(O:∃C,Gx mg base nm C)(h:SE (f9 (jB P w) P w K mg base N qual scope f cd A outer s₀ H₀ E) a e)(g:Gl (f9 (jB P w) P w K mg base N qual scope f cd A outer s₀ H₀ E) nm:=by unfold Gl;ac_nf)
  (he:starEach [a] (envOfC qual scope s₀.heap.objs.size f cd)=[(false,eval a (envOfC qual scope s₀.heap.objs.size f cd))]:=by ac_nf) (d:(nm==("__debug__":Str))=false:=by ac_nf):
  XS (f9 (jB P w) P w K mg base N qual scope f cd A outer s₀ H₀ E) E (.Raise (some (.Call (.Name nm np) [a] [] b)) none c) (jC nm (af e aD)):=by
 obtain⟨C,O⟩:=O;exact GN O g h he d
end
section
variable {P:Program} {w:World} {K:FR} {mg:Str->Option Value} {base:Heap} {x qual:Str} {st:Stmt} {f:Addr} {fd:FuncData} {N ps:List Str} {k:Nat} {body:SM}
def Ef(F:vO K x qual st f fd)(z:∃j,GA K mg fd.code j)(L:ax N ps (ah st))(y:∀(a:Value)(A:Around)(outer:List Env)(s:Shared)(H:Hp)(E:XK),(∃j,GA K mg a j)->dh k (A.deeper (envOfC qual (ah st) s.heap.objs.size f a))->Gy (f9 pC P w K mg base N qual (ah st) f a A outer s H E).IF (eQ st) body):
  fT P w K mg base pC (k+1) f fd ps (EV K ps.length (gZ N.length body)):=by
 obtain⟨R,O,kV,J,M,T,a,ct,u,rfl,lk,i⟩:=F.ex;refine I0 lk i L (λt H Q E h=>?_) λA outer s H t Q E hr h=>?_
 ·obtain⟨l,h,m,d,G,S,r,hl,_⟩:=h;rw[r.length];exact hl
 ·obtain⟨l,h,m,d,G,S,r,hl,e,q⟩:=h;refine⟨_,zU.IF (y a A outer s H E z hr),?_⟩;obtain⟨⟨fl,g,C⟩,I,c⟩:=bq e;refine⟨l,entry N.length m,h,fl,g,C,cB.entry N r,S,I,λb X n o=>?_⟩;cases fl with
  | nx=>cases c;exactλp U=>q _ _ ⟨b,n,o,.cu⟩
  | rt d=>cases c;exactλv r=>q _ _ ⟨b,n,o,r⟩
  | bk=>cases c
  | ct=>cases c
end
structure Vi(P:Program)(w:World)(K:Frag)(mg:Str->Option Value)(base:Heap)(fn:Str)(mt:SM)(cls:List Str):Prop where
 ex:∃(fr CS:Addr)(fd:FuncData)(st:Stmt)(cn cau en mk:Str)(tail:List Stmt)(pa pb' pc p1 p2 p3 p4 p5 p6 p7 p8 p9:Pos)(j:Nat),vO K fn fn st fr fd/\ax [cn,cau,en,mk] [cn] (ah st)/\mg fn=some (.ref fr)/\keepIn K (.ref fr)=true/\
  (∀(s:Shared)(u:Value),BindsTo s fd ⟨[u],[]⟩ [(cn,u)])/\
  (eQ st=.Assign [.Name cau pa] (.Constant .none j pb') pc::.Try [.Expr (.Call (.Name cn p1) [] [] p2) p3] [.ExceptHandler (some (.Name "StuckError" p4)) (some en) [.Assign [.Name cau p5] (.Name en p6) p7] p8] [] [] p9::tail)/\
  ((ah st).names.lookup cn=some .local/\(ah st).names.lookup cau=some .local/\(ah st).names.lookup en=some .local/\(ah st).names.lookup ("StuckError":Str)=some .globalImplicit)/\
  (mg "StuckError"=some (.ref CS)/\∀c∈cls,XC K mg CS c)/\
  ((cn==("__debug__":Str))=false/\(cn==("__classdict__":Str))=false/\(en==("__debug__":Str))=false/\(en==("__classdict__":Str))=false)/\
  ((∀env,swapsWith (.Constant .none j pb') (some (.Name cau pa)) pc.line env=pure false)/\(∀env,swapsWith (.Name en p6) (some (.Name cau p5)) p7.line env=pure false)/\(∀env,swapsWith (.Call (.Name cn p1) [] [] p2) none p3.line env=pure false))/\
  (∀(k:Nat)(cdv:Value)(A:Around)(outer:List Env)(s:Shared)(H:Hp)(E:XK),dh k (A.deeper (envOfC fn (ah st) s.heap.objs.size fr cdv))->Gy (f9 pC P w K mg base [cn,cau,en,mk] fn (ah st) fr cdv A outer s H E).IF tail mt)
def Sk(a:FuncData)(h:a.params={posonlyargs:=[],args:=[],vararg:=none,kwonlyargs:=[],kw_defaults:=[],kwarg:=none,defaults:=[]})(b:a.defaults=.none)(h3:a.kwdefaults=.none):bindArgs a ⟨[],[]⟩=pure []:=by
 cases a;dsimp only at h b h3;subst h b h3;rfl
def Q2{X:Cx}{fn:Str}{G:SM}{k I:Nat}{x:XM}{m:EM}{Nl:List Str}{caps:List (Option Nat)}{a:Scope}{params:Arguments}{b:Expr}{h:List Str}{pn c l:Pos}{d:Value}(R:Vi X.prog X.w X.K X.mg X.base fn G h)(hL:∃J,GA X.K X.mg d J)
  (hr:dh I X.A) (hk:k+2<=I) (C:bp X Nl caps a)
  (Z:∀(q:Str)(i:Value)(f:Addr)(cl:List (Str×Addr)) (A:Around) (outer:List Env) (s:Shared) (H:Hp) (E:XK),dh k (A.deeper (envX q a s.heap.objs.size f i cl))->XE (L6 (jB X.prog X.w) X.prog X.w X.K X.mg X.base Nl q a cl f i A outer s H E) E b x)
  (hm:∀(q:Str)(i:Value)(f:Addr)(cl:List (Str×Addr)) (A:Around) (outer:List Env) (s:Shared) (H:Hp) (E:XK),dh k (A.deeper (envX q a s.heap.objs.size f i cl))->SE (L6 (jB X.prog X.w) X.prog X.w X.K X.mg X.base Nl q a cl f i A outer s H E) b m)
  (y:X.env.code=d:=by ac_nf) (hd:defaultsOf params X.env=([],[]):=by ac_nf) (hp:∀g:FuncData,g.params=params->g.defaults=.none->g.kwdefaults=.none->bindArgs g ⟨[],[]⟩=pure []:=by exact Sk)
  (LS:vH Nl a:=by exact⟨rfl,rfl,rfl,by decide+kernel⟩) (hg:Gl X fn:=by unfold Gl;ac_nf) (v:(fn==("__debug__":Str))=false:=by ac_nf) (p:starEach [.Lambda params b a c] X.env=[(false,eval (.Lambda params b a c) X.env)]:=by ac_nf):
  SE X (.Call (.Name fn pn) [.Lambda params b a c] [] l) (eZ h caps G x m):=by
 obtain⟨fr,CS,g,st,cn,cau,en,mk,z,pa,P,pc,p1,p2,p3,p4,p5,p6,p7,p8,p9,j,F,Sc,t,u,hb,e,⟨Y,U,T,S⟩,⟨r,hC⟩,⟨Q,o,n2,n⟩,⟨O,N,M⟩,ht⟩:=R.ex;obtain⟨J,L⟩:=hL;rw[<-y] at L;exact BY F Sc t u hb e Y U T S r hC Q o n2 n O N M (λd A outer s H E hr=>ht _ d A outer s H E hr) (hr.mono hk) L hd hp LS C Z hm hg v p
section
variable {X:Cx} {a:Expr} {m:EM} {tb:List (Str×List Str)} {ns:List Str} {n:Str} {pn pb pos:Pos}
def Hh(E:EX X.K X.mg tb ns)(hm:X.mg "isinstance"=none)(f:SE X a m)(g:tb.isEmpty=false:=by ac_nf)(hn:n∈ns:=by decide+kernel)(c:Gl X n:=by unfold Gl;ac_nf)(e:Gl X "isinstance":=by unfold Gl;ac_nf)(hd:(n==("__debug__":Str))=false:=by ac_nf)
  (he:starEach [a,.Name n pb] X.env=(false,eval a X.env)::starEach [.Name n pb] X.env:=by ac_nf) (d:starEach [.Name n pb] X.env=[(false,eval (.Name n pb) X.env)]:=by ac_nf) (b:(backTo pos (starEach [.Name n pb] X.env)).any (·.1)=false:=by ac_nf):SE X (.Call (.Name "isinstance" pn) [a,.Name n pb] [] pos) (qx tb n m):=
 NS E f (by cases tb with | nil=>cases g | cons p r=>obtain⟨h,i⟩:=p;exact⟨h,i,by simp[WK]⟩) hn c e hm hd he d b
def Q4(E:EX X.K X.mg tb ns)(hm:X.mg "isinstance"=none)(d:X.mg "ValueError"=none)(i:SE X a m)(g:∀c as,tb.lookup c=some as->decide (("ValueError":Str)∈as)=true)(e:Gl X "ValueError":=by unfold Gl;ac_nf)(h:Gl X "isinstance":=by unfold Gl;ac_nf)
  (he:starEach [a,.Name "ValueError" pb] X.env=(false,eval a X.env)::starEach [.Name "ValueError" pb] X.env:=by ac_nf) (f:starEach [.Name "ValueError" pb] X.env=[(false,eval (.Name "ValueError" pb) X.env)]:=by ac_nf) (b:(backTo pos (starEach [.Name "ValueError" pb] X.env)).any (·.1)=false:=by ac_nf):
  SE X (.Call (.Name "isinstance" pn) [a,.Name "ValueError" pb] [] pos) (qx tb "ValueError" m):=KN E i g e d h hm he f b
def Vu(h:tb.all (λp=>decide (("ValueError":Str)∈p.2))=true):∀c as,tb.lookup c=some as->decide (("ValueError":Str)∈as)=true:=λc as e=>WX.mp h _ (WI e)
end
end Sm
namespace Hd
open PySem.W PyProof.Rows L2 Sm
def Ue{q:Program}{a:List Str}{b:ExcName->Option Value}{mg i:Str->Option Value}{h:Heap}{tb:List (Str×List Str)}{ns e:List Str}(T:Top q a b mg i h)(Y:sD h (tb.map (·.1)) ns=Bf tb ns)(g:specOf q "StuckError"=some ("ValueError.__new__",GZ))(hn:("StuckError":Str)∈ns)
  (hc:∀c∈e,specOf q c=some ("ValueError.__new__",GZ)/\∃as,tb.lookup c=some as/\("StuckError":Str)∈as):∃f,mg "StuckError"=some (.ref f)/\∀c∈e,XC (aC h) mg f c:=by
 obtain⟨f,O,_⟩:=T.ownAt g;exact⟨f,O.bound,λc d=>QA T Y O.bound g hn (hc c d).1 (hc c d).2⟩
end Hd
namespace Sb
open L2 PyProof.Rows
open Sem (wp)
section
variable {prog:Program} {w:World} {A:Around} {R:Result->Shared->Prop} {I:Addr} {fp wr:List Addr} {n:Nat} {P:Nat->Value->Prop} {St:Nat->Heap->Prop} {kw:List (Str×Value)}
def Fz(W:Walks prog w A.in1 I fp wr n P St)(z:Nat->Nat->Bool)(E:CmpOf prog w A.in1 .Gt P z)(S:Addr)(G:S∉fp):
  ∀(k j:Nat)(s:Shared)(p:Value)(c:Nat),n-(j+1)=k->j+1<=n->St (j+1) s.heap->P (argBest z j) p->
  s.heap.get? S=some {cls:=.type "list",dict:=none,data:=.seq #[p,p] c,slots:=#[]}->
  (∀v M J,P (argBest z (n-1)) v->(∀b o,b∉wr->b≠S->s.heap.get? b=some o->M.get? b=some o)->R (.ok (.ret v)) {s with heap:=M,toks:=J})->
  codeAny (model prog w) A (.builtin "max.loop" ⟨[.ref I,.none,.ref S],kw⟩) R s:=by
 have F:S∉wr:=λh=>G (W.sub _ h);have i:(toString "max"++toString ".loop":String)="max.loop":=by decide
 intro k
 induction k with
 | zero=>
  intro j s p c X hj t q H L;have C:j+1=n:=by lia
  refine XJ Z7 ?_;rw[XB X6 _];show wpAny _ A.in1 (seqItems? (.ref S) >>=_) _ _ s;refine VT (Ye H rfl ?_);show wpAny _ A.in1 (tryCatch (pyNext (.ref I)) _ >>=_) _ _ s;refine VT (Zl (W.done s _ _ (C ▸ t) λM J d=>?_));have m:=d S _ F H;show wpAny _ A.in1 (updateSeq S (λ_=>#[]) >>=_) _ _ _;refine VT ?_;refine Aaf m rfl (VT (Zt (VY ?_)));refine L p _ J (by rw[<-C];exact q) λb o a f e=>(Xl _ _ (XX f)).trans (d b o a e)
 | succ k Q=>
  intro j s p c X hj t q H L;have u:j+1 < n:=by lia
  refine XJ Z7 ?_;rw[XB X6 _];show wpAny _ A.in1 (seqItems? (.ref S) >>=_) _ _ s;refine VT (Ye H rfl ?_);show wpAny _ A.in1 (tryCatch (pyNext (.ref I)) _ >>=_) _ _ s;refine VT (Zl (W.item (j+1) s _ _ u t λv M J U r d=>?_));have m:=d S _ F H;show wpAny _ A.in1 (tryCatch (holding [v,v] (richCompare .Gt v p >>=_)) _ >>=_) _ _ _;refine VT (Zl (WE (VT (E (j+1) (argBest z j) v p _ _ _ U q ?_))));refine VT (WE (W7 ?_));refine VT (Zt (VY ?_));cases T:z (j+1) (argBest z j) with
  | true=>
   simp only[Ys];refine VT ?_;refine Aaf m rfl (VT (Zt ?_));rw[i];refine VY ⟨YJ X6 _,Q (j+1) _ v _ (by lia) u (W.frame _ _ _ r λb O o e=>?_) (by simp only[argBest,T,Ys];exact U) (Yt _ m rfl)
    λN y g x l=>?_⟩
   ·exact(Xl _ _ (λh:S=b=>G (by rw[h];exact O))).trans e
   ·exact L N y g x λb o a f e=>l b o a f ((Xl _ _ (XX f)).trans (d b o a e))
  | false=>
   simp only[WH,Xk];refine VT (Zt ?_);rw[i];refine VY ⟨YJ X6 _,Q (j+1) _ p c (by lia) u r (by simp only[argBest,T,WH,Xk];exact q) m λN y g x l=>?_⟩;exact L N y g x λb o a f e=>l b o a f (d b o a e)
def CP(W:Walks prog w A.in1 I fp wr n P St)(E:Nat->Nat->Bool)(p:CmpOf prog w A.in1 .Gt P E)(S:Addr)(i:S∉fp){s:Shared}{c:Nat}{dv:Value}{L:Str}(l:St 0 s.heap)
  (F:s.heap.get? S=some {cls:=.type "list",dict:=none,data:=.seq #[] c,slots:=#[]})
  (G:∀v r t,(0 < n->P (argBest E (n-1)) v)->(n=0->v=dv)->(∀b o,b∉wr->b≠S->s.heap.get? b=some o->r.get? b=some o)->R (.ok (.ret v)) {s with heap:=r,toks:=t}):
  codeAny (model prog w) A (.builtin "max.loop" ⟨[.ref I,.none,.ref S],[(L,dv)]⟩) R s:=by
 have x:S∉wr:=λh=>i (W.sub _ h);have f:(toString "max"++toString ".loop":String)="max.loop":=by decide
 refine XJ Z7 ?_;rw[XB X6 _];show wpAny _ A.in1 (seqItems? (.ref S) >>=_) _ _ s;refine VT (Ye F rfl ?_);show wpAny _ A.in1 (tryCatch (pyNext (.ref I)) _ >>=_) _ _ s
 by_cases hn:0 < n
 ·refine VT (Zl (W.item 0 s _ _ hn l λv r t J k a=>?_));have q:=a S _ x F;show wpAny _ A.in1 (updateSeq S (λ_=>#[v,v]) >>=_) _ _ _;refine VT ?_;refine Aaf q rfl ?_;rw[f];refine VY ⟨YJ X6 _,Fz W E p S i _ 0 _ v _ rfl hn (W.frame _ _ _ k λb u o e=>?_) J (Yt _ q rfl) λH C j y m=>?_⟩
  ·exact(Xl _ _ (λh:S=b=>i (by rw[h];exact u))).trans e
  ·exact G H C j (λ_=>y) (λz=>absurd z (by lia)) λb o d g e=>m b o d g ((Xl _ _ (XX g)).trans (a b o d e))
 ·obtain rfl:n=0:=by lia
  refine VT (Zl (W.done s _ _ l λr t a=>?_));show wpAny _ A.in1 (rule _ >>=_) _ _ _;refine VT (Yq (VY ?_));exact G dv r t (λz=>absurd z (Xs _)) (λ_=>rfl) λb o d g e=>a b o d e
end
theorem rR(val:Nat->Int):∀k,val (argBest (λi j=>decide (val i > val j)) k)=((List.range k).map λi=>val (i+1)).foldl max (val 0)
 | 0=>rfl
 | k+1=>by
  rw[List.range_succ,Wq,ZM,<-rR val k];show val (if decide (val (k+1) > val (argBest _ k))=true then k+1 else argBest _ k)=max (val (argBest _ k)) (val (k+1))
  by_cases z:val (k+1) > val (argBest (λi j=>decide (val i > val j)) k)
  ·rw[V1 (WB z)];lia
  ·rw[V4 (by simpa using z)];lia
noncomputable def ze(d:Int):List Int->Int
 | []=>d
 | n::r=>r.foldl max n
section
variable {prog:Program} {w:World} {A:Around} {E:Value->Shared->Prop} {s:Shared} {l:Addr} {xs:Array (Int×Tok)}
def Gv(a v:Value):argsOk "max" ⟨[a],[(Str.ofString "default",v)]⟩:=by unfold argsOk;ac_nf
def FA{dv:Value}{Q:Value->Shared->Prop}(hh:A.handled=none)(hl:s.heap.IsList l (intItems xs))
  (h:∀v c d,(0 < xs.size->(intItems xs)[argBest (λi j=>decide (numAt xs i > numAt xs j)) (xs.size-1)]?=some v)->(xs.size=0->v=dv)->(∀b o,s.heap.get? b=some o->c.get? b=some o)->Q v {s with heap:=c,toks:=d}):
  wpAny (model prog w) A (call (.builtin "max") [.ref l] [(Str.ofString "default",dv)]) Q E s:=by
 have a:(toString "max"++toString ".loop":String)="max.loop":=by decide
 refine kmk_tree PySem.F.kind_max PySem.F.plain_max PySem.F.entry_max (Gv _ _) ?_;show wpAny _ A.in1 (Builtin.Builtins.bindParams "max" ["key","default"] 0 ⟨[],[(Str.ofString "default",dv)]⟩ >>=_) _ _ s;refine VT (wpAny_of_eq (show Builtin.Builtins.bindParams "max" ["key","default"] 0 ⟨[],[(Str.ofString "default",dv)]⟩=pure [none,some dv] from rfl) ?_);refine VT (VY ?_);refine VT (iter_intList hl λm e st g f=>?_);subst e;refine VT (W2 ?_);have W:=Walks.list (prog:=prog) (w:=w) (A:=A.in1) hh s.heap.objs.size l f (intItems xs);have k:(s.heap.push {cls:=.type "list_iterator",data:=.fields #[.ref l,.int 0 0]}).objs.size∉[s.heap.objs.size,l]:=λhm=>Xs _ (g _ hm);rw[a];have n:(intItems xs).size=xs.size:=by simp[intItems]
 refine VY ⟨YJ X6 _,CP W _ (CmpOf.ints_gt (numAt xs) (λ_ _=>intItems_at)) _ k (W.frame _ _ _ st λb _ o e=>V0 _ e) (Wn _ rfl) λv c d t r p=>?_⟩;refine h v c d (λz=>by simpa [intItems] using t (by simpa [intItems] using z)) (λz=>r (by simpa [intItems] using z)) (old_kept λb o q e=>p b o q (Wk (V8 e)) (V0 _ e))
end
def Me{M:Model}{A:Around}{E:Value->Shared->Prop}{s:Shared}{c:Pos}{T:String}{first:List Value}{args:List (Bool×Sem Value)}{b:List (Option Str×Sem Value)}{Q:Value->Shared->Prop}(d:(args.any (·.1)||b.any (·.1.isNone))=false)
  (h:wpAny M A (evalArgs (.builtin T) true args b) (λa e=>wpAny M A (call (.builtin T) (first++a.pos) a.kw) Q E e) E s):wpAny M A (callWith c (.builtin T) first args b) Q E s:=by
 unfold callWith;refine VT (WE (WA h (λa e f=>VT (W5 ?_)) λ_ _ x=>x));simp only[d];refine VT (VY ?_);exact VT (WA f (λr g hr=>VT (WE (wpAny_point (VY hr)))) λ_ _ x=>x)
def II{ns:List Int}{d:Int}(hn:0 < ns.length)(val:Nat->Int)(a:∀i n,ns[i]?=some n->val i=n):val (argBest (λi j=>decide (val i > val j)) (ns.length-1))=ze d ns:=by
 cases ns with
 | nil=>exact absurd hn (Xs _)
 | cons n r=>
  rw[rR val];show _=r.foldl max n;rw[a 0 n rfl];congr 1;refine ZN λi=>?_;rw[Wa,V9,Nat.add_sub_cancel]
  by_cases z:i < r.length
  ·rw[List.getElem?_range z,V7 z];exact congrArg some (a (i+1) _ (V7 z))
  ·rw[W4 (by rw[Wv];lia),W4 (by lia)];rfl
section
variable {X:Cx}
def Lr{r:TE}{a G:Expr}{p g kp:Pos}{F:TA}(hc:X.calm=true)(U:Gl X "max")(hm:X.mg "max"=none)(Y:PA X [a] F)(T:PE X G r)(hs:starEach [a] X.env=[(false,eval a X.env)]:=by ac_nf):
  PE X (.Call (.Name "max" p) [a] [⟨some "default",G,kp⟩] g) (λm H Q=>F m H λw E=>r m E λd j=>∃l ns i,w=[.ref l]/\gU X.K j l (ns.map V.int)/\d=.int i/\Q (.int (ze i ns)) j):=by
 intro c s m H Q I h;refine Xw (jP I U hm boot_max ?_);refine Me (by rw[hs];rfl) (PyProof.Rows.evalArgs_kw2 rfl (cx (Y g c s m H _ I h) λus s1 ⟨w,E,I1,N,P⟩=>cx (Lk T Ou g c s1 m E (λt j=>match t with | [d]=>∃l ns i,w=[.ref l]/\gU X.K j l (ns.map V.int)/\d=.int i/\Q (.int (ze i ns)) j | _=>False) I1 P) λws s2 ⟨t,j,C,y,O⟩=>?_) hs)
 ·match t,O,y with
  | [d],⟨l,ns,i,e2,S,e3,q⟩,y=>
  subst e2 e3;obtain⟨u,rfl,M⟩:=Vals.one N;obtain rfl:u=Value.ref l:=M;obtain⟨v,rfl,A⟩:=Vals.one y;obtain⟨x,rfl⟩:∃x,v=Value.int i x:=A;obtain⟨R,rv,p,hz⟩:=C.list S;obtain⟨f,rfl,e⟩:=mI rv;have b:f.length=ns.length:=by rw[<-e,VU]
  have o:∀(i:Nat) n,ns[i]?=some n->numAt f.toArray i=n:=λi n J=>by
   unfold numAt;rw[<-e,Wa] at J;rw[Aar,J];rfl
  have Z:s2.heap.IsList l (intItems f.toArray):=by
   have:intItems f.toArray=(f.map λp=>Value.int p.1 p.2).toArray:=by unfold intItems;simp
   rw[this];exact p.isList
  refine FA (xs:=f.toArray) (C.ok.hd hc) Z λv h' r h1 h2 k=>⟨.int (ze i ns),j,C.kept (t':=r) k,?_,q⟩
  by_cases z:0 < ns.length
  ·obtain⟨L,ht⟩:=intItems_at (h1 (by simpa [b] using z));refine⟨L,ht.trans ?_⟩;rw[show f.toArray.size=ns.length by simpa using b,II (d:=i) z _ o]
  ·have hn:ns=[]:=List.length_eq_zero_iff.mp (by lia);subst hn;exact⟨x,h2 (by simpa using b)⟩
end
end Sb
namespace Sm
open L2 PyProof.Rows
def MS(d e:D)(h:MH):Option (D×MH):=(fZ d h).bind λa=>match e with
 | .int i=>(my a).map λns=>(.int (Sb.ze i ns),h)
 | _=>none
def Js(m:AM)(mk:EM):EM:=λa h=>(m a h).bind λp=>match p.1 with
 | [d]=>(mk a p.2).bind λq=>MS d q.1 q.2
 | _=>none
def KL{X:Cx}{a l:Expr}{p f kp:Pos}{m:AM}{mk:EM}(hc:X.calm=true)(F:Gl X "max")(hm:X.mg "max"=none)(g:SA X [a] m)(hl:lz m 1)(E:SE X l mk)(hs:starEach [a] X.env=[(false,eval a X.env)]:=by ac_nf):SE X (.Call (.Name "max" p) [a] [⟨some "default",l,kp⟩] f) (Js m mk):=
 (Sb.Lr hc F hm g E hs).imp λσ H Q u9=>by
  obtain⟨y,j,h,Y,U,R,S,e,k⟩:=u9;obtain⟨⟨r,n⟩,q,i⟩:=bq e;refine⟨y,j,h,r,n,R,S,q,λz b H1 t P c=>?_⟩
  match r,hl _ _ _ _ q,i,c with
  | [d],_,i,c=>
   obtain⟨⟨O,G⟩,N,M⟩:=bq i;obtain⟨v,rfl,rd⟩:=rep1 c;refine⟨b,j,n,O,G,R.mono t.toCh,P,N,λu Z u9=>?_⟩;obtain⟨x,s,w,A⟩:=u9;obtain⟨T,L,o⟩:=bq M;cases A <;> first |(exact ck o) | skip
   obtain⟨ns,J,I⟩:=gL o;cases I;obtain⟨a,z,rfl,g,C⟩:=dD w (rd.mono s.toCh) L;have:=oH J;subst this;have:=mO C;subst this;exact⟨a,ns,_,rfl,gU.of g,rfl,k _ _ (dB.step (t.trans s) (.here w (.int _)))⟩
end Sm
namespace L2
open PyProof.Rows Builtin.Str
end L2
namespace Sm
open L2 PyProof.Rows
end Sm
end
namespace Pg
open PySem Sm L2
abbrev Term:=Str×Int
abbrev Lock:=Str×Term
inductive Row where
 | say (w:Str)
 | call (d:Str) (ts:List Term)
 | within (l:Lock) (b:List Row)
 | all (ls:List Lock) (b:List Row)
 | ask (l:Lock) (b e:List Row)
 | j9 (s t:Term) (a b c:List Row)
 | either (a b:List Row)
 | again (a:List Row)
noncomputable def bC(t:Term):D:=.tup [.str t.1,.int t.2]
def aG(l:Lock):D:=.tup [.str l.1,bC l.2]
mutual
noncomputable def ay:Row->D
 | .say w=>.tup [.str "say",.str w]
 | .call d f=>.tup [.str "call",.str d,.tup (f.map bC)]
 | .within l b=>.tup [.str "within",aG l,.tup (cm b)]
 | .all ls b=>.tup [.str "all",.tup (ls.map aG),.tup (cm b)]
 | .ask l b e=>.tup [.str "ask",aG l,.tup (cm b),.tup (cm e)]
 | .j9 s t a b c=>.tup [.str "by",bC s,bC t,.tup (cm a),.tup (cm b),.tup (cm c)]
 | .either a b=>.tup [.str "either",.tup (cm a),.tup (cm b)]
 | .again a=>.tup [.str "again",.tup (cm a)]
noncomputable def cm:List Row->List D
 | []=>[]
 | r::rs=>ay r::cm rs
end
theorem bA:∀l:List Row,cm l=l.map ay
 | []=>by simp[cm]
 | r::rs=>by simp[cm,bA rs]
mutual
noncomputable def cnt:Row->Nat
 | .say _=>1
 | .call _ _=>1
 | .within _ b=>1+ao b
 | .all _ b=>1+ao b
 | .ask _ b e=>1+ao b+ao e
 | .j9 _ _ a b c=>1+ao a+ao b+ao c
 | .either a b=>1+ao a+ao b
 | .again a=>1+ao a
noncomputable def ao:List Row->Nat
 | []=>0
 | r::rs=>cnt r+ao rs
end
theorem b7:∀a b:List Row,ao (a++b)=ao a+ao b
 | [],b=>by simp[ao]
 | r::a,b=>by simp[ao,b7 a b];lia
theorem oY:∀a:List Row,a.length<=ao a
 | []=>by simp
 | r::a=>by
  have:=oY a;have:1<=cnt r:=by cases r <;> simp[cnt] <;> lia
  simp[ao];lia
structure Wd where
 names:List Str
 ag:List Str
 params:List (List Str)
def cX(a:List Str)(t:Term):Prop:=(t.1=Str.ofString ""\/t.1∈a)/\-99<=t.2/\t.2<=99
def fu(W:Wd)(a:List Str)(l:Lock):Prop:=l.1∈W.names/\cX a l.2
mutual
def aW(W:Wd)(f:List Str):Nat->Row->Prop
 | _,.say w=>w∈W.names++W.ag
 | _,.call d g=>(∃(j:Nat)(h:List Str),W.ag[j]?=some d/\W.params[j]?=some h/\g.length=h.length)/\∀t∈g,cX f t
 | n,.within l b=>fu W f l/\n < 5/\b.length<=12/\ba W f (n+1) b
 | n,.all ls b=>(2<=ls.length/\ls.length<=4/\ls.Nodup/\∀l∈ls,fu W f l)/\n < 5/\b.length<=12/\ba W f (n+1) b
 | n,.ask l b e=>fu W f l/\n < 5/\b.length<=12/\e.length<=12/\ba W f (n+1) b/\ba W f (n+1) e
 | n,.j9 s t a b c=>cX f s/\cX f t/\n < 5/\a.length<=12/\b.length<=12/\c.length<=12/\ba W f (n+1) a/\ba W f (n+1) b/\ba W f (n+1) c
 | n,.either a b=>n < 5/\a.length<=12/\b.length<=12/\ba W f (n+1) a/\ba W f (n+1) b
 | n,.again a=>n < 5/\a.length<=12/\ba W f (n+1) a
def ba(W:Wd)(a:List Str):Nat->List Row->Prop
 | _,[]=>True
 | n,r::rs=>aW W a n r/\ba W a n rs
end
theorem xw{W:Wd}{c:List Str}{n:Nat}:∀{a b:List Row},ba W c n a->ba W c n b->ba W c n (a++b)
 | [],b,_,h=>h
 | r::a,b,h,d=>by
  unfold ba at h;show ba W c n (r::(a++b));unfold ba;exact⟨h.1,xw h.2 d⟩
theorem cU{W:Wd}{c:List Str}{n:Nat}:∀{a:List Row},ba W c n a->∀r∈a,aW W c n r
 | [],_,_,z=>by cases z
 | r::a,h,x,b=>by
  unfold ba at h;rcases Wh.mp b with rfl | b
  ·exact h.1
  ·exact cU h.2 x b
end Pg
set_option hygiene false in
local macro_rules | `(tactic| ac_rfl) => do {let t <- (("|Sm.sv _|Sm.aT|Sm.aq|Sm.aa ? ?|Sm.ae ? ?|Sm.aI ?|Sm.bD ?|Sm.sset _ @ ?|Sm.bK ? ? ?|Sm.bj|Sm.six hr ? ?|Sm.fz @ hr ?|Sm.bZ|Sm.Hn|Sm.MC|Sm.TY ?|Sm.TZ ?|Sm.TX ?|Sm.T8 ?|Sm.TV ?|Sm.stp5 ?|Sm.TU ?|Sm.Q1 ? ? ?|Sm.bH ? ? ?|Sm.bX|Sm.mY hr.units|Sm.CB hr.units|Sm.Iy|Sm.rD|Sm.kT|Sm.AF|Sm.OM|Sm.os_notN|Sm.MN hr.units|Sm.Iw hr.units|Sm.CA|Sm.uE|Sm.Hl Sm.BK ?|Sm.Hm ? ? ?|Sm.DK|Sm.DJ ?|Sm.fK ? ?|Sm.gB rfl ?|Sm.aN ? ?|Sm.eF|Sm.sgn _ @|Sm.lZ Sm.nu B.o5 Sm.ny ?|Sm.NT Sm.jm B.fg Sm.dg ?|Sm.eW ?|Sm.cI ?|Sm.Q9 ? ? ?|Sm.nJ ?|Sm.BZ Sm.kr PySem.F.plainAttrs_list PySem.F.slot_list_append PySem.F.type_list_append Sm.qm ? ?|Sm.se_m0 Sm.kr PySem.F.plainAttrs_list PySem.F.slot_list_pop PySem.F.type_list_pop Sm.mS_pop ?|Sm.tw.lv ?|Sm.tw.ob ?|Sm.Uc ?|Sm.Ub ?|Sm.Ua ?|Sm.sfl3 ?|Sm.sfl4 ?|Sm.sfl5 ?|Sm.sfl6 ?|Sm.sfl7 ?|Sm.T9 ?|Sm.G8 ? ?|Sm.i8 ? ?|Sm.DH ?|Sm.jD ?|Sm.eY PassesOwn.never rfl ? ? ?|Sm.cz ?|Sm.ss_brk|Sm.lZ Sm.PL~rfl B.MZ Sm.P5 ?|Sm.lZ Sm.PJ~rfl B.Sn Sm.P4 ?|Sm.NT Sm.PN B.M0 Sm.JN ?|Sm.lZ Sm.PQ B.So Sm.P6 ?|Sm.Q5 ? ? ?|Sm.SW.st ?".splitOn "|").drop 1).toArray.mapM (λl => do {let x <- (l.splitOn " ").toArray.mapM (λz => if z == "?" then `(?_) else if z == "_" then `(_) else if z == "@" then `(‹_›) else(let y := (z.splitOn "~").toArray.map (λw => (Lean.mkIdent w.toName : Lean.TSyntax `term));pure (Lean.Syntax.mkApp y[0]! (y.extract 1 y.size))));`(Lean.Parser.Tactic.tacticSeq| refine $(Lean.Syntax.mkApp x[0]! (x.extract 1 x.size)) <;> ac_rfl)});`(tactic| with_reducible first $[| $t]*)}
local macro_rules | `(tactic| walk_at "v") => `(tactic|(conv => arg 2;whnf))
local macro_rules | `(tactic| walk_at "u") => `(tactic|(walk_at "v";ac_rfl))
namespace Mi
open PySem L2 Sm PySem.Spec PyProof.Rows
local macro_rules | `(tactic| walk_at "b") => `(tactic| first | exactλF => F.binds λ_ _ _ _ _ _ => Hd.u1 (λ_ => rfl) | exactλF => F.binds λ_ _ _ _ _ _ => Hd.u2 (λ_ _ => rfl) | exactλF => F.binds λ_ _ _ _ _ _ => Hd.u3 (λ_ _ _ => rfl) | exactλF => F.binds λ_ _ _ _ _ _ => Hd.u4 (λ_ _ _ _ => rfl) | exactλF => F.binds λ_ _ _ _ _ _ => Hd.u5 (λ_ _ _ _ _ => rfl) | exactλF => F.binds λ_ _ _ _ _ _ => Hd.u6 (λ_ _ _ _ _ _ => rfl) | exactλF => F.binds λ_ _ _ _ _ _ => Hd.u7 (λ_ _ _ _ _ _ _ => rfl))
structure Bs(P:Program)(w:World)(K:FR)(mg:Str->Option Value):Prop where
 zK:mg "ValueError"=none
 So:mg "abs"=none
 x8:mg "all"=none
 P9:mg "bool"=none
 gz:mg "enumerate"=none
 M0:mg "int"=none
 aR:mg "isinstance"=none
 o5:mg "len"=none
 Ds:mg "list"=none
 MZ:mg "max"=none
 Sn:mg "min"=none
 eR:mg "range"=none
 MY:mg "set"=none
 vw:mg "sorted"=none
 Ez:mg "str"=none
 Sl:mg "sum"=none
 fg:mg "tuple"=none
 iQ:EE mg "MOST_DEEP" (.int (5))
 iP:EE mg "MOST_ROWS" (.int (60))
 mE:EE mg "MOST_FIGURE" (.int (99))
 i7:EE mg "MOST_IN_LOT" (.int (12))
 zR:EE mg "MOST_DEEDS" (.int (6))
 wH:EE mg "MOST_PARAMS" (.int (3))
 vK:EE mg "MOST_LETTERS" (.int (8))
 GC:EE mg "LETTERS" (.str "abcdefghijklmnopqrstuvwxyz")
 zQ:EE mg "MOST_NAMES" (.int (6))
 sG:EE mg "FEWEST_IN_ALL" (.int (2))
 wI:EE mg "MOST_IN_ALL" (.int (4))
 pj:Tab P w K mg "SHAPES" eC
 Qx:EX K mg iA sy
 S_:∃CS,mg "StuckError"=some (.ref CS)/\∀c∈rP,XC K mg CS c
abbrev Rc(x:Str)(s:Stmt):Prop:=(recsOf view).find? (λe=>e.name==x)=some (Hd.n6 x s)
abbrev nU:Stmt:=top 56
abbrev ox:List Str:=["_law_script"]
def vS:ax ["_law_script"] ox (ah nU):=by walk_at "s"
def ug:Rc "_law_drawn" nU:=by ac_nf
def gW:Fn:=gZ 1
  (aO (Jr (a3 (ki 0) (Jr (EC (a1 (nj v0 Cy (Cz (ki 63)))))) (ki 0))))
abbrev qW:Stmt:=top 57
abbrev rB:List Str:=["_law_state"]
def jH:ax ["_law_state","_law_cells","_law_tour","_law_cell","_law_mixed"] rB (ah qW):=by walk_at "s"
def we:Rc "_law_load" qW:=by ac_nf
def ly:Fn:=gZ 5
  (av (aV 1 (au aX v0 (ki 1)))
  (av (aV 2 (au aX v0 (ki 2)))
  (av (ft (au aF v2 (ki 1)) (wA v0 (ki 2)))
  (av (aV 3 (ki 0))
  (av (dQ (az (au iY v1 (gH aD))) (aV 3 (au aX v1 (au uY v2 (ar bG (a1 v1))))) bz)
  (dQ (sh (az (au F5 v2 (ar bG (a1 v1)))) (az (au Kl (ar Px (a1 v3)) (au LY (ki 10) (ki 18))))) (ft (ar Px (a1 v3)) (wA v0 (ki 0))) (av (aV 4 (au uY (au kY (au aF (au aF (au uY v3 (ki 2305843009213693951)) (au kY (au kY (ki 7919) v2) v2)) (ki 11)) (ki 48271)) (ki 2305843009213693951)))
  (av (aV 4 (au uY (au kY v4 v4) (ki 2305843009213693921)))
  (ft (au aF (au uY (au aF (au aF (au kY v4 (ki 69621)) v2) (ki 104729)) (ki 2305843009213693951)) (au LY (ki 10) (ki 9))) (wA v0 (ki 0)))))))))))
abbrev qU:Stmt:=top 58
abbrev rq:List Str:=["_law_state","_law_many"]
def yB:ax ["_law_state","_law_many","_law_found"] rq (ah qU):=by walk_at "s"
def wa:Rc "_law_next" qU:=by ac_nf
def aS:Fn:=gZ 3
  (av (dQ (az (au F5 (au aX v0 (ki 0)) v1)) (kG (ar ly (a1 v0))) bz)
  (av (aV 2 (au uY (au aX v0 (ki 0)) v1))
  (av (ft (au zq (au aX v0 (ki 0)) v1) (wA v0 (ki 0)))
  (aO v2))))
abbrev xa:Stmt:=top 59
abbrev xv:List Str:=["_law_state","_law_some"]
def Ca:ax ["_law_state","_law_some"] xv (ah xa):=by walk_at "s"
def Ar:Rc "_law_of" xa:=by ac_nf
def aY:Fn:=gZ 2
  (aO (au aX v1 (ar aS (a2 v0 (ar bG (a1 v1))))))
abbrev nS:Stmt:=top 60
abbrev ow:List Str:=["_law_state","_law_many"]
def l9:ax ["_law_state","_law_many","_law_letters","_law_stem","_law_k","_law_at","_law_first","_law_stride"] ow (ah nS):=by walk_at "s"
def uf:Rc "_law_words" nS:=by ac_nf
def fS:Fn:=gZ 8
  (av (aV 2 (ks "abcdefghijklmnopqrstuvwxyz"))
  (av (aV 3 (ks ""))
  (av (jI (qq (a1 (ar aY (a2 v0 (eK (.lv [.int 0,.int 1,.int 1,.int 2,.int 3,.int 6])))))) (gN 4) (aV 3 (au aF v3 (au aX v2 (ar aS (a2 v0 (ki 26)))))))
  (av (aV 5 (ar aS (a2 v0 (au aF (ar bG (a1 v3)) (ki 1)))))
  (av (aV 6 (ar aS (a2 v0 (ki 26))))
  (av (aV 7 (ar aY (a2 v0 (eK (.lv [.int 1,.int 3,.int 5,.int 7,.int 9,.int 11])))))
  (aO (gH (b8 [none,some 5,some 6,some 2,some 3,some 7] (qq (a1 v1)) (gN 0) bY (au aF (au aF (nj v4 Cy (Cz v1)) (au aX v3 (au uY (au aF v2 (au kY v5 v0)) (ki 26)))) (nj v4 (Cz v1) Cy)))))))))))
abbrev nR:Stmt:=top 61
abbrev ou:List Str:=["_law_state","_law_most","_law_odd"]
def dm:ax ["_law_state","_law_most","_law_odd","_law_names","_law_deeds","_law_params","_law_many","_law_floors"] ou (ah nR):=by walk_at "s"
def ue:Rc "_law_world" nR:=by ac_nf
def jX:Fn:=gZ 8
  (av (aV 3 (ar fS (a2 v0 (ar aY (a2 v0 (eK (.lv [.int 1,.int 2,.int 2,.int 3,.int 4,.int 6])))))))
  (av (aV 4 (ar fS (a2 v0 (ar aY (a2 v0 (eK (.lv [.int 1,.int 1,.int 2,.int 2,.int 3,.int 4,.int 6])))))))
  (av (aV 5 (ar fS (a2 v0 (ki 3))))
  (av (aV 6 (gH (b8 [none,some 0] (dH v4) (gN 0) bY (ar aY (a2 v1 (eK (.lv [.int 0,.int 1,.int 1,.int 2,.int 2,.int 3])))))))
  (av (aV 7 (ar Je (a1 (gH (b8 [none,some 3,some 0] (dH v4) (gN 0) bY (ar aS (a2 v2 (ar bG (a1 v1)))))))))
  (av (aV 5 (gH (b8 [none,some 5] (dH v6) (gN 0) bY (nj v1 Cy (Cz v0)))))
  (aO (Dh (jh (ks "names") v3 (jh (ks "deeds") v4 (jh (ks "params") v5 (jh (ks "floors") v7 (jh (ks "left") v1 (jh (ks "odd") v2 OJ))))))))))))))
abbrev mj:Stmt:=top 62
abbrev mr:List Str:=["_law_state","_law_world_here"]
def tT:ax ["_law_state","_law_world_here"] mr (ah mj):=by walk_at "s"
def sm:Rc "_law_is_odd" mj:=by ac_nf
def fe:Fn:=gZ 2
  (aO (sE (au wC (au aX v1 (ks "odd")) (ki 0)) (au cp (ar aS (a2 v0 (au aX v1 (ks "odd")))) (ki 0))))
abbrev qT:Stmt:=top 63
abbrev rp:List Str:=["_law_state","_law_params"]
def yA:ax ["_law_state","_law_params","_law_far"] rp (ah qT):=by walk_at "s"
def vZ:Rc "_law_term" qT:=by ac_nf
def cq:Fn:=gZ 3
  (av (aV 2 (au oN (ar aS (a2 v0 (ki 81))) (ki 40)))
  (av (dQ (sh (az (au wC (ar bG (a1 v1)) (ki 0))) (az (au wC (ar aS (a2 v0 (ki 5))) (ki 0)))) (aO (ar bh (a2 (ar aY (a2 v0 v1)) (ar aY (a2 v0 (gH (af (ki 0) (af (ki 0) (af (ki 0) (af (ki 0) (af (ki 1) (a4 (ki 1) (Dg yk (ki 1)) (ki 2) v2)))))))))))) bz)
  (aO (ar bh (a2 (ks "") (ar aY (a2 v0 (gH (af (ki 0) (af (ki 0) (af (ki 1) (af (ki 1) (a4 (ki 2) (ki 3) (Dg yk (ki 1)) v2)))))))))))))
abbrev qX:Stmt:=top 65
abbrev rC:List Str:=["_law_state","_law_world_here","_law_deed","_law_top"]
def gO:ax ["_law_state","_law_world_here","_law_deed","_law_top","_law_some","_law_other","_law_terms"] rC (ah qX):=by walk_at "s"
def wg:Rc "_law_call" qX:=by ac_nf
def iO:Fn:=gZ 7
  (av (aV 4 (gH (b8 [none,some 2,some 3,some 1] (qq (a1 (ar bG (a1 (au aX v1 (ks "deeds")))))) (gN 0) (sh (az (au wC (au aX (au aX v3 (ks "floors")) v0) v2)) (az (au Kl v0 v1))) v0)))
  (av (dQ (dJ (ar fe (a2 v0 v1))) (aV 4 (gH (Qe (a1 (ar bG (a1 (au aX v1 (ks "deeds")))))))) bz)
  (av (dQ (az (au cp v4 (gH aD))) (aO (ar bh (a2 (ks "say") (au aX (au aX v1 (ks "deeds")) v2)))) bz)
  (av (aV 5 (ar aY (a2 v0 v4)))
  (av (aV 6 (gH (b8 [none,some 2,some 0,some 1] (dH (au aX (au aX v1 (ks "params")) v5)) (gN 0) bY (ar cq (a2 v2 (au aX (au aX v3 (ks "params")) v1))))))
  (aO (ar bh (a3 (ks "call") (au aX (au aX v1 (ks "deeds")) v5) (ar dU (a1 v6))))))))))
abbrev qV:Stmt:=top 64
abbrev rA:List Str:=["_law_state","_law_world_here","_law_deed","_law_top","_law_held"]
def nN:ax ["_law_state","_law_world_here","_law_deed","_law_top","_law_held","_law_low","_law_at","_law_name","_law_same","_law_word","_law_more"] rA (ah qV):=by walk_at "s"
def wb:Rc "_law_lock" qV:=by ac_nf
def gA:Fn:=gZ 11
  (av (aV 5 (ar zm (a2 v3 (au aX (au aX v1 (ks "floors")) v2))))
  (av (dQ (az (au cp v5 (ar bG (a1 (au aX v1 (ks "names")))))) (aO (ar bh (a2 (eK .cu) (eK .cu)))) bz)
  (av (aV 6 (au aF v5 (ar aS (a2 v0 (au oN (ar bG (a1 (au aX v1 (ks "names")))) v5)))))
  (av (dQ (dJ (ar fe (a2 v0 v1))) (aV 6 (ar aS (a2 v0 (ar bG (a1 (au aX v1 (ks "names"))))))) bz)
  (av (aV 7 (au aX (au aX v1 (ks "names")) v6))
  (av (aV 8 (gH (b8 [none,some 7] (dH v4) (gN 0) (az (au cp (au aX v0 (ki 0)) v1)) (au aX v0 (ki 1)))))
  (av (dQ (sh (az (au iY v8 (gH aD))) (cQ (dJ (ar fe (a2 v0 v1))))) (av (ft (au aX v8 (Dg yk (ki 1))) (gT 2 (aj (gN 9) (aj (gN 10) bB))))
  (aO (ar bh (a2 v6 (ar bh (a2 v7 (ar bh (a2 v9 (ar Jf (a2 (ki 99) (au aF (au aF v10 (ki 1)) (ar aS (a2 v0 (ki 2)))))))))))))) bz)
  (aO (ar bh (a2 v6 (ar bh (a2 v7 (ar cq (a2 v0 (au aX (au aX v1 (ks "params")) v2)))))))))))))))
abbrev t4:Stmt:=top 69
abbrev mX:List Str:=["_law_state","_law_world_here","_law_deed","_law_deep","_law_top","_law_held","_law_most"]
def Ab:ax ["_law_state","_law_world_here","_law_deed","_law_deep","_law_top","_law_held","_law_most","_law_rows","_law_k"] mX (ah t4):=by walk_at "s"
def n5:Rc "_law_lot" t4:=by ac_nf
abbrev tZ:Stmt:=top 68
abbrev mW:List Str:=["_law_state","_law_world_here","_law_deed","_law_deep","_law_top","_law_held"]
def dO:ax ["_law_state","_law_world_here","_law_deed","_law_deep","_law_top","_law_held","_law_way","_law_one","_law_other","_law_lots","_law_sort"] mW (ah tZ):=by walk_at "s"
def n4:Rc "_law_row" tZ:=by ac_nf
abbrev mh:Stmt:=top 67
abbrev iX:List Str:=["_law_state","_law_world_here","_law_deed","_law_deep","_law_top","_law_held","_law_way"]
def dP:ax ["_law_state","_law_world_here","_law_deed","_law_deep","_law_top","_law_held","_law_way","_law_at","_law_lock_here","_law_some","_law_high","_law_turn","_law_low","_law_other","_law_lot_here"] iX (ah mh):=by walk_at "s"
def j6:Rc "_law_locked" mh:=by ac_nf
abbrev j5:Stmt:=top 66
abbrev gG:List Str:=["_law_state","_law_world_here","_law_deed","_law_deep","_law_top","_law_held"]
def eI:ax ["_law_state","_law_world_here","_law_deed","_law_deep","_law_top","_law_held","_law_low","_law_name","_law_one","_law_other","_law_lots","_law_first","_law_second","_law_inner"] gG (ah j5):=by walk_at "s"
def iG:Rc "_law_two_ways" j5:=by ac_nf
mutual
noncomputable def bV:Nat->Fn
 | 0=>λ_ _=>none
 | n+1=>MP 9
  (av (aV 7 (Jr aD))
  (av (jI (qq (a1 (ar aS (a2 v0 (au aF (ar aY (a2 v0 (au aF (au LX (gH (a1 v6)) (ki 15)) (gH (a1 (ki 12)))))) (ki 1)))))) (gN 8) (dQ (az (au wC (au aX v1 (ks "left")) (ki 0))) (av (ft (au oN (au aX v1 (ks "left")) (ki 1)) (wA v1 (ks "left")))
  (kG (eM fU gQ v7 (a1 (ar (iy n) (af v0 (af v1 (a4 v2 v3 v4 v5)))))))) bz))
  (aO (ar dU (a1 v7)))))
noncomputable def iy:Nat->Fn
 | 0=>λ_ _=>none
 | n+1=>gZ 11
  (av (aV 6 (ar aS (a2 v0 (ki 16))))
  (av (dQ (sg (az (au F5 v6 (ki 2))) (sh (az (au cp v3 (ki 5))) (az (au F5 v6 (ki 11))))) (aO (ar bh (a2 (ks "say") (ar aY (a2 v0 (au aF (au aX v1 (ks "names")) (au aX v1 (ks "deeds")))))))) bz)
  (av (dQ (sg (az (au wC v6 (ki 12))) (az (au cp v3 (ki 5)))) (aO (ar iO (a4 v0 v1 v2 v4))) bz)
  (av (dQ (sh (az (au cp v6 (ki 12))) (sh (az (au F5 v3 (ki 3))) (az (au wC (au aX v1 (ks "left")) (ki 5))))) (aO (ar (di n) (af v0 (af v1 (a4 v2 v3 v4 v5))))) bz)
  (av (dQ (sg (az (au cp v6 (ki 11))) (az (au cp v6 (ki 12)))) (av (Hu 7 8 (a2 (ar cq (a2 v0 (au aX (au aX v1 (ks "params")) v2))) (ar cq (a2 v0 (au aX (au aX v1 (ks "params")) v2)))))
  (av (aV 9 (gH (b8 [none,some 2,some 3,some 5,some 0,some 4,some 1] (qq (a1 (ki 3))) (gN 0) bY (ar (bV n) (af v4 (af v6 (af v1 (a4 (au aF v2 (ki 1)) v5 v3 (ki 2)))))))))
  (aO (au aF (ar bh (a3 (ks "by") v7 v8)) (ar dU (a1 v9)))))) bz)
  (av (dQ (az (au cp v6 (ki 10))) (av (aV 9 (gH (b8 [none,some 2,some 3,some 5,some 0,some 4,some 1] (qq (a1 (ki 2))) (gN 0) bY (ar (bV n) (af v4 (af v6 (af v1 (a4 (au aF v2 (ki 1)) v5 v3 (ki 2)))))))))
  (aO (au aF (ar bh (a1 (ks "either"))) (ar dU (a1 v9))))) bz)
  (av (dQ (az (au cp v6 (ki 9))) (aO (ar bh (a2 (ks "again") (ar (bV n) (af v0 (af v1 (af v2 (a4 (au aF v3 (ki 1)) v4 v5 (ki 2))))))))) bz)
  (av (aV 10 (ar aY (a2 v0 (eK (.lv [.str "within",.str "within",.str "within",.str "within",.str "ask",.str "all"])))))
  (aO (ar (fc n) (af v0 (af v1 (af v2 (a4 v3 v4 v5 v10))))))))))))))
noncomputable def fc:Nat->Fn
 | 0=>λ_ _=>none
 | n+1=>MP 15
  (av (ft (ar gA (af v0 (a4 v1 v2 v4 v5))) (gT 2 (aj (gN 7) (aj (gN 8) bB))))
  (av (dQ (az (au Jg v7 (eK .cu))) (aO (ar bh (a2 (ks "say") (au aX (au aX v1 (ks "deeds")) v2)))) bz)
  (av (dQ (az (au cp v6 (ks "all"))) (av (Hu 9 10 (a2 (Jr (a1 v8)) v7))
  (av (jI (qq (a1 (ar aY (a2 v0 (eK (.lv [.int 1,.int 1,.int 2,.int 3])))))) (gN 11) (av (ft (ar gA (af v0 (a4 v1 v2 v4 v5))) (gT 2 (aj (gN 12) (aj (gN 13) bB))))
  (av (aV 10 (ar zm (a2 v10 Tv)))
  (aV 9 (Jr (Qf v9 (au LX (gH (a1 Tu)) (ar zp (a1 (au ir Tu v9))))))))))
  (av (dQ (az (au cp (ar bG (a1 v9)) (ki 1))) (kG (eM fU gQ v9 (a1 (ar bh (a2 (au aX v8 (ki 0)) (ar bh (a2 (au aX (au aX v8 (ki 1)) (ki 0)) (au oN (au aF (au aX (au aX v8 (ki 1)) (ki 1)) (ki 1)) (au kY (ki 2) (ar zp (a1 (au wC (au aX (au aX v8 (ki 1)) (ki 1)) (ki 90))))))))))))) bz)
  (av (aV 10 (au aF v10 (ar zp (a1 (au cp (au aX v1 (ks "odd")) (ki 0))))))
  (aO (ar bh (a3 (ks "all") (ar dU (a1 v9)) (ar (bV n) (af v0 (af v1 (af v2 (a4 (au aF v3 (ki 1)) (ar zm (a2 v4 v10)) (au aF v5 v9) (ki 3))))))))))))) bz)
  (av (aV 14 (ar (bV n) (af v0 (af v1 (af v2 (a4 (au aF v3 (ki 1)) (ar zm (a2 v4 v7)) (au aF v5 (gH (a1 v8))) (ki 3)))))))
  (av (dQ (az (au cp v6 (ks "ask"))) (aO (ar bh (a4 (ks "ask") v8 U8 (ar (bV n) (af v0 (af v1 (af v2 (a4 (au aF v3 (ki 1)) v4 v5 (ki 2))))))))) bz)
  (aO (ar bh (a3 (ks "within") v8 U8))))))))
noncomputable def di:Nat->Fn
 | 0=>λ_ _=>none
 | n+1=>MP 14
  (av (aV 6 (ar zm (a2 v4 (au aX (au aX v1 (ks "floors")) v2))))
  (av (dQ (az (au cp v6 (ar bG (a1 (au aX v1 (ks "names")))))) (aO (ar bh (a2 (ks "say") (au aX (au aX v1 (ks "deeds")) v2)))) bz)
  (av (dQ (az (au iY (gH (b8 [none,some 6,some 1] (dH v5) (gN 0) (az (au cp (au aX v0 (ki 0)) (au aX (au aX v2 (ks "names")) v1))) v0)) (gH aD))) (aO (ar bh (a2 (ks "say") (au aX (au aX v1 (ks "deeds")) v2)))) bz)
  (av (aV 7 (au aX (au aX v1 (ks "names")) v6))
  (av (ft (au oN (au aX v1 (ks "left")) (ki 5)) (wA v1 (ks "left")))
  (av (Hu 8 9 (a2 (ar cq (a2 v0 (au aX (au aX v1 (ks "params")) v2))) (ar cq (a2 v0 (au aX (au aX v1 (ks "params")) v2)))))
  (av (aV 10 (Jr aD))
  (av (jI (dH (gH (a2 (ar bh (a2 v8 v9)) (ar bh (a2 v9 v8))))) (gT 2 (aj (gN 11) (aj (gN 12) bB))) (av (aV 13 (ar (bV n) (af v0 (af v1 (af v2 (a4 (au aF v3 (ki 3)) v6 (au aF v5 (gH (a2 (ar bh (a2 v7 v11)) (ar bh (a2 v7 Tv))))) (ki 2)))))))
  (kG (eM fU gQ v10 (a1 (ar bh (a1 (ar bh (a3 (ks "within") (ar bh (a2 v7 v11)) (ar bh (a1 (ar bh (a3 (ks "within") (ar bh (a2 v7 Tv)) Tu)))))))))))))
  (aO (ar bh (af (ks "by") (af v8 (a4 v9 (au aX v10 (ki 0)) (ar bh (a1 (ar bh (a3 (ks "within") (ar bh (a2 v7 v8)) (ar bh aD))))) (au aX v10 (ki 1)))))))))))))))
end
abbrev kF:Stmt:=top 70
abbrev kR:List Str:=["_law_state","_law_most","_law_odd"]
def jY:ax ["_law_state","_law_most","_law_odd","_law_world_here","_law_deeds","_law_k","_law_deed","_law_rows"] kR (ah kF):=by walk_at "s"
def pY:Rc "_law_program" kF:=by ac_nf
def iz:Fn:=MP 8
  (av (aV 3 (ar jX (a3 v0 v1 v2)))
  (av (aV 4 (Jr aD))
  (av (jI (uW (a1 (au aX v3 (ks "deeds")))) (gT 2 (aj (gN 5) (aj (gN 6) bB))) (av (aV 7 (ar (bV 20) (af v0 (af v3 (af v5 (a4 (ki 1) (Dg yk (ki 1)) (gH aD) (ar aY (a2 v0 (eK (.lv [.int 1,.int 2,.int 3,.int 4,.int 12]))))))))))
  (kG (eM fU gQ v4 (a1 (ar bh (a3 v6 (ar dU (a1 (au aX (au aX v3 (ks "params")) v5))) v7)))))))
  (aO (ar bh (a2 (ar dU (a1 (ar Jd (a1 (au aX v3 (ks "names")))))) (ar dU (a1 v4))))))))
abbrev t5:Stmt:=top 71
abbrev uD:List Str:=["_law_state"]
def Ae:ax ["_law_state"] uD (ah t5):=by walk_at "s"
def yI:Rc "_law_any" t5:=by ac_nf
def nC:Fn:=gZ 1
  (aO (ar iz (a3 v0 (ar aY (a2 v0 (eK (.lv [.int 4,.int 8,.int 12,.int 20,.int 40,.int 60])))) (ar aY (a2 v0 (eK (.lv [.int 0,.int 2,.int 5,.int 9])))))))
abbrev wW:Stmt:=top 26
abbrev xo:List Str:=["row"]
def B3:ax ["row"] xo (ah wW):=by walk_at "s"
def Am:Rc "lots_of" wW:=by ac_nf
def bU:Fn:=gZ 1
  (aO (nj v0 (Cz (au aX (Dg (Jc eC) (au aX v0 (ki 0))) (ki 0))) Cy))
abbrev tV:Stmt:=top 37
abbrev mU:List Str:=["lot","ahead"]
def z8:ax ["lot","ahead","found","number","row","path","at","inner"] mU (ah tV):=by walk_at "s"
def nX:Rc "paths_in" tV:=by ac_nf
def cZ:Nat->Fn
 | 0=>λ_ _=>none
 | n+1=>MP 8
  (av (aV 2 (Jr aD))
  (av (jI (uW (a1 v0)) (gT 2 (aj (gN 3) (aj (gN 4) bB))) (av (aV 5 (au aF v1 (ar bh (a1 v3))))
  (av (kG (eM fU gQ v2 (a1 (ar bh (a2 v5 v4)))))
  (jI (uW (a1 (ar bU (a1 v4)))) (gT 2 (aj (gN 6) (aj (gN 7) bB))) (kG (eM fU lJ v2 (a1 (ar (cZ n) (a2 v7 (au aF v5 (ar bh (a1 v6))))))))))))
  (aO v2)))
abbrev qO:Stmt:=top 38
abbrev rg:List Str:=["program"]
def yt:ax ["program","found","deed","name","params","rows"] rg (ah qO):=by walk_at "s"
def vU:Rc "places_of" qO:=by ac_nf
def cb:Fn:=MP 6
  (av (aV 1 (Jr aD))
  (av (jI (uW (a1 (au aX v0 (ki 1)))) (gT 2 (aj (gN 2) (aj (gT 3 (aj (gN 3) (aj (gN 4) (aj (gN 5) bB)))) bB))) (kG (eM fU lJ v1 (a1 (gH (b8 [none,none,some 2] (dH (ar (cZ 8) (a2 v5 (ar bh aD)))) (gT 2 (aj (gN 0) (aj (gN 1) bB))) bY (ar bh (a3 v2 v0 v1))))))))
  (aO v1)))
abbrev wU:Stmt:=top 39
abbrev xm:List Str:=["program"]
def B1:ax ["program"] xm (ah wU):=by walk_at "s"
def Ak:Rc "rows_of" wU:=by ac_nf
def g0:Fn:=gZ 1
  (aO (ar dU (a1 (gH (b8 [none,none,none] (dH (ar cb (a1 v0))) (gT 3 (aj (gN 0) (aj (gN 1) (aj (gN 2) bB)))) bY (ar bh (a2 v0 v2)))))))
abbrev tU:Stmt:=top 44
abbrev mT:List Str:=["program","number"]
def kA:ax ["program","number","places"] mT (ah tU):=by walk_at "s"
def nW:Rc "place_of" tU:=by ac_nf
def cY:Fn:=gZ 3
  (av (aV 2 (ar cb (a1 v0)))
  (av (dQ (cQ (az (fv zo F5 (ki 0) v1 (ar bG (a1 v2))))) iW bz)
  (aO (au aX v2 v1))))
abbrev w9:Stmt:=top 49
abbrev qf:List Str:=["lot","deep"]
def B8:ax ["lot","deep"] qf (ah w9):=by walk_at "s"
def qZ:Rc "deepest" w9:=by ac_nf
def cf:Nat->Fn
 | 0=>λ_ _=>none
 | n+1=>gZ 2
  (aO (Js (a1 (Kn [none,none,some 1] (dH v0) (gN 0) bY (xB (dH (ar bU (a1 v0))) (gN 1) bY (mL (ar (cf n) (a2 v1 (au aF v2 (ki 1)))))) [] .lv)) v1))
abbrev md:Stmt:=top 12
abbrev mq:List Str:=["thing","many"]
def tS:ax ["thing","many"] mq (ah md):=by walk_at "s"
def sj:Rc "is_tuple_of" md:=by ac_nf
def cN:Fn:=gZ 2
  (aO (sE (ar ni (a2 v0 (eK (.ty "tuple")))) (au cp (ar bG (a1 v0)) v1)))
abbrev tY:Stmt:=top 11
abbrev uB:List Str:=["thing"]
def Aa:ax ["thing"] uB (ah tY):=by walk_at "s"
def yH:Rc "is_whole" tY:=by ac_nf
def vI:Fn:=gZ 1
  (aO (sE (ar ni (a2 v0 (eK (.ty "int")))) (R3 (ar ni (a2 v0 (eK (.ty "bool")))))))
abbrev wY:Stmt:=top 14
abbrev xr:List Str:=["thing","params"]
def B5:ax ["thing","params","word","figure"] xr (ah wY):=by walk_at "s"
def Ao:Rc "is_term" wY:=by ac_nf
def gj:Fn:=gZ 4
  (av (dQ (cQ (dJ (ar cN (a2 v0 (ki 2))))) (aO (eK (.bl false))) bz)
  (av (ft v0 (gT 2 (aj (gN 2) (aj (gN 3) bB))))
  (av (dQ (sg (cQ (dJ (ar ni (a2 v2 (eK (.ty "str")))))) (cQ (dJ (ar vI (a1 v3))))) (aO (eK (.bl false))) bz)
  (aO (sE (UN (au cp v2 (ks "")) (au GH v2 v1)) (fv zo zo (Dg yk (ki 99)) v3 (ki 99)))))))
abbrev wZ:Stmt:=top 15
abbrev xt:List Str:=["thing","names","params"]
def B6:ax ["thing","names","params","name","term"] xt (ah wZ):=by walk_at "s"
def Ap:Rc "is_lock" wZ:=by ac_nf
def du:Fn:=gZ 5
  (av (dQ (cQ (dJ (ar cN (a2 v0 (ki 2))))) (aO (eK (.bl false))) bz)
  (av (ft v0 (gT 2 (aj (gN 3) (aj (gN 4) bB))))
  (aO (sE (ar ni (a2 v3 (eK (.ty "str")))) (sE (au GH v3 v1) (ar gj (a2 v4 v2)))))))
abbrev tW:Stmt:=top 46
abbrev mV:List Str:=["lot","path","some"]
def kB:ax ["lot","path","some","at","row","place"] mV (ah tW):=by walk_at "s"
def nY:Rc "lot_with" tW:=by ac_nf
def fy:Nat->Fn
 | 0=>λ_ _=>none
 | n+1=>gZ 6
  (av (aV 3 (au aX v1 (ki 0)))
  (av (dQ (az (au wC (ar bG (a1 v1)) (ki 1))) (av (aV 4 (au aX v0 v3))
  (av (aV 5 (au aF (au aX (Dg (Jc eC) (au aX v4 (ki 0))) (ki 0)) (au aX v1 (ki 1))))
  (aV 2 (ar bh (a1 (au aF (au aF (nj v4 Cy (Cz v5)) (ar bh (a1 (ar (fy n) (a3 (au aX v4 v5) (nj v1 (Cz (ki 2)) Cy) v2))))) (nj v4 (Cz (au aF v5 (ki 1))) Cy))))))) bz)
  (aO (au aF (au aF (nj v0 Cy (Cz v3)) v2) (nj v0 (Cz (au aF v3 (ki 1))) Cy)))))
abbrev kE:Stmt:=top 47
abbrev kQ:List Str:=["program","deed","path","some"]
def si:ax ["program","deed","path","some","names","deeds","name","params","rows"] kQ (ah kE):=by walk_at "s"
def pW:Rc "program_with" kE:=by ac_nf
def eA:Fn:=gZ 9
  (av (ft v0 (gT 2 (aj (gN 4) (aj (gN 5) bB))))
  (av (ft (au aX v5 v1) (gT 3 (aj (gN 6) (aj (gN 7) (aj (gN 8) bB)))))
  (aO (ar bh (a2 v4 (au aF (au aF (nj v5 Cy (Cz v1)) (ar bh (a1 (ar bh (a3 v6 v7 (ar (fy 6) (a3 v8 v2 v3))))))) (nj v5 (Cz (au aF v1 (ki 1))) Cy)))))))
abbrev qM:Stmt:=top 50
abbrev kO:List Str:=["program","number","lock"]
def bW:ax ["program","number","lock","deed","path","row","deep"] kO (ah qM):=by walk_at "s"
def mm:Rc "with_lock" qM:=by ac_nf
def fD:Fn:=gZ 7
  (av (ft (ar cY (a2 v0 v1)) (gT 3 (aj (gN 3) (aj (gN 4) (aj (gN 5) bB)))))
  (av (aV 6 (au aF (au zq (ar bG (a1 v4)) (ki 2)) (ki 1)))
  (av (dQ (az (au wC (ar (cf 8) (a2 (ar bh (a1 v5)) (au aF v6 (ki 1)))) (ki 5))) iW bz)
  (av (dQ (az (au Kl (ar bG (a1 (ar cb (a1 v0)))) (ki 60))) iW bz)
  (av (dQ (cQ (dJ (ar du (a3 v2 (au aX v0 (ki 0)) (au aX (au aX (au aX v0 (ki 1)) v3) (ki 1)))))) iW bz)
  (aO (ar eA (a4 v0 v3 v4 (ar bh (a1 (ar bh (a3 (ks "within") v2 (ar bh (a1 v5))))))))))))))
abbrev tX:Stmt:=top 27
abbrev uA:List Str:=["row"]
def z9:ax ["row"] uA (ah tX):=by walk_at "s"
def yG:Rc "locks_of" tX:=by ac_nf
def gh:Fn:=gZ 1
  (av (dQ (az (au cp (au aX v0 (ki 0)) (ks "all"))) (aO (au aX v0 (ki 1))) bz)
  (aO (UO (az (au GH (au aX v0 (ki 0)) (ar bh (a2 (ks "within") (ks "ask"))))) (ar bh (a1 (au aX v0 (ki 1)))) (ar bh aD))))
abbrev jZ:Stmt:=top 45
abbrev gF:List Str:=["program","number"]
def bI:ax ["program","number","deed","path","row"] gF (ah jZ):=by walk_at "s"
def iF:Rc "locking_place" jZ:=by ac_nf
def cD:Fn:=gZ 5
  (av (ft (ar cY (a2 v0 v1)) (gT 3 (aj (gN 2) (aj (gN 3) (aj (gN 4) bB)))))
  (av (dQ (cQ (dJ (ar gh (a1 v4)))) iW bz)
  (aO (ar bh (a3 v2 v3 v4)))))
abbrev Af:Stmt:=top 42
abbrev AD:List Str:=["rows","path"]
def E7:ax ["rows","path","lot","at"] AD (ah Af):=by walk_at "s"
def Cj:Rc "lot_on" Af:=by ac_nf
def jz:Fn:=gZ 4
  (av (aV 2 v0)
  (av (jI (LR (a3 (ki 1) (ar bG (a1 v1)) (ki 2))) (gN 3) (aV 2 (au aX (ar bU (a1 (au aX v2 (au aX v1 (au oN v3 (ki 1)))))) (au aX v1 v3))))
  (aO v2)))
abbrev wV:Stmt:=top 41
abbrev xn:List Str:=["program","deed"]
def B2:ax ["program","deed"] xn (ah wV):=by walk_at "s"
def Al:Rc "rows_in" wV:=by ac_nf
def g7:Fn:=gZ 2
  (aO (au aX (au aX (au aX v0 (ki 1)) v1) (ki 2)))
abbrev kC:Stmt:=top 48
abbrev ig:List Str:=["program","number"]
def bF:ax ["program","number","deed","path","row","some"] ig (ah kC):=by walk_at "s"
def jc:Rc "without_lock" kC:=by ac_nf
def b9:Fn:=gZ 6
  (av (ft (ar cD (a2 v0 v1)) (gT 3 (aj (gN 2) (aj (gN 3) (aj (gN 4) bB)))))
  (av (aV 5 (au aX (ar bU (a1 v4)) (ki 0)))
  (av (dQ (az (au wC (au aF (au oN (ar bG (a1 (ar jz (a2 (ar g7 (a2 v0 v2)) v3)))) (ki 1)) (ar bG (a1 v5))) (ki 12))) iW bz)
  (aO (ar eA (a4 v0 v2 v3 v5))))))
abbrev wX:Stmt:=top 13
abbrev xp:List Str:=["thing"]
def B4:ax ["thing"] xp (ah wX):=by walk_at "s"
def An:Rc "is_word" wX:=by ac_nf
def jA:Fn:=gZ 1
  (av (dQ (sg (cQ (dJ (ar ni (a2 v0 (eK (.ty "str")))))) (cQ (az (fv zo zo (ki 1) (ar bG (a1 v0)) (ki 8))))) (aO (eK (.bl false))) bz)
  (aO (ar wD (a1 (gH (b8 [none] (LQ v0) (gN 0) bY (au GH v0 (ks "abcdefghijklmnopqrstuvwxyz"))))))))
abbrev hG:Stmt:=top 28
abbrev ij:List Str:=["thing","least","most"]
def lW:ax ["thing","least","most"] ij (ah hG):=by walk_at "s"
def kI:Rc "are_unlike_words" hG:=by ac_nf
def cy:Fn:=gZ 3
  (av (dQ (sg (cQ (dJ (ar ni (a2 v0 (eK (.ty "tuple")))))) (cQ (az (fv zo zo v1 (ar bG (a1 v0)) v2)))) (aO (eK (.bl false))) bz)
  (aO (sE (ar wD (a1 (gH (b8 [none] (dH v0) (gN 0) bY (ar jA (a1 v0)))))) (au cp (oU v0) (ar bG (a1 v0))))))
abbrev qS:Stmt:=top 30
abbrev rn:List Str:=["deeds"]
def yz:ax ["deeds"] rn (ah qS):=by walk_at "s"
def vY:Rc "are_heads" qS:=by ac_nf
def lx:Fn:=gZ 1
  (av (dQ (sg (cQ (dJ (ar ni (a2 v0 (eK (.ty "tuple")))))) (cQ (dJ (ar wD (a1 (gH (b8 [none] (dH v0) (gN 0) bY (ar cN (a2 v0 (ki 3)))))))))) (aO (eK (.bl false))) bz)
  (av (dQ (cQ (dJ (ar cy (a3 (ar dU (a1 (gH (b8 [none] (dH v0) (gN 0) bY (au aX v0 (ki 0)))))) (ki 1) (ki 6))))) (aO (eK (.bl false))) bz)
  (aO (ar wD (a1 (gH (b8 [none] (dH v0) (gN 0) bY (ar cy (a3 (au aX v0 (ki 1)) (ki 0) (ki 3))))))))))
abbrev qQ:Stmt:=top 29
abbrev rj:List Str:=["thing"]
def yw:ax ["thing"] rj (ah qQ):=by walk_at "s"
def vW:Rc "are_names" qQ:=by ac_nf
def lr:Fn:=gZ 1
  (aO (sE (ar cy (a3 v0 (ki 1) (ki 6))) (au cp (gH (EC (a1 v0))) (ar zj (a1 v0)))))
abbrev w5:Stmt:=top 32
abbrev xu:List Str:=["deed","terms","counts","params"]
def B7:ax ["deed","terms","counts","params"] xu (ah w5):=by walk_at "s"
def Aq:Rc "is_call" w5:=by ac_nf
def qK:Fn:=gZ 4
  (av (dQ (sg (cQ (dJ (ar jA (a1 v0)))) (sg (az (au ir v0 v2)) (cQ (dJ (ar cN (a2 v1 (au aX v2 v0))))))) (aO (eK (.bl false))) bz)
  (aO (ar wD (a1 (gH (b8 [none,some 3] (dH v1) (gN 0) bY (ar gj (a2 v0 v1))))))))
abbrev qR:Stmt:=top 31
abbrev rm:List Str:=["thing","names","params"]
def yx:ax ["thing","names","params"] rm (ah qR):=by walk_at "s"
def vX:Rc "are_locks" qR:=by ac_nf
def lu:Fn:=gZ 3
  (av (dQ (sg (cQ (dJ (ar ni (a2 v0 (eK (.ty "tuple")))))) (cQ (az (fv zo zo (ki 2) (ar bG (a1 v0)) (ki 4))))) (aO (eK (.bl false))) bz)
  (aO (sE (ar wD (a1 (gH (b8 [none,some 1,some 2] (dH v0) (gN 0) bY (ar du (a3 v0 v1 v2)))))) (au cp (oU v0) (ar bG (a1 v0))))))
abbrev ja:Stmt:=top 34
abbrev jf:List Str:=["row","names","counts","params"]
def nM:ax ["row","names","counts","params","sort"] jf (ah ja):=by walk_at "s"
def mP:Rc "is_right_ahead" ja:=by ac_nf
def gm:Fn:=gZ 5
  (av (aV 4 (au aX v0 (ki 0)))
  (av (dQ (az (au cp v4 (ks "say"))) (aO (ar jA (a1 (au aX v0 (ki 1))))) bz)
  (av (dQ (az (au cp v4 (ks "call"))) (aO (ar qK (a4 (au aX v0 (ki 1)) (au aX v0 (ki 2)) v2 v3))) bz)
  (av (dQ (az (au cp v4 (ks "all"))) (aO (ar lu (a3 (au aX v0 (ki 1)) v1 v3))) bz)
  (av (dQ (az (au GH v4 (ar bh (a2 (ks "within") (ks "ask"))))) (aO (ar du (a3 (au aX v0 (ki 1)) v1 v3))) bz)
  (av (dQ (az (au cp v4 (ks "by"))) (aO (sE (ar gj (a2 (au aX v0 (ki 1)) v3)) (ar gj (a2 (au aX v0 (ki 2)) v3)))) bz)
  (aO (eK (.bl true)))))))))
abbrev qP:Stmt:=top 33
abbrev rh:List Str:=["row"]
def yu:ax ["row","ahead","lots"] rh (ah qP):=by walk_at "s"
def vV:Rc "is_shaped" qP:=by ac_nf
def lq:Fn:=gZ 3
  (av (dQ (sg (cQ (dJ (ar ni (a2 v0 (eK (.ty "tuple")))))) (az (au cp (ar bG (a1 v0)) (ki 0)))) (aO (eK (.bl false))) bz)
  (av (dQ (sg (cQ (dJ (ar ni (a2 (au aX v0 (ki 0)) (eK (.ty "str")))))) (az (Dg (Jb eC) (au aX v0 (ki 0))))) (aO (eK (.bl false))) bz)
  (av (ft (Dg (Jc eC) (au aX v0 (ki 0))) (gT 2 (aj (gN 1) (aj (gN 2) bB))))
  (aO (au cp (ar bG (a1 v0)) (au aF v1 v2))))))
abbrev qN:Stmt:=top 35
abbrev kP:List Str:=["lot","deep","left","names","counts","params"]
def jG:ax ["lot","deep","left","names","counts","params","row","inner"] kP (ah qN):=by walk_at "s"
def mn:Rc "rows_left" qN:=by ac_nf
def eh:Nat->Fn
 | 0=>λ_ _=>none
 | n+1=>gZ 8
  (av (dQ (sg (az (au wC v1 (ki 5))) (sg (cQ (dJ (ar ni (a2 v0 (eK (.ty "tuple")))))) (az (au wC (ar bG (a1 v0)) (ki 12))))) (aO (eK .cu)) bz)
  (av (jI (dH v0) (gN 6) (av (dQ (sg (az (au cp v2 (ki 0))) (sg (cQ (dJ (ar lq (a1 v6)))) (cQ (dJ (ar gm (a4 v6 v3 v4 v5)))))) (aO (eK .cu)) bz)
  (av (Hv 2 oN (ki 1))
  (jI (dH (ar bU (a1 v6))) (gN 7) (av (aV 2 (ar (eh n) (af v7 (af (au aF v1 (ki 1)) (a4 v2 v3 v4 v5)))))
  (dQ (az (au Jg v2 (eK .cu))) (aO (eK .cu)) bz))))))
  (aO v2)))
abbrev nQ:Stmt:=top 36
abbrev ot:List Str:=["thing"]
def iV:ax ["thing","names","deeds","counts","left","deed","params","rows"] ot (ah nQ):=by walk_at "s"
def ud:Rc "is_program" nQ:=by ac_nf
def gV:Fn:=gZ 8
  (av (dQ (cQ (dJ (ar cN (a2 v0 (ki 2))))) (aO (eK (.bl false))) bz)
  (av (ft v0 (gT 2 (aj (gN 1) (aj (gN 2) bB))))
  (av (dQ (sg (cQ (dJ (ar lr (a1 v1)))) (cQ (dJ (ar lx (a1 v2))))) (aO (eK (.bl false))) bz)
  (av (aV 3 (Kn [none,none,none] (dH v2) (gT 3 (aj (gN 0) (aj (gN 1) (aj (gN 2) bB)))) bY (mD v0 (ar bG (a1 v1))) [] .dv))
  (av (aV 4 (ki 60))
  (av (jI (dH v2) (gT 3 (aj (gN 5) (aj (gN 6) (aj (gN 7) bB)))) (av (aV 4 (ar (eh 8) (af v7 (af (ki 1) (a4 v4 v1 v3 v6)))))
  (dQ (az (au Jg v4 (eK .cu))) (aO (eK (.bl false))) bz)))
  (aO (eK (.bl true)))))))))
abbrev nO:Stmt:=top 51
abbrev oo:List Str:=["program","number","other"]
def vR:ax ["program","number","other","deed","path","row","first","gone"] oo (ah nO):=by walk_at "s"
def uc:Rc "old_number" nO:=by ac_nf
def jW:Fn:=gZ 8
  (av (ft (ar cD (a2 v0 v1)) (gT 3 (aj (gN 3) (aj (gN 4) (aj (gN 5) bB)))))
  (av (dQ (az (au F5 v2 v1)) (aO v2) bz)
  (av (ft (ar bU (a1 v5)) (UJ (aj (gN 6) (aj (gN 7) bB))))
  (av (dQ (az (au F5 v2 (au aF v1 (ar bG (a1 (ar (cZ 8) (a2 v6 (ar bh aD)))))))) (aO (au aF v2 (ki 1))) bz)
  (aO (au aF (au aF v2 (ki 1)) (ar RX (a1 (gH (b8 [none] (dH v7) (gN 0) bY (ar bG (a1 (ar (cZ 8) (a2 v0 (ar bh aD)))))))))))))))
abbrev Ag:Stmt:=top 53
abbrev AE:List Str:=["row"]
def E8:ax ["row","sort","lock","lot"] AE (ah Ag):=by walk_at "s"
def Ck:Rc "as_ask" Ag:=by ac_nf
def vJ:Fn:=gZ 4
  (av (ft v0 (gT 3 (aj (gN 1) (aj (gN 2) (aj (gN 3) bB)))))
  (aO (ar bh (a4 (ks "ask") v2 v3 (ar bh aD)))))
abbrev j4:Stmt:=top 54
abbrev j7:List Str:=["program","some"]
def pQ:ax ["program","some","asked","number","deed","path","row"] j7 (ah j4):=by walk_at "s"
def nZ:Rc "asked_instead" j4:=by ac_nf
def cj:Fn:=gZ 7
  (av (aV 2 v0)
  (av (jI (dH v1) (gN 3) (av (ft (ar cY (a2 v2 v3)) (gT 3 (aj (gN 4) (aj (gN 5) (aj (gN 6) bB)))))
  (av (dQ (az (au iY (au aX v6 (ki 0)) (ks "within"))) iW bz)
  (aV 2 (ar eA (a4 v2 v4 v5 (ar bh (a1 (ar vJ (a1 v6))))))))))
  (aO v2)))
abbrev jb:Stmt:=top 73
abbrev jg:List Str:=["_law_program_here","_law_number","_law_lock_here"]
def fL:ax ["_law_program_here","_law_number","_law_lock_here","_law_more","_law_numbers"] jg (ah jb):=by walk_at "s"
def hW:Rc "_law_put_right" jb:=by ac_nf
abbrev nP:Stmt:=top 74
abbrev MM:List Str:=["_law_script"]
def tR:ax ["_law_script","_law_state","_law_turn","_law_program_here","_law_rows","_law_number","_law_lock_here","_law_waiting","_law_some","_law_others","_law_less"] MM (ah nP):=by walk_at "s"
def DM:Rc "law" nP:=by ac_nf
abbrev cT:Stmt:=top 72
abbrev uC:List Str:=["_law_call_here"]
def gE:ax ["_law_call_here","_law_caught","e","_law_marks"] uC (ah cT):=by walk_at "s"
def pX:Rc "_law_refused" cT:=by ac_nf
def qJ:SM:=
 (av (dQ (sg (az (au Jg (aw 1) (eK .cu))) (cQ (dJ (qx iA "ValueError" (aw 1))))) (aO (eK (.str ""))) bz)
  (av (aV 3 (gH (af (qx iA "NoRow" (aw 1)) (af (qx iA "NoLock" (aw 1)) (af (qx iA "NoText" (aw 1)) aD)))))
  (av (aV 3 (au aF (aw 3) (gH (af (qx iA "NoLine" (aw 1)) (af (qx iA "NoStep" (aw 1)) aD)))))
  (av (dQ (az (au iY (eM fU D7 (aw 3) (af (eK (.bl true)) aD)) (eK (.int 1)))) (aO (eK (.str "two"))) bz)
  (aO (au aX (eK (.lv [.str "NoRow",.str "NoLock",.str "NoText",.str "NoLine",.str "NoStep"])) (eM fU D6 (aw 3) (af (eK (.bl true)) aD))))))))
def iw:Xn:=Fy 3
  (sf (aV 2 (ar cb (af (aw 0) aD)))
  (GU (cQ (az (fv zo F5 (eK (.int 0)) (aw 1) (ar bG (af (aw 2) aD))))) (jC "NoRow" (af (eK (.str "there is no row of this number")) aD)) Nf))
def fk:Xn:=Fy 5
  (DD (Ki iw (af (aw 0) (af (aw 1) aD))) (sf (ft (ar cY (af (aw 0) (af (aw 1) aD))) (gT 3 (aj (gN 2) (aj (gN 3) (aj (gN 4) bB)))))
  (GU (cQ (dJ (ar gh (af (aw 4) aD)))) (jC "NoRow" (af (eK (.str "the row of this number has no lock")) aD)) Nf)))
def dY:Xn:=Fy 6
  (DD (Ki fk (af (aw 0) (af (aw 1) aD))) (sf (ft (ar cD (af (aw 0) (af (aw 1) aD))) (gT 3 (aj (gN 2) (aj (gN 3) (aj (gN 4) bB)))))
  (sf (aV 5 (au aX (ar bU (af (aw 4) aD)) (eK (.int 0))))
  (GU (az (au wC (au aF (au oN (ar bG (af (ar jz (af (ar g7 (af (aw 0) (af (aw 2) aD))) (af (aw 3) aD))) aD)) (eK (.int 1))) (ar bG (af (aw 5) aD))) (eK (.int 12)))) (jC "NoRow" (af (eK (.str "the lot would have too many rows")) aD)) Nf))))
def dZ:Xn:=Fy 7
  (DD (Ki iw (af (aw 0) (af (aw 1) aD))) (sf (ft (ar cY (af (aw 0) (af (aw 1) aD))) (gT 3 (aj (gN 3) (aj (gN 4) (aj (gN 5) bB)))))
  (sf (aV 6 (au aF (au zq (ar bG (af (aw 4) aD)) (eK (.int 2))) (eK (.int 1))))
  (DD (GU (az (au wC (ar (cf 8) (af (ar bh (af (aw 5) aD)) (af (au aF (aw 6) (eK (.int 1))) aD))) (eK (.int 5)))) (jC "NoRow" (af (eK (.str "a lot would stand too deep")) aD)) Nf) (sf (dQ (az (au wC (ar (cf 8) (af (ar bh (af (aw 5) aD)) (af (au aF (aw 6) (eK (.int 1))) aD))) (eK (.int 5)))) iW bz)
  (DD (GU (az (au Kl (ar bG (af (ar cb (af (aw 0) aD)) aD)) (eK (.int 60)))) (jC "NoRow" (af (eK (.str "there would be too many rows")) aD)) Nf) (sf (dQ (az (au Kl (ar bG (af (ar cb (af (aw 0) aD)) aD)) (eK (.int 60)))) iW bz)
  (GU (cQ (dJ (ar du (af (aw 2) (af (au aX (aw 0) (eK (.int 0))) (af (au aX (au aX (au aX (aw 0) (eK (.int 1))) (aw 3)) (eK (.int 1))) aD)))))) (jC "NoLock" (af (eK (.str "this is no lock of the program's names and the deed's params")) aD)) Nf))))))))
def gn:Fn:=gZ 5
  (av (dQ (az (au cp (eZ rP [some 2,some 1,some 0] qJ (Ki dZ (a3 v2 v1 v0)) (ar fD (a3 v2 v1 v0))) (ks "NoRow"))) (aO (eK (.bl true))) bz)
  (av (aV 3 (ar fD (a3 v0 v1 v2)))
  (av (dQ (sg (cQ (dJ (ar gV (a1 v3)))) (az (au iY (ar b9 (a2 v3 v1)) v0))) (aO (eK (.bl false))) bz)
  (av (aV 4 (gH (b8 [none,some 3,some 1] (qq (a1 (ar bG (a1 (ar g0 (a1 v0)))))) (gN 0) bY (ar jW (a3 v1 v2 v0)))))
  (aO (au cp v4 (gH (b8 [none,some 1] (qq (a1 (ar bG (a1 v4)))) (gN 0) bY (au aF v0 (ar zp (a1 (au Kl v0 v1))))))))))))
abbrev VR:SM:=(jI (dH v7) (gN 5) (dQ (az (au cp (eZ rP [some 5,some 3] qJ (Ki dY (a2 v1 v0)) (ar b9 (a2 v1 v0))) (ks ""))) (dQ (az (au iY (ar b9 (a2 (ar cj (a2 v3 (ar bh (a1 v5)))) v5)) (ar b9 (a2 v3 v5)))) (aO (eK (.bl false))) bz) bz))
abbrev VQ:SM:=(av (dQ (sg (az (au iY (ar cj (a2 v3 (ar bh aD))) v3)) (az (au iY (ar bG (a1 (ar g0 (a1 v10)))) (ar bG (a1 v4))))) (aO (eK (.bl false))) bz) VR)
abbrev VP:SM:=(av (dQ (sg (az (au iY (ar cj (a2 v10 v9)) (ar cj (a2 v3 (ar dU (a1 v7)))))) (cQ (dJ (ar gV (a1 v10))))) (aO (eK (.bl false))) bz) VQ)
abbrev VO:SM:=(av (aV 9 (ar dU (a1 (gH (b8 [none,some 8] (dH v7) (gN 0) (az (au ir v0 v1)) v0))))) (av (aV 10 (ar cj (a2 v3 v8))) VP))
abbrev VN:SM:=(av (aV 7 (gH (b8 [none,none,none] (uW (a1 v4)) (gT 2 (aj (gN 0) (aj (gT 2 (aj (gN 1) (aj (gN 2) bB))) bB))) (az (au cp (au aX v2 (ki 0)) (ks "within"))) v0))) (av (aV 8 (ar dU (a1 (gH (b8 [none,some 1] (dH v7) (gN 0) (az (au cp (ar aS (a2 v1 (ki 2))) (ki 0))) v0))))) VO))
abbrev VM:SM:=(av (jI (qq (a1 (ar bG (a1 v4)))) (gN 5) (av (aV 6 (ar bh (a2 (ar aY (a2 v1 (au aX v3 (ki 0)))) (ar bh (a2 (ks "") (au oN (ar aS (a2 v1 (ki 9))) (ki 4))))))) (dQ (cQ (dJ (ar gn (a3 v3 v5 v6)))) (aO (eK (.bl false))) bz))) VN)
def BD:Fn:=gZ 11
  (av (aV 1 (ar gW (a1 v0))) (av (jI (qq (a1 (ki 2))) (gN 2) (av (aV 3 (ar nC (a1 v1))) (av (aV 4 (ar g0 (a1 v3))) VM))) (aO (eK (.bl true)))))
structure Cc where
 l:PySem.W.OpenLaw
 w:World
 h:Heap
 mg:Str->Option Value
 base:Heap
section
variable (c:Cc)
abbrev ph:Prop:=Df c.l.prog c.w (Hd.aC c.h) c.mg c.base "_law_drawn" 1 ox 1 gW
abbrev r8:Prop:=Df c.l.prog c.w (Hd.aC c.h) c.mg c.base "_law_load" 1 rB 1 ly
abbrev cH:Prop:=Df c.l.prog c.w (Hd.aC c.h) c.mg c.base "_law_next" 2 rq 2 aS
abbrev eS:Prop:=Df c.l.prog c.w (Hd.aC c.h) c.mg c.base "_law_of" 3 xv 2 aY
abbrev pf:Prop:=Df c.l.prog c.w (Hd.aC c.h) c.mg c.base "_law_words" 4 ow 2 fS
abbrev o9:Prop:=Df c.l.prog c.w (Hd.aC c.h) c.mg c.base "_law_world" 5 ou 3 jX
abbrev i0:Prop:=Df c.l.prog c.w (Hd.aC c.h) c.mg c.base "_law_is_odd" 3 mr 2 fe
abbrev iN:Prop:=Df c.l.prog c.w (Hd.aC c.h) c.mg c.base "_law_term" 4 rp 2 cq
abbrev se:Prop:=Df c.l.prog c.w (Hd.aC c.h) c.mg c.base "_law_call" 5 rC 4 iO
abbrev rZ:Prop:=Df c.l.prog c.w (Hd.aC c.h) c.mg c.base "_law_lock" 5 rA 5 gA
abbrev DA:Prop:=Df c.l.prog c.w (Hd.aC c.h) c.mg c.base "_law_lot" 26 mX 7 (bV 20)
abbrev Qi:Prop:=Df c.l.prog c.w (Hd.aC c.h) c.mg c.base "_law_row" 26 mW 6 (iy 20)
abbrev Kr:Prop:=Df c.l.prog c.w (Hd.aC c.h) c.mg c.base "_law_locked" 26 iX 7 (fc 20)
abbrev GJ:Prop:=Df c.l.prog c.w (Hd.aC c.h) c.mg c.base "_law_two_ways" 26 gG 6 (di 20)
abbrev k9:Prop:=Df c.l.prog c.w (Hd.aC c.h) c.mg c.base "_law_program" 27 kR 3 iz
abbrev vF:Prop:=Df c.l.prog c.w (Hd.aC c.h) c.mg c.base "_law_any" 28 uD 1 nC
abbrev fC:Prop:=Df c.l.prog c.w (Hd.aC c.h) c.mg c.base "lots_of" 1 xo 1 bU
abbrev vC:Prop:=Df c.l.prog c.w (Hd.aC c.h) c.mg c.base "paths_in" 10 mU 2 (cZ 8)
abbrev fB:Prop:=Df c.l.prog c.w (Hd.aC c.h) c.mg c.base "places_of" 11 rg 1 cb
abbrev qG:Prop:=Df c.l.prog c.w (Hd.aC c.h) c.mg c.base "rows_of" 12 xm 1 g0
abbrev gg:Prop:=Df c.l.prog c.w (Hd.aC c.h) c.mg c.base "place_of" 12 mT 2 cY
abbrev yh:Prop:=Df c.l.prog c.w (Hd.aC c.h) c.mg c.base "deepest" 10 qf 2 (cf 8)
abbrev dq:Prop:=Df c.l.prog c.w (Hd.aC c.h) c.mg c.base "is_tuple_of" 1 mq 2 cN
abbrev vE:Prop:=Df c.l.prog c.w (Hd.aC c.h) c.mg c.base "is_whole" 1 uB 1 vI
abbrev lU:Prop:=Df c.l.prog c.w (Hd.aC c.h) c.mg c.base "is_term" 2 xr 2 gj
abbrev jw:Prop:=Df c.l.prog c.w (Hd.aC c.h) c.mg c.base "is_lock" 3 xt 3 du
abbrev Dz:Prop:=Df c.l.prog c.w (Hd.aC c.h) c.mg c.base "lot_with" 7 mV 3 (fy 6)
abbrev fR:Prop:=Df c.l.prog c.w (Hd.aC c.h) c.mg c.base "program_with" 8 kQ 4 eA
abbrev rT:Prop:=Df c.l.prog c.w (Hd.aC c.h) c.mg c.base "with_lock" 13 kO 3 fD
abbrev nz:Prop:=Df c.l.prog c.w (Hd.aC c.h) c.mg c.base "locks_of" 1 uA 1 gh
abbrev fm:Prop:=Df c.l.prog c.w (Hd.aC c.h) c.mg c.base "locking_place" 13 gF 2 cD
abbrev vD:Prop:=Df c.l.prog c.w (Hd.aC c.h) c.mg c.base "lot_on" 2 AD 2 jz
abbrev qH:Prop:=Df c.l.prog c.w (Hd.aC c.h) c.mg c.base "rows_in" 1 xn 2 g7
abbrev ix:Prop:=Df c.l.prog c.w (Hd.aC c.h) c.mg c.base "without_lock" 14 ig 2 b9
abbrev lT:Prop:=Df c.l.prog c.w (Hd.aC c.h) c.mg c.base "is_word" 1 xp 1 jA
abbrev fw:Prop:=Df c.l.prog c.w (Hd.aC c.h) c.mg c.base "are_unlike_words" 2 ij 3 cy
abbrev rY:Prop:=Df c.l.prog c.w (Hd.aC c.h) c.mg c.base "are_heads" 3 rn 1 lx
abbrev rW:Prop:=Df c.l.prog c.w (Hd.aC c.h) c.mg c.base "are_names" 3 rj 1 lr
abbrev yg:Prop:=Df c.l.prog c.w (Hd.aC c.h) c.mg c.base "is_call" 3 xu 4 qK
abbrev rX:Prop:=Df c.l.prog c.w (Hd.aC c.h) c.mg c.base "are_locks" 4 rm 3 lu
abbrev jv:Prop:=Df c.l.prog c.w (Hd.aC c.h) c.mg c.base "is_right_ahead" 5 jf 4 gm
abbrev rV:Prop:=Df c.l.prog c.w (Hd.aC c.h) c.mg c.base "is_shaped" 1 rh 1 lq
abbrev BB:Prop:=Df c.l.prog c.w (Hd.aC c.h) c.mg c.base "rows_left" 14 kP 6 (eh 8)
abbrev jU:Prop:=Df c.l.prog c.w (Hd.aC c.h) c.mg c.base "is_program" 15 ot 1 gV
abbrev o8:Prop:=Df c.l.prog c.w (Hd.aC c.h) c.mg c.base "old_number" 14 oo 3 jW
abbrev BC:Prop:=Df c.l.prog c.w (Hd.aC c.h) c.mg c.base "as_ask" 1 AE 1 vJ
abbrev ke:Prop:=Df c.l.prog c.w (Hd.aC c.h) c.mg c.base "asked_instead" 13 j7 2 cj
abbrev jx:Prop:=Df c.l.prog c.w (Hd.aC c.h) c.mg c.base "_law_put_right" 16 jg 3 gn
abbrev U0:Prop:=Vi c.l.prog c.w (Hd.aC c.h) c.mg c.base "_law_refused" qJ rP
abbrev lh:Prop:=Hd.Dx c.l.prog c.w (Hd.aC c.h) c.mg c.base "place_of" 12 mT 2 iw
abbrev jy:Prop:=Hd.Dx c.l.prog c.w (Hd.aC c.h) c.mg c.base "locking_place" 13 gF 2 fk
abbrev kg:Prop:=Hd.Dx c.l.prog c.w (Hd.aC c.h) c.mg c.base "without_lock" 14 ig 2 dY
abbrev pq:Prop:=Hd.Dx c.l.prog c.w (Hd.aC c.h) c.mg c.base "with_lock" 13 kO 3 dZ
structure Xr:Prop where
 pA:∃C,Gx c.mg c.base "NoRow" C
 Kc:∃C,Gx c.mg c.base "NoLock" C
end
section
variable {c:Cc} {mb:Str->Option Value} {mean:ExcName->Option Value} (T:Top view (PySem.W.looseW view (["SHAPES"]:List Str)) mean c.mg mb c.h) (B:Bs c.l.prog c.w (Hd.aC c.h) c.mg)
include T B
theorem wx:ph c:=Hd.aZ T ug λF _ _ _=>
 (aE F vS λ_ _ _ _ _ _ hr _=>by walk_at "v";with_reducible exact(aI (bD (tw.ob (iS (aa aT (aa (tw.ob (DL (by unfold Gl;ac_nf) B.Ds zG ∅ (ai aL))) ∅)) (ai (ai (ai aL))))))))
theorem zb:r8 c:=Hd.aZ T we λF _ _ _=>
 (aE F jH λ_ _ _ _ _ _ hr _=>by walk_at "v";with_reducible exact(ae ∅
   (ae ∅
   (ae (fK ∅ (pO hr.units (sv 0) aT))
   (ae ∅
   (ae ∅
   (aI (bK (SW.st (G8 ∅ (DH (eX AF ∅ (bH Iv aT aT) (cK _))))) (aI (fK ∅ (pO hr.units (sv 0) aT))) (ae (sset 4 jH.nd (bH uE (bH jL (bH bX (bH bX ∅ (bH jL (bH jL aT (sv 2)) (sv 2))) aT) aT) aT))
   (ae (sset 4 jH.nd (bH uE (bH jL (sv 4) (sv 4)) aT))
   (aI (fK (bH bX (bH uE (bH bX (bH bX (bH jL (sv 4) aT) (sv 2)) aT) aT) (bH Iv aT aT)) (pO hr.units (sv 0) aT)))))))))))))
theorem y9(a:r8 c):cH c:=Hd.aZ T wa λF _ _ _=>
 (aE F yB λ_ _ _ _ _ _ hr _=>by walk_at "v";with_reducible exact(ae ∅
   (ae ∅
   (ae (fK (bH CC ∅ (sv 1)) (pO hr.units (sv 0) aT))
   ∅))))
theorem CM(a:cH c):eS c:=Hd.aZ T Ar λF _ _ _=>
 (aE F Ca λ_ _ _ _ _ _ hr _=>by walk_at "u")
theorem wu(a:eS c)(b:cH c):pf c:=Hd.aZ T uf λF _ _ _=>
 (aE F l9 λ_ _ _ _ _ _ hr _=>by walk_at "v";with_reducible exact(ae ∅
   (ae ∅
   (ae (eY WV rfl (cR (by unfold Gl;ac_nf) B.eR (aa (fz a hr (aa (sv 0) (aa (eG 9 (by ac_nf)) aq))) aq) (hl:=(ai aL))) ∅ ∅)
   (ae ∅
   (ae ∅
   (ae (sset 7 l9.nd (fz a hr (aa (sv 0) (aa (eG 9 (by ac_nf)) aq))))
   (aI (bD (cE (N':=["_law_k","_law_at","_law_first","_law_letters","_law_stem","_law_stride"]) (caps:=[none,some 5,some 6,some 2,some 3,some 7]) (aM (by ac_nf)) rfl (cR (by unfold Gl;ac_nf) B.eR ∅ (hl:=(ai aL))) (λ_ _ _ _ _=>(sgn 0 (by show(["_law_k","_law_at","_law_first","_law_letters","_law_stem","_law_stride"]:List Str).Nodup;decide+kernel))) (λ_ _ _ _ _=>bP) (λ_ _ _ _ _=>(bH bX (bH bX ∅ (six hr (sv 3) (bH uE (bH bX (sv 2) (bH jL (sv 5) (sv 0))) aT))) ∅))))))))))))
theorem wt(b:pf c)(a:eS c)(e:cH c):o9 c:=Hd.aZ T ue λF _ _ _=>
 (aE F dm λ_ _ _ _ _ _ hr _=>by walk_at "v";with_reducible exact(ae (sset 3 dm.nd (fz b hr (aa (sv 0) (aa (fz a hr (aa (sv 0) (aa (eG 9 (by ac_nf)) aq))) aq))))
   (ae (sset 4 dm.nd (fz b hr (aa (sv 0) (aa (fz a hr (aa (sv 0) (aa (eG 9 (by ac_nf)) aq))) aq))))
   (ae ∅
   (ae (iE (i:=6) dm.nd (by ac_nf) (by ac_nf) (N':=["_law_deed","_law_state"]) (caps:=[none,some 0]) (aM (by ac_nf)) rfl (cz (sv 4)) (λ_ _ _ _ _=>(sgn 0 (by show(["_law_deed","_law_state"]:List Str).Nodup;decide+kernel))) (λ_ _ _ _ _=>bP) (λ_ _ _ _ _=>(fz a hr (aa (sv 1) (aa (eG 9 (by ac_nf)) aq)))))
   (ae (sset 7 dm.nd (lZ Jy B.vw qB (aa (cE (N':=["_law_deed","_law_names","_law_state"]) (caps:=[none,some 3,some 0]) (aM (by ac_nf)) rfl (cz (sv 4)) (λ_ _ _ _ _=>(sgn 0 (by show(["_law_deed","_law_names","_law_state"]:List Str).Nodup;decide+kernel))) (λ_ _ _ _ _=>bP) (λ_ _ _ _ _=>∅)) aq)))
   (ae (sset 5 dm.nd (cE (N':=["_law_k","_law_params"]) (caps:=[none,some 5]) (aM (by ac_nf)) rfl (cz (sv 6)) (λ_ _ _ _ _=>(sgn 0 (by show(["_law_k","_law_params"]:List Str).Nodup;decide+kernel))) (λ_ _ _ _ _=>bP) (λ_ _ _ _ _=>∅)))
   (aI (bD (Ho (lD bZ (sv 3) (lD bZ (sv 4) (lD bZ (sv 5) (lD bZ (sv 7) (lD bZ (sv 1) (lD bZ (sv 2) NI)))))) (by ac_nf) (by ac_nf) (by simp) λd h=>Ls h (by ac_nf) (by ac_nf) (by simp) (by decide)))))))))))
theorem uH(a:cH c):i0 c:=Hd.aZ T sm λF _ _ _=>
 (aE F tT λ_ _ _ _ _ _ hr _=>by walk_at "v";with_reducible exact(aI (bD (iU ∅ (iT ∅)))))
theorem y8(b:cH c)(a:eS c):iN c:=Hd.aZ T vZ λF _ _ _=>
 (aE F yA λ_ _ _ _ _ _ hr _=>by walk_at "v";with_reducible exact(ae ∅
   (ae (bK ∅ (aI (bD (cW (aa ∅ (aa (fz a hr (aa (sv 0) (aa (tw.lv (iS ∅ (ai (ai (ai (ai (ai (ai (ai (ai (ai aL))))))))))) aq))) aq)) (ai (ai aL))))) bj)
   ∅)))
theorem zc(b:i0 c)(d:eS c)(a:iN c):se c:=Hd.aZ T wg λF _ _ _=>
 (aE F gO λ_ _ _ _ _ _ hr _=>by walk_at "v";with_reducible exact(ae (iE (i:=4) gO.nd (by ac_nf) (by ac_nf) (N':=["_law_k","_law_deed","_law_top","_law_world_here"]) (caps:=[none,some 2,some 3,some 1]) (aM (by ac_nf)) rfl (cR (by unfold Gl;ac_nf) B.eR ∅ (hl:=(ai aL))) (λ_ _ _ _ _=>(sgn 0 (by show(["_law_k","_law_deed","_law_top","_law_world_here"]:List Str).Nodup;decide+kernel))) (λ_ _ _ _ _=>(lE ∅)) (λ_ _ _ _ _=>(sv 0)))
   (ae (bK ∅ (aI (sset 4 gO.nd (tw.lv (E3 rfl (by unfold Gl;ac_nf) B.Ds (by unfold Gl;ac_nf) B.eR zG ∅)))) bj)
   (ae ∅
   (ae ∅
   (ae (iE (i:=6) gO.nd (by ac_nf) (by ac_nf) (N':=["_law_one","_law_deed","_law_state","_law_world_here"]) (caps:=[none,some 2,some 0,some 1]) (aM (by ac_nf)) rfl ∅ (λ_ _ _ _ _=>(sgn 0 (by show(["_law_one","_law_deed","_law_state","_law_world_here"]:List Str).Nodup;decide+kernel))) (λ_ _ _ _ _=>bP) (λ_ _ _ _ _=>∅))
   ∅))))))
theorem za(d:cH c)(b:i0 c)(a:iN c):rZ c:=Hd.aZ T wb λF _ _ _=>
 (aE F nN λ_ _ _ _ _ _ hr _=>by walk_at "v";with_reducible exact(ae ∅
   (ae ∅
   (ae ∅
   (ae ∅
   (ae ∅
   (ae (iE (i:=8) nN.nd (by ac_nf) (by ac_nf) (N':=["_law_lock_here","_law_name"]) (caps:=[none,some 7]) (aM (by ac_nf)) rfl (cz (sv 4)) (λ_ _ _ _ _=>(sgn 0 (by show(["_law_lock_here","_law_name"]:List Str).Nodup;decide+kernel))) (λ_ _ _ _ _=>(lE ∅)) (λ_ _ _ _ _=>∅))
   ∅)))))))
theorem D0(f:cH c)(d:eS c)(g:se c)(b:iN c)(e:rZ c):∀n,Df c.l.prog c.w (Hd.aC c.h) c.mg c.base "_law_lot" (6+n) mX 7 (bV n)/\Df c.l.prog c.w (Hd.aC c.h) c.mg c.base "_law_row" (6+n) mW 6 (iy n)/\Df c.l.prog c.w (Hd.aC c.h) c.mg c.base "_law_locked" (6+n) iX 7 (fc n)/\Df c.l.prog c.w (Hd.aC c.h) c.mg c.base "_law_two_ways" (6+n) gG 6 (di n)
 | 0=>⟨Hd.aZ T n5 λ_ _ _ _=>iJ,Hd.aZ T n4 λ_ _ _ _=>iJ,Hd.aZ T j6 λ_ _ _ _=>iJ,Hd.aZ T iG λ_ _ _ _=>iJ⟩
 | n+1=>by
  obtain⟨a,j,k,m⟩:=D0 f d g b e n;refine⟨?_,?_,?_,?_⟩
  ·exact Hd.aZ T n5 λF _ _ _=>jl (aE F Ab λ_ _ _ _ _ _ hr _=>by walk_at "v";with_reducible exact(ae ∅
   (ae (eY WV rfl (cR (by unfold Gl;ac_nf) B.eR (aa (fz f hr (aa (sv 0) (aa (bH bX (fz d hr (aa (sv 0) (aa (bH bX (bH Iu ∅ aT) ∅) aq)) (V2 (by decide) (Wu _ _))) aT) aq)) (V2 (by decide) (Wu _ _))) aq) (hl:=(ai aL))) ∅ (aI (bK ∅ (ae (fK ∅ (pO hr.units (sv 1) bZ))
   (aI (nJ (BZ (isT:=fU) kr Xx Zv Z6 qm (sv 7) (aa (fz j hr ∅ (VZ _)) aq))))) bj)))
   ∅)))
  ·exact Hd.aZ T n4 λF _ _ _=>(aE F dO λ_ _ _ _ _ _ hr _=>by walk_at "v";with_reducible exact(ae (sset 6 dO.nd (fz f hr ∅ (V2 (by decide) (Wu _ _))))
   (ae (bK ∅ (aI (bD (cW (aa bZ (aa (fz d hr ∅ (V2 (by decide) (Wu _ _))) aq)) (ai (ai aL))))) bj)
   (ae (bK ∅ (aI (bD (fz g hr ∅ (V2 (by decide) (Wu _ _))))) bj)
   (ae (bK ∅ (aI (bD (fz m hr ∅ (VZ _)))) bj)
   (ae (bK ∅ (ae (NH 7 8 dO.nd (ai (ai aL)) rfl (by decide) (by with_unfolding_all exact(Ct rfl dO.nd rfl rfl (by decide) rfl rfl (aa (fz b hr (aa (sv 0) (aa (six hr (six hr (sv 1) bZ) (sv 2)) aq)) (V2 (by decide) (Wu _ _))) (aa (fz b hr (aa (sv 0) (aa (six hr (six hr (sv 1) bZ) (sv 2)) aq)) (V2 (by decide) (Wu _ _))) aq)) rfl)))
   (ae (iE (i:=9) dO.nd (by ac_nf) (by ac_nf) (N':=["_law_k","_law_deed","_law_deep","_law_held","_law_state","_law_top","_law_world_here"]) (caps:=[none,some 2,some 3,some 5,some 0,some 4,some 1]) (aM (by ac_nf)) rfl (cR (by unfold Gl;ac_nf) B.eR ∅ (hl:=(ai aL))) (λ_ _ _ _ _=>(sgn 0 (by show(["_law_k","_law_deed","_law_deep","_law_held","_law_state","_law_top","_law_world_here"]:List Str).Nodup;decide+kernel))) (λ_ _ _ _ _=>bP) (λ_ _ _ _ _=>(fz a hr ∅ (VZ _))))
   ∅)) bj)
   (ae (bK ∅ (ae (iE (i:=9) dO.nd (by ac_nf) (by ac_nf) (N':=["_law_k","_law_deed","_law_deep","_law_held","_law_state","_law_top","_law_world_here"]) (caps:=[none,some 2,some 3,some 5,some 0,some 4,some 1]) (aM (by ac_nf)) rfl (cR (by unfold Gl;ac_nf) B.eR ∅ (hl:=(ai aL))) (λ_ _ _ _ _=>(sgn 0 (by show(["_law_k","_law_deed","_law_deep","_law_held","_law_state","_law_top","_law_world_here"]:List Str).Nodup;decide+kernel))) (λ_ _ _ _ _=>bP) (λ_ _ _ _ _=>(fz a hr ∅ (VZ _))))
   ∅) bj)
   (ae (bK ∅ (aI (bD (cW (aa bZ (aa (fz a hr ∅ (VZ _)) aq)) (ai (ai aL))))) bj)
   (ae (sset 10 dO.nd (fz d hr (aa (sv 0) (aa (eG 9 (by ac_nf)) aq)) (V2 (by decide) (Wu _ _))))
   (aI (bD (fz k hr ∅ (VZ _)))))))))))))
  ·exact Hd.aZ T j6 λF _ _ _=>jl (aE F dP λ_ _ _ _ _ _ hr _=>by walk_at "v";with_reducible exact(ae (fK (fz e hr ∅ (V2 (by decide) (Wu _ _))) ∅)
   (ae ∅
   (ae (bK ∅ (ae (NH 9 10 dP.nd (ai (ai aL)) rfl (by decide) (by with_unfolding_all exact(Ct rfl dP.nd rfl rfl (by decide) rfl rfl (aa (tw.ob (iS (aa (sv 8) aq) (ai aL))) (aa (sv 7) aq)) rfl)))
   (ae (eY WV rfl (cR (by unfold Gl;ac_nf) B.eR (aa (fz d hr (aa (sv 0) (aa (eG 9 (by ac_nf)) aq)) (V2 (by decide) (Wu _ _))) aq) (hl:=(ai aL))) ∅ (ae (fK (fz e hr ∅ (V2 (by decide) (Wu _ _))) ∅)
   (ae ∅
   (aI (sset 9 dP.nd (tw.ob (NM (sv 9) (bH Iu ∅ ∅))))))))
   (ae (bK ∅ (aI (nJ (BZ (isT:=fU) kr Xx Zv Z6 qm (sv 9) (aa (cW (aa ∅ (aa (cW (aa ∅ (aa (bH CA ∅ (bH jL aT ∅)) aq)) (ai (ai aL))) aq)) (ai (ai aL))) aq)))) bj)
   (ae ∅
   (aI (bD (cW (aa bZ (aa ∅ (aa (fz a hr ∅ (VZ _)) aq))) (ai (ai (ai aL)))))))))) bj)
   (ae (sset 14 dP.nd (fz a hr ∅ (VZ _)))
   (ae (bK ∅ (aI (bD (cW (aa bZ (aa (sv 8) (aa (sv 14) (aa (fz a hr ∅ (VZ _)) aq)))) (ai (ai (ai (ai aL))))))) bj)
   ∅))))))
  ·exact Hd.aZ T iG λF _ _ _=>jl (aE F eI λ_ _ _ _ _ _ hr _=>by walk_at "v";with_reducible exact(ae ∅
   (ae ∅
   (ae (bK (eX (CB hr.units) (cE (N':=["_law_lock_here","_law_low","_law_world_here"]) (caps:=[none,some 6,some 1]) (aM (by ac_nf)) rfl (cz (sv 5)) (λ_ _ _ _ _=>(sgn 0 (by show(["_law_lock_here","_law_low","_law_world_here"]:List Str).Nodup;decide+kernel))) (λ_ _ _ _ _=>(lE ∅)) (λ_ _ _ _ _=>(sv 0))) ∅ (cK _)) ∅ bj)
   (ae ∅
   (ae (fK ∅ (pO hr.units (sv 1) bZ))
   (ae (NH 8 9 eI.nd (ai (ai aL)) rfl (by decide) (by with_unfolding_all exact(Ct rfl eI.nd rfl rfl (by decide) rfl rfl (aa (fz b hr (aa (sv 0) (aa (six hr (six hr (sv 1) bZ) (sv 2)) aq)) (V2 (by decide) (Wu _ _))) (aa (fz b hr (aa (sv 0) (aa (six hr (six hr (sv 1) bZ) (sv 2)) aq)) (V2 (by decide) (Wu _ _))) aq)) rfl)))
   (ae ∅
   (ae (eY WV rfl ∅ ∅ (ae (sset 13 eI.nd (fz a hr ∅ (VZ _)))
   ∅))
   ∅)))))))))
theorem su(d:o9 c)(a:DA c)(b:eS c):k9 c:=Hd.aZ T pY λF _ _ _=>
 jl (aE F jY λ_ _ _ _ _ _ hr _=>by walk_at "v";with_reducible exact(ae ∅
   (ae ∅
   (ae (eY WV rfl (nK (by unfold Gl;ac_nf) B.gz ∅ (ai aL)) ∅ (ae (sset 7 jY.nd (fz a hr (aa (sv 0) (aa (sv 3) (aa (sv 5) (aa aT (aa ∅ (aa ∅ (aa (fz b hr (aa (sv 0) (aa (eG 9 (by ac_nf)) aq))) aq)))))))))
   ∅))
   (aI (bD (cW (aa (NT jm B.fg dg (aa (lZ Jx B.vw qB ∅) aq)) ∅) (ai (ai aL)))))))))
theorem AJ(b:k9 c)(a:eS c):vF c:=Hd.aZ T yI λF _ _ _=>
 (aE F Ae λ_ _ _ _ _ _ hr _=>by walk_at "v";with_reducible exact(aI (bD (fz b hr (aa (sv 0) (aa (fz a hr (aa (sv 0) (aa (eG 9 (by ac_nf)) aq))) (aa (fz a hr (aa (sv 0) (aa (eG 9 (by ac_nf)) aq))) aq)))))))
theorem CH:fC c:=Hd.aZ T Am λF _ _ _=>
 (aE F B3 λ_ _ _ _ _ _ hr _=>by walk_at "v";with_reducible exact(aI (bD (Hm (sv 0) (DJ (six hr (BX B.pj ∅) aT)) DK))))
theorem rE(b:fC c):∀n,Df c.l.prog c.w (Hd.aC c.h) c.mg c.base "paths_in" (2+n) mU 2 (cZ n)
 | 0=>Hd.aZ T nX λ_ _ _ _=>iJ
 | n+1=>by
  have a:=rE b n;exact Hd.aZ T nX λF _ _ _=>jl (aE F z8 λ_ _ _ _ _ _ hr _=>by walk_at "v";with_reducible exact(ae ∅
   (ae (eY WV rfl (nK (by unfold Gl;ac_nf) B.gz ∅ (ai aL)) ∅ (ae ∅
   (ae ∅
   (aI (eY WV rfl (nK (by unfold Gl;ac_nf) B.gz (aa (fz b hr ∅ (V2 (by decide) (Wu _ _))) aq) (ai aL)) ∅ (aI (nJ (BZ (isT:=fU) kr Xx Zu Z5 xA (sv 2) (aa (fz a hr ∅ (VZ _)) aq)))))))))
   ∅)))
theorem yW(a:vC c):fB c:=Hd.aZ T vU λF _ _ _=>
 jl (aE F yt λ_ _ _ _ _ _ hr _=>by walk_at "v";with_reducible exact(ae ∅
   (ae (eY WV rfl (nK (by unfold Gl;ac_nf) B.gz ∅ (ai aL)) ∅ (aI (nJ (BZ (isT:=fU) kr Xx Zu Z5 xA (sv 1) (aa (cE (N':=["path","row","deed"]) (caps:=[none,none,some 2]) (aM (by ac_nf)) rfl ∅ (λ_ _ _ _ _=>(gB rfl (aN (sgn 0 (by show(["path","row","deed"]:List Str).Nodup;decide+kernel)) (aN (sgn 1 (by show(["path","row","deed"]:List Str).Nodup;decide+kernel)) eF)))) (λ_ _ _ _ _=>bP) (λ_ _ _ _ _=>∅)) aq)))))
   ∅)))
theorem CF(a:fB c):qG c:=Hd.aZ T Ak λF _ _ _=>
 (aE F B1 λ_ _ _ _ _ _ hr _=>by walk_at "v";with_reducible exact(aI (bD (NT jm B.fg dg (aa (cE (N':=["deed","path","row"]) (caps:=[none,none,none]) (aM (by ac_nf)) rfl ∅ (λ_ _ _ _ _=>(gB rfl (aN (sgn 0 (by show(["deed","path","row"]:List Str).Nodup;decide+kernel)) (aN (sgn 1 (by show(["deed","path","row"]:List Str).Nodup;decide+kernel)) (aN (sgn 2 (by show(["deed","path","row"]:List Str).Nodup;decide+kernel)) eF))))) (λ_ _ _ _ _=>bP) (λ_ _ _ _ _=>∅)) aq)))))
theorem AG(a:fB c):gg c:=Hd.aZ T nW λF _ _ _=>
 (aE F kA λ_ _ _ _ _ _ hr _=>by walk_at "v";with_reducible exact(ae ∅
   (ae (bK (cI (kz kT Iy aT (sv 1) ∅)) (aI fJ) bj)
   ∅)))
theorem uG(b:fC c):∀n,Df c.l.prog c.w (Hd.aC c.h) c.mg c.base "deepest" (2+n) qf 2 (cf n)
 | 0=>Hd.aZ T qZ λ_ _ _ _=>iJ
 | n+1=>by
  have a:=uG b n;exact Hd.aZ T qZ λF _ _ _=>(aE F B8 λ_ _ _ _ _ _ hr _=>by walk_at "v";with_reducible exact(aI (bD (KL rfl (by unfold Gl;ac_nf) B.MZ (aa (E4 (N':=["row","inner","deep"]) (caps:=[none,none,some 1]) (aM (by ac_nf)) rfl (cz (sv 0)) (λ_ _ _ _ _=>(sgn 0 (by show(["row","inner","deep"]:List Str).Nodup;decide+kernel))) (λ_ _ _ _ _=>bP) (λ_ _ _ _ _=>(cz (fz b hr ∅ (V2 (by decide) (Wu _ _))))) (λ_ _ _ _ _=>(sgn 1 (by show(["row","inner","deep"]:List Str).Nodup;decide+kernel))) (λ_ _ _ _ _=>bP) (λ_ _ _ _ _=>(fz a hr ∅ (VZ _)))) aq) (ai aL) (sv 1)))))
theorem uF:dq c:=Hd.aZ T sj λF _ _ _=>
 (aE F tS λ_ _ _ _ _ _ hr _=>by walk_at "v";with_reducible exact(aI (bD (iU (lZ gI B.aR bx (aa (sv 0) (aa (GF B.fg dg) aq))) (iT ∅)))))
theorem AI:vE c:=Hd.aZ T yH λF _ _ _=>
 (aE F Aa λ_ _ _ _ _ _ hr _=>by walk_at "v";with_reducible exact(aI (bD (iU (lZ gI B.aR bx (aa (sv 0) (aa (GF B.M0 JN) aq))) (iT (NR (lZ gI B.aR bx (aa (sv 0) (aa (GF B.P9 Mg) aq)))))))))
theorem CJ(d1:dq c)(a:vE c):lU c:=Hd.aZ T Ao λF _ _ _=>
 (aE F B5 λ_ _ _ _ _ _ hr _=>by walk_at "v";with_reducible exact(ae ∅
   (ae ∅
   (ae (bK (SW.st (i8 (cI (eW (lZ gI B.aR bx (aa (sv 2) (aa (GF B.Ez zF) aq))))) ∅)) ∅ bj)
   (aI (bD (iU (Q7 ∅ (iT ∅)) (iT (Hq kT kT (Hl BK (cS B.mE (by unfold Gl;ac_nf))) (sv 3) (cS B.mE (by unfold Gl;ac_nf)))))))))))
theorem CK(d1:dq c)(a:lU c):jw c:=Hd.aZ T Ap λF _ _ _=>
 (aE F B6 λ_ _ _ _ _ _ hr _=>by walk_at "v";with_reducible exact(ae ∅
   (ae ∅
   (aI (bD (iU (lZ gI B.aR bx (aa (sv 3) (aa (GF B.Ez zF) aq))) (iU ∅ (iT ∅))))))))
theorem rG:∀n,Df c.l.prog c.w (Hd.aC c.h) c.mg c.base "lot_with" (1+n) mV 3 (fy n)
 | 0=>Hd.aZ T nY λ_ _ _ _=>iJ
 | n+1=>by
  have a:=rG  n;exact Hd.aZ T nY λF _ _ _=>(aE F kB λ_ _ _ _ _ _ hr _=>by walk_at "v";with_reducible exact(ae ∅
   (ae (bK ∅ (ae ∅
   (ae (sset 5 kB.nd (bH bX (six hr (BX B.pj ∅) aT) ∅))
   (aI (sset 2 kB.nd (cW (aa (bH bX (bH bX ∅ (cW (aa (fz a hr ∅ (VZ _)) aq) (ai aL))) ∅) aq) (ai aL)))))) bj)
   ∅)))
theorem sr(a:Dz c):fR c:=Hd.aZ T pW λF _ _ _=>
 (aE F si λ_ _ _ _ _ _ hr _=>by walk_at "u")
theorem yV(d:gg c)(a:yh c)(e:fB c)(f:jw c)(b:fR c):rT c:=Hd.aZ T mm λF _ _ _=>
 (aE F bW λ_ _ _ _ _ _ hr _=>by walk_at "v";with_reducible exact(ae ∅
   (ae (sset 6 bW.nd (bH bX (bH CC ∅ aT) aT))
   (ae (bK (eX rD ∅ (cS B.iQ (by unfold Gl;ac_nf)) (cK _)) (aI fJ) bj)
   (ae (bK (eX AF ∅ (cS B.iP (by unfold Gl;ac_nf)) (cK _)) (aI fJ) bj)
   (ae (bK ∅ (aI fJ) bj)
   ∅))))))
theorem AH:nz c:=Hd.aZ T yG λF _ _ _=>
 (aE F z9 λ_ _ _ _ _ _ hr _=>by walk_at "u")
theorem qh(a:gg c)(b:nz c):fm c:=Hd.aZ T iF λF _ _ _=>
 (aE F bI λ_ _ _ _ _ _ hr _=>by walk_at "v";with_reducible exact(ae ∅
   (ae (bK ∅ (aI fJ) bj)
   ∅)))
theorem Fq(a:fC c):vD c:=Hd.aZ T Cj λF _ _ _=>
 (aE F E7 λ_ _ _ _ _ _ hr _=>by walk_at "v";with_reducible exact(ae ∅
   (ae (eY WV rfl (EZ (by unfold Gl;ac_nf) B.eR ∅ (hl:=(ai (ai (ai aL))))) ∅ ∅)
   ∅)))
theorem CG:qH c:=Hd.aZ T Al λF _ _ _=>
 (aE F B2 λ_ _ _ _ _ _ hr _=>by walk_at "u")
theorem so(b:fm c)(f:fC c)(d:vD c)(e:qH c)(a:fR c):ix c:=Hd.aZ T jc λF _ _ _=>
 (aE F bF λ_ _ _ _ _ _ hr _=>by walk_at "v";with_reducible exact(ae ∅
   (ae ∅
   (ae (bK (eX rD ∅ (cS B.i7 (by unfold Gl;ac_nf)) (cK _)) (aI fJ) bj)
   ∅))))
theorem CI:lT c:=Hd.aZ T An λF _ _ _=>
 (aE F B4 λ_ _ _ _ _ _ hr _=>by walk_at "v";with_reducible exact(ae (bK (SW.st (i8 (cI (eW (lZ gI B.aR bx (aa (sv 0) (aa (GF B.Ez zF) aq))))) (jD (cI (kz kT kT aT ∅ (cS B.vK (by unfold Gl;ac_nf))))))) ∅ bj)
   (aI (bD (lZ (qz rfl) B.x8 qC (aa (cE (N':=["letter"]) (caps:=[none]) (aM (by ac_nf)) rfl (NL (sv 0)) (λ_ _ _ _ _=>(sgn 0 (by show(["letter"]:List Str).Nodup;decide+kernel))) (λ_ _ _ _ _=>bP) (λ_ _ _ _ _=>(pP (MN hr.units) (sv 0) (cS B.GC (by unfold Gl;ac_nf)) (by ac_nf)))) aq))))))
theorem lX(d2:lT c):fw c:=Hd.aZ T kI λF _ _ _=>
 (aE F lW λ_ _ _ _ _ _ hr _=>by walk_at "v";with_reducible exact(ae (bK (SW.st (i8 (cI (eW (lZ gI B.aR bx (aa (sv 0) (aa (GF B.fg dg) aq))))) (jD (cI (kz kT kT (sv 1) ∅ (sv 2)))))) ∅ bj)
   (aI (bD (iU (lZ (qz rfl) B.x8 qC (aa (cE (N':=["word"]) (caps:=[none]) (aM (by ac_nf)) rfl (cz (sv 0)) (λ_ _ _ _ _=>(sgn 0 (by show(["word"]:List Str).Nodup;decide+kernel))) (λ_ _ _ _ _=>bP) (λ_ _ _ _ _=>∅)) aq)) (iT (pP (mY hr.units) (wQ rfl hr.units (by unfold Gl;ac_nf) B.o5 (by unfold Gl;ac_nf) B.MY (sv 0)) ∅ (cK _))))))))
theorem y7(d1:dq c)(a:fw c):rY c:=Hd.aZ T vY λF _ _ _=>
 (aE F yz λ_ _ _ _ _ _ hr _=>by walk_at "v";with_reducible exact(ae (bK (SW.st (i8 (cI (eW (lZ gI B.aR bx (aa (sv 0) (aa (GF B.fg dg) aq))))) (jD (cI (eW (lZ (qz rfl) B.x8 qC (aa (cE (N':=["deed"]) (caps:=[none]) (aM (by ac_nf)) rfl (cz (sv 0)) (λ_ _ _ _ _=>(sgn 0 (by show(["deed"]:List Str).Nodup;decide+kernel))) (λ_ _ _ _ _=>bP) (λ_ _ _ _ _=>∅)) aq))))))) ∅ bj)
   (ae (bK (cI (eW (fz a hr (aa (NT jm B.fg dg (aa (cE (N':=["deed"]) (caps:=[none]) (aM (by ac_nf)) rfl (cz (sv 0)) (λ_ _ _ _ _=>(sgn 0 (by show(["deed"]:List Str).Nodup;decide+kernel))) (λ_ _ _ _ _=>bP) (λ_ _ _ _ _=>∅)) aq)) (aa aT (aa (cS B.zR (by unfold Gl;ac_nf)) aq)))))) ∅ bj)
   (aI (bD (lZ (qz rfl) B.x8 qC (aa (cE (N':=["deed"]) (caps:=[none]) (aM (by ac_nf)) rfl (cz (sv 0)) (λ_ _ _ _ _=>(sgn 0 (by show(["deed"]:List Str).Nodup;decide+kernel))) (λ_ _ _ _ _=>bP) (λ_ _ _ _ _=>(fz a hr (aa ∅ (aa aT (aa (cS B.wH (by unfold Gl;ac_nf)) aq)))))) aq)))))))
theorem yZ(a:fw c):rW c:=Hd.aZ T vW λF _ _ _=>
 (aE F yw λ_ _ _ _ _ _ hr _=>by walk_at "v";with_reducible exact(aI (bD (iU (fz a hr (aa (sv 0) (aa aT (aa (cS B.zQ (by unfold Gl;ac_nf)) aq)))) (iT (pP (mY hr.units) (tw.lv (DL (by unfold Gl;ac_nf) B.Ds zG ∅ (ai aL))) (lZ Gd B.vw qB ∅) (cK _)))))))
theorem CL(d1:dq c)(d2:lT c)(a:lU c):yg c:=Hd.aZ T Aq λF _ _ _=>
 (aE F B7 λ_ _ _ _ _ _ hr _=>by walk_at "v";with_reducible exact(ae ∅
   (aI (bD (lZ (qz rfl) B.x8 qC (aa (cE (N':=["term","params"]) (caps:=[none,some 3]) (aM (by ac_nf)) rfl (cz (sv 1)) (λ_ _ _ _ _=>(sgn 0 (by show(["term","params"]:List Str).Nodup;decide+kernel))) (λ_ _ _ _ _=>bP) (λ_ _ _ _ _=>∅)) aq))))))
theorem y4(a:jw c):rX c:=Hd.aZ T vX λF _ _ _=>
 (aE F yx λ_ _ _ _ _ _ hr _=>by walk_at "v";with_reducible exact(ae (bK (SW.st (i8 (cI (eW (lZ gI B.aR bx (aa (sv 0) (aa (GF B.fg dg) aq))))) (jD (cI (kz kT kT (cS B.sG (by unfold Gl;ac_nf)) ∅ (cS B.wI (by unfold Gl;ac_nf))))))) ∅ bj)
   (aI (bD (iU (lZ (qz rfl) B.x8 qC (aa (cE (N':=["lock","names","params"]) (caps:=[none,some 1,some 2]) (aM (by ac_nf)) rfl (cz (sv 0)) (λ_ _ _ _ _=>(sgn 0 (by show(["lock","names","params"]:List Str).Nodup;decide+kernel))) (λ_ _ _ _ _=>bP) (λ_ _ _ _ _=>∅)) aq)) (iT (pP (mY hr.units) (wQ rfl hr.units (by unfold Gl;ac_nf) B.o5 (by unfold Gl;ac_nf) B.MY (sv 0)) ∅ (cK _))))))))
theorem oA(d2:lT c)(a:yg c)(b:rX c)(d:jw c)(e:lU c):jv c:=Hd.aZ T mP λF _ _ _=>
 (aE F nM λ_ _ _ _ _ _ hr _=>by walk_at "v";with_reducible exact(ae ∅
   (ae ∅
   (ae ∅
   (ae ∅
   (ae ∅
   (ae (bK ∅ (aI (bD (iU ∅ (iT ∅)))) bj)
   ∅)))))))
theorem yX:rV c:=Hd.aZ T vV λF _ _ _=>
 (aE F yu λ_ _ _ _ _ _ hr _=>by walk_at "v";with_reducible exact(ae (bK (SW.st (i8 (cI (eW (lZ gI B.aR bx (aa (sv 0) (aa (GF B.fg dg) aq))))) ∅)) ∅ bj)
   (ae (bK (SW.st (i8 (cI (eW (lZ gI B.aR bx (aa ∅ (aa (GF B.Ez zF) aq))))) (jD (KA B.pj ∅)))) ∅ bj)
   (ae (fK (BX B.pj ∅) ∅)
   ∅))))
theorem oz(a:jv c)(b:rV c)(e:fC c):∀n,Df c.l.prog c.w (Hd.aC c.h) c.mg c.base "rows_left" (6+n) kP 6 (eh n)
 | 0=>Hd.aZ T mn λ_ _ _ _=>iJ
 | n+1=>by
  have d:=oz a b e n;exact Hd.aZ T mn λF _ _ _=>(aE F jG λ_ _ _ _ _ _ hr _=>by walk_at "v";with_reducible exact(ae (bK (SW.st (i8 (eX rD (sv 1) (cS B.iQ (by unfold Gl;ac_nf)) (cK _)) (i8 (cI (eW (lZ gI B.aR bx (aa (sv 0) (aa (GF B.fg dg) aq))))) (jD (eX rD ∅ (cS B.i7 (by unfold Gl;ac_nf)) (cK _)))))) ∅ bj)
   (ae (eY WV rfl (cz (sv 0)) ∅ (ae (bK (SW.st (i8 ∅ (i8 (cI (eW (fz b hr ∅ (V2 (by decide) (Wu _ _))))) (jD (cI (eW (fz a hr ∅ (V2 (by decide) (Wu _ _))))))))) ∅ bj)
   (ae (Ud 2 jG.nd aT LM)
   (aI (eY WV rfl (cz (fz e hr ∅ (V2 (by decide) (Wu _ _)))) ∅ (ae (sset 2 jG.nd (fz d hr ∅ (VZ _)))
   ∅))))))
   ∅)))
theorem wq(d1:dq c)(b:rY c)(d:rW c)(a:BB c):jU c:=Hd.aZ T ud λF _ _ _=>
 (aE F iV λ_ _ _ _ _ _ hr _=>by walk_at "v";with_reducible exact(ae ∅
   (ae ∅
   (ae ∅
   (ae (Ha (i:=3) iV.nd (by ac_nf) (by ac_nf) (N':=["deed","params","rows"]) (caps:=[none,none,none]) (aM (by ac_nf)) rfl (cz (sv 2)) (λ_ _ _ _ _=>(gB rfl (aN (sgn 0 (by show(["deed","params","rows"]:List Str).Nodup;decide+kernel)) (aN (sgn 1 (by show(["deed","params","rows"]:List Str).Nodup;decide+kernel)) (aN (sgn 2 (by show(["deed","params","rows"]:List Str).Nodup;decide+kernel)) eF))))) (λ_ _ _ _ _=>bP) (λ_ _ _ _ _=>(sv 0)) (λ_ _ _ _ _=>∅))
   (ae (sset 4 iV.nd (cS B.iP (by unfold Gl;ac_nf)))
   ∅))))))
theorem wm(a:fm c)(d:fC c)(b:vC c):o8 c:=Hd.aZ T uc λF _ _ _=>
 (aE F vR λ_ _ _ _ _ _ hr _=>by walk_at "v";with_reducible exact(ae ∅
   (ae ∅
   (ae (fK ∅ (KI rfl (E2 ∅ ∅)))
   (ae ∅
   (aI (bD (bH bX ∅ (lZ (PH rfl) B.Sl P2 (aa (cE (N':=["lot"]) (caps:=[none]) (aM (by ac_nf)) rfl (cz (sv 7)) (λ_ _ _ _ _=>(sgn 0 (by show(["lot"]:List Str).Nodup;decide+kernel))) (λ_ _ _ _ _=>bP) (λ_ _ _ _ _=>∅)) aq))))))))))
theorem Fs:BC c:=Hd.aZ T Ck λF _ _ _=>
 (aE F E8 λ_ _ _ _ _ _ hr _=>by walk_at "u")
theorem qi(d:gg c)(b:fR c)(a:BC c):ke c:=Hd.aZ T nZ λF _ _ _=>
 (aE F pQ λ_ _ _ _ _ _ hr _=>by walk_at "v";with_reducible exact(ae ∅
   (ae (eY WV rfl (cz (sv 1)) ∅ (ae ∅
   (ae (bK ∅ (aI fJ) bj)
   ∅)))
   ∅)))
theorem OX:U0 c:=by
 obtain⟨f,C,m,F⟩:=Hd.Eg T pX;obtain⟨G,z,y⟩:=B.S_;have x:∃(a:List Stmt)(i g d v u p3 t r q p o n:Pos)(j:Nat),eQ cT=.Assign [.Name "_law_caught" i] (.Constant .none j g) d::.Try [.Expr (.Call (.Name "_law_call_here" v) [] [] u) p3] [.ExceptHandler (some (.Name "StuckError" t)) (some "e") [.Assign [.Name "_law_caught" r] (.Name "e" q) p] o] [] [] n::a/\∀(k:Nat)(b:Value)(A:Around)(outer:List Env)(s:Shared)(H:Hp)(E:XK),dh k (A.deeper (envOfC "_law_refused" (ah cT) s.heap.objs.size f b))->Gy (f9 pC c.l.prog c.w (Hd.aC c.h) c.mg c.base ["_law_call_here","_law_caught","e","_law_marks"] "_law_refused" (ah cT) f b A outer s H E).IF a qJ:=by
  refine⟨_,_,_,_,_,_,_,_,_,_,_,_,_,_,by(conv=>lhs;whnf),λk b A outer s H E hr=>?_⟩;unfold qJ;(conv=>arg 2;whnf);with_reducible exact(ae (bK (SW.st (i8 ∅ (jD (cI (eW (Q4 (tb:=iA) (ns:=sy) B.Qx B.aR B.zK (sv 1) (Vu (by decide+kernel)))))))) ∅ bj)
   (ae (sset 3 gE.nd (tw.lv (iS (aa (Hh (tb:=iA) (ns:=sy) B.Qx B.aR (sv 1)) (aa (Hh (tb:=iA) (ns:=sy) B.Qx B.aR (sv 1)) (aa (Hh (tb:=iA) (ns:=sy) B.Qx B.aR (sv 1)) aq))) (ai (ai (ai aL))))))
   (ae (sset 3 gE.nd (bH bX (sv 3) (tw.lv (iS (aa (Hh (tb:=iA) (ns:=sy) B.Qx B.aR (sv 1)) (aa (Hh (tb:=iA) (ns:=sy) B.Qx B.aR (sv 1)) aq)) (ai (ai aL))))))
   (ae (bK (eX (CB hr.units) (BZ (isT:=fU) kr Xx Aac PySem.F.type_list_count (FE hr.units) (sv 3) ∅) aT (cK _)) ∅ bj)
   (aI (bD (six hr (eG 9 (by ac_nf)) (BZ (isT:=fU) kr Xx Aab PySem.F.type_list_index (FD hr.units) (sv 3) ∅))))))))
 obtain⟨a,i,g,d,v,u,p3,t,r,q,p,o,n,j,e,ht⟩:=x;exact⟨f,G,C,cT,"_law_call_here","_law_caught","e","_law_marks",a,i,g,d,v,u,p3,t,r,q,p,o,n,j,F,gE,m,F.kp,F.one (λ_ _ _ _ _ _ _=>rfl),e,⟨by ac_nf,by ac_nf,by ac_nf,by ac_nf⟩,⟨z,y⟩,⟨by ac_nf,by ac_nf,by ac_nf,by ac_nf⟩,⟨λ_=>by ac_nf,λ_=>by ac_nf,λ_=>by ac_nf⟩,ht⟩
theorem yU(R:Xr c)(a:fB c):lh c:=Hd.D5 T nW λF=>
 LW F kA λb A outer s H E hr _=>by(conv=>arg 3;whnf);with_reducible exact(gu (sset 2 kA.nd (fz a hr (aa (sv 0) aq)))
   (cw (wJ (cI (kz kT Iy aT (sv 1) (lZ nu B.o5 ny (aa (sv 2) aq)))) (cw (Qs R.pA bZ)) pD)))
theorem oy(R:Xr c)(d:nz c)(b:gg c)(a:lh c):jy c:=Hd.D5 T iF λF=>
 LW F bI λe A outer s H E hr _=>by(conv=>arg 3;whnf);with_reducible exact(tx (cw (Na (g:=(gT 3 (aj (gN 2) (aj (gN 3) (aj (gN 4) bB))))) (Qz a hr yQ (aa (sv 0) (aa (sv 1) aq))) (gB rfl (aN (sgn 2 bI.nd) (aN (sgn 3 bI.nd) (aN (sgn 4 bI.nd) eF)))))) (gu (fK (fz b hr (aa (sv 0) (aa (sv 1) aq))) (gB rfl (aN (sgn 2 bI.nd) (aN (sgn 3 bI.nd) (aN (sgn 4 bI.nd) eF)))))
   (cw (wJ (cI (eW (fz d hr (aa (sv 4) aq)))) (cw (Qs R.pA bZ)) pD))))
theorem qg(R:Xr c)(d:vD c)(e:qH c)(f:fC c)(b:fm c)(a:jy c):kg c:=Hd.D5 T jc λF=>
 LW F bF λh A outer s H E hr _=>by(conv=>arg 3;whnf);with_reducible exact(tx (cw (Na (g:=(gT 3 (aj (gN 2) (aj (gN 3) (aj (gN 4) bB))))) (Qz a hr yQ (aa (sv 0) (aa (sv 1) aq))) (gB rfl (aN (sgn 2 bF.nd) (aN (sgn 3 bF.nd) (aN (sgn 4 bF.nd) eF)))))) (gu (fK (fz b hr (aa (sv 0) (aa (sv 1) aq))) (gB rfl (aN (sgn 2 bF.nd) (aN (sgn 3 bF.nd) (aN (sgn 4 bF.nd) eF)))))
   (gu (sset 5 bF.nd (six hr (fz f hr (aa (sv 4) aq)) aT))
   (cw (wJ (eX rD (bH bX (bH CA (lZ nu B.o5 ny (aa (fz d hr (aa (fz e hr (aa (sv 0) (aa (sv 2) aq))) (aa (sv 3) aq))) aq)) aT) (lZ nu B.o5 ny (aa (sv 5) aq))) (cS B.i7 (by unfold Gl;ac_nf)) (cK _)) (cw (Qs R.pA bZ)) pD)))))
theorem wk(R:Xr c)(f:jw c)(b:fB c)(a:yh c)(e:gg c)(d:lh c):pq c:=Hd.D5 T mm λF=>
 LW F bW λh A outer s H E hr _=>by(conv=>arg 3;whnf);with_reducible exact(tx (cw (Na (g:=(gT 3 (aj (gN 3) (aj (gN 4) (aj (gN 5) bB))))) (Qz d hr yQ (aa (sv 0) (aa (sv 1) aq))) (gB rfl (aN (sgn 3 bW.nd) (aN (sgn 4 bW.nd) (aN (sgn 5 bW.nd) eF)))))) (gu (fK (fz e hr (aa (sv 0) (aa (sv 1) aq))) (gB rfl (aN (sgn 3 bW.nd) (aN (sgn 4 bW.nd) (aN (sgn 5 bW.nd) eF)))))
   (gu (sset 6 bW.nd (bH bX (bH CC (lZ nu B.o5 ny (aa (sv 4) aq)) aT) aT))
   (tx (cw (wJ (eX rD (fz a hr (aa (cW (aa (sv 5) aq) (ai aL)) (aa (bH bX (sv 6) aT) aq))) (cS B.iQ (by unfold Gl;ac_nf)) (cK _)) (cw (Qs R.pA bZ)) pD)) (gu (bK (eX rD (fz a hr (aa (cW (aa (sv 5) aq) (ai aL)) (aa (bH bX (sv 6) aT) aq))) (cS B.iQ (by unfold Gl;ac_nf)) (cK _)) (aI fJ) bj)
   (tx (cw (wJ (eX AF (lZ nu B.o5 ny (aa (fz b hr (aa (sv 0) aq)) aq)) (cS B.iP (by unfold Gl;ac_nf)) (cK _)) (cw (Qs R.pA bZ)) pD)) (gu (bK (eX AF (lZ nu B.o5 ny (aa (fz b hr (aa (sv 0) aq)) aq)) (cS B.iP (by unfold Gl;ac_nf)) (cK _)) (aI fJ) bj)
   (cw (wJ (cI (eW (fz f hr (aa (sv 2) (aa (six hr (sv 0) aT) (aa (six hr (six hr (six hr (sv 0) aT) (sv 3)) aT) aq)))))) (cw (Qs R.Kc bZ)) pD)))))))))
theorem oB(l:U0 c)(e:rT c)(f:ix c)(h:jU c)(g:qG c)(d:o8 c)(a:pq c):jx c:=Hd.aZ T hW λF _ _ m=>
 (Ef F (Hd.D9 T hW F m) fL λj A outer s H E b hr=>by have:=fL.nd;(conv=>arg 2;whnf);with_reducible exact(ae (bK (eX (mY hr.units) (Q2 (k:=13) (Nl:=["_law_lock_here","_law_number","_law_program_here"]) (caps:=[some 2,some 1,some 0]) l b hr (by decide) (aM (by ac_nf)) (λ_ _ _ _ _ _ _ _ _ hr=>(Qz a hr DY ∅)) (λ_ _ _ _ _ _ _ _ _ hr=>∅)) bZ (cK _)) ∅ bj)
   (ae ∅
   (ae ∅
   (ae (iE (i:=4) fL.nd (by ac_nf) (by ac_nf) (N':=["_law_other","_law_more","_law_number"]) (caps:=[none,some 3,some 1]) (aM (by ac_nf)) rfl (cR (by unfold Gl;ac_nf) B.eR ∅ (hl:=(ai aL))) (λ_ _ _ _ _=>(sgn 0 (by show(["_law_other","_law_more","_law_number"]:List Str).Nodup;decide+kernel))) (λ_ _ _ _ _=>bP) (λ_ _ _ _ _=>∅))
   (aI (bD (pP (mY hr.units) (sv 4) (cE (N':=["_law_other","_law_number"]) (caps:=[none,some 1]) (aM (by ac_nf)) rfl (cR (by unfold Gl;ac_nf) B.eR ∅ (hl:=(ai aL))) (λ_ _ _ _ _=>(sgn 0 (by show(["_law_other","_law_number"]:List Str).Nodup;decide+kernel))) (λ_ _ _ _ _=>bP) (λ_ _ _ _ _=>∅)) (cK _)))))))))
theorem OZ(F:vO (Hd.aC c.h) "law" "law" nP f fd)(m:c.mg "law"=some (.ref f))(u:U0 c)(n:ph c)(e:vF c)(q:qG c)(j:cH c)(g:eS c)(d:jx c)(o:ke c)(r:jU c)(p:ix c)(a:kg c):fT c.l.prog c.w (Hd.aC c.h) c.mg c.base pC 29 f fd MM (EV (Hd.aC c.h) 1 BD):=
 (Ef F (Hd.D9 T DM F m) tR λt A outer s H E b hr=>by have:=tR.nd;(conv=>arg 2;whnf);with_reducible exact(ae ∅
   (ae (eY WV rfl (cR (by unfold Gl;ac_nf) B.eR ∅ (hl:=(ai aL))) ∅ (ae ∅
   (ae ∅
   (ae (eY WV rfl (cR (by unfold Gl;ac_nf) B.eR ∅ (hl:=(ai aL))) ∅ ∅)
   (ae (iE (i:=7) tR.nd (by ac_nf) (by ac_nf) (N':=["_law_number","_law_deed","_law_row_here"]) (caps:=[none,none,none]) (aM (by ac_nf)) rfl (nK (by unfold Gl;ac_nf) B.gz ∅ (ai aL)) (λ_ _ _ _ _=>(gB rfl (aN (sgn 0 (by show(["_law_number","_law_deed","_law_row_here"]:List Str).Nodup;decide+kernel)) (aN (gB rfl (aN (sgn 1 (by show(["_law_number","_law_deed","_law_row_here"]:List Str).Nodup;decide+kernel)) (aN (sgn 2 (by show(["_law_number","_law_deed","_law_row_here"]:List Str).Nodup;decide+kernel)) eF))) eF)))) (λ_ _ _ _ _=>(lE ∅)) (λ_ _ _ _ _=>(sv 0)))
   (ae (sset 8 tR.nd (NT jm B.fg dg (aa (cE (N':=["_law_one","_law_state"]) (caps:=[none,some 1]) (aM (by ac_nf)) rfl (cz (sv 7)) (λ_ _ _ _ _=>(sgn 0 (by show(["_law_one","_law_state"]:List Str).Nodup;decide+kernel))) (λ_ _ _ _ _=>(lE ∅)) (λ_ _ _ _ _=>(sv 0))) aq)))
   (ae (sset 9 tR.nd (NT jm B.fg dg (aa (cE (N':=["_law_one","_law_some"]) (caps:=[none,some 8]) (aM (by ac_nf)) rfl (cz (sv 7)) (λ_ _ _ _ _=>(sgn 0 (by show(["_law_one","_law_some"]:List Str).Nodup;decide+kernel))) (λ_ _ _ _ _=>(lE ∅)) (λ_ _ _ _ _=>(sv 0))) aq)))
   (ae ∅
   (ae ∅
   (ae ∅
   (aI (eY WV rfl (cz (sv 7)) ∅ (aI (bK (eX (mY hr.units) (Q2 (k:=14) (Nl:=["_law_number","_law_program_here"]) (caps:=[some 5,some 3]) u b hr (by decide) (aM (by ac_nf)) (λ_ _ _ _ _ _ _ _ _ hr=>(Qz a hr DY ∅)) (λ_ _ _ _ _ _ _ _ _ hr=>∅)) bZ (cK _)) ∅ bj))))))))))))))
   ∅)))
theorem Sq(R:Xr c)(m:c.mg "law"=some (.ref f))(F:vO (Hd.aC c.h) "law" "law" nP f fd)(hF:∀ns:List Int,ns.length<=63->∃h',BD [.ro (ns.map D.int)] []=some (.bl true,h')):fT c.l.prog c.w (Hd.aC c.h) c.mg c.base pC 29 f fd ["_law_script"] (spT (Hd.aC c.h)):=by
 have O:=wx T B;have N:=zb T B;have b:=y9 T B N;have a:=CM T B b;have M:=wu T B a b;have L:=wt T B M a b;have o:=uH T B b;have i:=y8 T B b a;have I:=zc T B o a i;have J:=za T B b o i;obtain⟨H,d43,d42,d41⟩:=D0 T B b a I i J 20;have G:=su T B L H a;have E:=AJ T B G a;have g:=CH T B;have u:=rE T B g 8;have e:=yW T B u;have t:=CF T B e;have d:=AG T B e;have p:=uG T B g 8;have d1:=uF T B;have d0:=AI T B;have Q:=CJ T B d1 d0;have x:=CK T B d1 Q;have Y:=rG T B  6;have j:=sr T B Y;have X:=yV T B d p e x j;have d6:=AH T B;have k:=qh T B d d6;have r:=Fq T B g;have s:=CG T B;have q:=so T B k g r s j;have d2:=CI T B;have d7:=lX T B d2;have d9:=y7 T B d1 d7;have d8:=yZ T B d7;have d11:=CL T B d1 d2 Q;have d10:=y4 T B x;have d13:=oA T B d2 d11 d10 x Q;have d12:=yX T B;have Z:=oz T B d13 d12 g 8;have v:=wq T B d1 d9 d8 Z;have U:=wm T B k g u;have S:=Fs T B;have P:=qi T B d j S;have RF:=OX T B;have n:=yU T B R e;have A:=oy T B R d6 d n;have z:=qg T B R r s g k A;have y:=wk T B R x e p d n;have C:=oB T B RF X q v t U y;exact LH (OZ T B F m RF O E t b a C P v q z) hF
end
def gw:Hd.freeOk view (["SHAPES"]:List Str) ["ValueError","abs","all","bool","enumerate","int","isinstance","len","list","max","min","range","set","sorted","str","sum","tuple"]=true:=by decide+kernel
def all_mk{l:PySem.W.OpenLaw}{w:World}{h:Heap}{mg n:Str->Option Value}{b:ExcName->Option Value}(T:Top view (PySem.W.looseW view (["SHAPES"]:List Str)) b mg n h)
  (a:Hd.tabAt h "SHAPES"=some (eC.map λx=>(x.1,hashStr w x.1,x.2)))
  (d:Hd.sD h (iA.map (·.1)) sy=Hd.Bf iA sy)
  (o:∀ns:List Int,ns.length<=63->∃p,BD [.ro (ns.map D.int)] []=some (.bl true,p)):
  ∃(j:Addr)(e:FuncData),mg "law"=some (.ref j)/\(∀(s:Shared)(v:Value),BindsTo s e ⟨[v],[]⟩ [("_law_script",v)])/\∀base:Heap,(Hd.aC h).In base->base.Ns mainGlobals mg->fT l.prog w (Hd.aC h) mg base pC 29 j e ["_law_script"] (spT (Hd.aC h)):=by
 have B:Bs l.prog w (Hd.aC h) mg:=⟨Hd.cG T gw (VX (i:=0) rfl),Hd.cG T gw (VX (i:=1) rfl),Hd.cG T gw (VX (i:=2) rfl),Hd.cG T gw (VX (i:=3) rfl),Hd.cG T gw (VX (i:=4) rfl),Hd.cG T gw (VX (i:=5) rfl),Hd.cG T gw (VX (i:=6) rfl),Hd.cG T gw (VX (i:=7) rfl),Hd.cG T gw (VX (i:=8) rfl),Hd.cG T gw (VX (i:=9) rfl),Hd.cG T gw (VX (i:=10) rfl),Hd.cG T gw (VX (i:=11) rfl),Hd.cG T gw (VX (i:=12) rfl),Hd.cG T gw (VX (i:=13) rfl),Hd.cG T gw (VX (i:=14) rfl),Hd.cG T gw (VX (i:=15) rfl),Hd.cG T gw (VX (i:=16) rfl),Hd.gq T (by ac_nf),Hd.gq T (by ac_nf),Hd.gq T (by ac_nf),Hd.gq T (by ac_nf),Hd.gq T (by ac_nf),Hd.gq T (by ac_nf),Hd.gq T (by ac_nf),Hd.L7 T (by ac_nf) (by decide+kernel),Hd.gq T (by ac_nf),Hd.gq T (by ac_nf),Hd.gq T (by ac_nf),Hd.tab_of a T.g (by decide+kernel),Hd.RZ T d,Hd.Ue T d (by ac_nf) (by decide+kernel) (Zy.mpr ⟨⟨by ac_nf,_,rfl,by decide+kernel⟩,Zy.mpr ⟨⟨by ac_nf,_,rfl,by decide+kernel⟩,List.forall_mem_nil _⟩⟩)⟩;obtain⟨f,e,m,F⟩:=Hd.Eg T DM;exact⟨f,e,m,F.one λ_ _ _ _ _ _ _=>rfl,λbase k _=>Sq (c:=⟨l,w,h,mg,base⟩) T B ⟨Hd.DC T (by ac_nf) k,Hd.DC T (by ac_nf) k⟩ m F o⟩
end Mi
local macro_rules | `(tactic| walk_at $s:str) => let k := s.getString.front;let a := "|Sm.Sd|Sm.Si|Sm.P0|Sm.Sf|Sm.Se|Sm.UR|Sm.UQ|Sm.UU|Sm.UT|Sm.US|Sm.VJ|Sm.VL|Sm.Sh|Sm.Sg|Sm.PX|Sm.PY|Sm.df|Sm.kj|Sm.uh|Sm.MG|Sm.HJ|Sm.oh|Sm.iH|Sm.kJ|Sm.Rk|Sm.r_sbrk|Sm.r_scont|Sm.wj|Sm.Ug|Sm.K0|Sm.Av|Sm.cJ|Sm.kK|Sm.Uk|Sm.HH|Sm.Ui|Sm.r_dv|Sm.r_do|Sm.fV|Sm.pZ|Sm.hY|Sm.N7|Sm.HF|Sm.HK|Sm.Uh|Sm.r_not|Sm.r_sl|Sm.Ri|Sm.Rj|Sm.Fe|Sm.Ob|Sm.jd|Sm.yK|Sm.Rp|Sm.Oc|Sm.Ux|Sm.Uy|Sm.Tx|Sm.t_bk|Sm.t_ct|Sm.UG|Sm.l_ct|Sm.l_bk|Sm.l_rt|Sm.N6|Sm.Ro";if k != 'o' && k != 'g' && k != 'r' then Lean.Macro.throwUnsupported else do {let t <- (((if k == 'r' then a ++ "|Sm.QC|Sm.QE|Sm.w_add|Sm.w_sub|Sm.w_lt|Sm.w_le|Sm.Ts|Sm.Tt|Sm.QL|Sm.QG|Sm.QK|Sm.QF|Sm.QJ|Sm.QI|Sm.QH|Sm.Nh|Sm.Ni|Sm.Co" else a).splitOn "|").drop 1).toArray.mapM (λn => `(Lean.Parser.Tactic.tacticSeq| refine $(Lean.mkIdent n.toName) ?_));if k == 'o' then `(tactic| with_reducible first $[| $t]*) else `(tactic|((repeat with_reducible first $[| $t]*);(try dsimp only)))}
namespace Mi
open PySem Sm
def mK(c:0 < b)(q:Q (.int (a % b),h)):Rn (uY (.int a) (.int b) h) Q:=⟨_,by unfold uY;dsimp only;rw[V1 c],q⟩
def NY(d:0 < b)(c:b<=10^40)(q:Q (.int (a / b),h)):Rn (zq (.int a) (.int b) h) Q:=⟨_,by unfold zq;dsimp only;rw[V1 ⟨d,c⟩],q⟩
def pU(c:oE a b=true)(q:Q (.int (a*b),h)):Rn (kY (.int a) (.int b) h) Q:=⟨_,by show(if oE a b then _ else _)=_;rw[V1 c],q⟩
def mul_r(d:-(2^64) < b)(c:b < 2^64):oE a b=true:=by unfold oE;simp only[X1,Wm,WS];exact .inr ⟨d,c⟩
def IG(d:-(2^64) < a)(c:a < 2^64):oE a b=true:=by unfold oE;simp only[X1,Wm,WS];exact .inl ⟨d,c⟩
def FK{h:MH}{s c:Nat}{cs:List Int}{n t:Int}(hs:h[s]?=some (.lst [.int n,.ob c,.int t]))(hc:h[c]?=some (.lst (cs.map D.int)))(ne:c≠s)(o:0<=t)(tB:t < 2^60):
  Rn (ly [.ob s] h) λp=>∃g,0<=g/\p=(.cu,h.set s (.lst [.int g,.ob c,.int (t+1)])):=by
 have hl:s < h.length:=(VW.mp hs).1;generalize e:h.set s (.lst [.int n,.ob c,.int (t+1)])=H;have m:H[s]?=some (.lst [.int n,.ob c,.int (t+1)]):=by rw[<-e];exact WG hl
 have f:H[c]?=some (.lst (cs.map D.int)):=by rw[<-e,WR (XX ne)];exact hc
 have a:∀v:Int,wB (.ob s) (.int 0) (.int v) H=some (h.set s (.lst [.int v,.ob c,.int (t+1)])):=λv=>by
  rw[zk (p:=0) m rfl,<-e,List.set_set];rfl
 have l:wB (.ob s) (.int 2) (.int (t+1)) h=some H:=by rw[zk (p:=2) hs rfl,<-e];rfl
 have j:bG [.ob c] H=some (.int cs.length,H):=by rw[Ei f,VU]
 refine bE ?_;walk_at "g";refine rv (kZ hs rfl) ?_;walk_at "g";refine rv (kZ hs rfl) ?_;walk_at "g";refine rv rfl ?_;walk_at "g";refine rv l ?_;walk_at "g";refine rv (F4 f) ⟨_,rfl,λd=>?pos,λd=>?neg⟩
 case' pos=>
  have i:0 < cs.length:=by cases cs with | nil=>simp at d | cons _ _=>simp
  walk_at "g";refine rv j (mK (by lia) ?_);obtain⟨z,k⟩:=JS cs (t % (cs.length:Int)) (Xd _ (by lia)) (Xo _ (by lia));refine rv (kZ f k) ?_
 all_goals
  walk_at "g";refine rv j (rv rfl ⟨_,rfl,?_⟩);refine(λb=>⟨λr=>?thenA,λ_=>⟨λz=>(nomatch z),λ_=>b⟩⟩) ?thenB
  case thenA=>
   walk_at "g";refine rv rfl ?_;walk_at "g";refine rv rfl (rv rfl ⟨_,rfl,λq=>?_,λ_=>b⟩);walk_at "g";refine rv rfl ?_;walk_at "g";refine rv (a _) ?_;walk_at "g";exact⟨_,by split <;> lia,rfl⟩
  case thenB=>
   walk_at "g";refine mK (by decide) ?_;walk_at "g";refine pU (IG (by decide) (by decide)) ?_;walk_at "g";refine pU (mul_r (by lia) (by lia)) (rv rfl ?_);walk_at "g";refine rv rfl ?_;walk_at "g";refine pU (mul_r (by decide) (by decide)) ?_;walk_at "g";refine mK (by decide) ?_;walk_at "g";refine pU (IG (Int.lt_of_lt_of_le (by decide) (Xd _ (by decide))) (Int.lt_trans (Xo _ (by decide)) (by decide))) ?_;walk_at "g";refine mK (by decide) ?_;walk_at "g";refine pU (mul_r (by decide) (by decide)) ?_;walk_at "g";refine rv rfl ?_;walk_at "g";refine rv rfl ?_;walk_at "g";refine mK (by decide) ?_;walk_at "g";refine rv rfl (rv rfl ?_);walk_at "g";refine rv (a _) ?_;walk_at "g";exact⟨_,Int.add_nonneg (Xd _ (by decide)) (by decide),rfl⟩
structure St(s c:Nat)(cs:List Int)(R:Nat)(h:MH):Prop where
 st:∃n t:Int,h[s]?=some (.lst [.int n,.ob c,.int t])/\0<=n/\0<=t/\t+R<=2^60
 ce:h[c]?=some (.lst (cs.map D.int))
 ne:c≠s
def zS(s:Nat)(h a:MH):Prop:=a.length=h.length/\∀k,k≠s->a[k]?=h[k]?
def zS.refl(s:Nat)(h:MH):zS s h h:=⟨rfl,λ_ _=>rfl⟩
theorem zS.trans(a:zS s h d)(b:zS s d c):zS s h c:=⟨b.1.trans a.1,λk n=>(b.2 k n).trans (a.2 k n)⟩
theorem zS.set:zS s h (h.set s o):=⟨Xa,λk n=>WR (XX n)⟩
section
variable {s c R:Nat} {cs:List Int} {h:MH}
theorem St.le(S:St s c cs R h)(f:R'<=R):St s c cs R' h:=by
 obtain⟨n,t,e,a,b,d⟩:=S.st;exact⟨⟨n,t,e,a,b,by lia⟩,S.ce,S.ne⟩
theorem St.dn(k:Nat)(S:St s c cs (R+k) h):St s c cs R h:=S.le (Wu _ _)
theorem St.set{a:Nat}{n t:Int}(S:St s c cs R h)(d:0<=n)(b:0<=t)(h3:t+a<=2^60):St s c cs a (h.set s (.lst [.int n,.ob c,.int t])):=by
 obtain⟨g,f,e,_⟩:=S.st;exact⟨⟨n,t,WG (VW.mp e).1,d,b,h3⟩,by rw[WR (XX S.ne)];exact S.ce,S.ne⟩
theorem St.more(S:St s c cs R h)(g:MH):St s c cs R (h++g):=by
 obtain⟨n,t,e,r⟩:=S.st;exact⟨⟨n,t,by rw[Wc (VW.mp e).1];exact e,r⟩,by rw[Wc (VW.mp S.ce).1];exact S.ce,S.ne⟩
theorem St.off(S:St s c cs R h)(b:k≠s)(a:k≠c):St s c cs R (h.set k o):=by
 obtain⟨n,t,e,r⟩:=S.st;exact⟨⟨n,t,by rw[WR b];exact e,r⟩,by rw[WR a];exact S.ce,S.ne⟩
theorem St.lt(S:St s c cs R h):s < h.length/\c < h.length:=by
 obtain⟨n,t,e,r⟩:=S.st;exact⟨(VW.mp e).1,(VW.mp S.ce).1⟩
structure Sb(s c:Nat)(cs:List Int)(h0:MH)(R:Nat)(h:MH):Prop where
 S:St s c cs R h
 b:zS s h0 h
theorem St.sb(S:St s c cs R h):Sb s c cs h R h:=⟨S,zS.refl _ _⟩
theorem Sb.dn(k:Nat)(A:Sb s c cs h0 (R+k) h):Sb s c cs h0 R h:=⟨A.S.dn k,A.b⟩
theorem Sb.le(A:Sb s c cs h0 R h)(a:R'<=R):Sb s c cs h0 R' h:=⟨A.S.le a,A.b⟩
theorem Sb.at_(A:Sb s c cs h0 R h)(e:h0[k]?=some o)(n:k≠s):h[k]?=some o:=(A.b.2 k n).trans e
variable {h0:MH}
theorem fQ{m:Int}{Q:D×MH->Prop}(A:Sb s c cs h0 (R+1) h)(i:0 < m)(v:m<=10^40)(k:∀(r:Int)(j:MH),0<=r->r < m->Sb s c cs h0 R j->Q (.int r,j)):Rn (aS [.ob s,.int m] h) Q:=by
 have S:=A.S;obtain⟨n,t,hs,y,u,tB⟩:=S.st;refine bE ?_;walk_at "g";refine rv (kZ hs rfl) ?_;walk_at "g";refine rv rfl ⟨_,rfl,λ_=>?pos,λ_=>?neg⟩
 case' pos=>
  walk_at "g";obtain⟨p,w,o,g,rfl⟩:=FK hs S.ce S.ne u (by lia);refine rv w ?_;have l:St s c cs R (h.set s (.lst [.int o,.ob c,.int (t+1)])):=S.set g (by lia) (by lia);have q:zS s h (h.set s (.lst [.int o,.ob c,.int (t+1)])):=zS.set
 case' neg=>
  have l:St s c cs R h:=S.dn 1;have q:zS s h h:=zS.refl s h
 all_goals
  generalize h.set s (MO.lst [D.int _,D.ob c,D.int (t+1)])=j at*;obtain⟨n2,x,a,f,e,d⟩:=l.st;walk_at "g";refine rv (kZ a rfl) ?_;walk_at "g";refine mK i ?_;walk_at "g";refine rv (kZ a rfl) ?_;walk_at "g";refine NY i v ?_;walk_at "g";refine rv (zk (p:=0) a rfl) ?_;walk_at "g";exact k _ _ (Xd _ (by lia)) (Xo _ i) ⟨l.set (Int.ediv_nonneg f (by lia)) e d,A.b.trans (q.trans zS.set)⟩
theorem JL(A:Sb s c cs h0 (R+1) h)(hd:d=.lv xs\/d=.tup xs)(o:0 < xs.length)(n:xs.length<=1000000)(k:∀(x:D)(b:MH),x∈xs->Sb s c cs h0 R b->Q (x,b)):Rn (aY [.ob s,d] h) Q:=by
 refine bE ?_;walk_at "g";have l:bG [d] h=some (.int xs.length,h):=by rcases hd with rfl | rfl <;> rfl
 refine rv l ?_;walk_at "g";refine fQ A (by lia) (by lia) λr a f e m=>?_;obtain⟨v,j,g⟩:=JQ f e;have i:aX d (.int r) a=some (v,a):=by rcases hd with rfl | rfl <;> simp only[aX,fG,fF,WJ,j,WC]
 refine rv i ?_;walk_at "g";exact k v a g m
theorem mC{is:List Int}{Q:D×MH->Prop}(P:Int->Prop)(f:∀i∈is,P i)(A:Sb s c cs h0 (R+1) h)(k:∀(i:Int)(a:MH),P i->i∈is->Sb s c cs h0 R a->Q (.int i,a))(d:0 < is.length:=by simp)(j:is.length<=1000:=by simp):Rn (aY [.ob s,.lv (is.map D.int)] h) Q:=
 JL A (.inl rfl) (by rw[VU];exact d) (by rw[VU];lia) λx a e g=>by
  obtain⟨i,b,rfl⟩:=Ww.mp e;exact k i a (f i b) b g
end
def Di(ns:List Int)(hn:ns.length<=63)(R:Nat)(b:R<=2^60):∃cs:List Int,gW [.ro (ns.map D.int)] []=some (.ob 1,[.lst (cs.map D.int),.lst [.int 0,.ob 0,.int 0]])/\St 1 0 cs R [.lst (cs.map D.int),.lst [.int 0,.ob 0,.int 0]]:=by
 refine⟨(ns.drop (HT.de ns.length 0 none)).take (HT.de ns.length ns.length (some 63)-HT.de ns.length 0 none),?_,⟨⟨0,0,rfl,by decide,by decide,by lia⟩,rfl,by decide⟩⟩;have e:Rn (gW [.ro (ns.map D.int)] []) λp=>p=(.ob 1,[.lst (((ns.drop (HT.de ns.length 0 none)).take (HT.de ns.length ns.length (some 63)-HT.de ns.length 0 none)).map D.int),.lst [.int 0,.ob 0,.int 0]]):=by
  refine bE ?_;walk_at "g";refine HI ?_;walk_at "g";refine⟨_,rfl,rv rfl ?_⟩;walk_at "g";refine⟨_,_,_,rfl,rfl,?_⟩;walk_at "g";simp only[cutD,VU,Z8,ZE,Yj,Yi,XO,V9]
 obtain⟨p,a,rfl⟩:=e;exact a
end Mi
namespace Mi
open PySem Sm L2
def qt(hl:a.length+b.length<=10000):aF (.str a) (.str b) h=some (.str (a++b),h):=by
 show(if a.length+b.length<=sizeLine then some (D.str (a++b),h) else none)=_;rw[V1 (by rw[show sizeLine=16777216 from rfl];lia)]
def Bc(hl:a.length<=10000):bG [.str a] h=some (.int a.length,h):=by
 show(if a.length<=sizeLine then some (D.int a.length,h) else none)=_;rw[V1 (by rw[show sizeLine=16777216 from rfl];lia)]
def Bb(hl:a.length<=10000):ng (.str a) lo b h=some (.str (Txt.slice a lo b),h):=by
 show(if a.length<=sizeLine then some (D.str (Txt.slice a lo b),h) else none)=_;rw[V1 (by rw[show sizeLine=16777216 from rfl];lia)]
def vn(z:Str)(i:Int):Str:=match jt z.cps.toList i with
 | some c=>⟨#[c]⟩
 | none=>""
def L3(hl:z.length<=10000)(b:0<=i)(a:i < z.cps.toList.length):(vn z i).length=1/\aX (.str z) (.int i) h=some (.str (vn z i),h):=by
 obtain⟨v,e,_⟩:=JQ (xs:=z.cps.toList) b a;have d:vn z i=⟨#[v]⟩:=by unfold vn;rw[e]
 rw[d];refine⟨rfl,?_⟩;show(if z.length<=sizeLine then(jt z.cps.toList i).map λc=>(D.str ⟨#[c]⟩,h) else none)=_;rw[V1 (by rw[show sizeLine=16777216 from rfl];lia),e];rfl
noncomputable def gp:Str:="abcdefghijklmnopqrstuvwxyz"
def m8(b:0<=i)(a:i < 26):(vn gp i).length=1/\aX (.str "abcdefghijklmnopqrstuvwxyz") (.int i) h=some (.str (vn gp i),h):=
 L3 (z:=gp) (by decide) b (by rw[show(gp.cps.toList.length:Int)=26 by decide];exact a)
def low(w:Str):Prop:=∀c∈w.cps,97<=c/\c<=122
def LB:low "":=λc hc=>absurd (show c∈(#[]:Array Nat) from hc) (by simp)
def zf(f:low a)(e:low b):low (a++b):=by
 intro c hc;have d:c∈a.cps++b.cps:=hc;rcases Array.mem_append.mp d with z | z
 ·exact f c z
 ·exact e c z
def xC(l u:Option Int)(h:low x):low (Txt.slice x l u):=by
 unfold Txt.slice
 split
 ·exact h
 ·intro c hc;have a:c∈(List.filterMap (x.cps[·]?) (Builtin.Str.strSliceIndices l u 1 x.length)).toArray:=hc;rw[List.mem_toArray] at a;obtain⟨i,_,e⟩:=XU.mp a;exact h c (Zw e)
def CT(h:low w):PyData.strOk w=true:=lC.mpr λc hc=>by have:=(h c hc).2;exact XR this (by decide)
def CW:gp.cps.toList=(List.range 26).map (97+·):=by decide+kernel
def zy(b:0<=i)(a:i < 26):vn gp i=⟨#[97+i.toNat]⟩:=by
 obtain⟨n,rfl⟩:=Xy b;have:jt gp.cps.toList (n:Int)=some (97+n):=by
  rw[CW];exact tj (by rw[Wa,List.getElem?_range (by exact Zr.mp a)];rfl)
 unfold vn;rw[this];rfl
def Bp(b:0<=i)(a:i < 26):low (vn gp i):=by
 rw[zy b a];intro c hc;have:c=97+i.toNat:=by simpa using hc
 lia
def z7(b:0<=j):(Txt.slice x none (some j)).length<=j.toNat:=by
 have a:(Builtin.Str.strSliceIndices none (some j) 1 x.length).length<=j.toNat:=by
  unfold Builtin.Str.strSliceIndices sliceRange;simp only[show(1:Int) > 0 by decide,Ys,VU,Wv]
  (split <;> (try split) <;> (try split) <;> (try simp only[Aan]) <;> lia)
 unfold Txt.slice
 split
 ·next z=>simp at z;have:x.cps.size=x.length:=rfl;lia
 ·show(List.filterMap _ (Builtin.Str.strSliceIndices none (some j) 1 x.length)).toArray.size<=_;rw[Wi];exact V2 (Zj _ _) a
def z6(b:0<=j):(Txt.slice x (some j) none).length<=x.length-j.toNat:=by
 have a:(Builtin.Str.strSliceIndices (some j) none 1 x.length).length<=x.length-j.toNat:=by
  unfold Builtin.Str.strSliceIndices sliceRange;simp only[show(1:Int) > 0 by decide,Ys,VU,Wv]
  (split <;> (try split) <;> (try split) <;> (try simp only[Aan]) <;> lia)
 unfold Txt.slice
 split
 ·next z=>simp at z;have:x.cps.size=x.length:=rfl;lia
 ·show(List.filterMap _ (Builtin.Str.strSliceIndices (some j) none 1 x.length)).toArray.size<=_;rw[Wi];exact V2 (Zj _ _) a
def Dv{a b x y:Str}(e:a++x++b=a++y++b):x=y:=by
 have f:(a.cps++x.cps)++b.cps=(a.cps++y.cps)++b.cps:=congrArg Str.cps e;have c:=congrArg Array.toList f;simp only[Array.toList_append] at c;have d:=List.append_cancel_left (List.append_cancel_right c);cases x;cases y;exact congrArg Str.mk (Array.toList_inj.mp d)
def wordAt(b:Str)(at_ first a:Int)(k:Int):Str:=Txt.slice b none (some at_)++vn gp ((first+a*k) % 26)++Txt.slice b (some at_) none
def GV{b:Str}{at_ first a:Int}{k j:Nat}(hs:a∈[1,3,5,7,9,11])(f:k < 6)(hj:j < 6)(e:wordAt b at_ first a k=wordAt b at_ first a j):k=j:=by
 have c:=Dv (show Txt.slice b none (some at_)++_++Txt.slice b (some at_) none=Txt.slice b none (some at_)++_++_ from e);rw[zy (Xd _ (by decide)) (Xo _ (by decide)),zy (Xd _ (by decide)) (Xo _ (by decide))] at c;have h:97+((first+a*k) % 26).toNat=97+((first+a*j) % 26).toNat:=by injection c with c;injection c with c;injection c
 have g:(first+a*k) % 26=(first+a*j) % 26:=by
  have a1:=Xd (first+a*k) (show(26:Int)≠0 by decide);have a2:=Xd (first+a*j) (show(26:Int)≠0 by decide);rw[<-Y5 a1,<-Y5 a2,Nat.add_left_cancel h]
 have d:=Int.emod_eq_emod_iff_emod_sub_eq_zero.mp g;rw[show first+a*(k:Int)-(first+a*(j:Int))=a*((k:Int)-(j:Int)) by rw[Int.mul_sub,Int.add_sub_add_left]] at d;exact(by decide:∀s∈([1,3,5,7,9,11]:List Int),∀k:Nat,k < 6->∀j:Nat,j < 6->(s*((k:Int)-(j:Int))) % 26=0->k=j) a hs k f j hj d
def zD{h:MH}{s c R:Nat}{cs:List Int}{m:Int}{q:MH}{Q:D×MH->Prop}(A:Sb s c cs q (R+20) h)(Z:0<=m)(Y:m<=6)
  (kk:∀(p:List Str)(F:MH),p.length=m.toNat->(∀w∈p,1<=w.length/\w.length<=7/\low w)->p.Nodup->Sb s c cs q R F->Q (.lv (p.map D.str),F)):Rn (fS [.ob s,.int m] h) Q:=by
 refine bE ?_;walk_at "g";refine hZ ?_;walk_at "g";refine mC (is:=[0,1,1,2,3,6]) (λi=>0<=i/\i<=6) (by decide) A λk F v _ A1=>?_;walk_at "g";refine⟨k,rfl,by exact Xi (by decide) v.1,by exact XW v.2 (by decide),?_⟩;refine dR (λi l h'=>∃g G,l=[some (.ob s),some (.int m),some (.str "abcdefghijklmnopqrstuvwxyz"),some (.str g),G,none,none,none]/\g.length<=i/\low g/\Sb s c cs q (R+19-i) h')
  ⟨"",_,rfl,VZ _,LB,A1⟩ (λ_ _ _ _ _=>rfl) ?_ ?_
 ·rintro i x l E t ⟨g,G,rfl,o,bu,j⟩;have hi:i < k.toNat:=by
   have:=(VW.mp t).1
   simpa using this
  rw[show R+19-i=R+19-(i+1)+1 by lia] at j;walk_at "g";refine fQ j (by decide) (by decide) λr h3 J I H=>?_;walk_at "g";obtain⟨hc,e4⟩:=m8 (h:=h3) J I;refine rv e4 ?_;walk_at "g";refine rv (qt (by lia)) ?_;walk_at "g";exact⟨g++vn gp r,_,rfl,by rw[YG];lia,zf bu (Bp J I),H⟩
 ·rintro l E ⟨g,G,rfl,o,bu,j⟩;rw[VU,Wv] at o j;have j:Sb s c cs q (R+3) E:=j.le (by lia);walk_at "g";refine rv (Bc (by lia)) ?_;walk_at "g";refine rv (a:=(.int ((g.length:Int)+1),E)) rfl ?_;walk_at "g";refine fQ j (by simp) (by lia) λat_ h3 O a1 H=>?_
  walk_at "g";refine fQ H (by decide) (by decide) λfirst h4 f0 f1 A4=>?_
  walk_at "g";refine mC (is:=[1,3,5,7,9,11]) (λi=>0<=i/\i<=11) (by decide) A4 λd C ht tm A5=>?_;obtain⟨S,P⟩:=ht;walk_at "g";refine hZ ?_;walk_at "g";refine⟨m,rfl,by exact Xi (by decide) Z,by exact XW Y (by decide),?_⟩;have hw:∀k:Int,1<=(wordAt g at_ first d k).length/\(wordAt g at_ first d k).length<=7/\low (wordAt g at_ first d k):=by
   intro k;have N:=Xd (first+d*k) (show(26:Int)≠0 by decide);have M:=Xo (first+d*k) (show(0:Int) < 26 by decide);obtain⟨hc,e⟩:=m8 (i:=(first+d*k) % 26) (h:=[]) N M;have X:=z7 (x:=g) O;have U:=z6 (x:=g) O;have T:low (wordAt g at_ first d k):=zf (zf (xC _ _ bu) (Bp N M)) (xC _ _ bu);refine(λ(z:_/\_)=>⟨z.1,z.2,T⟩) ?_;unfold wordAt;rw[YG,YG]
   lia
  refine rv (yL rfl (λx=>match x with | .int k=>some (.str (wordAt g at_ first d k)) | _=>none) (λl=>∃L,l=[L,some (.int at_),some (.int first),some (.str "abcdefghijklmnopqrstuvwxyz"),some (.str g),some (.int d)]) ⟨_,rfl⟩ ?_) ⟨?_,?_⟩
  ·rintro x t l ⟨L,rfl⟩;obtain⟨k,v,rfl⟩:=Ww.mp t;refine rv rfl ⟨rfl,rv rfl ⟨rfl,⟨_,rfl⟩,λ_=>⟨_,rfl,?_⟩,λz=>(nomatch z)⟩⟩;refine wj (wj (Co ?_));walk_at "g";refine⟨_,rfl,rv (Bb (a:=g) (by lia)) ?_⟩;walk_at "g";refine pU (IG (by exact Xi (by decide) S) (by exact XW P (by decide))) ?_;refine rv (a:=(.int (first+d*(k:Int)),C)) rfl ?_;walk_at "g";refine mK (by decide) ?_;obtain⟨hc,e⟩:=m8 (i:=(first+d*(k:Int)) % 26) (h:=C) (Xd _ (by decide)) (Xo _ (by decide));have X:=Txt.slice_le g none (some at_);have U:=Txt.slice_le g (some at_) none;refine rv e (rv (qt (by lia)) ?_);refine Co ?_;walk_at "g";refine⟨_,rfl,?_⟩;walk_at "g";refine rv (Bb (a:=g) (by lia)) (rv (qt (by rw[YG];lia)) ?_);rfl
  ·rw[Zc];exact V2 (Zj _ _) (by rw[Wv,show sizeLine=16777216 from rfl];lia)
  ·walk_at "g";rw[show List.filterMap (λx=>match x with | D.int k=>some (D.str (wordAt g at_ first d k)) | _=>none) ((List.range m.toNat).map λ(k:Nat)=>D.int k)=((List.range m.toNat).map λ(k:Nat)=>wordAt g at_ first d (k:Int)).map D.str by
    rw[Zc,Xh];exact congrFun (Aas (f:=D.str∘λ(k:Nat)=>wordAt g at_ first d (k:Int))) _]
   refine kk _ C (by simp) (λw u=>?_) ?_ A5
   ·obtain⟨k,_,rfl⟩:=Ww.mp u;exact hw k
   ·rw[List.nodup_iff_pairwise_ne,List.pairwise_map];refine(List.nodup_range (n:=m.toNat)).imp_of_mem λ{a b} ha hb y e=>y ?_;have:=XT.mp ha;have:=XT.mp hb;exact GV tm (by lia) (by lia) e
def St.cut(S:Mi.St s c cs B (a++g))(f:s < a.length)(d:c < a.length):Mi.St s c cs B a:=by
 obtain⟨n,t,e,r⟩:=S.st;have b:=S.ce;rw[Wc f] at e;rw[Wc d] at b;exact⟨⟨n,t,e,r⟩,b,S.ne⟩
def Cl(h:MH):Prop:=∀o∈h,BF h.length o=true
theorem Et(n:Nat):∀a:List Int,gS n (a.map D.int)=true
 | []=>rfl
 | j::r=>by rw[V6];show(jq n (.int _)&&gS n _)=true;rw[Et n r];rfl
def Cl.but(C:Cl h)(S:Mi.St s c cs B d)(b:zS s h d):Cl d:=by
 intro o f;obtain⟨k,a⟩:=Yn.mp f
 by_cases z:k=s
 ·subst z;obtain⟨n,t,e,_⟩:=S.st;rw[e] at a;cases a;show(true&&(decide (c < d.length)&&(true&&true)))=true;rw[WB S.lt.2];rfl
 ·rw[b.2 k z] at a;rw[b.1];exact C o (VX a)
def uO(hl:a.length=h.length)(C:Cl a)(e:∀n,d≠.ob n)(c:jq h.length d=true):leave h d (a++g)=some (d,a):=by
 have h3:BO h.length (a++g) d=d:=by
  cases d with
  | ob n=>exact absurd rfl (e n)
  | _=>rfl
 unfold leave;rw[h3,<-hl,Y0 (VZ _),WT,hl,c];have:(a.all (BF h.length))=true:=by
  rw[WX];intro o b;rw[<-hl];exact C o b
 rw[this,Bool.or_true];rfl
def Cl.add(C:Cl h)(b:BF (h.length+1) o=true)(up:∀o∈h,BF h.length o=true->BF (h.length+1) o=true):Cl (h++[o]):=by
 intro x a;rw[Wj,YV];rcases Wz.mp a with z | z
 ·exact up x z (C x z)
 ·rw[Wg.mp z];exact b
mutual
theorem JC(hm:n<=m):∀d:D,jq n d=true->jq m d=true
 | .cu,_=>rfl
 | .bl _,_=>rfl
 | .int _,_=>rfl
 | .str _,_=>rfl
 | .ty _,_=>rfl
 | .ob k,h=>by simp only[jq,WS] at h ⊢;exact V2 h hm
 | .tup xs,h=>by simp only[jq] at h ⊢;exact nv hm xs h
 | .lv xs,h=>by simp only[jq] at h ⊢;exact nv hm xs h
 | .ro xs,h=>by simp only[jq] at h ⊢;exact nv hm xs h
 | .dv xs,h=>by simp only[jq] at h ⊢;exact Dn hm xs h
theorem nv(hm:n<=m):∀d:List D,gS n d=true->gS m d=true
 | [],_=>rfl
 | x::r,h=>by
  simp only[gS,Wm] at h ⊢;exact⟨JC hm x h.1,nv hm r h.2⟩
theorem Dn(hm:n<=m):∀d:List (Key×D),Mb n d=true->Mb m d=true
 | [],_=>rfl
 |(_,x)::r,h=>by
  simp only[Mb,Wm] at h ⊢;exact⟨JC hm x h.1,Dn hm r h.2⟩
end
def PU(hm:n<=m)(o:MO)(h:BF n o=true):BF m o=true:=by
 cases o with
 | lst xs=>exact nv hm xs h
 | dct xs=>exact Dn hm xs h
 | dcH xs=>have h:=Wt.mp h;exact Wt.mpr ⟨nv hm _ h.1,nv hm _ h.2⟩
 | exc _=>rfl
def Cl.snoc(C:Cl h)(a:BF (h.length+1) o=true):Cl (h++[o]):=C.add a λx _ z=>PU (X3 _) x z
theorem Cl.set(C:Cl h)(b:BF h.length o=true):Cl (h.set n o):=by
 intro x a;rw[Xa];rcases List.mem_or_eq_of_mem_set a with z | z
 ·exact C x z
 ·rw[z];exact b
end Mi
namespace Sm
open PySem L2
theorem zt(f:D->D):∀(a:List D)(o:Option D),(∀x∈a,e (some x::t) h=some (f x,h))->bJ [] (gN 0) bY e a (o::t) h=some (a.map f,h)
 | [],o,_=>rfl
 | x::r,o,b=>by
  have g:e (some x::t) h=some (f x,h):=b x V3;have d:=zt f r (some x) λy c=>b y (V5 _ c);show((some ((o::t).set 0 (some x),h)).bind λq=>(bY q.1 q.2).bind λt=>if t.1=true then(e q.1 t.2).bind λy=>(bJ [] (gN 0) bY e r q.1 y.2).map λz=>(y.1::z.1,z.2) else bJ [] (gN 0) bY e r q.1 t.2)=_;show((e (some x::t) h).bind λy=>(bJ [] (gN 0) bY e r (some x::t) y.2).map λz=>(y.1::z.1,z.2))=_;rw[g];show((bJ [] (gN 0) bY e r (some x::t) h).map λz=>(f x::z.1,z.2))=_;rw[d];rfl
theorem Eu(f:α->Bool):∀(l:List α),Gr (l.map λx=>D.bl (f x))=some (l.map f)
 | []=>rfl
 | x::r=>by show(Gr (r.map λx=>D.bl (f x))).map _=_;rw[Eu f r];rfl
def Ek(p:α->Bool)(a:List α)(h:MH):wD [.lv (a.map λx=>.bl (p x))] h=some (.bl (a.all p),h):=by
 show(Gr (a.map λx=>D.bl (p x))).map (λbs=>(D.bl (bs.all id),h))=_;rw[Eu];show some (D.bl ((a.map p).all id),h)=_;rw[List.all_map];rfl
def By(f:D->D)(c:i b h=some (d,h))(hs:fF d h=some (xs,[]))(hc:eV a b=o::t)(hl:xs.length<=100000)(g:∀x∈xs,e (some x::t) h=some (f x,h)):
  b8 a (dH i) (gN 0) bY e b h=some (xs.map f,h):=by
 unfold b8 dH;rw[c];dsimp only[Option.bind_some];rw[hs];dsimp only[Option.map_some,Option.bind_some];rw[hc,zt f xs o g];dsimp only[Option.bind_some];rw[V1 (by rw[VU,show sizeLine=16777216 from rfl];lia)]
def Mn(p:D->Bool)(c:g b h=some (d,h))(hs:fF d h=some (xs,[]))(hc:eV a b=o::t)(hl:xs.length<=100000)(f:∀x∈xs,e (some x::t) h=some (.bl (p x),h)):
  ar wD (af (gH (b8 a (dH g) (gN 0) bY e)) aD) b h=some (.bl (xs.all p),h):=by
 unfold ar af gH aD;rw[By (λx=>.bl (p x)) c hs hc hl f];exact Ek p xs h
def bg(r:Rn o λp=>p=a):o=some a:=let⟨_,e,q⟩:=r;by rw[e,q]
def Be(hl:xs.length+ys.length<=10000):aF (.tup xs) (.tup ys) h=some (.tup (xs++ys),h):=by
 cases xs with
 | nil=>rfl
 | cons x xs=>
  show(if xs.length+1+ys.length<=sizeLine then some (D.tup (x::xs++ys),h) else none)=_;rw[V1 (by rw[show sizeLine=16777216 from rfl];rw[V9] at hl;exact V2 hl (by decide))]
def JD(f:j d h=some (.int a,h))(hn:i d h=some (.int n,h))(e:g d h=some (.int b,h)):fv zo zo j i g d h=some (.bl (decide (a<=n)&&decide (n<=b)),h):=by
 refine bg (Aw (rv f (rv hn (rv rfl ⟨_,rfl,?_⟩))))
 by_cases c:a<=n
 ·rw[V1 (WB c),WB c];exact rv e (rv rfl rfl)
 ·rw[V4 (by simpa using c),WM c];rfl
def tt(a:A):(true=true->A)/\(true=false->B):=⟨λ_=>a,λz=>(nomatch z)⟩
def ff(b:B):(false=true->A)/\(false=false->B):=⟨λz=>(nomatch z),λ_=>b⟩
def N8(r:Rn (e a h) λp=>Rn (f x p.1 p.2) λq=>Q (.nx,a.set i (some q.1),q.2))(b:a[i]?=some (some x):=by with_unfolding_all rfl):Rn (Hv i f e a h) Q:=by
 unfold Hv;rw[b];show Rn ((e a h).bind λp=>(f x p.1 p.2).bind λq=>some (Fl.nx,a.set i (some q.1),q.2)) Q;exact a9 (r.imp λ_ r=>a9 (r.imp λ_ q=>⟨_,rfl,q⟩))
end Sm
namespace Mi
open PySem Sm L2 Pg
noncomputable def pB(W:Wd)(fl:List Int)(left odd:Int):MO:=.dct [(.inr (Str.ofString "names"),.lv (W.names.map D.str)),(.inr (Str.ofString "deeds"),.lv (W.ag.map D.str)),(.inr (Str.ofString "params"),.lv (W.params.map λa=>.lv (a.map D.str))),(.inr (Str.ofString "floors"),.lv (fl.map D.int)),(.inr (Str.ofString "left"),.int left),(.inr (Str.ofString "odd"),.int odd)]
structure vB(W:Wd)(fl:List Int)(odd:Int):Prop where
 n1:1<=W.names.length
 n2:W.names.length<=6
 d1:1<=W.ag.length
 d2:W.ag.length<=6
 pl:W.params.length=W.ag.length
 p3:∀ps∈W.params,ps.length<=3
 UL:fl.length=W.ag.length
 f0:∀f∈fl,0<=f/\f < W.names.length
 o0:0<=odd
 o1:odd<=1000
 sn:∀w∈W.names,1<=w.length/\w.length<=7/\low w
 sd:∀w∈W.ag,1<=w.length/\w.length<=7/\low w
 sp:∀ps∈W.params,∀w∈ps,1<=w.length/\w.length<=7/\low w
 nn:W.names.Nodup
 nd:W.ag.Nodup
 np:∀ps∈W.params,ps.Nodup
section
variable {h:MH} {wd:Nat} {W:Wd} {fl:List Int} {left odd:Int}
theorem fH(a:h[wd]?=some (pB W fl left odd)):aX (.ob wd) (.str (Str.ofString "names")) h=some (.lv (W.names.map D.str),h):=by simp only[aX,fG,a,pB];rfl
theorem fI(a:h[wd]?=some (pB W fl left odd)):aX (.ob wd) (.str (Str.ofString "deeds")) h=some (.lv (W.ag.map D.str),h):=by simp only[aX,fG,a,pB];rfl
theorem eB(b:h[wd]?=some (pB W fl left odd)):aX (.ob wd) (.str (Str.ofString "params")) h=some (.lv (W.params.map λa=>.lv (a.map D.str)),h):=by simp only[aX,fG,b,pB];rfl
theorem pE(a:h[wd]?=some (pB W fl left odd)):aX (.ob wd) (.str (Str.ofString "floors")) h=some (.lv (fl.map D.int),h):=by simp only[aX,fG,a,pB];rfl
theorem sH(a:h[wd]?=some (pB W fl left odd)):aX (.ob wd) (.str (Str.ofString "left")) h=some (.int left,h):=by simp only[aX,fG,a,pB];rfl
theorem BI(a:h[wd]?=some (pB W fl left odd)):aX (.ob wd) (.str (Str.ofString "odd")) h=some (.int odd,h):=by simp only[aX,fG,a,pB];rfl
theorem GW(a:h[wd]?=some (pB W fl left odd))(v:Int):wB (.ob wd) (.str (Str.ofString "left")) (.int v) h=some (h.set wd (pB W fl v odd)):=by
 have b:(6:Nat) < sizeLine:=by decide
 simp only[wB,a,pB,sA,WJ,V9,Yj];rw[V1 b];rfl
end
section
variable {h h0:MH} {s c wd R:Nat} {cs:List Int} {W:Wd} {fl:List Int} {left odd:Int} {Q:D×MH->Prop}
theorem JM(A:Sb s c cs h0 (R+1) h)(d:h[wd]?=some (pB W fl left odd))(ok:vB W fl odd)(k:∀(b:Bool)(a:MH),Sb s c cs h0 R a->Q (.bl b,a)):Rn (fe [.ob s,.ob wd] h) Q:=by
 refine bE ?_;nofun;refine rv (BI d) ?_;nofun;refine⟨_,rfl,λz=>?_,λz=>?_⟩
 ·nofun;refine rv (BI d) ?_;nofun;refine fQ A (Wy z) (by have:=ok.o1;exact Xi this (by decide)) λm a _ _ e=>?_;nofun;exact k _ _ e
 ·nofun;exact k _ _ (A.dn 1)
theorem zE(A:Sb s c cs h0 (R+4) h)(hp:f.length<=3)(k:∀(t:Term)(n:MH),cX f t->t.2<=40->Sb s c cs h0 R n->Q (bC t,n)):Rn (cq [.ob s,.lv (f.map D.str)] h) Q:=by
 refine bE ?_;nofun;refine fQ A (by decide) (by decide) λm n C y o=>?_;nofun;have b:∀{l:MH} {P:D×MH->Prop},Sb s c cs h0 (R+1) l->(∀(i:Int)(h3:MH),-40<=i/\i<=40->Sb s c cs h0 R h3->P (.int i,h3))->Rn (aY [.ob s,.lv [.int 0,.int 0,.int 1,.int 1,.int 2,.int 3,.int (-1),.int (m-40)]] l) P:=λe p=>
  mC (is:=[0,0,1,1,2,3,-1,m-40]) (λi=>-40<=i/\i<=40) (by intro x g;simp at g;lia) e λi h3 a _ d=>p i h3 a d
 refine⟨_,rfl,λz=>?_,λz=>⟨λz=>(nomatch z),λ_=>?_⟩⟩
 ·have z:0 < f.length:=by simpa using z
  nofun;refine fQ o (by decide) (by decide) λv l _ _ e=>?_;nofun;refine⟨_,rfl,λ_=>?_,λ_=>?_⟩
  ·nofun;refine JL e (.inl rfl) (by simpa using z) (by simp;lia) λE h3 j d=>?_;obtain⟨w,q,rfl⟩:=Ww.mp j;nofun;refine mC (is:=[0,0,0,0,1,1,-1,2,m-40]) (λi=>-40<=i/\i<=40) (by intro x g;simp at g;lia) d λi r a _ u=>?_;nofun;exact k (w,i) r ⟨.inr q,by dsimp only;exact Xi (by decide) a.1,by dsimp only;exact Xi a.2 (by decide)⟩ a.2 u
  ·nofun;refine b (e.dn 1) λi h3 a d=>?_;nofun;exact k (Str.ofString "",i) h3 ⟨.inl rfl,by dsimp only;exact Xi (by decide) a.1,by dsimp only;exact Xi a.2 (by decide)⟩ a.2 d
 ·nofun;refine b (o.dn 2) λi h3 a d=>?_;nofun;exact k (Str.ofString "",i) h3 ⟨.inl rfl,by dsimp only;exact Xi (by decide) a.1,by dsimp only;exact Xi a.2 (by decide)⟩ a.2 d
end
def cL{b:Type}{a:List b}{f:b->D}{h:MH}{j:Nat}{x:b}(e:a[j]?=some x):aX (.lv (a.map f)) (.int j) h=some (f x,h):=by
 have hj:j < a.length:=by
  rcases Yv j a.length with z | z
  ·exact z
  ·rw[W4 z] at e;cases e
 show((jt (a.map f) j).map λz=>(z,h))=_;have:jt (a.map f) j=some (f x):=by
  unfold jt;rw[show zg (a.map f).length j=some j by unfold zg;simp;exact hj];show(a.map f)[j]?=_;rw[Wa,e];rfl
 rw[this];rfl
def oO(i j:Int)(h:MH):zm [.int i,.int j] h=some (.int (max i j),h):=by
 show some (D.int (if j > i then j else i),h)=_;rw[show(if j > i then j else i)=max i j by split <;> lia]
def LZ(i j:Int)(h:MH):Jf [.int i,.int j] h=some (.int (min i j),h):=by
 show some (D.int (if j < i then j else i),h)=_;rw[show(if j < i then j else i)=min i j by split <;> lia]
def Ee(r:∃c,o=some c/\(c=true->Rn x Y)/\(c=false->Rn y Y))(f:∀p,Y p->X p):∃c,o=some c/\(c=true->Rn x X)/\(c=false->Rn y X):=
 let⟨c,e,a,b⟩:=r
 ⟨c,e,λz=>(a z).imp f,λz=>(b z).imp f⟩
noncomputable def nG(t:Term):PyData:=.tuple [.str t.1,.int t.2]
theorem xi:∀a:List Term,kl (a.map bC)=some (a.map nG)
 | []=>rfl
 | c::r=>by simp only[V6,kl,xi r,bC,ur,WJ,WC];rfl
theorem rN:∀a:List Term,PyData.depthAll (a.map nG)<=1
 | []=>by simp[PyData.depthAll]
 | c::r=>by
  have:=rN r;simp only[V6,PyData.depthAll,nG,PyData.depth]
  lia
def C8(a:List Term)(h:MH):iY (.lv (a.map bC)) (.lv []) h=some (.bl (!a.isEmpty),h):=by
 have:=rN a;simp only[iY,MT,fG,Km,DQ,xi,ur,kl,WC,WJ];rw[V1 ⟨show PyData.depthAll _+1<=64 by exact XR this (by decide),by decide⟩];cases a <;> rfl
section
variable {h h0:MH} {s c wd R:Nat} {cs:List Int} {W:Wd} {fl:List Int} {left odd:Int} {Q:D×MH->Prop}
theorem PZ{F:List Str}{j:Nat}{top:Int}{n:List Lock}(A:Sb s c cs h0 (R+10) h)(q:h0[wd]?=some (pB W fl left odd))(u:wd≠s)(ok:vB W fl odd)(hp:W.params[j]?=some F)(hj:j < W.ag.length)(ht:top<=W.names.length)(hh:∀l∈n,fu W F l)(hl:n.length<=1000)
  (o:∀(k:Int)(l:Lock)(p:MH),max top (fl[j]?.getD 0) < W.names.length->0<=k->k < W.names.length->fu W F l->Sb s c cs h0 R p->Q (.tup [.int k,aG l],p))
  (G:∀(p:MH),max top (fl[j]?.getD 0)=W.names.length->Sb s c cs h0 R p->Q (.tup [.cu,.cu],p)):Rn (gA [.ob s,.ob wd,.int j,.int top,.lv (n.map aG)] h) Q:=by
 have Z:=A.at_ q u;obtain⟨f,hf⟩:∃f,fl[j]?=some f:=⟨_,V7 (by rw[ok.UL];exact hj)⟩;have M:=ok.f0 f (VX hf);have n2:=ok.n2;rw[hf] at o G;dsimp only[Option.getD_some] at o G;refine bE ?_;nofun;refine rv (pE Z) ?_;nofun;refine rv (cL hf) ?_;nofun;refine rv (oO top f h) ?_;have X:0<=max top f:=by lia
 have U:max top f<=W.names.length:=by lia
 generalize max top f=lo at X U o G ⊢;nofun;refine rv (fH Z) ?_;nofun;refine⟨_,rfl,λz=>?_,λz=>?_⟩
 ·have z:lo=W.names.length:=by simpa using z
  nofun;exact G h z (A.dn 10)
 have z:lo≠W.names.length:=by simpa using z
 have z0:lo < W.names.length:=by lia
 have o:=λk l p=>o k l p z0;clear G;nofun;refine rv (fH Z) ?_;nofun;simp only[VU];refine fQ A (by lia) (by lia) λm p m0 m1 A1=>?_;nofun;refine JM A1 (A1.at_ q u) ok λb h2 A2=>?_;nofun;refine Ee (Y:=λr=>∃(k:Int)(h3:MH),r=(Fl.nx,[some (.ob s),some (.ob wd),some (.int j),some (.int top),some (.lv (n.map aG)),some (.int lo),some (.int k),none,none,none,none],h3)/\0<=k/\k < W.names.length/\Sb s c cs h0 (R+7) h3) ?_ ?_
 ·refine⟨b,rfl,λ_=>?_,λ_=>?_⟩
  ·nofun;refine rv (fH (A2.at_ q u)) ?_;nofun;simp only[VU];refine fQ A2 (by exact XW M.1 M.2) (by lia) λk h3 S o P=>?_;exact⟨k,h3,rfl,S,o,P⟩
  ·nofun;exact⟨lo+m,h2,rfl,by lia,by lia,A2.dn 1⟩
 rintro _ ⟨k,h3,rfl,S,kL,P⟩;have E:=P.at_ q u;have o:=λl p=>o k l p S kL;obtain⟨kn,rfl⟩:=Xy S;obtain⟨nm,w⟩:∃f,W.names[kn]?=some f:=⟨_,V7 (by exact Zr.mp kL)⟩;show Rn _ _;nofun;refine rv (fH E) ?_;nofun;refine rv (cL w) ?_;nofun;refine dw ?_;nofun;refine⟨_,_,rfl,?_⟩;obtain⟨⟨ys,h4⟩,e4,I,H,δ4,L,_⟩:=sN (ws:=[]) (g:=gN 0) (c:=az (au cp (au aX (aw 0) (eK (D.int 0))) (aw 1))) (e:=au aX (aw 0) (eK (D.int 1))) (λx y=>∃l∈n,x=aG l/\y=bC l.2)
  (xs:=n.map aG) (δ:=[none,some (.str nm)]) (h:=h3) (λj δ h'=>h'=h3/\∃d0,δ=[d0,some (.str nm)]) ⟨rfl,_,rfl⟩ (λ_ _ _ _ _=>rfl) (by
   rintro i x δ h' hx ⟨rfl,d0,rfl⟩;obtain⟨l,hl,rfl⟩:=Ww.mp (VX hx);nofun;refine rv (a:=(.str l.1,_)) rfl ?_;nofun;refine⟨_,rfl,λ_=>?_,λ_=>⟨rfl,_,rfl⟩⟩;nofun;exact rv (a:=(bC l.2,_)) rfl ⟨⟨l,hl,rfl,rfl⟩,rfl,_,rfl⟩)
 dsimp only at L;subst L;refine rv e4 ⟨V2 I (by rw[VU,show sizeLine=16777216 from rfl];exact V2 hl (by decide)),?_⟩;obtain⟨C,rfl,htm⟩:∃C:List Term,ys=C.map bC/\∀t∈C,cX F t:=by
  clear e4 I
  induction ys with
  | nil=>exact⟨[],rfl,λ_ z=>(nomatch z)⟩
  | cons y r ih=>
   obtain⟨js,rfl,p⟩:=ih λz hz=>H z (V5 _ hz);obtain⟨x,hx,l,hl,rfl,rfl⟩:=H y V3;exact⟨l.2::js,rfl,Zy.mpr ⟨(hh l hl).2,p⟩⟩
 nofun;have pl:=ok.p3 F (VX hp);refine rv (C8 C _) ⟨_,rfl,λz=>?_,λz=>⟨λz=>(nomatch z),λ_=>?_⟩⟩
 ·nofun;refine JM P E ok λb' h5 A5=>⟨_,rfl,λ_=>?_,λ_=>?_⟩
  ·have J:C≠[]:=by rintro rfl;cases z
   obtain⟨us,d,rfl⟩:∃us d,C=us++[d]:=⟨C.dropLast,C.getLast J,(List.dropLast_concat_getLast J).symm⟩;have v:=htm d (by simp);nofun;refine rv (a:=(bC d,_)) (by
    show((jt ((us++[d]).map bC) (-1)).map λz=>(z,h5))=_;rw[Wq];show((jt (us.map bC++[bC d]) (-1)).map λz=>(z,h5))=_;rw[JR];rfl) ?_
   nofun;refine rv (a:=_) rfl ?_;nofun;refine fQ A5 (by decide) (by decide) λm6 N m60 m61 O=>?_;nofun;refine rv (LZ _ _ _) ?_;nofun;exact o (nm,(d.1,min 99 (d.2+1+m6))) N ⟨VX w,v.1,by dsimp only;have:=v.2;lia,by dsimp only;lia⟩ (O.dn 5)
  ·nofun;refine rv (eB (A5.at_ q u)) ?_;nofun;refine rv (cL hp) ?_;nofun;refine zE (A5.dn 2) pl λt N T _ O=>?_;nofun;exact o (nm,t) N ⟨VX w,T⟩ O
 ·nofun;refine rv (eB E) ?_;nofun;refine rv (cL hp) ?_;nofun;refine zE (P.dn 3) pl λt N T _ O=>?_;nofun;exact o (nm,t) N ⟨VX w,T⟩ O
end
def Bd(cs:List Int)(h:MH):cp (.lv (cs.map D.int)) (.lv []) h=some (.bl cs.isEmpty,h):=by
 simp only[cp,MT,fG,Km,DQ,uq,ur,kl,WC,WJ,PyData.depth,nr];cases cs <;> rfl
def Od(r:Rn (m a h) λp=>∃j:Int,p.1=[.int j]/\0<=j/\j<=1000/\Q ((List.range j.toNat).map λ(k:Nat)=>D.int (k:Int),p.2)):Rn (Qe m a h) Q:=a9 (r.imp λp u9=>by
 obtain⟨j,e,c,b,q⟩:=u9;rw[e];dsimp only;rw[V1 ⟨c,b⟩];exact⟨_,rfl,q⟩)
section
variable {h h0:MH} {s c wd R:Nat} {cs:List Int} {W:Wd} {fl:List Int} {left odd:Int} {Q:D×MH->Prop}
theorem P1{top:Int}(A:Sb s c cs h0 (R+14) h)(d:h0[wd]?=some (pB W fl left odd))(l:wd≠s)(ok:vB W fl odd)(hp:W.params[j]?=some ps)(hj:j < W.ag.length)
  (kk:∀(r:Row)(T:MH),(∀n,aW W ps n r)->cnt r=1->Sb s c cs h0 R T->Q (ay r,T)):Rn (iO [.ob s,.ob wd,.int j,.int top] h) Q:=by
 have hw:=A.at_ d l;have d2:=ok.d2;have pl:=ok.p3 ps (VX hp);obtain⟨dj,S⟩:∃f,W.ag[j]?=some f:=⟨_,V7 hj⟩;refine bE ?_;nofun;refine hZ ?_;nofun;refine rv (fI hw) ?_;nofun;refine⟨(W.ag.map D.str).length,rfl,by rw[VU];simp,by rw[VU];lia,?_⟩;rw[VU,X5];obtain⟨⟨ys,T⟩,e1,J,hym,δ1,O,_⟩:=sN (ws:=[]) (g:=gN 0) (c:=sh (az (au wC (au aX (au aX (aw 3) (eK (.str "floors"))) (aw 0)) (aw 2))) (az (au Kl (aw 0) (aw 1)))) (e:=aw 0) (λx y=>y=x)
  (xs:=(List.range W.ag.length).map λ(k:Nat)=>D.int (k:Int)) (δ:=[none,some (.int j),some (.int top),some (.ob wd)]) (h:=h) (λi δ U=>U=h/\∃X,δ=[X,some (.int j),some (.int top),some (.ob wd)]) ⟨rfl,_,rfl⟩ (λ_ _ _ _ _=>rfl) (by
   rintro i x δ U E ⟨rfl,X,rfl⟩;rw[Wa] at E;obtain⟨k,N,G⟩:=Wl.mp E;subst G;have o:k < fl.length:=by rw[ok.UL];exact XT.mp (VX N)
   obtain⟨f,hf⟩:∃f,fl[k]?=some f:=⟨_,V7 o⟩;nofun;refine rv (pE hw) ?_;nofun;refine rv (cL hf) ?_;nofun;refine⟨_,rfl,λ_=>?_,λ_=>⟨λz=>(nomatch z),λ_=>⟨rfl,_,rfl⟩⟩⟩;nofun;refine⟨_,rfl,λ_=>?_,λ_=>⟨rfl,_,rfl⟩⟩;nofun;exact⟨rfl,rfl,_,rfl⟩)
 dsimp only at O;subst O;refine rv e1 ⟨V2 J (by rw[VU,Wv,show sizeLine=16777216 from rfl];exact V2 d2 (by decide)),?_⟩;have u:∀v:List D,(∀y∈v,∃x,x∈(List.range W.ag.length).map (λ(k:Nat)=>D.int (k:Int))/\y=x)->∃p:List Int,v=p.map D.int/\∀k∈p,0<=k/\k < W.ag.length:=by
  intro v hz
  induction v with
  | nil=>exact⟨[],rfl,λ_ z=>(nomatch z)⟩
  | cons y r ih=>
   obtain⟨p,rfl,q⟩:=ih λz hz'=>hz z (V5 _ hz');obtain⟨x,E,rfl⟩:=hz y V3;obtain⟨k,N,rfl⟩:=Ww.mp E;exact⟨k::p,rfl,λi hi=>by
    rcases Wh.mp hi with rfl | hi
    ·have:=XT.mp N;clear ih;lia
    ·exact q i hi⟩
 have I:ys.length<=6:=by
  have h9:ys.length<=_:=J;rw[VU,Wv] at h9;exact V2 h9 d2
 obtain⟨p,rfl,hjs⟩:=u ys hym;rw[VU] at I;nofun;refine JM A hw ok λb h2 A2=>?_;have L:=A2.at_ d l;nofun;refine Ee (Y:=λr=>∃(ks:List Int),r=(Fl.nx,[some (.ob s),some (.ob wd),some (.int j),some (.int top),some (.lv (ks.map D.int)),none,none],h2)/\ks.length<=6/\∀k∈ks,0<=k/\k < W.ag.length) ?_ ?_
 ·refine⟨b,rfl,λ_=>?_,λ_=>?_⟩
  ·nofun;refine Od ?_;nofun;refine rv (fI L) ?_;nofun;refine⟨(W.ag.map D.str).length,rfl,by rw[VU];simp,by rw[VU];lia,?_⟩;rw[VU,X5];obtain⟨ks,M,G⟩:=u _ λy hy=>⟨y,hy,rfl⟩;refine⟨ks,?_,?_,G⟩
   ·show _=_;rw[<-M];rfl
   ·have:=congrArg List.length M;rw[VU,VU,Wv] at this
    lia
  ·nofun;exact⟨p,rfl,I,hjs⟩
 rintro _ ⟨ks,rfl,kn,hks⟩;show Rn _ _;nofun;refine rv (Bd ks _) ⟨_,rfl,λz=>?_,λz=>?_⟩
 ·nofun;refine rv (fI L) ?_;nofun;refine rv (cL S) ?_;nofun;have:=kk (.say dj) h2 (λn=>by unfold aW;exact Wf _ (VX S)) (by rw[cnt]) (A2.dn 13);rw[ay] at this;exact this
 have z0:0 < ks.length:=by cases ks with | nil=>cases z | cons _ _=>simp
 nofun;refine JL A2 (.inl rfl) (by simpa using z0) (by simp;lia) λd3 h3 hd3 A3=>?_;have hw3:=A3.at_ d l;obtain⟨k,N,rfl⟩:=Ww.mp hd3;obtain⟨k0,k1⟩:=hks k N;obtain⟨m,rfl⟩:=Xy k0;have o:m < W.ag.length:=by exact Zr.mp k1
 obtain⟨dk,P⟩:∃f,W.ag[m]?=some f:=⟨_,V7 o⟩;obtain⟨qs,F⟩:∃f,W.params[m]?=some f:=⟨_,V7 (by rw[ok.pl];exact o)⟩;have ql:=ok.p3 qs (VX F);nofun;refine dw ?_;nofun;refine rv (eB hw3) ?_;nofun;refine rv (cL F) ?_;refine⟨_,_,rfl,?_⟩;obtain⟨⟨v,h4⟩,e4,w,δ4,_,Z⟩:=sO (ws:=[]) (g:=gN 0) (e:=ar cq (af (aw 2) (af (au aX (au aX (aw 3) (eK (.str "params"))) (aw 1)) aD))) (λ_ y=>∃t:Term,y=bC t/\cX ps t)
  (xs:=qs.map D.str) (δ:=[none,some (.int j),some (.ob s),some (.ob wd)]) (h:=h3) (λi δ U=>(∃X,δ=[X,some (.int j),some (.ob s),some (.ob wd)])/\Sb s c cs h0 (R+4*(3-i)) U) ⟨⟨_,rfl⟩,A3⟩ (λ_ _ _ _ _=>rfl) (by
   rintro i x δ U E ⟨⟨X,rfl⟩,Ai⟩;have hi:i < 3:=by
    have:=(VW.mp E).1;rw[VU] at this
    lia
   rw[show R+4*(3-i)=R+4*(3-(i+1))+4 by clear Ai;lia] at Ai;have hwi:=Ai.at_ d l;nofun;refine rv (eB hwi) ?_;nofun;refine rv (cL hp) ?_;nofun;exact zE Ai pl λt h6 tk _ A6=>⟨⟨t,rfl,tk⟩,⟨_,rfl⟩,A6⟩)
 obtain⟨H,rfl,htm⟩:∃H:List Term,v=H.map bC/\∀t∈H,cX ps t:=by
  have hr:=w.right;clear e4 w Z;dsimp only at hr
  induction v with
  | nil=>exact⟨[],rfl,λ_ z=>(nomatch z)⟩
  | cons y r ih=>
   obtain⟨p,rfl,T⟩:=ih λz hz=>hr z (V5 _ hz);obtain⟨x,E,t,rfl,tk⟩:=hr y V3;exact⟨t::p,rfl,λj hj=>by
    rcases Wh.mp hj with rfl | hj
    ·exact tk
    ·exact T j hj⟩
 have C:=w.length;dsimp only at C;rw[VU,VU] at C;refine rv e4 ⟨by dsimp only;rw[VU,show sizeLine=16777216 from rfl];lia,?_⟩;have Z:Sb s c cs h0 R h4:=Z.le (Wu _ _);have hw4:=Z.at_ d l;nofun;refine rv (fI hw4) ?_;nofun;refine rv (cL P) ?_;nofun;refine rv (a:=(.tup (H.map bC),_)) rfl ?_;nofun;have:=kk (.call dk H) h4 (λn=>by unfold aW;exact⟨⟨m,qs,P,F,C⟩,htm⟩) (by rw[cnt]) Z;rw[ay] at this;exact this
end
def iB(s wd:Nat)(h a:MH):Prop:=a.length=h.length/\∀k,k≠s->k≠wd->a[k]?=h[k]?
def iB.refl(s wd:Nat)(h:MH):iB s wd h h:=⟨rfl,λ_ _ _=>rfl⟩
theorem iB.trans(a:iB s wd h d)(b:iB s wd d c):iB s wd h c:=⟨b.1.trans a.1,λk n m=>(b.2 k n m).trans (a.2 k n m)⟩
def zS.two(a:zS s h b):iB s wd h b:=⟨a.1,λk n _=>a.2 k n⟩
theorem iB.set:iB s wd h (h.set wd o):=⟨Xa,λk _ n=>WR (XX n)⟩
def iB.UW(b:iB s wd (a++g) d)(hs:s < a.length)(h:wd < a.length):∃c,d=c++g/\iB s wd a c:=by
 have hl:d.length=a.length+g.length:=by rw[b.1];simp
 refine⟨d.take a.length,?_,by rw[Wx];lia,λk f e=>?_⟩
 ·refine ZN λk=>?_
  by_cases z:k < a.length
  ·rw[Wc (by rw[Wx];lia),WQ z]
  ·rw[b.2 _ (by lia) (by lia),We (by exact X8 z),We (by rw[Wx];lia),Wx];rw[show min a.length d.length=a.length by lia]
 ·by_cases z:k < a.length
  ·rw[WQ z,b.2 k f e,Wc z]
  ·rw[W4 (by rw[Wx];lia),W4 (by exact X8 z)]
theorem jo(n:Nat):∀a:List Str,gS n (a.map D.str)=true
 | []=>rfl
 | j::r=>by rw[V6];show(jq n (.str _)&&gS n _)=true;rw[jo n r];rfl
theorem xU(n:Nat):∀b:List (List Str),gS n (b.map λa=>.lv (a.map D.str))=true
 | []=>rfl
 | j::r=>by rw[V6];show(gS n (j.map D.str)&&gS n _)=true;rw[jo n j,xU n r];rfl
def Dm(n:Nat)(W:Wd)(fl:List Int)(l odd:Int):BF n (pB W fl l odd)=true:=by
 show(gS n _&&(gS n _&&(gS n _&&(gS n _&&(true&&(true&&true))))))=true;rw[jo,jo,xU,Et];rfl
structure En where
 s:Nat
 c:Nat
 wd:Nat
 cs:List Int
 W:Wd
 fl:List Int
 odd:Int
 ok:vB W fl odd
 ne:wd≠s
 nc:wd≠c
structure Wb(E:En)(h0:MH)(R l:Nat)(h:MH):Prop where
 S:St E.s E.c E.cs R h
 w:h[E.wd]?=some (pB E.W E.fl l E.odd)
 C:Cl h
 b:iB E.s E.wd h0 h
section
variable {E:En} {h0 h h1 h' g:MH} {R R' l l' k:Nat} {Q:D×MH->Prop}
theorem Wb.lt(A:Wb E h0 R l h):E.s < h.length/\E.c < h.length/\E.wd < h.length:=⟨A.S.lt.1,A.S.lt.2,(VW.mp A.w).1⟩
theorem Wb.by(A:Wb E h0 R l h)(B:Sb E.s E.c E.cs h R' h1):Wb E h0 R' l h1:=⟨B.S,(B.b.2 _ E.ne).trans A.w,A.C.but B.S B.b,A.b.trans B.b.two⟩
theorem Wb.le(A:Wb E h0 R l h)(a:R'<=R):Wb E h0 R' l h:=⟨A.S.le a,A.w,A.C,A.b⟩
theorem Wb.here(A:Wb E h0 R l h):Wb E h R l h:=⟨A.S,A.w,A.C,iB.refl _ _ _⟩
theorem Wb.tr(A:Wb E h1 R l h)(b:iB E.s E.wd h0 h1):Wb E h0 R l h:=⟨A.S,A.w,A.C,b.trans A.b⟩
theorem Wb.set(A:Wb E h0 R l h)(v:Nat):Wb E h0 R v (h.set E.wd (pB E.W E.fl v E.odd)):=
 ⟨A.S.off E.ne E.nc,WG A.lt.2.2,A.C.set (Dm _ _ _ _ _),A.b.trans iB.set⟩
theorem Wb.push(A:Wb E h0 R l h)(a:BF (h.length+1) o=true):Wb E (h++[o]) R l (h++[o]):=⟨A.S.more _,by rw[Wc A.lt.2.2];exact A.w,A.C.snoc a,iB.refl _ _ _⟩
theorem PR(C:Cl h)(S:St E.s E.c E.cs R h')(w:h'[E.wd]?=some (pB E.W E.fl l E.odd))(b:iB E.s E.wd h h'):Cl h':=by
 intro o f;obtain⟨k,a⟩:=Yn.mp f
 by_cases z:k=E.s
 ·subst z;obtain⟨n,t,e,_⟩:=S.st;rw[e] at a;cases a;show(true&&(decide (E.c < h'.length)&&(true&&true)))=true;rw[WB S.lt.2];rfl
 ·by_cases d:k=E.wd
  ·subst d;rw[w] at a;cases a;exact Dm _ _ _ _ _
  ·rw[b.2 k z d] at a;rw[b.1];exact C o (VX a)
theorem Wb.pop(c:Wb E h0 i d h)(A:Wb E (h++g) R l h'):∃a,h'=a++g/\a.length=h.length/\Wb E h0 R l a:=by
 obtain⟨h1,f,h3⟩:=c.lt;obtain⟨a,rfl,b⟩:=A.b.UW h1 h3;have e:=b.1;have S:=A.S.cut (by lia) (by lia);have w:=A.w;rw[Wc (by lia)] at w;exact⟨a,rfl,e,S,w,PR c.C S w b,c.b.trans b⟩
theorem w_next(A:Wb E h0 (R+1) l h)(d:0 < m)(c:m<=10^40)(k:∀(r:Int)(h1:MH),0<=r->r < m->Wb E h0 R l h1->Q (.int r,h1)):Rn (aS [.ob E.s,.int m] h) Q:=
 fQ A.S.sb d c λr h1 b a e=>k r h1 b a (A.by e)
theorem QD(A:Wb E h0 (R+1) l h)(hd:d=.lv xs\/d=.tup xs)(b:0 < xs.length)(a:xs.length<=1000000)(k:∀(x:D)(h1:MH),x∈xs->Wb E h0 R l h1->Q (x,h1)):Rn (aY [.ob E.s,d] h) Q:=
 JL A.S.sb hd b a λx h1 c e=>k x h1 c (A.by e)
theorem GX{is:List Int}(P:Int->Prop)(d:∀i∈is,P i)(A:Wb E h0 (R+1) l h)(k:∀(i:Int)(h1:MH),P i->Wb E h0 R l h1->Q (.int i,h1))(b:0 < is.length:=by simp)(a:is.length<=1000:=by simp):Rn (aY [.ob E.s,.lv (is.map D.int)] h) Q:=
 mC P d A.S.sb (λi h1 c _ e=>k i h1 c (A.by e)) b a
theorem yj(A:Wb E h0 (R+4) l h)(hp:a.length<=3)(k:∀(t:Term)(h1:MH),cX a t->Wb E h0 R l h1->Q (bC t,h1)):Rn (cq [.ob E.s,.lv (a.map D.str)] h) Q:=
 zE A.S.sb hp λt h1 ht _ b=>k t h1 ht (A.by b)
structure Cd(W:Wd)(j:Nat)(ps:List Str)(d:Nat)(top:Int)(held:List Lock):Prop where
 hp:W.params[j]?=some ps
 hj:j < W.ag.length
 d1:1<=d
 ht:top<=W.names.length
 hh:∀x∈held,fu W ps x
 hl:held.length<=4*d
variable {j d f:Nat} {ps:List Str} {top:Int} {held:List Lock}
theorem Cd.more{W:Wd}{n:Nat}{a:Int}{ls:List Lock}(G:Cd W j ps d top held)(ht:a<=W.names.length)(hl:ls.length<=4*n)(c:∀x∈ls,fu W ps x):Cd W j ps (d+n) a (held++ls):=
 ⟨G.hp,G.hj,V2 G.d1 (Wu _ _),ht,λx b=>(Wz.mp b).elim (G.hh x) (c x),by have:=G.hl;rw[Wj];lia⟩
theorem Cd.deep{W:Wd}(G:Cd W j ps d top held):Cd W j ps (d+1) top held:=⟨G.hp,G.hj,YM G.d1,G.ht,G.hh,by have:=G.hl;lia⟩
theorem Cd.pl(G:Cd E.W j ps d top held):ps.length<=3:=E.ok.p3 ps (VX G.hp)
theorem GY(A:Wb E h0 (R+10) l h)(G:Cd E.W j ps d top held)(hd:d<=5)(n:∀(k:Int)(x:Lock)(h1:MH),max top (E.fl[j]?.getD 0) < E.W.names.length->0<=k->k < E.W.names.length->fu E.W ps x->Wb E h0 R l h1->Q (.tup [.int k,aG x],h1))
  (m:∀(h1:MH),max top (E.fl[j]?.getD 0)=E.W.names.length->Wb E h0 R l h1->Q (.tup [.cu,.cu],h1)):Rn (gA [.ob E.s,.ob E.wd,.int j,.int top,.lv (held.map aG)] h) Q:=
 PZ A.S.sb A.w E.ne E.ok G.hp G.hj G.ht G.hh (by have:=G.hl;lia) (λk x h1 a b c e i=>n k x h1 a b c e (A.by i)) λh1 a i=>m h1 a (A.by i)
theorem Nj(A:Wb E h0 (R+14) l h)(G:Cd E.W j ps d top held)(k:∀(r:Row)(h1:MH),(∀n,aW E.W ps n r)->cnt r=1->Wb E h0 R l h1->Q (ay r,h1)):Rn (iO [.ob E.s,.ob E.wd,.int j,.int top] h) Q:=
 P1 A.S.sb A.w E.ne E.ok G.hp G.hj λr h1 a b c=>k r h1 a b (A.by c)
abbrev Kf(E:En)(h0:MH)(R l:Nat)(ps:List Str)(d:Nat)(Q:D×MH->Prop):Prop:=∀(r:Row)(l':Nat)(h':MH),aW E.W ps d r->l'+cnt r=l+1->Wb E h0 (R+100*l') l' h'->Q (ay r,h')
abbrev U2(E:En)(h0:MH)(R l:Nat)(ps:List Str)(d:Nat)(Q:D×MH->Prop):Prop:=∀(t:List Row)(l':Nat)(h':MH),ba E.W ps d t->t.length<=12->l'+ao t=l->Wb E h0 (R+100*l') l' h'->Q (.tup (cm t),h')
def Gz(E:En)(f:Nat):Prop:=∀{h0 h:MH} {R l j:Nat} {ps:List Str} {d:Nat} {top:Int} {held:List Lock} {a:Int} {Q:D×MH->Prop},Wb E h0 (R+100*l+4) l h->Cd E.W j ps d top held->d<=5->3*(5-d)+2<=f->1<=a->a<=12->U2 E h0 R l ps d Q->
 Rn (bV f [.ob E.s,.ob E.wd,.int j,.int d,.int top,.lv (held.map aG),.int a] h) Q
def Qk(E:En)(f:Nat):Prop:=∀{h0 h:MH} {R l j:Nat} {ps:List Str} {d:Nat} {top:Int} {held:List Lock} {Q:D×MH->Prop},Wb E h0 (R+100*l+100) l h->Cd E.W j ps d top held->d<=5->3*(5-d)+1<=f->Kf E h0 R l ps d Q->
 Rn (iy f [.ob E.s,.ob E.wd,.int j,.int d,.int top,.lv (held.map aG)] h) Q
def Kd(E:En)(f:Nat):Prop:=∀{h0 h:MH} {R l j:Nat} {ps:List Str} {d:Nat} {top:Int} {held:List Lock} {a:Str} {Q:D×MH->Prop},Wb E h0 (R+100*l+95) l h->Cd E.W j ps d top held->d < 5->3*(5-d)<=f->a∈[Str.ofString "within",Str.ofString "ask",Str.ofString "all"]->Kf E h0 R l ps d Q->
 Rn (fc f [.ob E.s,.ob E.wd,.int j,.int d,.int top,.lv (held.map aG),.str a] h) Q
def Qg(E:En)(f:Nat):Prop:=∀{h0 h:MH} {R l j:Nat} {ps:List Str} {d:Nat} {top:Int} {held:List Lock} {Q:D×MH->Prop},Wb E h0 (R+100*l+95) l h->Cd E.W j ps d top held->d < 3->5 < l->3*(5-d)<=f->Kf E h0 R l ps d Q->
 Rn (di f [.ob E.s,.ob E.wd,.int j,.int d,.int top,.lv (held.map aG)] h) Q
end
def xg(r:Rn (b (entry len ds) h) (KS λp=>Rn (leave h p.1 p.2) Q)):Rn (MP len b ds h) Q:=by
 obtain⟨p,e,q⟩:=bE r;obtain⟨z,a,k⟩:=q;refine⟨z,?_,k⟩;have e:((b (entry len ds) h).bind yF)=some p:=e;show((b (entry len ds) h).bind yF).bind _=_;rw[e];exact a
def Cq{a:D->MH->Bool}{f:Mr}{o:EM}{m:AM}{b:DS}{h:MH}{Q:D×MH->Prop}(r:Rn (o b h) λp=>a p.1 p.2=true/\Rn (m b p.2) λq=>Rn (f p.1 q.1 q.2) Q):Rn (eM a f o m b h) Q:=
 a9 (r.imp λp ⟨e,r⟩=>by rw[V1 e];exact a9 r)
def il(e:h[n]?=some (.lst xs)):fU (.ob n) h=true:=by unfold fU fZ;dsimp only;rw[e];rfl
def ik(e:h[n]?=some (.lst xs))(hl:xs.length < sizeLine):gQ (.ob n) [y] h=some (.cu,h.set n (.lst (xs++[y]))):=by unfold gQ;dsimp only;rw[e];dsimp only;rw[V1 hl]
def zw(n:Nat)(t:Term):jq n (bC t)=true:=rfl
def sY(n:Nat)(t:Lock):jq n (aG t)=true:=rfl
theorem gb(n:Nat)(f:α->D)(a:∀x,jq n (f x)=true):∀b:List α,gS n (b.map f)=true
 | []=>rfl
 | x::r=>by rw[V6];show(jq n (f x)&&gS n _)=true;rw[a x,gb n f a r];rfl
mutual
theorem vj(n:Nat):∀r:Row,jq n (ay r)=true
 | .say w=>by rw[ay];rfl
 | .call d f=>by rw[ay];show(true&&(true&&(gS n _&&true)))=true;rw[gb n _ (zw n)];rfl
 | .within l b=>by rw[ay];show(true&&(jq n (aG l)&&(gS n _&&true)))=true;rw[sY,fO n b];rfl
 | .all ls b=>by rw[ay];show(true&&(gS n _&&(gS n _&&true)))=true;rw[gb n _ (sY n),fO n b];rfl
 | .ask l b e=>by rw[ay];show(true&&(jq n (aG l)&&(gS n _&&(gS n _&&true))))=true;rw[sY,fO n b,fO n e];rfl
 | .j9 s t a b c=>by rw[ay];show(true&&(jq n (bC s)&&(jq n (bC t)&&(gS n _&&(gS n _&&(gS n _&&true))))))=true;rw[zw,zw,fO n a,fO n b,fO n c];rfl
 | .either a b=>by rw[ay];show(true&&(gS n _&&(gS n _&&true)))=true;rw[fO n a,fO n b];rfl
 | .again a=>by rw[ay];show(true&&(gS n _&&true))=true;rw[fO n a];rfl
theorem fO(n:Nat):∀r:List Row,gS n (cm r)=true
 | []=>by rw[cm];rfl
 | r::rs=>by rw[cm];show(jq n _&&gS n _)=true;rw[vj n r,fO n rs];rfl
end
def uX(e:H.length=n):(H++[a])[n]?=some a:=by rw[<-e];simp
def NP(e:H.length=n):(H++[a]).set n b=H++[b]:=by rw[<-e];simp
section
variable {E:En} {f:Nat}
theorem CU(hr:Qk E f):Gz E (f+1):=by
 intro h0 h R l j U d top F c Q A G d5 hf m0 m1 k;unfold bV;refine xg ?_;nofun;refine hZ ?_;nofun;refine rv (a:=(.lv (List.replicate 15 (D.int c)),_)) rfl ?_;nofun;refine rv (a:=(.lv ((List.replicate 15 c++[12]).map D.int),_)) rfl ?_;nofun;refine GX (λi=>1<=i/\i<=12) (by intro x N;simp at N;lia) (A.push (o:=.lst []) rfl) λi h2 Z A2=>?_;nofun;refine w_next (m:=i+1) A2 (by lia) (by exact XW Z.2 (by decide)) λm h3 X n1 T=>?_;nofun;refine⟨m,rfl,by exact Xi (by decide) X,by lia,?_⟩;obtain⟨e,rfl,b,T⟩:=A.pop T;refine dR (λi J P=>∃(t:List Row)(p:Nat)(S:Option D)(e:MH),J=[some (.ob E.s),some (.ob E.wd),some (.int j),some (.int d),some (.int top),some (.lv (F.map aG)),some (.int c),some (.ob h.length),S]/\P=e++[.lst (cm t)]/\e.length=h.length/\ba E.W U d t/\t.length<=i/\p+ao t=l/\Wb E h0 (R+100*p+2) p e)
  ⟨[],l,_,e,rfl,by rw[cm],b,by unfold ba;trivial,VZ _,by simp[ao],T⟩ (λ_ _ _ _ _=>rfl) ?_ ?_
 ·rintro q x J P N ⟨t,p,S,e,rfl,rfl,b,g,u,hc,y⟩;have hq:q < 12:=by
   have:=(VW.mp N).1;simp at this
   lia
  have I:=y.push (o:=.lst (cm t)) (fO _ t);nofun;refine rv (sH I.w) ?_;nofun;refine⟨_,rfl,λz=>?_,λz=>?_⟩
  ·obtain⟨M,rfl⟩:∃n,p=n+1:=⟨p-1,by have:=Wy z;lia⟩;nofun;refine rv (sH I.w) ?_;nofun;refine rv (GW I.w _) ?_;rw[show((M+1:Nat):Int)-1=(M:Int) by simp];have A6:=I.set M;nofun;refine Cq ?_;nofun;refine⟨il (xs:=cm t) (by rw[WR (by have:=y.lt;lia)];exact uX b),?_⟩;nofun;refine hr (R:=R+2) (A6.le (by lia)) G d5 (by exact YN hf) λr Y h6 L cr A7=>?_;obtain⟨O,rfl,H,A8⟩:=y.pop A7;nofun;have v:=H.trans b;refine rv (ik (uX v) (by rw[bA,VU,show sizeLine=16777216 from rfl];lia)) ?_;rw[NP v];nofun;have hcn:ao (t++[r])=ao t+cnt r:=by rw[b7];simp[ao]
   exact⟨t++[r],Y,_,O,rfl,by rw[bA,bA,Wq];rfl,v,xw g (by unfold ba;exact⟨L,by unfold ba;trivial⟩),by simp;exact u,by lia,A8.le (by lia)⟩
  ·nofun;exact⟨t,p,_,e,rfl,rfl,b,g,by exact YM u,hc,y⟩
 ·rintro J P ⟨t,p,S,e,rfl,rfl,b,g,u,hc,y⟩;rw[VU,Wv] at u;nofun;refine rv (a:=(.tup (cm t),e++[.lst (cm t)])) (by simp only[dU,fF,uX b,WC]) ?_;nofun;exact rv (uO b y.C (λn z=>(nomatch z)) (fO _ t)) (k t p e g (by lia) hc (y.le (by lia)))
end
theorem DR:∀{xs:List D} {b:DS} {h:MH} (J:List D->DS->MH->Prop),J [] b h->(∀c b h,J c b h->mB ws h=true)->
  (∀x c b h,x∈xs->c.length < xs.length->J c b h->Rn (g x b h) λq=>Rn (e q.1 q.2) λy=>J (c++[y.1]) q.1 y.2)->Rn (bJ ws g bY e xs b h) λp=>p.1.length=xs.length/\∃d,J p.1 d p.2
 | [],b,h,J,f,hc,_=>by
  unfold bJ;rw[V1 (hc [] b h f)];exact⟨_,rfl,rfl,b,f⟩
 | x::xs,b,h,J,f,hc,ht=>by
  unfold bJ;rw[V1 (hc [] b h f)];obtain⟨⟨k,m⟩,n,⟨y,s⟩,j,r⟩:=ht x [] b h V3 (Nat.succ_pos _) f;obtain⟨⟨c,h3⟩,i,a,d,o⟩:=DR (ws:=ws) (g:=g) (e:=e) (xs:=xs) (λc=>J (y::c)) r (λc b h=>hc (y::c) b h) λx c b h l hl=>ht x (y::c) b h (V5 _ l) (Nat.succ_lt_succ hl);refine⟨(y::c,h3),?_,congrArg Nat.succ a,d,o⟩;rw[n];dsimp only[Option.bind_some];show((some (true,m)).bind _)=_;dsimp only[Option.bind_some] at j i ⊢;rw[V1 rfl,j];dsimp only[Option.bind_some];rw[i];rfl
def uZ(f:α->D)(b a:List α)(h:MH)(hl:b.length+a.length<=1000):aF (.lv (b.map f)) (.lv (a.map f)) h=some (.lv ((b++a).map f),h):=by
 rw[Wq];simp only[aF,De,fZ,WJ,VU];rw[V1 (by rw[show sizeLine=16777216 from rfl];exact V2 hl (by decide))]
def Rm(P:Prop)[Decidable P](e:Rn (t a h) λp=>p=(decide P,h))(c:P->Rn (x a h) Q)(b:¬P->Rn (y a h) Q):Rn (dQ t x y a h) Q:=by
 refine iH (e.imp ?_);rintro _ rfl;exact⟨λz=>c (Wy z),λz=>b (Y8 z)⟩
def gP(P:Prop)[Decidable P](e:Rn (t a h) λp=>p=(decide P,h))(d:P->Rn (x a h) (DF b Q))(c:¬P->Rn (b a h) Q):Rn (av (dQ t x bz) b a h) Q:=
 df (Rm P e d λz=>⟨_,rfl,c z⟩)
def dT [Decidable P](p:P)(h:MH):(true,h)=(decide P,h):=by rw[WB p]
def dF [Decidable P](p:¬P)(h:MH):(false,h)=(decide P,h):=by rw[WM p]
section
variable {E:En} {f:Nat}
theorem xD{n:Nat}(e:Gz E f){r h:MH}{R l j:Nat}{i:List Str}{d:Nat}{top:Int}{b:List Lock}{Q:List D×MH->Prop}
  (A:Wb E r (R+100*l+12) l h) (hn:n<=3) (G:Cd E.W j i d top b) (J:d < 5) (N:3*(5-d)<=f) (k:∀(a:List (List Row)) (c:Nat) (g:MH),a.length=n->(∀t∈a,t.length<=12/\ba E.W i (d+1) t)->c+(a.map ao).sum=l->Wb E r (R+100*c) c g->Q (a.map (λt=>D.tup (cm t)),g)):
  Rn (bJ [] (gN 0) Sm.bY (ar (bV f) (af (aw 4) (af (aw 6) (af (aw 1) (af (au aF (aw 2) (eK (.int 1))) (af (aw 5) (af (aw 3) (af (eK (.int 2)) aD)))))))) ((List.range n).map λ(k:Nat)=>D.int k) [none,some (.int j),some (.int d),some (.lv (b.map aG)),some (.ob E.s),some (.int top),some (.ob E.wd)] h) Q:=by
 refine(DR (ws:=[]) (λC y g=>∃(v:Option D)(a:List (List Row)) (c:Nat),y=[v,some (.int j),some (.int d),some (.lv (b.map aG)),some (.ob E.s),some (.int top),some (.ob E.wd)]/\C=a.map (λt=>D.tup (cm t))/\(∀t∈a,t.length<=12/\ba E.W i (d+1) t)/\c+(a.map ao).sum=l/\Wb E r (R+100*c+(12-4*a.length)) c g) ⟨none,[],l,rfl,rfl,λ_ z=>(nomatch z),by simp,A⟩ (λ_ _ _ _=>rfl) ?_).imp ?_
 ·rintro x _ y g M o ⟨v,a,c,rfl,rfl,bu,hc,w⟩;rw[VU,VU,Wv] at o;nofun;refine e (R:=R+(8-4*a.length)) (d:=d+1) (w.le (by lia)) G.deep J (by lia) (by decide) (by decide) λt I H m q O L=>?_;refine⟨_,a++[t],I,rfl,by rw[Wq];rfl,λu z=>?_,by simp;lia,L.le (by rw[Wj,YV];lia)⟩;rcases Wz.mp z with z | z
  ·exact bu u z
  ·rw[Wg.mp z];exact⟨q,m⟩
 ·rintro⟨C,H⟩ ⟨p,_,v,a,c,_,F,bu,hc,w⟩;dsimp only at p F;subst F;rw[VU,VU,Wv] at p;exact k a c H p bu hc (w.le (by simp))
theorem yE(g:Gz E f)(P:Kd E f)(N:Qg E f):Qk E (f+1):=by
 intro h0 h R l j ps d top Z Q A G d5 I k;have pl:=G.pl;have n1:=E.ok.n1;have n2:=E.ok.n2;have d2:=E.ok.d2;unfold iy;refine bE ?_;nofun;refine w_next (m:=16) A (by decide) (by decide) λw h1 w0 w1 o=>?_;refine gP (w < 2\/(d=5/\w < 11)) ?_ (λz=>?_) (λz=>?_)
 ·nofun;refine⟨_,rfl,λz=>?_,λz=>?_⟩
  ·have z:w < 2:=by simpa using z
   exact dT (.inl z) _
  ·have z:¬w < 2:=by simpa using z
   nofun;refine⟨_,rfl,λy=>?_,λy=>?_⟩
   ·have y0:(d:Int)=5:=by simpa using y
    have y:d=5:=by lia
    nofun;refine⟨_,rfl,?_⟩;rw[show decide (w < 11)=decide (w < 2\/(d=5/\w < 11)) from YW.mpr (by lia)]
   ·have y0:(d:Int)≠5:=by simpa using y
    have y:d≠5:=by lia
    exact dF (by lia) _
 ·nofun;refine rv (fH o.w) ?_;nofun;refine rv (fI o.w) ?_;nofun;refine rv (uZ D.str E.W.names E.W.ag _ (by lia)) ?_;nofun;refine QD (xs:=(E.W.names++E.W.ag).map D.str) o (.inl rfl) (by simp;lia) (by simp;lia) λx i q b=>?_;obtain⟨H,s,rfl⟩:=Ww.mp q;nofun;rw[show D.tup [.str "say",.str H]=ay (.say H) by rw[ay]];exact k (.say H) l i (by unfold aW;exact s) (by rw[cnt]) (b.le (by lia))
 have nd:d=5->11<=w:=by lia
 have w2:2<=w:=by lia
 refine gP (12 < w\/d=5) ?_ (λz=>?_) (λz=>?_)
 ·nofun;refine⟨_,rfl,λy=>?_,λy=>?_⟩
  ·have y:12 < w:=by simpa using y
   exact dT (.inl y) _
  ·have y:¬12 < w:=by simpa using y
   nofun;refine⟨_,rfl,?_⟩;rw[show((d:Int)==5)=decide (12 < w\/d=5) by
    rw[X2];simp only[Xz,WS];lia]
 ·nofun;refine Nj (R:=R+100*l) (o.le (by simp)) G λr i c p b=>?_;nofun;exact k r l i (c d) (by rw[p]) b
 have u:d < 5:=by lia
 refine gP (w=12/\d < 3/\5 < (l:Int)) ?_ (λz=>?_) (λz=>?_)
 ·nofun;refine⟨_,rfl,λy=>?_,λy=>?_⟩
  ·have y:w=12:=by simpa using y
   nofun;refine⟨_,rfl,λx=>?_,λx=>?_⟩
   ·have T:(d:Int) < 3:=by simpa using x
    have x:d < 3:=by exact Zr.mp T
    nofun;refine rv (sH o.w) ?_;nofun;refine⟨_,rfl,?_⟩;rw[show decide (5 < (l:Int))=decide (w=12/\d < 3/\5 < (l:Int)) from YW.mpr (by lia)]
   ·have T:¬(d:Int) < 3:=by simpa using x
    have x:¬d < 3:=by lia
    exact dF (by lia) _
  ·have y:w≠12:=by simpa using y
   exact dF (by clear y z;lia) _
 ·nofun;refine N (R:=R) (o.le (by simp)) G z.2.1 (by exact Zr.mp z.2.2) (by exact YN I) λr C i c p b=>?_;nofun;exact k r C i c p b
 refine gP (w=11\/w=12) ?_ (λz=>?_) (λz=>?_)
 ·nofun;refine⟨_,rfl,λy=>?_,λy=>?_⟩
  ·have y:w=11:=by simpa using y
   exact dT (.inl y) _
  ·have y:w≠11:=by simpa using y
   nofun;refine⟨_,rfl,?_⟩;rw[show(w==12)=decide (w=11\/w=12) by rw[X2];simp only[Xz,WS];lia]
 ·show Rn (av _ _ _ _) _;nofun;refine rv (eB o.w) ?_;nofun;refine rv (cL G.hp) ?_;nofun;refine yj o pl λX i L b=>?_;nofun;refine rv (eB b.w) ?_;nofun;refine rv (cL G.hp) ?_;nofun;refine yj b pl λU h3 J S=>?_;nofun;refine⟨_,_,rfl,?_⟩;nofun;refine hZ ?_;nofun;refine⟨3,rfl,by lia,by lia,?_⟩;refine xD (n:=3) (R:=R) g (S.le (by simp)) (by lia) G u (by exact YN I) λe l4 h4 hn bu p A4=>?_
  match e,hn with
  | [x,y,v],_=>
   refine⟨by show 3<=sizeLine;decide,?_⟩;nofun;refine rv (a:=(.tup [.tup (cm x),.tup (cm y),.tup (cm v)],_)) rfl ?_;nofun;refine rv (a:=(ay (.j9 X U x y v),_)) (by rw[ay];rfl) ?_;nofun;simp only[V6,XH,WO,List.sum_nil] at p;have q:=bu x (by simp);have F:=bu y (by simp);have Y:=bu v (by simp);exact k (.j9 X U x y v) l4 h4 (by unfold aW;exact⟨L,J,u,q.1,F.1,Y.1,q.2,F.2,Y.2⟩) (by rw[cnt];lia) A4
 refine gP (w=10) ?_ (λz=>?_) (λz=>?_)
 ·nofun;refine⟨_,rfl,?_⟩;rw[show(w==10)=decide (w=10) by rw[X2];simp only[Xz,WS]]
 ·nofun;refine hZ ?_;nofun;refine⟨2,rfl,by lia,by lia,?_⟩;refine xD (n:=2) (R:=R) g (o.le (by simp)) (by lia) G u (by exact YN I) λe C i hn bu p b=>?_
  match e,hn with
  | [x,y],_=>
   refine⟨by show 2<=sizeLine;decide,?_⟩;nofun;refine rv (a:=(.tup [.tup (cm x),.tup (cm y)],_)) rfl ?_;nofun;refine rv (a:=(ay (.either x y),_)) (by rw[ay];rfl) ?_;nofun;simp only[V6,XH,WO,List.sum_nil] at p;have q:=bu x (by simp);have F:=bu y (by simp);exact k (.either x y) C i (by unfold aW;exact⟨u,q.1,F.1,q.2,F.2⟩) (by rw[cnt];lia) b
 refine gP (w=9) ?_ (λz=>?_) (λz=>?_)
 ·nofun;refine⟨_,rfl,?_⟩;rw[show(w==9)=decide (w=9) by rw[X2];simp only[Xz,WS]]
 ·nofun;refine g (R:=R) (d:=d+1) (o.le (by simp)) G.deep u (by clear z;lia) (by decide) (by decide) λt C i M O p b=>?_;nofun;rw[show D.tup [.str "again",.tup (cm t)]=ay (.again t) by rw[ay]];exact k (.again t) C i (by unfold aW;exact⟨u,O,M⟩) (by rw[cnt];lia) b
 nofun;refine QD (xs:=[Str.ofString "within",Str.ofString "within",Str.ofString "within",Str.ofString "within",Str.ofString "ask",Str.ofString "all"].map D.str) o (.inl rfl) (by simp) (by simp) λx i q b=>?_;obtain⟨H,s,rfl⟩:=Ww.mp q;nofun;refine P (R:=R) (b.le (by simp)) G u (by exact YN I) (by simp at s ⊢;assumption) λr l3 h3 c p S=>?_;nofun;exact k r l3 h3 c p S
end
def dE(t:Lock):PyData:=.tuple [.str t.1,nG t.2]
def HP(t:Term):ur (bC t)=some (nG t):=by simp only[bC,ur,kl,WJ,WC];rfl
def Ay(t:Lock):ur (aG t)=some (dE t):=by simp only[aG,ur,kl,HP,WJ,WC];rfl
theorem lH:∀a:List Lock,kl (a.map aG)=some (a.map dE)
 | []=>rfl
 | c::r=>by simp only[V6,kl,lH r,Ay,WJ,WC]
theorem iM:∀a:List Lock,PyData.depthAll (a.map dE)<=2
 | []=>by simp[PyData.depthAll]
 | c::r=>by
  have:=iM r;simp only[V6,PyData.depthAll,dE,nG,PyData.depth]
  lia
def zl{h:MH}{n:Nat}{a:List Lock}(x:Lock)(e:h[n]?=some (.lst (a.map aG))):ir (aG x) (.ob n) h=some (.bl (!(a.map dE).any λb=>PyData.eqv b (dE x)),h):=by
 have d:=iM a;have c:=iM [x];have h3:(dE x).depth<=60:=by
  simp only[V6,XH,PyData.depthAll] at c
  lia
 unfold ir inD;simp only[fG,e];show((fF (.ob n) h).bind _).map _=_;simp only[fF,e,WJ,lH];show(((DQ h (aG x)).bind _).map _)=_;rw[show DQ h (aG x)=some (dE x) from Ay x];dsimp only[Option.bind_some];rw[V1 ⟨h3,by exact V2 d (by decide)⟩];rfl
def Oe(r:Rn (f c h) λp=>Rn (e c p.2) λq=>∃b a,fZ p.1 q.2=some b/\fZ q.1 q.2=some a/\b.length+a.length<=sizeLine/\Q (b++a,q.2)):Rn (Qf f e c h) Q:=
 a9 (r.imp λp r=>a9 (r.imp λq d=>by obtain⟨b,a,j,i,hl,g⟩:=d;exact⟨_,by rw[j];dsimp only[Option.bind_some];rw[i];dsimp only[Option.bind_some];rw[V1 hl],g⟩))
def Jl(x:Lock):PyData.eqv (dE x) (dE x)=true:=by
 simp[dE,nG,PyData.eqv,PyData.eqvAll]
def KR(r:Row)(n:Nat):ay r≠.ob n:=by cases r <;> rw[ay] <;> exactλz=>(nomatch z)
def Wb.ext(A:Wb E h0 R l h)(C:Cl (h++g)):Wb E (h++g) R l (h++g):=⟨A.S.more _,by rw[Wc A.lt.2.2];exact A.w,C,iB.refl _ _ _⟩
def HG(b:iB E.s E.wd h0 h)(k:Kf E h0 R l f d Q)(r:Row)(ok:aW E.W f d r)(hc:a+cnt r=l+1)(A:Wb E h (R+100*a) a c)(e:ay r=x):Rn (leave h x (c++g)) Q:=
 ⟨_,e ▸ uO A.b.1 A.C (KR r) (vj _ r),k r a c ok hc (A.tr b)⟩
def yJ(b:iB E.s E.wd h0 h)(k:Kf E h0 R l c d Q)(r:Row)(ok:aW E.W c d r)(hc:a+cnt r=l+1)(A:Wb E h (R+100*a) a f)(e:ay r=x):Rn (leave h x f) Q:=by
 have:=HG (g:=[]) b k r ok hc A e
 rwa [WW] at this
section
variable {E:En} {f:Nat}
theorem FI(I:Gz E f):Kd E (f+1):=by
 intro h0 h R l j ps d top m c Q A G Z hf hw k;obtain⟨dj,hdj⟩:∃f,E.W.ag[j]?=some f:=⟨_,V7 G.hj⟩;have hl:=G.hl;have ht:=G.ht;have b0:=A.b;replace A:=A.here;unfold fc;refine xg ?_;nofun;refine GY A G (by exact XG Z) (λk1 lk h1 hmx k0 k2 N A1=>?_) λh1 _ A1=>?_
 ·nofun;refine rv (a:=(.bl false,_)) rfl ⟨_,rfl,λz=>(nomatch z),λ_=>?_⟩;refine⟨_,rfl,?_⟩;show Rn (av _ _ _ _) _;refine gP (c=Str.ofString "all") ?_ (λz=>?_) (λz=>?_)
  ·nofun;refine⟨_,rfl,?_⟩;rw[show(c==Str.ofString "all")=decide (c=Str.ofString "all") by rw[X2];simp only[Xz,WS]]
  ·show Rn (av _ _ _ _) _;nofun;refine⟨_,_,rfl,?_⟩;nofun;refine hZ ?_;nofun;refine GX (is:=[1,1,2,3]) (λi=>1<=i/\i<=3) (by decide) (A1.push (o:=.lst [aG lk]) rfl) λi h2 hi A2=>?_;obtain⟨hb2,rfl,e2,A2'⟩:=A1.pop A2;nofun;refine⟨i,rfl,by exact Xi (by decide) hi.1,by exact XW hi.2 (by decide),?_⟩;refine dR (λi δ h'=>∃(ls:List Lock)(hi:Int)(n:Nat)(U T S:Option D)(p g:MH),δ=[some (.ob E.s),some (.ob E.wd),some (.int j),some (.int d),some (.int top),some (.lv (m.map aG)),some (.str c),some (.int k1),some (aG lk),some (.ob n),some (.int hi),U,T,S,none]/\h'=p++g/\h'[n]?=some (.lst (ls.map aG))/\h.length<=n/\lk∈ls/\ls.Nodup/\(∀x∈ls,fu E.W ps x)/\ls.length<=i+1/\0<=hi/\hi < E.W.names.length/\Wb E h (R+100*l+(80-10*i)) l p/\Cl (p++g))
    ⟨[lk],k1,h1.length,none,none,none,hb2,[.lst [aG lk]],rfl,rfl,uX e2,by rw[A1.b.1];exact VZ _,by simp,by simp,by simpa using N,VZ _,k0,k2,A2'.le (by simp),A2.C⟩ (λ_ _ _ _ _=>rfl) ?_ ?_
   ·rintro q x δ h' O ⟨ls,Y,n,U,T,S,p,g,rfl,rfl,hn,hnl,P,nd,bu,J,hi0,hi1,L,C3⟩;have hq:q < 3:=by
     have:=(VW.mp O).1;simp at this
     lia
    nofun;refine GY (R:=R+100*l+(80-10*(q+1))) ((L.ext C3).le (by lia)) G (by lia) (λk4 e h4 _ k40 k41 okk4 A4=>?_) λh1 z4 _=>absurd z4 (by lia)
    ·have hn4:h4[n]?=some (.lst (ls.map aG)):=by
      have:=A.lt;rw[A4.b.2 n (by lia) (by lia)];exact hn
     obtain⟨u,rfl,e4,A4'⟩:=L.pop A4;nofun;refine rv (oO _ _ _) ?_;nofun;refine Oe ?_;nofun;refine rv (zl e hn4) ?_;obtain⟨us,v,hv,hus,husl,hnd,hokk⟩:∃(us:List Lock)(v:Int),zp [.bl (!(ls.map dE).any λb=>PyData.eqv b (dE e))] (u++g)=some (.int v,u++g)/\LX (.lv [aG e]) (.int v) (u++g)=some (.lv (us.map aG),u++g)/\us.length<=1/\(ls++us).Nodup/\∀x∈ls++us,fu E.W ps x:=by
      cases Tj:((ls.map dE).any λb=>PyData.eqv b (dE e)) with
      | true=>exact⟨[],0,rfl,rfl,by simp,by simpa using nd,by simpa using bu⟩
      | false=>
       have hnot:e∉ls:=λz=>by
        rw[List.any_eq_false] at Tj;exact Tj (dE e) (Yz z) (Jl e)
       refine⟨[e],1,rfl,rfl,by simp,?_,?_⟩
       ·rw[X4];refine⟨nd,by simp,λx O y hy z=>hnot ?_⟩;rw[Wg.mp hy] at z;rw[<-z];exact O
       ·intro x O;rcases Wz.mp O with z | z
        ·exact bu x z
        ·rw[Wg.mp z];exact okk4
     nofun;refine rv hv ?_;nofun;refine rv hus ?_;refine⟨ls.map aG,us.map aG,by simp only[fZ,hn4],rfl,by rw[VU,VU,show sizeLine=16777216 from rfl];lia,?_⟩;refine⟨ls++us,max Y k4,(u++g).length,_,_,_,u,g++[.lst ((ls++us).map aG)],rfl,by rw[Wq];exact WY _ _ _,by rw[Wq];simp,?_,WU _ P,hnd,hokk,by simp;lia,by lia,by lia,A4',?_⟩
     ·have:=A4'.b.1;rw[Wj];lia
     ·rw[<-WY];exact A4.C.snoc (o:=.lst _) (gb _ _ (sY _) _)
   ·rintro δ h' ⟨ls,Y,n,U,T,S,p,g,rfl,rfl,hn,hnl,P,nd,bu,J,hi0,hi1,L,C3⟩;rw[VU,Wv] at J L;replace L:=L.le (R':=R+100*l+10) (by lia);show Rn (av _ _ _ _) _;refine df ?_;refine Rn.imp (Q:=λr=>∃(ls:List Lock)(g:MH),r=(Fl.nx,[some (.ob E.s),some (.ob E.wd),some (.int j),some (.int d),some (.int top),some (.lv (m.map aG)),some (.str c),some (.int k1),some (aG lk),some (.ob n),some (.int Y),U,T,S,none],p++g)/\(p++g)[n]?=some (.lst (ls.map aG))/\2<=ls.length/\ls.length<=4/\ls.Nodup/\(∀x∈ls,fu E.W ps x)/\Cl (p++g)) ?_ ?_
    ·nofun;refine rv (Ei hn) ?_;nofun;refine⟨_,rfl,λz=>?_,λz=>?_⟩
     ·have z:ls.length=1:=by
       have:((ls.map aG).length:Int)=1:=by simpa using z
       rw[VU] at this
       lia
      obtain⟨x0,rfl⟩:∃x0,ls=[x0]:=Yc.mp z;obtain rfl:lk=x0:=Wg.mp P;obtain⟨nm,wo,F⟩:=lk;have H:=bu _ (Wg.mpr rfl);nofun;refine Cq ?_;nofun;refine⟨il hn,?_⟩;nofun;refine rv (a:=(.str nm,_)) rfl ?_;nofun;refine rv (a:=(bC (wo,F),_)) rfl ?_;nofun;refine rv (a:=(.str wo,_)) rfl ?_;nofun;refine rv (a:=(bC (wo,F),_)) rfl ?_;nofun;refine rv (a:=(.int F,_)) rfl ?_;nofun;refine rv (a:=(bC (wo,F),_)) rfl ?_;nofun;refine rv (a:=(.int F,_)) rfl ?_;nofun;obtain⟨v,hv,hm,v1,v0⟩:∃v:Int,zp [.bl (decide (90 < F))] (p++g)=some (.int v,p++g)/\kY (.int 2) (.int v) (p++g)=some (.int (2*v),p++g)/\(90 < F->v=1)/\(¬90 < F->v=0):=by
       by_cases z:90 < F
       ·exact⟨1,by rw[WB z];rfl,rfl,λ_=>rfl,λy=>absurd z y⟩
       ·exact⟨0,by rw[WM z];rfl,rfl,λy=>absurd y z,λ_=>rfl⟩
      refine rv hv ?_;nofun;refine rv hm ?_;nofun;refine rv (ik hn (by rw[VU,show sizeLine=16777216 from rfl];simp)) ?_;nofun;have hlen:=L.b.1;rw[XY _ _ (by lia)];have X:=H.2;have okn:=H.1;dsimp only at okn;unfold cX at X;dsimp only at X;have hvv:v=0\/v=1:=by by_cases z:90 < F <;> lia
      refine⟨[(nm,wo,F),(nm,wo,F+1-2*v)],_,rfl,?_,by simp,by simp,?_,?_,?_⟩
      ·rw[We (by lia),WG]
       ·rfl
       ·have:=(VW.mp hn).1;rw[Wj] at this
        lia
      ·simp;lia
      ·intro x O;rcases Wh.mp O with rfl | O
       ·exact H
       ·rw[Wg.mp O];exact⟨okn,X.1,by dsimp only;lia,by dsimp only;lia⟩
      ·rw[<-XY _ _ (by lia)];exact C3.set (o:=.lst _) rfl
     ·have z:ls.length≠1:=by
       have:((ls.map aG).length:Int)≠1:=by simpa using z
       rw[VU] at this
       lia
      have:0 < ls.length:=Aal P;exact⟨_,rfl,ls,g,rfl,hn,by lia,by lia,nd,bu,C3⟩
    rintro _ ⟨ls,g,rfl,hn,l2,l4,nd,bu,C4⟩;have A4:=L.ext C4;show Rn (av _ _ _ _) _;nofun;refine rv (BI A4.w) ?_;nofun;obtain⟨v,hv,v0,v1⟩:∃v:Int,zp [.bl (E.odd==0)] (p++g)=some (.int v,p++g)/\0<=v/\v<=1:=by
     cases E.odd==0
     ·exact⟨0,rfl,by lia,by lia⟩
     ·exact⟨1,rfl,by lia,by lia⟩
    refine rv hv ?_;nofun;refine rv (a:=(.tup (ls.map aG),_)) (by simp only[dU,fF,hn,WC];rfl) ?_;nofun;refine rv (oO _ _ _) ?_;nofun;refine rv (a:=(.lv ((m++ls).map aG),_)) (by
     rw[Wq];simp only[aF,De,fZ,hn,WJ,VU];rw[V1 (by rw[show sizeLine=16777216 from rfl];lia)]) ?_
    nofun;refine I (R:=R) (d:=d+1) (A4.le (by simp)) (G.more (n:=1) (by lia) (by lia) bu) Z (by lia) (by decide) (by decide) λt l5 h5 M hll5 cr A5=>?_;obtain⟨hb5,rfl,_,A5'⟩:=L.pop A5;nofun;exact HG b0 k (.all ls t) (by unfold aW;exact⟨⟨l2,l4,nd,bu⟩,Z,hll5,M⟩) (by rw[cnt];lia) A5' (by rw[ay])
  refine df ?_;nofun;refine rv (oO _ _ _) ?_;nofun;refine rv (uZ aG m [lk] _ (by simp;lia)) ?_;nofun;refine I (R:=R+10) (d:=d+1) (A1.le (by lia)) (G.more (n:=1) (ls:=[lk]) (by clear hmx;lia) (by simp) (by simpa using N)) Z (by lia) (by decide) (by decide) λt l2 h2 M J cr A2=>?_;refine Rn.imp (Q:=_) (gP (c=Str.ofString "ask") ?_ (λz=>?_) (λz=>?_)) λ_ z=>z
  ·nofun;refine⟨_,rfl,?_⟩;rw[show(c==Str.ofString "ask")=decide (c=Str.ofString "ask") by rw[X2];simp only[Xz,WS]]
  ·nofun;refine I (R:=R) (d:=d+1) (A2.le (by lia)) G.deep Z (by lia) (by decide) (by decide) λt3 l3 h3 okl3 hll3 cr3 L=>?_;nofun;exact yJ b0 k (.ask lk t t3) (by unfold aW;exact⟨N,Z,J,hll3,M,okl3⟩) (by rw[cnt];lia) L (by rw[ay])
  ·nofun;exact yJ b0 k (.within lk t) (by unfold aW;exact⟨N,Z,J,M⟩) (by rw[cnt];lia) (A2.le (by lia)) (by rw[ay])
 ·nofun;refine rv (a:=(.bl true,_)) rfl ⟨_,rfl,λ_=>?_,λz=>(nomatch z)⟩;nofun;refine rv (fI A1.w) ?_;nofun;refine rv (cL hdj) ?_;nofun;exact yJ b0 k (.say dj) (by unfold aW;exact Wf _ (VX hdj)) (by rw[cnt]) (A1.le (by lia)) (by rw[ay])
end
def Dc(a:List Lock)(h:MH):iY (.lv (a.map aG)) (.lv []) h=some (.bl (!a.isEmpty),h):=by
 have:=iM a;simp only[iY,MT,fG,Km,DQ,lH,ur,kl,WC,WJ];rw[V1 ⟨show PyData.depthAll _+1<=64 by exact XR this (by decide),by decide⟩];cases a <;> rfl
section
variable {E:En}
theorem Nt(hlot:Gz E f):Qg E (f+1):=by
 intro h0 h R l j ps d top p Q A G d3 l5 hf k;have pl:=G.pl;have hl:=G.hl;have ht:=G.ht;have b0:=A.b;replace A:=A.here;obtain⟨dj,S⟩:∃f,E.W.ag[j]?=some f:=⟨_,V7 G.hj⟩;obtain⟨fj,hfj⟩:∃f,E.fl[j]?=some f:=⟨_,V7 (by rw[E.ok.UL];exact G.hj)⟩;have hfm:=E.ok.f0 fj (VX hfj);have J:Rn (leave h (.tup [.str "say",.str dj]) h) Q:=yJ b0 k (.say dj) (by unfold aW;exact Wf _ (VX S)) (by rw[cnt]) (A.le (by lia)) (by rw[ay]);unfold di;refine xg ?_;nofun;refine rv (pE A.w) ?_;nofun;refine rv (cL hfj) ?_;nofun;refine rv (oO top fj h) ?_;have lo0:0<=max top fj:=by lia
 have lo1:max top fj<=E.W.names.length:=by lia
 generalize max top fj=lo at lo0 lo1 ⊢;refine gP (lo=E.W.names.length) ?_ (λz=>?_) (λz=>?_)
 ·nofun;refine rv (fH A.w) ?_;nofun;refine⟨_,rfl,?_⟩;rw[VU,show(lo==(E.W.names.length:Int))=decide (lo=E.W.names.length) by rw[X2];simp only[Xz,WS]]
 ·nofun;refine rv (fI A.w) ?_;nofun;refine rv (cL S) ?_;nofun;exact J
 obtain⟨kn,rfl⟩:=Xy lo0;have hkn:kn < E.W.names.length:=by lia
 obtain⟨nm,O⟩:∃f,E.W.names[kn]?=some f:=⟨_,V7 hkn⟩;refine df ?_;nofun;refine dw ?_;nofun;refine⟨_,_,rfl,?_⟩;obtain⟨⟨ys,h4⟩,e4,hyl,hym,δ4,hh4,_⟩:=sN (ws:=[]) (g:=gN 0) (c:=az (au cp (au aX (aw 0) (eK (.int 0))) (au aX (au aX (aw 2) (eK (.str "names"))) (aw 1)))) (e:=aw 0) (λx y=>∃l∈p,y=aG l)
  (xs:=p.map aG) (δ:=[none,some (.int kn),some (.ob E.wd)]) (h:=h) (λj δ h'=>h'=h/\∃d0,δ=[d0,some (.int kn),some (.ob E.wd)]) ⟨rfl,_,rfl⟩ (λ_ _ _ _ _=>rfl) (by
   rintro i x δ h' H ⟨rfl,d0,rfl⟩;obtain⟨l,hl,rfl⟩:=Ww.mp (VX H);nofun;refine rv (a:=(.str l.1,_)) rfl ?_;nofun;refine rv (fH A.w) ?_;nofun;refine rv (cL O) ?_;nofun;refine⟨_,rfl,λ_=>?_,λ_=>⟨rfl,_,rfl⟩⟩;nofun;exact⟨⟨l,hl,rfl⟩,rfl,_,rfl⟩)
 dsimp only at hh4;subst hh4;refine rv e4 ⟨V2 hyl (by rw[VU,show sizeLine=16777216 from rfl];lia),?_⟩;obtain⟨ts,rfl⟩:∃ts:List Lock,ys=ts.map aG:=by
  clear e4 hyl
  induction ys with
  | nil=>exact⟨[],rfl⟩
  | cons y r ih=>
   obtain⟨js,rfl⟩:=ih λz hz=>hym z (V5 _ hz);obtain⟨x,H,l,hl,rfl⟩:=hym y V3;exact⟨l::js,rfl⟩
 nofun;refine rv (Dc ts _) ⟨_,rfl,λz=>?_,λz=>?_⟩
 ·nofun;refine rv (fI A.w) ?_;nofun;refine rv (cL S) ?_;nofun;exact J
 nofun;refine rv (fH A.w) ?_;nofun;refine rv (cL O) ?_;nofun;refine rv (sH A.w) ?_;nofun;refine rv (GW A.w _) ?_;rw[show(l:Int)-5=((l-5:Nat):Int) by lia];have A1:=A.set (l-5);generalize h4.set E.wd (pB E.W E.fl ((l-5:Nat):Int) E.odd)=h5 at A1 ⊢;nofun;refine rv (eB A1.w) ?_;nofun;refine rv (cL G.hp) ?_;nofun;refine yj A1 pl λt1 h2 F A2=>?_;nofun;refine rv (eB A2.w) ?_;nofun;refine rv (cL G.hp) ?_;nofun;refine yj A2 pl λt2 h3 L A3=>?_;nofun;refine⟨_,_,rfl,?_⟩;nofun;refine dw ?_;nofun;refine⟨_,_,rfl,?_⟩;have C:=A3.b.1;have q:=VX O;refine dR (λi δ h'=>∃(m:List Row)(l':Nat)(Y X U:Option D)(T:MH),δ=[some (.ob E.s),some (.ob E.wd),some (.int j),some (.int d),some (.int top),some (.lv (p.map aG)),some (.int kn),some (.str nm),some (bC t1),some (bC t2),some (.ob h3.length),Y,X,U]/\h'=T++[.lst (m.map λr=>.tup [ay r])]/\m.length=i/\(∀r∈m,aW E.W ps (d+1) r)/\l'+(m.map cnt).sum+5=l+2*i/\Wb E h4 (R+100*l'+(8-4*i)) l' T)
  ⟨[],l-5,_,_,_,h3,rfl,rfl,rfl,λ_ z=>(nomatch z),by simp;lia,A3.le (by lia)⟩ (λ_ _ _ _ _=>rfl) ?_ ?_
 ·rintro i x δ h' H ⟨m,l',Y,X,U,T,rfl,rfl,N,I,hc,A6⟩;have hi:i < 2:=(VW.mp H).1;obtain⟨u,v,rfl,uk,vk⟩:∃u v:Term,x=.tup [bC u,bC v]/\cX ps u/\cX ps v:=by
   rcases Wh.mp (VX H) with rfl | H
   ·exact⟨t1,t2,rfl,F,L⟩
   ·rw[Wg.mp H];exact⟨t2,t1,rfl,L,F⟩
  have hlb:T.length=h3.length:=A6.b.1.trans C.symm;generalize M:m.map (λr=>D.tup [ay r])=rs;have hcl:gS (T.length+1) rs=true:=by rw[<-M];exact gb _ _ (λr=>by show(jq _ (ay r)&&true)=true;rw[vj];rfl) m
  nofun;refine rv (uZ aG p [(nm,u),(nm,v)] _ (by simp;lia)) ?_;nofun;refine hlot (R:=R+(8-4*(i+1))) (d:=d+3) ((A6.push (o:=.lst rs) hcl).le (by lia)) (G.more (n:=3) (ls:=[(nm,u),(nm,v)]) lo1 (by simp) (by
   intro x H;rcases Wh.mp H with rfl | z
   ·exact⟨q,uk⟩
   ·rw[Wg.mp z];exact⟨q,vk⟩)) (by lia) (by lia) (by decide) (by decide) λt l7 h7 okl hll cr A7=>?_
  obtain⟨hb7,rfl,e7,A7'⟩:=A6.pop A7;have P:=e7.trans hlb;nofun;refine Cq ?_;nofun;refine⟨il (uX P),?_⟩;nofun;refine rv (ik (uX P) (by rw[<-M,VU,show sizeLine=16777216 from rfl];lia)) ?_;rw[NP P];nofun;have hcn:((m++[Row.within (nm,u) [Row.within (nm,v) t]]).map cnt).sum=(m.map cnt).sum+(2+ao t):=by
   rw[Wq,W3];simp[cnt,ao]
   lia
  refine⟨m++[.within (nm,u) [.within (nm,v) t]],l7,_,_,_,hb7,rfl,?_,by simp[N],?_,by rw[hcn];lia,A7'.le (by lia)⟩
  ·rw[Wq,M];simp[ay,cm,aG]
  ·intro r hr;rcases Wz.mp hr with z | z
   ·exact I r z
   ·rw[Wg.mp z];simp only[aW,ba];exact⟨⟨q,uk⟩,by exact XR d3 (by decide),by simp,⟨⟨q,vk⟩,by lia,hll,okl⟩,trivial⟩
 ·rintro δ h' ⟨m,l',Y,X,U,T,rfl,rfl,N,I,hc,A6⟩
  match m,N with
  | [r0,Z],_=>
   have hc:l'+(([r0,Z]:List Row).map cnt).sum+5=l+2*2:=hc;have hat:(T++[MO.lst [.tup [ay r0],.tup [ay Z]]])[h3.length]?=some (.lst [.tup [ay r0],.tup [ay Z]]):=uX (A6.b.1.trans C.symm);show Rn _ _;nofun;refine rv (kZ hat (d:=.tup [ay r0]) rfl) ?_;nofun;refine rv (kZ hat (d:=.tup [ay Z]) rfl) ?_;nofun;refine HG b0 k (.j9 t1 t2 [r0] [.within (nm,t1) []] [Z]) ?_ ?_ (A6.le (by exact VZ _)) (by simp[ay,cm,aG])
   ·simp only[aW,ba];exact⟨F,L,by exact Ws d3 (by decide),by simp,by simp,by simp,⟨I r0 (by simp),trivial⟩,⟨⟨⟨q,F⟩,by exact XR d3 (by decide),by simp,trivial⟩,trivial⟩,⟨I Z (by simp),trivial⟩⟩
   ·simp[cnt,ao] at hc ⊢;lia
theorem ring:∀f,Gz E f/\Qk E f/\Kd E f/\Qg E f
 | 0=>⟨λ_ _ _ z=>absurd z (by lia),λ_ _ _ z=>absurd z (by lia),λ_ _ e z=>absurd z (by lia),λ_ _ e _ z=>absurd z (by lia)⟩
 | f+1=>let⟨a,b,c,d⟩:=ring f;⟨CU b,yE a c d,FI a,Nt a⟩
end
theorem zh{P:Int->Prop}:∀{zs:List D},(∀y∈zs,∃i,y=.int i/\P i)->∃a:List Int,zs=a.map D.int/\∀j∈a,P j
 | [],_=>⟨[],rfl,λ_ z=>(nomatch z)⟩
 | y::r,h=>by
  obtain⟨a,rfl,q⟩:=zh (zs:=r) λz b=>h z (V5 _ b);obtain⟨i,rfl,p⟩:=h y V3;exact⟨i::a,rfl,λj hj=>by
   rcases Wh.mp hj with rfl | hj
   ·exact p
   ·exact q j hj⟩
def F2(f:α->D)(a:List α)(k:Nat)(h:MH):ng (.lv (a.map f)) none (some (k:Int)) h=some (.lv ((a.take k).map f),h):=by
 show some (D.lv (cutD (a.map f) none (some (k:Int))),h)=_;unfold cutD;rw[HT.t6,HT.yD,Z1,Aaj,VU,<-ZE]
 by_cases z:k<=a.length
 ·rw[YD z]
 ·rw[Nat.min_eq_right (by lia),Yb (VZ _),Yb (by lia)]
def Mf{h O:MH}{s c R:Nat}{cs:List Int}{m odd:Int}{Q:D×MH->Prop}(A:Sb s c cs O (R+80) h)(o0:0<=odd)(o1:odd<=1000)(k:∀(W:Wd)(fl:List Int)(Z:MH),vB W fl odd->Sb s c cs O R Z->Q (.ob Z.length,Z++[pB W fl m odd])):Rn (jX [.ob s,.int m,.int odd] h) Q:=by
 refine bE ?_;nofun;refine mC (is:=[1,2,2,3,4,6]) (λi=>1<=i/\i<=6) (by decide) A λn1 h1 I _ A1=>?_;nofun;refine zD A1 (by exact Int.le_of_lt I.1) I.2 λns h2 nl nk U A2=>?_;nofun;refine mC (is:=[1,1,2,2,3,4,6]) (λi=>1<=i/\i<=6) (by decide) A2 λn2 h3 H _ A3=>?_;nofun;refine zD A3 (by exact Int.le_of_lt H.1) H.2 λC h4 dl dk dnd A4=>?_;nofun;refine zD A4 (by lia) (by lia) λo h5 pl pk T A5=>?_;nofun;refine dw ?_;nofun;refine⟨_,_,rfl,?_⟩;obtain⟨⟨ys,h6⟩,e6,a6,δ6,_,S⟩:=sO (ws:=[]) (g:=gN 0) (e:=ar aY (af (aw 1) (af (eK (.lv [.int 0,.int 1,.int 1,.int 2,.int 2,.int 3])) aD))) (λ_ y=>∃i,y=.int i/\0<=i/\i<=3)
  (xs:=C.map D.str) (δ:=[none,some (.ob s)]) (h:=h5) (λi δ M=>(∃u,δ=[u,some (.ob s)])/\Sb s c cs O (R+18-i) M) ⟨⟨_,rfl⟩,A5⟩ (λ_ _ _ _ _=>rfl) (by
   rintro i x δ M F ⟨⟨u,rfl⟩,S⟩;have Y:i < 6:=by
    have:=(VW.mp F).1;rw[VU] at this
    lia
   nofun;exact mC (R:=R+18-(i+1)) (is:=[0,1,1,2,2,3]) (λi=>0<=i/\i<=3) (by decide) (S.le (by lia)) λi t Y _ E=>⟨⟨i,rfl,Y⟩,⟨_,rfl⟩,E⟩)
 have l6:=a6.length;obtain⟨j,rfl,v⟩:=zh (P:=λi=>0<=i/\i<=3) λy X=>(let⟨_,_,r⟩:=a6.right y X;r);dsimp only at l6;rw[VU,VU] at l6;rw[VU] at S;refine rv e6 ⟨by dsimp only;rw[VU,show sizeLine=16777216 from rfl];lia,?_⟩;nofun;refine dw ?_;nofun;refine⟨_,_,rfl,?_⟩;obtain⟨⟨ys,t⟩,e7,a7,δ7,_,E⟩:=sO (ws:=[]) (g:=gN 0) (e:=ar aS (af (aw 2) (af (ar bG (af (aw 1) aD)) aD))) (λ_ y=>∃i,y=.int i/\0<=i/\i < ns.length)
  (xs:=C.map D.str) (δ:=[none,some (.lv (ns.map D.str)),some (.ob s)]) (h:=h6) (λi δ M=>(∃u,δ=[u,some (.lv (ns.map D.str)),some (.ob s)])/\Sb s c cs O (R+12-i) M) ⟨⟨_,rfl⟩,S.le (by lia)⟩ (λ_ _ _ _ _=>rfl) (by
   rintro i x δ M F ⟨⟨u,rfl⟩,E⟩;have Y:i < 6:=by
    have:=(VW.mp F).1;rw[VU] at this
    lia
   nofun;rw[VU];exact fQ (R:=R+12-(i+1)) (E.le (by clear E F;lia)) (by lia) (by lia) λr h8 r0 r1 A8=>⟨⟨r,rfl,r0,r1⟩,⟨_,rfl⟩,A8⟩)
 have l7:=a7.length;obtain⟨l,rfl,J⟩:=zh (P:=λi=>0<=i/\i < ns.length) λy X=>(let⟨_,_,r⟩:=a7.right y X;r);dsimp only at l7;rw[VU,VU] at l7;rw[VU] at E;refine rv e7 ⟨by dsimp only;rw[VU,show sizeLine=16777216 from rfl];lia,?_⟩;nofun;refine rv (a:=(.lv ((lY l).map D.int),t)) (by
  show(my (l.map D.int)).bind _=_;rw[qp];show(if l.length < 64 then _ else _)=_;rw[V1 (by lia)]) ?_
 nofun;refine dw ?_;nofun;refine⟨_,_,rfl,?_⟩;have e8:bJ [] (gN 0) bY (nj (aw 1) Cy (Cz (aw 0))) (j.map D.int) [none,some (.lv (o.map D.str))] t=some ((j.map D.int).filterMap λd=>match d with | .int k=>some (.lv ((o.take k.toNat).map D.str)) | _=>none,t):=
  yL rfl _ (λδ=>∃u,δ=[u,some (.lv (o.map D.str))]) ⟨_,rfl⟩ (by
   rintro x F δ ⟨u,rfl⟩;obtain⟨k,N,rfl⟩:=Ww.mp F;refine rv rfl ⟨rfl,rv rfl ⟨rfl,⟨_,rfl⟩,λ_=>⟨_,rfl,?_⟩,λz=>(nomatch z)⟩⟩;obtain⟨n,rfl⟩:=Xy (v k N).1;nofun;refine⟨_,rfl,rv (F2 D.str o n _) ?_⟩;rfl)
 have e9:((j.map D.int).filterMap λd=>match d with | .int k=>some (D.lv ((o.take k.toNat).map D.str)) | _=>none)=(j.map λk=>o.take k.toNat).map λo=>D.lv (o.map D.str):=by
  rw[Zc,Xh];exact congrFun (Aas (f:=(λo:List Str=>D.lv (o.map D.str))∘λk:Int=>o.take k.toNat)) _
 rw[e9] at e8;refine rv e8 ⟨by dsimp only;rw[VU,VU,show sizeLine=16777216 from rfl];lia,?_⟩;nofun;have L:∀(a b c d e f:D),Rn (Dh (jh (eK (.str "names")) (aw 3) (jh (eK (.str "deeds")) (aw 4) (jh (eK (.str "params")) (aw 5) (jh (eK (.str "floors")) (aw 7) (jh (eK (.str "left")) (aw 1) (jh (eK (.str "odd")) (aw 2) OJ)))))) [some (.ob s),some (.int m),some (.int odd),some a,some b,some c,some d,some e] t) λp=>p=(.ob t.length,t++[.dct [(.inr (Str.ofString "names"),a),(.inr (Str.ofString "deeds"),b),(.inr (Str.ofString "params"),c),(.inr (Str.ofString "floors"),e),(.inr (Str.ofString "left"),.int m),(.inr (Str.ofString "odd"),.int odd)]]):=λa b c d e f=>⟨_,rfl,rfl⟩;refine(L _ _ _ _ _ .cu).imp ?_;rintro _ rfl;nofun;refine k ⟨ns,C,j.map λk=>o.take k.toNat⟩ (lY l) t ⟨?_,?_,?_,?_,?_,?_,?_,?_,o0,o1,nk,dk,?_,U,dnd,?_⟩ (E.le (by lia))
 ·show 1<=ns.length;lia
 ·show ns.length<=6;lia
 ·show 1<=C.length;lia
 ·show C.length<=6;lia
 ·show(j.map _).length=C.length;rw[VU];lia
 ·intro q G;obtain⟨k,N,rfl⟩:=Ww.mp G;rw[Wx];have:=pl
  lia
 ·show(lY l).length=C.length;rw[(jE l).length_eq];lia
 ·intro f hf;exact J f ((jE l).mem_iff.mp hf)
 ·intro q G w hw;obtain⟨k,N,rfl⟩:=Ww.mp G;exact pk w (Y1 hw)
 ·intro q G;obtain⟨k,N,rfl⟩:=Ww.mp G;exact T.sublist (Zg _ _)
end Mi
namespace Pg
open PySem Sm L2
abbrev dC:=Str×List Str×List Row
structure Prog where
 names:List Str
 ag:List dC
def cO(d:dC):D:=.tup [.str d.1,.tup (d.2.1.map D.str),.tup (cm d.2.2)]
def aJ(P:Prog):D:=.tup [.tup (P.names.map D.str),.tup (P.ag.map cO)]
structure BG(W:Wd)(most:Nat)(P:Prog):Prop where
 nm:P.names=eT W.names
 dl:P.ag.length=W.ag.length
 dd:∀(j:Nat)(d:dC),P.ag[j]?=some d->W.ag[j]?=some d.1/\W.params[j]?=some d.2.1/\ba W d.2.1 1 d.2.2/\d.2.2.length<=12
 ct:(P.ag.map λd=>ao d.2.2).sum<=most
end Pg
namespace Mi
open PySem Sm L2 Pg
def zx(n:Nat)(d:dC):jq n (cO d)=true:=by
 show(true&&(gS n (d.2.1.map D.str)&&(gS n (cm d.2.2)&&true)))=true;rw[jo,fO];rfl
def L9(n:Nat)(P:Prog):jq n (aJ P)=true:=by
 show(gS n (P.names.map D.str)&&(gS n (P.ag.map cO)&&true))=true;rw[jo,gb n _ (zx n)];rfl
def sU{c:Type}{f:c->D}{b:List c}{i:Nat}{x:D}(h:(j8 0 (b.map f))[i]?=some x):∃a,b[i]?=some a/\x=.tup [.int (i:Int),f a]:=by
 rw[qw,Wa] at h;cases e:b[i]? with
 | none=>rw[e] at h;cases h
 | some a=>
  rw[e] at h;cases h;exact⟨a,rfl,by rw[Xf]⟩
def Wb.out(C:Cl h)(B:Sb E.s E.c E.cs h p h0)(e:E.wd=h0.length)(A:Wb E (h0++[o]) R l a):∃f j,a=f++[j]/\Sb E.s E.c E.cs h R f/\Cl f:=by
 have b:=A.b;obtain⟨hs,hc⟩:=B.S.lt;have hl:a.length=h0.length+1:=by rw[b.1];simp
 have m:h0.length < a.length:=by lia
 have g:a=a.take h0.length++[a[h0.length]'m]:=by rw[List.take_append_getElem,Yb (by exact Aak hl)]
 have d:zS E.s h0 (a.take h0.length):=⟨by rw[Wx];lia,λk n=>by
  by_cases z:k < h0.length
  ·rw[WQ z,b.2 k n (by lia),Wc z]
  ·rw[W4 (by rw[Wx];lia),W4 (by exact X8 z)]⟩
 have S:=A.S;rw[g] at S;have i:=S.cut (by rw[d.1];exact hs) (by rw[d.1];exact hc);exact⟨_,_,g,⟨i,B.b.trans d⟩,C.but i (B.b.trans d)⟩
def Gp{h h0:MH}{s c R e:Nat}{cs:List Int}{odd:Int}{Q:D×MH->Prop}(A:Sb s c cs h0 (R+100*e+120) h)(C:Cl h)(o0:0<=odd)(o1:odd<=1000)(k:∀(W:Wd)(fl:List Int)(P:Prog)(h1:MH),vB W fl odd->BG W e P->Sb s c cs h0 R h1->Cl h1->Q (aJ P,h1)):Rn (iz [.ob s,.int e,.int odd] h) Q:=by
 refine xg ?_;nofun;refine Mf (R:=R+100*e+40) A.S.sb o0 o1 λW fl F ok G=>?_;obtain⟨U,T⟩:=G.S.lt;have d2:=ok.d2;have n1:=ok.n1;have n2:=ok.n2;have I:=G.b.1;let E:En:=⟨s,c,F.length,cs,W,fl,odd,ok,by exact Y7 U,by exact Y7 T⟩;have B0:Wb E (F++[pB W fl e odd]) (R+100*e+40) e (F++[pB W fl e odd]):=⟨G.S.more _,uX rfl,(C.but G.S G.b).snoc (Dm _ _ _ _ _),iB.refl _ _ _⟩;nofun;refine oj ?_;nofun;refine rv (fI (B0.push (o:=.lst []) rfl).w) ?_;nofun;refine⟨_,_,_,rfl,rfl,?_⟩;have p:(F++[pB W fl e odd]).length=h.length+1:=by simp[I]
 rw[p];refine dR (λi M h'=>∃(g:List dC)(v:Nat)(d5 d6 d7:Option D)(y:MH),M=[some (.ob s),some (.int e),some (.int odd),some (.ob F.length),some (.ob (h.length+1)),d5,d6,d7]/\h'=y++[.lst (g.map cO)]/\y.length=h.length+1/\g.length=i/\(∀(j:Nat)(d:dC),g[j]?=some d->W.ag[j]?=some d.1/\W.params[j]?=some d.2.1/\ba W d.2.1 1 d.2.2/\d.2.2.length<=12)/\v+(g.map λd=>ao d.2.2).sum=e/\Wb E (F++[pB W fl e odd]) (R+100*v+(40-5*i)) v y)
  ⟨[],e,_,_,_,_,rfl,rfl,p,rfl,λ_ _ z=>by simp at z,by simp,B0⟩ (λ_ _ _ _ _=>rfl) ?_ ?_
 ·rintro i x M h' hx ⟨g,v,d5,d6,d7,y,rfl,rfl,q,m,u,hc,L⟩;obtain⟨dn,J,rfl⟩:=sU hx;have hi:i < W.ag.length:=(VW.mp J).1;obtain⟨N,r⟩:∃f,W.params[i]?=some f:=⟨_,V7 (by rw[ok.pl];exact hi)⟩;nofun;refine GX (E:=E) (R:=R+100*v+(39-5*i)) (is:=[1,2,3,4,12]) (λi=>1<=i/\i<=12) (by decide) ((L.push (o:=.lst (g.map cO)) (gb _ _ (zx _) g)).le (by lia)) λmo h7 H A7=>?_;nofun;refine(ring (E:=E) 20).1 (R:=R+(40-5*(i+1))) (d:=1) (held:=[]) (A7.le (by lia)) ⟨r,hi,by decide,show(-1:Int)<=W.names.length by simp,λ_ z=>(nomatch z),by simp⟩ (by decide) (by decide) H.1 H.2 λt l8 h8 O Y cr A8=>?_;have w8:=A8.w;obtain⟨X,rfl,e8,A8'⟩:=L.pop A8;have l:=e8.trans q;nofun;refine Cq ?_;nofun;refine⟨il (uX l),?_⟩;nofun;refine rv (eB w8) ?_;nofun;refine rv (cL r) ?_;nofun;refine rv (a:=(.tup (N.map D.str),_)) rfl ?_;nofun;refine rv (ik (uX l) (by rw[VU,show sizeLine=16777216 from rfl];lia)) ?_;rw[NP l];nofun;have hcn:((g++[(dn,N,t)]).map λd:dC=>ao d.2.2).sum=(g.map λd:dC=>ao d.2.2).sum+ao t:=by
   rw[Wq,W3];simp
  refine⟨g++[(dn,N,t)],l8,_,_,_,X,rfl,by rw[Wq];rfl,l,by simp[m],?_,by rw[hcn];lia,A8'.le (by lia)⟩;intro j d hj
  by_cases z:j < g.length
  ·rw[Wc z] at hj;exact u j d hj
  ·rw[We (by exact X8 z)] at hj;have Z:j-g.length=0:=by
    have:=(VW.mp hj).1;simp at this
    lia
   rw[Z] at hj;cases hj;obtain rfl:j=i:=by lia
   exact⟨J,r,O,Y⟩
 ·rintro M h' ⟨g,v,d5,d6,d7,y,rfl,rfl,q,m,u,hc,L⟩;rw[eP,VU] at m;have w6:=(L.push (o:=.lst (g.map cO)) (gb _ _ (zx _) g)).w;have hat:(y++[MO.lst (g.map cO)])[h.length+1]?=some (.lst (g.map cO)):=uX q;obtain⟨hb',o',rfl,B9,C9⟩:=Wb.out (E:=E) C G rfl L;nofun;refine rv (fH w6) ?_;nofun;refine rv (a:=(.lv ((eT W.names).map D.str),_)) (by
   show(nI (W.names.map D.str)).bind _=_;rw[pK];show(if W.names.length < 64 then _ else _)=_;rw[V1 (by exact XR n2 (by decide))]) ?_
  nofun;refine rv (a:=(.tup ((eT W.names).map D.str),_)) rfl ?_;nofun;refine rv (a:=(.tup (g.map cO),_)) (by simp only[dU,fF,hat,WC];rfl) ?_;nofun;rw[WY];exact rv (uO B9.b.1 C9 (λn z=>(nomatch z)) (L9 _ ⟨eT W.names,g⟩)) (k W fl ⟨eT W.names,g⟩ hb' ok ⟨rfl,m,u,by show _<=_;dsimp only;lia⟩ ⟨B9.S.le (by lia),A.b.trans B9.b⟩ C9)
end Mi
namespace Pg
open PySem Sm L2
def br(l:List Row):D:=.tup (cm l)
noncomputable def ak:Row->List (List Row)
 | .say _=>[]
 | .call _ _=>[]
 | .within _ b=>[b]
 | .all _ b=>[b]
 | .ask _ b e=>[b,e]
 | .j9 _ _ a b c=>[a,b,c]
 | .either a b=>[a,b]
 | .again a=>[a]
noncomputable def BS:Row->Str
 | .say _=>"say"
 | .call _ _=>"call"
 | .within _ _=>"within"
 | .all _ _=>"all"
 | .ask _ _ _=>"ask"
 | .j9 _ _ _ _ _=>"by"
 | .either _ _=>"either"
 | .again _=>"again"
mutual
noncomputable def fW(p:List Nat):Row->List (List Nat×Row)
 | .say _=>[]
 | .call _ _=>[]
 | .within _ b=>bc (p++[0]) 0 b
 | .all _ b=>bc (p++[0]) 0 b
 | .ask _ b e=>bc (p++[0]) 0 b++bc (p++[1]) 0 e
 | .j9 _ _ a b c=>bc (p++[0]) 0 a++(bc (p++[1]) 0 b++bc (p++[2]) 0 c)
 | .either a b=>bc (p++[0]) 0 a++bc (p++[1]) 0 b
 | .again a=>bc (p++[0]) 0 a
noncomputable def bc(a:List Nat)(k:Nat):List Row->List (List Nat×Row)
 | []=>[]
 | r::rs=>(a++[k],r)::(fW (a++[k]) r++bc a (k+1) rs)
end
def eU(p:List Nat):Nat->List (List Row)->List (List Nat×Row)
 | _,[]=>[]
 | k,l::ls=>bc (p++[k]) 0 l++eU p (k+1) ls
def xl(p:List Nat)(r:Row):fW p r=eU p 0 (ak r):=by
 cases r <;> simp[fW,ak,eU]
theorem ic(a:List Nat):∀(k:Nat)(x y:List Row),bc a k (x++y)=bc a k x++bc a (k+x.length) y
 | k,[],y=>by simp[bc]
 | k,r::x,y=>by simp[bc,ic a (k+1) x y,ZL,ZK]
theorem lK(p:List Nat):∀(k:Nat)(x y:List (List Row)),eU p k (x++y)=eU p k x++eU p (k+x.length) y
 | k,[],y=>by simp[eU]
 | k,r::x,y=>by simp[eU,lK p (k+1) x y,ZL,ZK]
mutual
noncomputable def bw:Row->Nat
 | .say _=>0
 | .call _ _=>0
 | .within _ b=>aA b
 | .all _ b=>aA b
 | .ask _ b e=>max (aA b) (aA e)
 | .j9 _ _ a b c=>max (aA a) (max (aA b) (aA c))
 | .either a b=>max (aA a) (aA b)
 | .again a=>aA a
noncomputable def aA:List Row->Nat
 | []=>1
 | r::rs=>max (1+bw r) (aA rs)
end
def fX(h:r∈a):1+bw r<=aA a:=by
 induction a with
 | nil=>cases h
 | cons x xs b=>
  rw[aA];rcases Wh.mp h with rfl | h
  ·lia
  ·have:=b h;lia
def eJ(h:l∈ak r):aA l<=bw r:=by
 cases r <;> simp[ak] at h
 case within=>subst h;simp[bw]
 case all=>subst h;simp[bw]
 case ask=>rcases h with rfl | rfl <;> rw[bw] <;> lia
 case j9=>rcases h with rfl | rfl | rfl <;> rw[bw] <;> lia
 case either=>rcases h with rfl | rfl <;> rw[bw] <;> lia
 case again=>subst h;simp[bw]
def Bk(h:r∈a):cnt r<=ao a:=by
 induction a with
 | nil=>cases h
 | cons x xs b=>
  rw[ao];rcases Wh.mp h with rfl | h
  ·lia
  ·have:=b h;lia
def dW(r:Row):cnt r=1+((ak r).map ao).sum:=by cases r <;> simp[cnt,ak] <;> lia
mutual
theorem ux(p:List Nat):∀r:Row,1+(fW p r).length=cnt r
 | .say _=>by simp[fW,cnt]
 | .call _ _=>by simp[fW,cnt]
 | .within _ b=>by simp[fW,cnt,aU (p++[0]) 0 b]
 | .all _ b=>by simp[fW,cnt,aU (p++[0]) 0 b]
 | .ask _ b e=>by simp[fW,cnt,aU (p++[0]) 0 b,aU (p++[1]) 0 e];lia
 | .j9 _ _ a b c=>by simp[fW,cnt,aU (p++[0]) 0 a,aU (p++[1]) 0 b,aU (p++[2]) 0 c];lia
 | .either a b=>by simp[fW,cnt,aU (p++[0]) 0 a,aU (p++[1]) 0 b];lia
 | .again a=>by simp[fW,cnt,aU (p++[0]) 0 a]
theorem aU(a:List Nat):∀(k:Nat)(l:List Row),(bc a k l).length=ao l
 | k,[]=>by simp[bc,ao]
 | k,r::rs=>by
  have:=ux (a++[k]) r;have:=aU a (k+1) rs;simp[bc,ao];lia
end
mutual
theorem CN{W:Wd}{i:List Str}:∀(n:Nat)(r:Row),aW W i n r->n<=5->bw r<=5-n
 | n,.say _,_,_=>by simp[bw]
 | n,.call _ _,_,_=>by simp[bw]
 | n,.within _ b,h,hn=>by rw[aW] at h;have:=bR (n+1) b h.2.2.2 h.2.1;rw[bw];lia
 | n,.all _ b,h,hn=>by rw[aW] at h;have:=bR (n+1) b h.2.2.2 h.2.1;rw[bw];lia
 | n,.ask _ b e,h,hn=>by rw[aW] at h;have:=bR (n+1) b h.2.2.2.2.1 h.2.1;have:=bR (n+1) e h.2.2.2.2.2 h.2.1;rw[bw];clear h;clear hn;lia
 | n,.j9 _ _ a b c,h,hn=>by
  rw[aW] at h;obtain⟨_,_,d,_,_,_,f,g,h3⟩:=h;have:=bR (n+1) a f d;have:=bR (n+1) b g d;have:=bR (n+1) c h3 d;rw[bw];lia
 | n,.either a b,h,hn=>by
  rw[aW] at h;obtain⟨d,_,_,f,g⟩:=h;have:=bR (n+1) a f d;have:=bR (n+1) b g d;rw[bw];lia
 | n,.again a,h,hn=>by
  rw[aW] at h;obtain⟨d,_,f⟩:=h;have:=bR (n+1) a f d;rw[bw];lia
theorem bR{W:Wd}{a:List Str}:∀(n:Nat)(l:List Row),ba W a n l->n<=5->aA l<=6-n
 | n,[],_,hn=>by simp[aA];lia
 | n,r::rs,h,hn=>by
  rw[ba] at h;have:=CN n r h.1 hn;have:=bR n rs h.2 hn;rw[aA];lia
end
noncomputable def bo(n:Nat):D:=.int (n:Int)
def fA(p:List Nat):D:=.tup (p.map bo)
def rf(x:List Nat×Row):D:=.tup [fA x.1,ay x.2]
end Pg
namespace Mi
open PySem Sm L2 Pg
def Ma(n:Nat)(x:List Nat×Row):jq n (rf x)=true:=by
 show(gS n (x.1.map bo)&&(jq n (ay x.2)&&true))=true;rw[gb n _ (λ_=>rfl),vj];rfl
def x5(h:MH):zJ h h=true:=by
 induction h with
 | nil=>rfl
 | cons o r a=>show(JO o o&&zJ r r)=true;rw[Gs,a];rfl
def xF(hc:gS H.length xs=true):leave H (.ob H.length) (H++[.lst xs])=some (.lv xs,H):=by
 have h3:BO H.length (H++[.lst xs]) (.ob H.length)=.lv xs:=by
  show(if H.length < H.length then _ else _)=_;rw[V4 (Xs _)];simp
 unfold leave;rw[h3,Y0 (VZ _),WT,x5];show(if(gS H.length xs&&_)=true then _ else _)=_;rw[hc];rfl
def eO(r:Row)(h:MH):bU [ay r] h=some (.tup ((ak r).map br),h):=by
 have e:Rn (bU [ay r] h) λp=>p=(.tup ((ak r).map br),h):=by
  refine bE ?_;cases r <;> rw[ay] <;> (nofun;refine rv rfl ?_;nofun;refine rv rfl ?_;dsimp only;refine⟨_,rfl,?_⟩;nofun;refine rv rfl ?_;rfl)
 obtain⟨p,a,rfl⟩:=e;exact a
def F7(hl:xs.length+a.length<=10000):aF (.tup xs) (.tup a) h=some (.tup (xs++a),h):=by
 cases xs with
 | nil=>rfl
 | cons x xs=>
  show(if xs.length+1+a.length<=sizeLine then some (D.tup (x::xs++a),h) else none)=_;rw[V1 (by rw[show sizeLine=16777216 from rfl];rw[V9] at hl;exact V2 hl (by decide))]
def uL(e:h[n]?=some (.lst xs))(hl:xs.length+a.length<=1000000):lJ (.ob n) [.lv a] h=some (.cu,h.set n (.lst (xs++a))):=by
 unfold lJ;dsimp only;rw[e];show(if xs.length+a.length<=sizeLine then _ else _)=_;rw[V1 (by rw[show sizeLine=16777216 from rfl];exact V2 hl (by decide))]
def tN:(H++[o]).set H.length a=H++[a]:=by
 rw[XY _ _ (VZ _),Xg];rfl
def jk:(H++[o])[H.length]?=some o:=by simp
def xQ(a:List Nat)(i:Nat)(hl:a.length<=1000)(h:MH):aF (fA a) (.tup [.int (i:Int)]) h=some (fA (a++[i]),h):=by
 show aF (.tup (a.map bo)) (.tup [bo i]) _=_;rw[F7 (by rw[VU];simp;exact V2 hl (by decide))];simp[fA]
theorem mR:∀(n:Nat)(b:List Row)(a:List Nat)(h:MH),aA b<=n->ao b<=1000->a.length+2*n<=100->cZ n [.tup (cm b),fA a] h=some (.lv ((bc a 0 b).map rf),h)
 | 0,b,a,h,hn,hc,F=>by
  exfalso;cases b with
  | nil=>simp[aA] at hn
  | cons r rs=>rw[aA] at hn;lia
 | n+1,b,a,h,hn,hc,F=>by
  have e:Rn (cZ (n+1) [.tup (cm b),fA a] h) λp=>p=(.lv ((bc a 0 b).map rf),h):=by
   unfold cZ;refine xg ?_;nofun;refine oj ?_;nofun;refine⟨_,_,_,rfl,rfl,?_⟩;rw[bA];refine dR (λi d m=>∃(A z y q o:Option D),d=[some (.tup (b.map ay)),some (fA a),some (.ob h.length),A,z,y,q,o]/\m=h++[.lst ((bc a 0 (b.take i)).map rf)])
    ⟨_,_,_,_,_,rfl,by simp[bc]⟩ (λ_ _ _ _ _=>rfl) ?_ ?_
   ·rintro i x d m u ⟨A,z,y,q,o,rfl,rfl⟩;obtain⟨r,hr,rfl⟩:=sU u;have v:=VX hr;have E:i < b.length:=(VW.mp hr).1;have f:b.take (i+1)=b.take i++[r]:=by
     rw[Zb,hr];rfl
    have k:bc a 0 (b.take (i+1))=bc a 0 (b.take i)++((a++[i],r)::eU (a++[i]) 0 (ak r)):=by
     rw[f,ic];simp only[bc,xl,Wx,WW,Xf];rw[YD (by exact XG E)]
    have c:(bc a 0 b).length<=1000:=by rw[aU];exact hc
    have s:(bc a 0 (b.take (i+1))).length<=1000:=by
     have:bc a 0 b=bc a 0 (b.take (i+1))++bc a (0+(b.take (i+1)).length) (b.drop (i+1)):=by
      rw[<-ic,Xc]
     rw[this,Wj] at c;exact V2 (Wu _ _) c
    generalize bc a 0 (b.take i)=H at k ⊢;nofun;refine rv (xQ a i (by lia) _) ?_;nofun;rw[k,Wj,V9] at s;refine Cq ?_;nofun;refine⟨il jk,?_⟩;nofun;refine rv (ik jk (by rw[VU,show sizeLine=16777216 from rfl];lia)) ?_;nofun;rw[tN];refine oj ?_;nofun;refine rv (eO r _) ?_;nofun;refine⟨_,_,_,rfl,rfl,?_⟩;refine dR (λj d m=>∃(q o:Option D),d=[some (.tup (b.map ay)),some (fA a),some (.ob h.length),some (.int i),some (ay r),some (fA (a++[i])),q,o]/\m=h++[.lst ((H++((a++[i],r)::eU (a++[i]) 0 ((ak r).take j))).map rf)])
     ⟨_,_,rfl,by simp[eU,rf]⟩ (λ_ _ _ _ _=>rfl) ?_ ?_
    ·rintro j x d m u ⟨q,o,rfl,rfl⟩;obtain⟨l,hl,rfl⟩:=sU u;have w:=VX hl;have hj:j < (ak r).length:=(VW.mp hl).1;have f:(ak r).take (j+1)=(ak r).take j++[l]:=by
      rw[Zb,hl];rfl
     have t:eU (a++[i]) 0 ((ak r).take (j+1))=eU (a++[i]) 0 ((ak r).take j)++bc (a++[i]++[j]) 0 l:=by
      rw[f,lK];simp only[eU,Wx,WW,Xf];rw[YD (by exact XG hj)]
     have g:(eU (a++[i]) 0 ((ak r).take (j+1))).length<=(eU (a++[i]) 0 (ak r)).length:=by
      have:eU (a++[i]) 0 (ak r)=eU (a++[i]) 0 ((ak r).take (j+1))++eU (a++[i]) (0+((ak r).take (j+1)).length) ((ak r).drop (j+1)):=by
       rw[<-lK,Xc]
      rw[this,Wj];exact Wu _ _
     rw[t,Wj] at g;have C:=λhh=>mR n l (a++[i]++[j]) hh (by have:=fX v;have:=eJ w;lia) (by rw[<-aU (a++[i]++[j]) 0];lia) (by simp;lia);nofun;refine Cq ?_;nofun;refine⟨il jk,?_⟩;nofun;refine rv (xQ (a++[i]) j (by simp;lia) _) ?_;nofun;refine rv (C _) ?_;nofun;refine rv (uL jk (by rw[VU,VU,Wj,V9];lia)) ?_;nofun;rw[tN,<-Wq];refine⟨_,_,rfl,?_⟩;rw[t];simp
    ·rintro d m ⟨q,o,rfl,rfl⟩;rw[eP,VU,WT];nofun;exact⟨_,_,_,_,_,rfl,by rw[k]⟩
   ·rintro d m ⟨A,z,y,q,o,rfl,rfl⟩;rw[eP,VU,WT];nofun;exact rv (xF (gb _ _ (Ma _) _)) rfl
  obtain⟨p,G,rfl⟩:=e;exact G
end Mi
namespace Pg
open PySem Sm L2
def placesFrom:Nat->List dC->List (Nat×List Nat×Row)
 | _,[]=>[]
 | k,d::ds=>(bc [] 0 d.2.2).map (λx=>(k,x.1,x.2))++placesFrom (k+1) ds
def ie(x:Nat×List Nat×Row):D:=.tup [bo x.1,fA x.2.1,ay x.2.2]
def rowAt(x:Nat×List Nat×Row):D:=.tup [bo x.1,ay x.2.2]
theorem fN:∀(k:Nat)(x y:List dC),placesFrom k (x++y)=placesFrom k x++placesFrom (k+x.length) y
 | k,[],y=>by simp[placesFrom]
 | k,d::x,y=>by simp[placesFrom,fN (k+1) x y,ZL,ZK]
theorem bL:∀(k:Nat)(a:List dC),(placesFrom k a).length=(a.map λd=>ao d.2.2).sum
 | _,[]=>rfl
 | k,d::a=>by simp[placesFrom,bL (k+1) a,aU]
theorem yp:∀{a:List dC} {d:dC},d∈a->ao d.2.2<=(a.map λd=>ao d.2.2).sum
 | x::r,d,h=>by
  rw[V6,WO];rcases Wh.mp h with rfl | h
  ·exact Wu _ _
  ·have:=yp h;lia
structure zP(P:Prog):Prop where
 nd:∀d∈P.ag,aA d.2.2<=6
 ct:(P.ag.map λd=>ao d.2.2).sum<=1000
 dl:P.ag.length<=1000
def BG.fit{W:Wd}{m:Nat}{P:Prog}(o:BG W m P)(hm:m<=1000)(hd:W.ag.length<=6):zP P:=by
 refine⟨λd hd=>?_,V2 o.ct hm,by rw[o.dl];exact V2 hd (by decide)⟩;obtain⟨j,hj⟩:=Yn.mp hd;obtain⟨_,_,ok,_⟩:=o.dd j d hj;have:=bR 1 d.2.2 ok (by lia);exact YM this
end Pg
namespace Mi
open PySem Sm L2 Pg
def JB(n:Nat)(x:Nat×List Nat×Row):jq n (ie x)=true:=by
 show(true&&(gS n (x.2.1.map bo)&&(jq n (ay x.2.2)&&true)))=true;rw[gb n _ (λ_=>rfl),vj];rfl
def Eo(hc:mB ws h=true)(f k:α->D)(J:DS->Prop)(b:List α)(m:J a)(ht:∀x∈b,∀a,J a->Rn (g (f x) a h) λq=>q.2=h/\J q.1/\Rn (e q.1 h) λp=>p=(k x,h)):
  bJ ws g bY e (b.map f) a h=some (b.map k,h):=by
 induction b generalizing a with
 | nil=>rw[XH];unfold bJ;rw[V1 hc];rfl
 | cons x r i=>
  rw[V6];unfold bJ;rw[V1 hc];obtain⟨⟨d,l⟩,n,rfl,o,p,c,rfl⟩:=ht x V3 a m;rw[n];dsimp only[Option.bind_some] at c ⊢;show((some (true,l)).bind _)=_;dsimp only[Option.bind_some];rw[V1 rfl,c];dsimp only[Option.bind_some];rw[i o λy j=>ht y (V5 _ j)];rfl
def iI(fit:zP P)(h:MH):cb [aJ P] h=some (.lv ((placesFrom 0 P.ag).map ie),h):=by
 have e:Rn (cb [aJ P] h) λp=>p=(.lv ((placesFrom 0 P.ag).map ie),h):=by
  refine xg ?_;nofun;refine oj ?_;nofun;refine rv (a:=(.tup (P.ag.map cO),_)) rfl ?_;nofun;refine⟨_,_,_,rfl,rfl,?_⟩;refine dR (λi f m=>∃(d2 q o n:Option D),f=[some (aJ P),some (.ob h.length),d2,q,o,n]/\m=h++[.lst ((placesFrom 0 (P.ag.take i)).map ie)])
   ⟨_,_,_,_,rfl,by simp[placesFrom]⟩ (λ_ _ _ _ _=>rfl) ?_ ?_
  ·rintro i x f m r ⟨d2,q,o,n,rfl,rfl⟩;obtain⟨d,hd,rfl⟩:=sU r;have k:=VX hd;have s:i < P.ag.length:=(VW.mp hd).1;have l:P.ag.take (i+1)=P.ag.take i++[d]:=by rw[Zb,hd];rfl
   have g:placesFrom 0 (P.ag.take (i+1))=placesFrom 0 (P.ag.take i)++(bc [] 0 d.2.2).map λx=>(i,x.1,x.2):=by
    rw[l,fN];simp only[placesFrom,Wx,WW,Xf];rw[YD (by exact XG s)]
   have hc:=yp k;have ct:=fit.ct;have j:(placesFrom 0 P.ag).length<=1000:=by rw[bL];exact ct
   have c:(placesFrom 0 (P.ag.take (i+1))).length<=1000:=by
    have:placesFrom 0 P.ag=placesFrom 0 (P.ag.take (i+1))++placesFrom (0+(P.ag.take (i+1)).length) (P.ag.drop (i+1)):=by
     rw[<-fN,Xc]
    rw[this,Wj] at j
    lia
   rw[g,Wj,VU] at c;unfold cO;nofun;refine Cq ?_;nofun;refine⟨il jk,?_⟩;nofun;refine dw ?_;nofun;refine rv (mR 8 d.2.2 [] _ (V2 (fit.nd d k) (by decide)) (by exact V2 hc ct) (by simp)) ?_;refine⟨_,_,rfl,?_⟩;refine rv (Eo rfl rf (λx=>ie (i,x.1,x.2)) (λf=>∃a b,f=[a,b,some (.int i)]) (bc [] 0 d.2.2) ⟨_,_,rfl⟩ ?_) ⟨?_,?_⟩
   ·rintro x r f ⟨a,b,rfl⟩;unfold rf;nofun;refine⟨rfl,⟨_,_,rfl⟩,?_⟩;nofun;rfl
   ·dsimp only;rw[VU,show sizeLine=16777216 from rfl]
    lia
   ·nofun;refine rv (uL jk (by rw[VU,VU];exact V2 c (by decide))) ?_;nofun;rw[tN];refine⟨_,_,_,_,rfl,?_⟩;rw[g,Wq,Xh];rfl
  ·rintro f m ⟨d2,q,o,n,rfl,rfl⟩;rw[eP,VU,WT];nofun;exact rv (xF (gb _ _ (JB _) _)) rfl
 obtain⟨p,t,rfl⟩:=e;exact t
def pS(fit:zP P)(h:MH):g0 [aJ P] h=some (.tup ((placesFrom 0 P.ag).map rowAt),h):=by
 have e:Rn (g0 [aJ P] h) λp=>p=(.tup ((placesFrom 0 P.ag).map rowAt),h):=by
  refine bE ?_;nofun;refine dw ?_;nofun;refine rv (iI fit h) ?_;refine⟨_,_,rfl,?_⟩;refine rv (Eo rfl ie rowAt (λd=>∃a b c,d=[a,b,c]) (placesFrom 0 P.ag) ⟨_,_,_,rfl⟩ ?_) ⟨?_,?_⟩
  ·rintro x g d ⟨a,b,c,rfl⟩;unfold ie;nofun;refine⟨rfl,⟨_,_,_,rfl⟩,?_⟩;nofun;rfl
  ·dsimp only;rw[VU,bL,show sizeLine=16777216 from rfl];have:=fit.ct;exact V2 this (by decide)
  ·nofun;refine rv (a:=(.tup ((placesFrom 0 P.ag).map rowAt),h)) rfl ?_;nofun
 obtain⟨p,f,rfl⟩:=e;exact f
end Mi
namespace Pg
def bS(a:List dC):Nat:=(a.map λd=>ao d.2.2).sum
end Pg
namespace Mi
open PySem Sm L2 Pg
def FC:∀{ns:List Int},ns≠[]->Sb.ze d ns∈ns/\∀a∈ns,a<=Sb.ze d ns:=by
 intro ns h;cases ns with
 | nil=>exact absurd rfl h
 | cons n r=>
  show r.foldl max n∈n::r/\∀a∈n::r,a<=r.foldl max n;clear h
  induction r generalizing n with
  | nil=>exact⟨.head _,λa b=>by rw[Wg.mp b];exact Int.le_refl _⟩
  | cons x r f=>
   obtain⟨c,e⟩:=f (max n x);rw[YE];have hm:=e (max n x) (.head _);refine⟨?_,λa b=>?_⟩
   ·rcases Wh.mp c with c | c
    ·rw[c]
     by_cases z:n<=x
     ·rw[Int.max_eq_right z];exact .tail _ (.head _)
     ·rw[Int.max_eq_left (by lia)];exact .head _
    ·exact .tail _ (.tail _ c)
   ·rcases Wh.mp b with rfl | b
    ·lia
    ·rcases Wh.mp b with rfl | b
     ·lia
     ·exact e a (.tail _ b)
def LA(r:Row):(ak r=[]/\bw r=0)\/∃t∈ak r,bw r=aA t:=by
 cases r <;> simp[ak,bw] <;> lia
def uK:(ak r=[]/\bw r=0)\/((∃t∈ak r,bw r=aA t)/\∀t∈ak r,aA t<=bw r):=by
 refine(LA r).imp id λh=>⟨h,λt ht=>eJ ht⟩
def GI(k:Int)(l:List Row):List Int:=l.flatMap λr=>(ak r).map λt=>k+(aA t:Int)
def Dj:a∈GI k l↔∃r∈l,∃t∈ak r,a=k+(aA t:Int):=by
 unfold GI;rw[List.mem_flatMap];constructor
 ·rintro⟨r,hr,b⟩;obtain⟨t,ht,rfl⟩:=Ww.mp b;exact⟨r,hr,t,ht,rfl⟩
 ·rintro⟨r,hr,t,ht,rfl⟩;exact⟨r,hr,Yz (f:=λt=>k+(aA t:Int)) ht⟩
def PD(k:Int)(l:List Row):Sb.ze k (GI k l)=k+(aA l:Int)-1:=by
 have g:∀r∈l,∀t∈ak r,1+aA t<=aA l:=λr hr t ht=>by
  have:=fX hr;have:=eJ ht;lia
 by_cases z:GI k l=[]
 ·rw[z];show k=_;have:aA l<=1:=by
   have:∀r∈l,bw r<=0:=λr hr=>by
    rcases uK (r:=r) with⟨_,e⟩ |⟨⟨t,ht,e⟩,_⟩
    ·rw[e];exact VZ _
    ·have:k+(aA t:Int)∈GI k l:=Dj.mpr ⟨r,hr,t,ht,rfl⟩;rw[z] at this;cases this
   clear g z
   induction l with
   | nil=>rw[aA];exact VZ _
   | cons r l a=>
    rw[aA];exact Nat.max_le.mpr ⟨by have:=this r (.head _);exact Nat.add_le_add_left this _,a λx b=>this x (.tail _ b)⟩
  have h:1<=aA l:=by cases l <;> rw[aA] <;> lia
  lia
 ·obtain⟨a1,a2⟩:=FC (d:=k) z;obtain⟨r,hr,t,ht,e⟩:=Dj.mp a1;have h:=g r hr t ht;have h3:∃r∈l,∃t∈ak r,aA l=1+aA t:=by
   clear a1 a2 e h z;have b:∀(l:List Row),(∃r∈l,∃t∈ak r,aA l=1+aA t)\/aA l=1:=by
    intro l
    induction l with
    | nil=>exact .inr (by rw[aA])
    | cons x l a=>
     rw[aA]
     by_cases y:1+bw x<=aA l
     ·rw[Nat.max_eq_right y];exact a.imp (λ⟨r,hr,q⟩=>⟨r,.tail _ hr,q⟩) id
     ·rw[Nat.max_eq_left (by lia)];rcases uK (r:=x) with⟨_,e⟩ |⟨⟨t,ht,e⟩,_⟩
      ·exact .inr (by rw[e])
      ·exact .inl ⟨x,.head _,t,ht,by rw[e]⟩
   refine(b l).elim id λe=>?_;have:=g r hr t ht;have:1<=aA t:=by cases t <;> rw[aA] <;> lia
   lia
  obtain⟨j,f,i,c,m⟩:=h3;have:=a2 _ (Dj.mpr ⟨j,f,i,c,rfl⟩)
  lia
def Sa(n:Nat):EM:=ar (cf n) (af (aw 1) (af (au aF (aw 2) (eK (.int 1))) aD))
theorem MU:∀(b:List (List Row)) (o:Option D) (a:List D),a.length+b.length<=10000->(∀t∈b,cf n [br t,.int (k+1)] h=some (.int (k+1+(aA t:Int)-1),h))->
  ∃c,fP [] (gN 1) bY (mL (Sa n)) (b.map br) [r0,o,some (.int k)] h a=some ([r0,c,some (.int k)],h,a++b.map λt=>D.int (k+(aA t:Int)))
 | [],o,a,_,_=>⟨o,by rw[XH,XH,WW];rfl⟩
 | t::b,o,a,hl,ht=>by
  rw[V9] at hl;obtain⟨c,f⟩:=MU b (some (br t)) (a++[.int (k+(aA t:Int))]) (by rw[Wj,YV];lia) λu d=>ht u (.tail _ d);refine⟨c,?_⟩;have e:mL (Sa n) [r0,some (br t),some (.int k)] h a=some ([r0,some (br t),some (.int k)],h,a++[.int (k+(aA t:Int))]):=by
   show(cf n [br t,.int (k+1)] h).bind _=_;rw[ht t (.head _)];show(if a.length < sizeLine then some (_,h,a++[D.int (k+1+(aA t:Int)-1)]) else none)=_;rw[V1 (by rw[show sizeLine=16777216 from rfl];lia),show k+1+(aA t:Int)-1=k+aA t by lia]
  rw[V6,V6];show(mL (Sa n) [r0,some (br t),some (.int k)] h a).bind _=_;rw[e];show fP [] (gN 1) bY (mL (Sa n)) (b.map br) [r0,some (br t),some (.int k)] h (a++[.int (k+(aA t:Int))])=_;rw[f,WY];rfl
def dM(n:Nat):MK (List D):=xB (dH (ar bU (af (aw 0) aD))) (gN 1) bY (mL (Sa n))
def FG(r:Row):(ak r).length<=3:=by cases r <;> simp[ak]
theorem Ju:∀(l:List Row)(o0 o1:Option D)(a:List D),a.length+3*l.length<=10000->(∀r∈l,∀t∈ak r,cf n [br t,.int (k+1)] h=some (.int (k+1+(aA t:Int)-1),h))->
  ∃b,fP [] (gN 0) bY (dM n) (l.map ay) [o0,o1,some (.int k)] h a=some (b,h,a++(GI k l).map D.int)
 | [],o0,o1,a,_,_=>⟨_,by rw[XH];show _=some (_,h,a++[]);rw[WW];rfl⟩
 | r::l,o0,o1,a,hl,ht=>by
  rw[V9] at hl;have h3:=FG r;obtain⟨c,g⟩:=MU (r0:=some (ay r)) (ak r) o1 a (by lia) (ht r (.head _));obtain⟨b,f⟩:=Ju l (some (ay r)) c (a++(ak r).map λt=>D.int (k+(aA t:Int))) (by rw[Wj,VU];lia) λx d=>ht x (.tail _ d);refine⟨b,?_⟩;have e:dM n [some (ay r),o1,some (.int k)] h a=some ([some (ay r),c,some (.int k)],h,a++(ak r).map λt=>D.int (k+(aA t:Int))):=by
   show((bU [ay r] h).bind _).bind _=_;rw[eO];exact g
  rw[V6];show(dM n [some (ay r),o1,some (.int k)] h a).bind _=_;rw[e];show fP [] (gN 0) bY (dM n) (l.map ay) [some (ay r),c,some (.int k)] h _=_;rw[f,WY];unfold GI;rw[List.flatMap_cons,Wq,Xh];rfl
theorem le_sum_mem':∀{b:List Nat},a∈b->a<=b.sum
 | x::r,h=>by
  rw[WO];rcases Wh.mp h with rfl | h
  ·exact Wu _ _
  ·exact V2 (le_sum_mem' h) (Nat.le_add_left _ _)
abbrev dA(f:Nat):EM:=Kn [none,none,some 1] (dH (aw 0)) (gN 0) bY (xB (dH (ar bU (af (aw 0) aD))) (gN 1) bY (mL (ar (cf f) (af (aw 1) (af (au aF (aw 2) (eK (.int 1))) aD))))) [] .lv
theorem oW:∀(f:Nat)(l:List Row)(k:Int)(h:MH),aA l<=f->ao l<=1000->cf f [br l,.int k] h=some (.int (k+(aA l:Int)-1),h)
 | 0,l,k,h,hn,_=>by
  have:1<=aA l:=by cases l <;> rw[aA] <;> lia
  lia
 | f+1,l,k,h,hn,hc=>by
  have hl:=oY l;obtain⟨c,e⟩:=Ju (n:=f) (k:=k) (h:=h) l none none [] (by show 0+3*l.length<=10000;lia) λr hr t ht=>oW f t (k+1) h (by have:=fX hr;have:=eJ ht;lia) (by
   have g:=Bk hr;have d:=dW r;have h3:=le_sum_mem' (Yz (f:=ao) ht)
   lia)
  rw[cf];refine bg (bE (oh ?_));have b:dA f (entry 2 [br l,.int k]) h=some (.lv ((GI k l).map D.int),h):=by
   show(fP [] (gN 0) bY (dM f) (cm l) [none,none,some (.int k)] h []).map _=_;rw[bA,e];rfl
  refine⟨(.int (Sb.ze k (GI k l)),h),?_,by rw[PD];rfl⟩;unfold Js;have a:af (dA f) aD (entry 2 [br l,.int k]) h=some ([.lv ((GI k l).map D.int)],h):=bg (cJ (rv b (kK rfl)));show(af (dA f) aD (entry 2 [br l,.int k]) h).bind _=_;rw[a];show MS (.lv ((GI k l).map D.int)) (.int k) h=_;show((my ((GI k l).map D.int)).map _)=_;rw[qp];rfl
def Dp(n:Nat)(d:D):Prop:=∃p,ur d=some p/\p.depth<=n/\PyData.eqv p p=true
def dI(n:Nat)(b:List D):Prop:=∃a,kl b=some a/\PyData.depthAll a<=n/\PyData.eqvAll a a=true
def dI.nil:dI n []:=⟨[],rfl,by simp[PyData.depthAll],rfl⟩
def dI.cons(a:Dp n x)(b:dI n xs):dI n (x::xs):=by
 obtain⟨p,i,h,g⟩:=a;obtain⟨c,f,e,d⟩:=b;refine⟨p::c,?_,?_,?_⟩
 ·show(ur x).bind (λa=>(kl xs).map λb=>a::b)=_;rw[i,f];rfl
 ·rw[PyData.depthAll];exact Nat.max_le.mpr ⟨h,e⟩
 ·rw[PyData.eqvAll,g,d];rfl
theorem dI.map:∀{a:List α},(∀x∈a,Dp n (f x))->dI n (a.map f)
 | [],_=>dI.nil
 | x::a,h=>dI.cons (h x V3) (dI.map λy b=>h y (V5 _ b))
theorem Dp.tup(a:dI n xs):Dp (n+1) (.tup xs):=by
 obtain⟨b,e,d,c⟩:=a;refine⟨.tuple b,?_,?_,?_⟩
 ·show(kl xs).map _=_;rw[e];rfl
 ·rw[PyData.depth];exact X7 d
 ·rw[PyData.eqv];exact c
theorem Dp.lv(a:dI n xs):Dp (n+1) (.lv xs):=by
 obtain⟨b,e,d,c⟩:=a;refine⟨.list b,?_,?_,?_⟩
 ·show(kl xs).map _=_;rw[e];rfl
 ·rw[PyData.depth];exact X7 d
 ·rw[PyData.eqv];exact c
theorem Dp.int(i:Int):Dp n (.int i):=⟨.int i,rfl,by simp[PyData.depth],by simp[PyData.eqv]⟩
theorem Dp.str(w:Str):Dp n (.str w):=⟨.str w,rfl,by simp[PyData.depth],by simp[PyData.eqv]⟩
def Dp.up(h:Dp n d)(hm:n<=m):Dp m d:=let⟨p,a,b,c⟩:=h;⟨p,a,V2 b hm,c⟩
def F3(a:Dp 64 (.tup xs)):iY (.tup xs) (.tup xs) h=some (.bl false,h):=by
 obtain⟨p,d,b,c⟩:=a;show(Km (.tup xs) (.tup xs) h).map _=_;unfold Km;show(((ur (.tup xs)).bind λa=>(ur (.tup xs)).bind _).map _)=_;rw[d];show((if p.depth<=64/\p.depth<=64 then some (PyData.eqv p p) else none).map _)=_;rw[V1 ⟨b,b⟩,c];rfl
end Mi
namespace Mi
open PySem L2 Sm PySem.Spec PyProof.Rows Pg
def Wo(w:Str):Prop:=1<=w.length/\w.length<=7/\low w
def O5:∀c < 128,97<=c->(c<=122->(!(Builtin.Str.occurrences (Str.ofString "abcdefghijklmnopqrstuvwxyz") ⟨#[c]⟩ 0 (Str.ofString "abcdefghijklmnopqrstuvwxyz").length 1).isEmpty)=true):=by decide+kernel
def sZ(e:k c h=some (.int a,h))(hn:j c h=some (.int n,h))(d:i c h=some (.int b,h))(g:a<=n)(f:n<=b):fv zo zo k j i c h=some (.bl true,h):=by
 rw[JD e hn d,WB g,WB f];rfl
def vy(c:g b h=some (d,h))(hs:fF d h=some (xs,[]))(hc:eV a b=o::t)(hl:xs.length<=100000)(f:∀x∈xs,e (some x::t) h=some (.bl true,h)):
  ar wD (af (gH (b8 a (dH g) (gN 0) bY e)) aD) b h=some (.bl true,h):=by
 rw[Mn (λ_=>true) c hs hc hl f,WX.mpr λ_ _=>rfl]
def Wo.asc(o:Wo w):w.cps.all (· < 128)=true:=by
 rw[YQ];intro c hc;have:=o.2.2 c hc;simp;lia
def Wo.ok(o:Wo w):PyData.strOk w=true:=CT o.2.2
def Cr(o:Wo w):jA [.str w] h=some (.bl true,h):=by
 have e:LQ (aw 0) [some (.str w)] h=some (w.cps.toList.map λc=>D.str ⟨#[c]⟩,[],h):=by
  show(if w.cps.all (· < 128)=true then _ else _)=_;rw[V1 o.asc]
 have d:b8 [none] (LQ (aw 0)) (gN 0) bY (au GH (aw 0) (eK (.str "abcdefghijklmnopqrstuvwxyz"))) [some (.str w)] h=some ((w.cps.toList.map λc=>D.str ⟨#[c]⟩).map λ_=>D.bl true,h):=by
  unfold b8;rw[e];show((bJ [] (gN 0) bY _ (w.cps.toList.map λc=>D.str ⟨#[c]⟩) [none] h).bind _)=_;rw[zt (t:=[]) (λ_=>D.bl true) _ none λx b=>?_]
  ·show(if _<=sizeLine then _ else _)=_;rw[V1 (by rw[VU,VU,XF,Xq];have:w.cps.size=w.length:=rfl;have:=o.2.1;lia)]
  ·obtain⟨c,hc,rfl⟩:=Ww.mp b;have hc:=o.2.2 c (W8.mp hc);show some (D.bl (!(Builtin.Str.occurrences _ _ _ _ _).isEmpty),h)=_;rw[O5 c (by lia) hc.1 hc.2]
 refine bg (bE ?_);nofun;refine rv (a:=(.bl true,h)) rfl ⟨true,rfl,ff (hY (fV (rv (sZ (n:=w.length) rfl (Bc (by have:=o.2.1;lia)) rfl (by have:=o.1;lia) (by have:=o.2.1;lia)) ⟨true,rfl,ff ?_⟩)))⟩;refine kJ (kj (oh (Av (cJ (HH (rv d (kK ?_)))))));refine rv (Ek (λ_=>true) _ h) ?_;nofun;rw[WX.mpr λ_ _=>rfl]
theorem uo:∀a:List Str,kl (a.map D.str)=some (a.map PyData.str)
 | []=>rfl
 | c::r=>by simp only[V6,kl,ur,uo r,WJ,WC]
theorem nq:∀a:List Str,PyData.depthAll (a.map PyData.str)=0
 | []=>rfl
 | c::r=>by simp only[V6,PyData.depthAll,nq r,PyData.depth];rfl
def Ed{w:Str}{a:List Str}{h:MH}(m:w∈a):GH (.str w) (.tup (a.map D.str)) h=some (.bl true,h):=by
 have c:inD (.str w) (.tup (a.map D.str)) h=some true:=by
  show((kl (a.map D.str)).bind λbs=>if(PyData.str w).depth<=60/\PyData.depthAll bs<=60 then some (bs.any λb=>PyData.eqv b (.str w)) else none)=_;rw[uo];show(if(PyData.str w).depth<=60/\PyData.depthAll (a.map PyData.str)<=60 then some ((a.map PyData.str).any λb=>PyData.eqv b (.str w)) else none)=_;rw[V1 ⟨by simp[PyData.depth],by rw[nq];lia⟩,Yx.mpr ⟨.str w,Ww.mpr ⟨w,m,rfl⟩,by simp[PyData.eqv]⟩]
 unfold GH;rw[c];rfl
def yN{t:Term}{d:List Str}{h:MH}(o:cX d t):gj [bC t,.tup (d.map D.str)] h=some (.bl true,h):=by
 obtain⟨w,f⟩:=t;have c:fv zo zo (Dg yk (eK (.int 99))) (aw 3) (eK (.int 99)) [some (bC (w,f)),some (.tup (d.map D.str)),some (.str w),some (.int f)] h=some (.bl true,h):=sZ (a:=-99) (n:=f) (b:=99) rfl rfl rfl o.2.1 o.2.2;refine bg (bE ?_);nofun;refine rv (a:=(.bl true,h)) rfl ⟨true,rfl,ff ?_⟩;unfold bC at*;nofun;refine rv (a:=(.bl true,h)) rfl ⟨true,rfl,ff ?_⟩;nofun;refine rv (a:=(.bl true,h)) rfl ⟨true,rfl,ff ?_⟩;nofun;refine⟨_,rfl,λz=>⟨true,rfl,tt (rv c ?_)⟩,λz=>?_⟩
 ·nofun
 ·nofun;rcases o.1 with q | q
  ·dsimp only at q;rw[q] at z;exact absurd z (by decide)
  ·refine rv (Ed q) ⟨true,rfl,tt (rv c ?_)⟩;nofun
def yO{l:Lock}{ns b:List Str}{h:MH}(o1:l.1∈ns)(c:cX b l.2):du [aG l,.tup (ns.map D.str),.tup (b.map D.str)] h=some (.bl true,h):=by
 refine bg (bE ?_);nofun;refine rv (a:=(.bl true,h)) rfl ⟨true,rfl,ff ?_⟩;unfold aG;nofun;refine rv (a:=(.bl true,h)) rfl ⟨true,rfl,tt ?_⟩;nofun;refine rv (Ed o1) ⟨true,rfl,tt ?_⟩;nofun;refine rv (yN c) ?_;nofun
def zY(a:b c h=some (.tup xs,h))(hs:jM (.tup xs)=some xs.length):au cp (oU b) (ar bG (af b aD)) c h=some (.bl true,h):=by
 unfold au oU ar af aD;rw[a];dsimp only[Option.bind_some];rw[hs];dsimp only[Option.map_some,Option.bind_some];rw[a];show cp (.int xs.length) (.int xs.length) h=_;rw[Ji,Xm]
theorem uQ:∀a:List Str,uR (a.map D.str)=some (a.map .inr)
 | []=>rfl
 | w::r=>by show((uR (r.map D.str)).map λks=>Sum.inr w::ks)=_;rw[uQ r];rfl
theorem yd:∀(b:List Str)(a:List Key),(a++b.map Sum.inr).Nodup->(b.map (Sum.inr:Str->Key)).foldl kc a=a++b.map Sum.inr
 | [],a,_=>by simp
 | w::r,a,h=>by
  have e:kc a (.inr w)=a++[.inr w]:=by
   unfold kc;rw[V4];intro q;obtain⟨x,d,e⟩:=Yx.mp q;rw[X4] at h;exact h.2.2 x d x (by rw[Wy e];simp) rfl
  have c:=yd r (a++[.inr w]) (by rw[WY];exact h);rw[V6,YE,e];refine c.trans ?_;rw[WY];rfl
def len_strs{c:List Str}(hl:c.length<=1000)(hn:c.Nodup):jM (.tup (c.map D.str))=some (c.map D.str).length:=by
 unfold jM;dsimp only;rw[uQ];dsimp only;rw[V1 (by rw[VU];exact hl),VU];show some ((c.map Sum.inr).foldl kc []).length=_;rw[yd c [] (by rw[Yi];exact hn.map Sum.inr λa b h=>by simpa using h),Yi,VU]
def um{c:List Str}{a b:Int}{h:MH}(i:a<=c.length)(g:(c.length:Int)<=b)(j:c.length<=6)(f:∀w∈c,Wo w)(hn:c.Nodup):cy [.tup (c.map D.str),.int a,.int b] h=some (.bl true,h):=by
 refine bg (bE ?_);nofun;refine rv (a:=(.bl true,h)) rfl ⟨true,rfl,ff (hY (fV (rv (sZ (n:=c.length) rfl (show some (D.int ((c.map D.str).length:Int),h)=_ by rw[VU]) rfl i g) ⟨true,rfl,ff ?_⟩)))⟩;refine kJ (kj (oh (HK (rv (vy (t:=[]) rfl rfl rfl (by rw[VU];lia) λx d=>?_) ⟨true,rfl,tt (rv (zY rfl (len_strs (by lia) hn)) ?_)⟩))))
 ·obtain⟨w,e,rfl⟩:=Ww.mp d;exact Cr (f w e)
 ·nofun
theorem yf:∀(c a:List PyData),(∀d∈a++c,dc 8 d=true)->(a++c).Nodup->c.foldl qF a=a++c
 | [],a,_,_=>by simp
 | d::r,a,hp,nd=>by
  have e:qF a d=a++[d]:=by
   unfold qF;rw[V4];intro q;unfold FY at q;obtain⟨x,b,e⟩:=Yx.mp q;have:=yP 8 (hp x (by simp[b])) (hp d (by simp)) e;subst this;rw[X4] at nd;exact nd.2.2 x b x (by simp) rfl
  rw[YE,e,yf r (a++[d]) (λx b=>hp x (by simpa using b)) (by rw[WY];exact nd),WY];rfl
def FJ(h:dE a=dE b):a=b:=by
 obtain⟨x,y,z⟩:=a;obtain⟨u,v,w⟩:=b;simp only[dE,nG,PyData.tuple.injEq,List.cons.injEq,PyData.str.injEq,PyData.int.injEq,and_true] at h;obtain⟨d,c,h3⟩:=h;rw[d,c,h3]
def FN{c:List Lock}(g:2<=c.length)(f:c.length<=4)(nd:c.Nodup)(hs:∀l∈c,PyData.strOk l.1=true/\PyData.strOk l.2.1=true):jM (.tup (c.map aG))=some (c.map aG).length:=by
 have e:uR (c.map aG)=none:=by
  cases c with
  | nil=>simp at g
  | cons l r=>rfl
 have hp:∀x∈c.map dE,dc 8 x=true:=λx d=>by
  obtain⟨l,hl,rfl⟩:=Ww.mp d;obtain⟨a,b⟩:=hs l hl;simp[dE,nG,dc,a,b]
 unfold jM;dsimp only;rw[e];dsimp only;rw[lH];dsimp only[Option.bind_some];rw[V1]
 ·show some ((c.map dE).foldl qF []).length=_;rw[yf (c.map dE) [] (by simpa using hp) (by rw[Yi];exact nd.map dE λa b h=>λz=>h (FJ z)),Yi,VU,VU]
 ·rw[Wm,Wm];refine⟨⟨WX.mpr hp,WX.mpr λx d=>?_⟩,by rw[VU];exact WB f⟩;obtain⟨l,hl,rfl⟩:=Ww.mp d;rfl
def OY:PyData.strOk (Str.ofString "")=true:=by decide+kernel
def Nu(a:List D)(n:Int)(h:MH):cN [.tup a,.int n] h=some (.bl ((a.length:Int)==n),h):=rfl
end Mi
namespace Mi
open PySem L2 Sm Pg
structure Wr(W:Wd)(ns ps:List Str)(kvs:List (Key×D)):Prop where
 hn:∀w∈W.names,Wo w
 hd:∀w∈W.ag,Wo w
 hp:∀w∈ps,Wo w
 hs:∀w∈W.names,w∈ns
 hc:∀(j:Nat)(d:Str)(qs:List Str),W.ag[j]?=some d->W.params[j]?=some qs->lV kvs (.inr d)=some (.int (qs.length:Int))
 h3:∀qs∈W.params,qs.length<=3
section
variable {W:Wd} {ns ps:List Str} {kvs:List (Key×D)} (E:Wr W ns ps kvs)
include E
theorem K4{c:List Lock}{h:MH}(g:2<=c.length)(f:c.length<=4)(nd:c.Nodup)(hl:∀l∈c,fu W ps l):lu [.tup (c.map aG),.tup (ns.map D.str),.tup (ps.map D.str)] h=some (.bl true,h):=by
 refine bg (bE ?_);nofun;refine rv (a:=(.bl true,h)) rfl ⟨true,rfl,ff (hY (fV (rv (sZ (a:=2) (n:=c.length) (b:=4) rfl (show some (D.int ((c.map aG).length:Int),h)=_ by rw[VU]) rfl (by lia) (by lia)) ⟨true,rfl,ff ?_⟩)))⟩;refine kJ (kj (oh (HK (rv (vy (t:=[some (.tup (ns.map D.str)),some (.tup (ps.map D.str))]) rfl rfl rfl (by rw[VU];lia) λx d=>?_) ⟨true,rfl,tt (rv (zY rfl (FN g f nd λl hm=>⟨(E.hn _ (hl l hm).1).ok,?_⟩)) ?_)⟩))))
 ·obtain⟨l,hm,rfl⟩:=Ww.mp d;exact yO (E.hs _ (hl l hm).1) (hl l hm).2
 ·rcases(hl l hm).2.1 with e | e
  ·rw[e];exact OY
  ·exact(E.hp _ e).ok
 ·nofun
theorem Og{w:Str}{a:List Term}{h:MH}{j:Nat}{b:List Str}(f:W.ag[j]?=some w)(e:W.params[j]?=some b)(hl:a.length=b.length)(ht:∀t∈a,cX ps t):qK [.str w,.tup (a.map bC),.dv kvs,.tup (ps.map D.str)] h=some (.bl true,h):=by
 have d:=E.hc j w b f e;have h3:=E.h3 b (VX e);refine bg (bE ?_);nofun;refine rv (Cr (E.hd w (VX f))) ⟨true,rfl,ff ?_⟩;nofun;refine rv (C7 (kvs:=kvs) rfl) ?_;rw[d];refine⟨_,rfl,ff ?_⟩;nofun;refine rv (L4 (kvs:=kvs) rfl d) ?_;nofun;refine rv (Nu _ _ _) ?_;rw[VU,hl,Xm];refine⟨true,rfl,ff ?_⟩;have c:∀x∈a.map bC,gj [x,.tup (ps.map D.str)] h=some (.bl true,h):=λx c=>by
  obtain⟨t,hm,rfl⟩:=Ww.mp c;exact yN (ht t hm)
 refine kJ (kj (oh (rv (vy (t:=[some (.tup (ps.map D.str))]) rfl rfl rfl (by rw[VU];lia) c) ?_)));nofun
theorem K7{n:Nat}{r:Row}{h:MH}(o:aW W ps n r):gm [ay r,.tup (ns.map D.str),.dv kvs,.tup (ps.map D.str)] h=some (.bl true,h):=by
 refine bg (bE ?_);cases r <;> rw[aW] at o <;> rw[ay] <;> nofun
 case say w=>
  refine⟨_,rfl,λ_=>?_,λz=>absurd z (by decide)⟩;nofun;refine rv (Cr ?_) ?_
  ·rcases Wz.mp o with q | q
   ·exact E.hn w q
   ·exact E.hd w q
  ·nofun
 all_goals
  refine⟨_,rfl,λz=>absurd z (by decide),λ_=>?_⟩;nofun
 case call w g=>
  refine⟨_,rfl,λ_=>?_,λz=>absurd z (by decide)⟩;nofun;obtain⟨⟨j,i,f,e,h3⟩,d⟩:=o;refine rv (Og E f e h3 d) ?_;nofun
 all_goals
  refine⟨_,rfl,λz=>absurd z (by decide),λ_=>?_⟩;nofun
 case all ls b=>
  refine⟨_,rfl,λ_=>?_,λz=>absurd z (by decide)⟩;nofun;obtain⟨⟨e,d,nd,hl⟩,_⟩:=o;refine rv (K4 E e d nd hl) ?_;nofun
 all_goals
  refine⟨_,rfl,λz=>absurd z (by decide),λ_=>?_⟩;nofun
 case within l b=>
  refine rv (a:=(.bl true,h)) (by ac_nf) ⟨true,rfl,tt ?_⟩;nofun;refine rv (yO (E.hs _ o.1.1) o.1.2) ?_;nofun
 case ask l b c=>
  refine rv (a:=(.bl true,h)) (by ac_nf) ⟨true,rfl,tt ?_⟩;nofun;refine rv (yO (E.hs _ o.1.1) o.1.2) ?_;nofun
 all_goals
  refine rv (a:=(.bl false,h)) (by ac_nf) ⟨false,rfl,ff ?_⟩;nofun
 case j9 s t a b c=>
  refine⟨_,rfl,λ_=>?_,λz=>absurd z (by decide)⟩;nofun;refine rv (yN o.1) ⟨true,rfl,tt ?_⟩;nofun;refine rv (yN o.2.1) ?_;nofun
 all_goals
  refine⟨_,rfl,λz=>absurd z (by decide),λ_=>?_⟩;nofun
omit E in
theorem HM(r:Row)(h:MH):lq [ay r] h=some (.bl true,h):=by cases r <;> rw[ay] <;> ac_nf
omit E in
theorem NX(h:aW W ps n r):∀l∈ak r,n < 5/\l.length<=12/\ba W ps (n+1) l:=by
 intro x f;cases r <;> simp[ak] at f <;> rw[aW] at h
 case within l b=>subst f;exact h.2
 case all l b=>subst f;exact h.2
 case ask l b e=>
  obtain⟨_,d,j,i,h3,g⟩:=h;rcases f with rfl | rfl
  ·exact⟨d,j,h3⟩
  ·exact⟨d,i,g⟩
 case j9 s t a b c=>
  obtain⟨_,_,d,j,i,h3,g,m,k⟩:=h;rcases f with rfl | rfl | rfl
  ·exact⟨d,j,g⟩
  ·exact⟨d,i,m⟩
  ·exact⟨d,h3,k⟩
 case either a b=>
  obtain⟨d,j,i,h3,g⟩:=h;rcases f with rfl | rfl
  ·exact⟨d,j,h3⟩
  ·exact⟨d,i,g⟩
 case again a=>subst f;exact h
theorem HN:∀(f n:Nat)(b:List Row)(left:Nat)(h:MH),6<=n+f->n<=5->ba W ps n b->b.length<=12->ao b<=left->eh f [.tup (cm b),.int n,.int left,.tup (ns.map D.str),.dv kvs,.tup (ps.map D.str)] h=some (.int ((left-ao b:Nat):Int),h)
 | 0,n,b,left,h,e,F,_,_,_=>by lia
 | f+1,n,b,left,h,e,F,o,G,hc=>by
  refine bg ?_;unfold eh;refine bE ?_;nofun;refine⟨_,rfl,λz=>absurd (Wy z) (by lia),λ_=>?_⟩;nofun;refine rv (a:=(.bl true,h)) rfl ⟨true,rfl,ff ?_⟩;nofun;refine⟨_,rfl,λz=>absurd (Wy z) (by rw[bA,VU];lia),λ_=>?_⟩;nofun;refine dw ?_;nofun;refine⟨_,_,rfl,?_⟩;rw[bA];refine dR (λi c k=>k=h/\∃(v6 v7:Option D),c=[some (.tup (b.map ay)),some (.int n),some (.int ((left-ao (b.take i):Nat):Int)),some (.tup (ns.map D.str)),some (.dv kvs),some (.tup (ps.map D.str)),v6,v7]) ⟨rfl,none,none,by rw[YO];rfl⟩ (λ_ _ _ _ _=>rfl) ?_ ?_
  ·rintro i x c k u ⟨rfl,v6,v7,rfl⟩;rw[Wa] at u;obtain⟨r,hr,rfl⟩:=Wl.mp u;have p:b.take (i+1)=b.take i++[r]:=by rw[Zb,hr];rfl
   have C:ao (b.take (i+1))=ao (b.take i)+cnt r:=by rw[p,b7];simp[ao]
   have w:ao (b.take (i+1))<=ao b:=by
    conv=>rhs;rw[<-Xc (i+1) b,b7]
    lia
   have v:=cU o r (VX hr);have A:=dW r;generalize ao (b.take i)=m at*;nofun;refine⟨_,rfl,λz=>absurd (eq_of_beq z) (by lia),λ_=>?_⟩;nofun;refine rv (HM r _) ⟨true,rfl,ff ?_⟩;nofun;refine rv (K7 E v) ⟨true,rfl,ff ?_⟩;nofun;refine N8 ?_;nofun;refine dw ?_;nofun;refine rv (eO r _) ?_;nofun;refine⟨_,_,rfl,?_⟩;refine dR (λj c g=>g=k/\∃(v7:Option D),c=[some (.tup (b.map ay)),some (.int n),some (.int ((left-m-1-(((ak r).take j).map ao).sum:Nat):Int)),some (.tup (ns.map D.str)),some (.dv kvs),some (.tup (ps.map D.str)),some (ay r),v7]) ⟨rfl,v7,by rw[YO];show[_,_,some (D.int _),_,_,_,_,_]=_;congr 4;simp;lia⟩ (λ_ _ _ _ _=>rfl) ?_ ?_
   ·rintro j y c g t ⟨rfl,v7,rfl⟩;rw[Wa] at t;obtain⟨l,hl,rfl⟩:=Wl.mp t;have hm:=VX hl;obtain⟨I,s,H⟩:=NX v l hm;have q:(((ak r).take (j+1)).map ao).sum=(((ak r).take j).map ao).sum+ao l:=by rw[take_snoc hl,Wq,W3];simp
    have d:(((ak r).take (j+1)).map ao).sum<=((ak r).map ao).sum:=by
     conv=>rhs;rw[<-Xc (j+1) (ak r),Wq,W3]
     lia
    rw[q] at d ⊢;generalize (((ak r).take j).map ao).sum=s0 at*;nofun;refine rv (HN f (n+1) l _ g (by lia) (by lia) H s (by lia)) ?_;nofun;refine rv (a:=(.bl false,g)) rfl ⟨false,rfl,ff ?_⟩;nofun;rw[show left-m-1-(s0+ao l)=left-m-1-s0-ao l by lia];exact⟨rfl,some (br l),rfl⟩
   ·rintro c g ⟨rfl,v7,rfl⟩;rw[VU,WT];nofun;rw[show left-ao (b.take (i+1))=left-m-1-((ak r).map ao).sum by lia];exact⟨rfl,some (ay r),v7,rfl⟩
  ·rintro c k ⟨rfl,v6,v7,rfl⟩;rw[VU,WT];nofun
theorem K5(a:List Row)(left:Nat)(h:MH)(o:ba W ps 1 a)(b:a.length<=12)(hc:ao a<=left):eh 8 [.tup (cm a),.int 1,.int left,.tup (ns.map D.str),.dv kvs,.tup (ps.map D.str)] h=some (.int ((left-ao a:Nat):Int),h):=HN E 8 1 a left h (by decide) (by decide) o b hc
end
end Mi
namespace Mi
open PySem L2 Sm PySem.Spec PyProof.Rows Pg
theorem Bg:∀A:List Str,PyData.eqvAll (A.map PyData.str) (A.map PyData.str)=true
 | []=>by simp[PyData.eqvAll]
 | a::A=>by rw[V6,PyData.eqvAll,Bg A];simp[PyData.eqv]
def Jo(A:List Str)(h:MH):cp (.lv (A.map D.str)) (.lv (A.map D.str)) h=some (.bl true,h):=by
 show((((kl (A.map D.str)).map PyData.list).bind λa=>((kl (A.map D.str)).map PyData.list).bind λb=>if a.depth<=64/\b.depth<=64 then some (PyData.eqv a b) else none)).map (λc=>(D.bl c,h))=_;rw[uo];show(if(PyData.list (A.map PyData.str)).depth<=64/\(PyData.list (A.map PyData.str)).depth<=64 then some (PyData.eqv (.list (A.map PyData.str)) (.list (A.map PyData.str))) else none).map _=_;have hd:(PyData.list (A.map PyData.str)).depth<=64:=by rw[PyData.depth,nq];lia
 rw[V1 ⟨hd,hd⟩,PyData.eqv,Bg];rfl
def EW(c:List Str):eT (eT c)=eT c:=
 Zk (λa b _ _=>AV a b) (jF _) (jF _) (cg _)
def AS:∀{a b:List α},a.length=b.length->(∀(j:Nat) x,a[j]?=some x->b[j]?=some x)->a=b:=by
 intro a b h q;refine List.ext_getElem h λj x y=>?_;have:=q j _ (List.getElem?_eq_getElem x);rw[List.getElem?_eq_getElem y] at this;exact(Option.some.inj this).symm
noncomputable def Ko(a:List dC):List (Key×D):=a.map λd=>(.inr d.1,.int (d.2.1.length:Int))
theorem MW:∀{b:List dC} {j:Nat} {d:dC},(b.map (·.1)).Nodup->b[j]?=some d->lV (Ko b) (.inr d.1)=some (.int (d.2.1.length:Int))
 | x::r,0,d,_,e=>by
  cases e;unfold lV Ko;rw[V6,List.find?_cons_of_pos (by simp)];rfl
 | x::r,j+1,d,hn,e=>by
  rw[V6,X0] at hn;have e:r[j]?=some d:=by simpa using e
  have a:x.1≠d.1:=λz=>hn.1 (z ▸ Ww.mpr ⟨d,VX e,rfl⟩);have:=MW hn.2 e;unfold lV Ko at this ⊢;rw[V6,Aam (by simpa using a),this]
def Ge(n:o k h=some (.tup (ds.map cO),h))(hn:(ds.map (·.1)).Nodup)(p:ds.length<=6):
  Kn [none,none,none] (dH o) (gT 3 (aj (gN 0) (aj (gN 1) (aj (gN 2) bB)))) bY (mD (aw 0) (ar bG (af (aw 1) aD))) [] .dv k h=some (.dv (Ko ds),h):=by
 refine bg (Rq (dw (rv n ⟨_,_,rfl,?_⟩)));refine yM (ds.map cO) (λr f i a=>i=h/\(∃v0 v1 v2,f=[v0,v1,v2])/\∃l b,l++b=ds/\r=b.map cO/\a=Ko l) _ _ _ ⟨rfl,⟨none,none,none,rfl⟩,[],ds,rfl,rfl,rfl⟩ ?_ ?_
 ·rintro x r f i a ⟨rfl,⟨v0,v1,v2,rfl⟩,l,b,e,g,rfl⟩;obtain⟨d,b,rfl⟩:∃d c,b=d::c:=by
   cases b with
   | nil=>cases g
   | cons d c=>exact⟨d,c,rfl⟩
  rw[V6] at g;injection g with ex g
  subst ex;refine⟨rfl,?_⟩;unfold cO;nofun;refine rv (a:=(true,i)) rfl ?_;rw[V1 rfl];refine Uj ?_;nofun;have j:l.length < 6:=by have:=congrArg List.length e;simp at this;lia
  refine⟨_,rfl,by unfold Ko;rw[VU,Xq];lia,rfl,⟨_,_,_,rfl⟩,l++[d],b,by rw[WY];exact e,g,?_⟩;rw[VU,HR]
  ·unfold Ko;rw[Wq];rfl
  ·intro q;rw[<-e,Wq,X4] at hn;unfold Ko at q;rw[Xh] at q;obtain⟨y,m,z⟩:=Ww.mp q;injection z with z
   exact hn.2.2 y.1 (Ww.mpr ⟨y,m,rfl⟩) d.1 (by simp) z
 ·rintro f i a ⟨rfl,_,l,b,e,g,rfl⟩;obtain rfl:b=[]:=by cases b with | nil=>rfl | cons d c=>cases g
  rw[WW] at e;subst e;exact⟨rfl,rfl⟩
section
variable {W:Wd} {fl:List Int} {odd:Int} {P:Prog} {m:Nat} (ok:vB W fl odd) (o:BG W m P)
include o
theorem vf:P.ag.map (·.1)=W.ag:=AS (by rw[VU];exact o.dl) λj x a=>by
 rw[Wa] at a;obtain⟨d,c,b⟩:=Wl.mp a;rw[<-b];exact(o.dd j d c).1
include ok
theorem K3:lr [.tup (P.names.map D.str)] h=some (.bl true,h):=by
 have hl:=(cg W.names).length_eq;have n1:=ok.n1;have n2:=ok.n2;rw[o.nm];refine bg (bE ?_);nofun;refine rv (um (a:=1) (b:=6) (by lia) (by lia) (by lia) (λw c=>ok.sn w ((cg _).mem_iff.mp c)) ((cg _).nodup_iff.mpr ok.nn)) ⟨true,rfl,tt ?_⟩;nofun;refine HI ?_;nofun;refine⟨_,_,_,rfl,rfl,?_⟩;nofun;refine rv (a:=(.lv ((eT W.names).map D.str),h)) (by
  unfold zj;dsimp only;rw[pK];dsimp only[Option.bind_some];rw[V1 (by lia),EW]) ?_
 refine rv (Jo _ h) ?_;nofun
theorem K6:lx [.tup (P.ag.map cO)] h=some (.bl true,h):=by
 have d1:=ok.d1;have d2:=ok.d2;have dl:=o.dl;refine bg (bE ?_);refine df (iH (HF ?_));nofun;refine rv (a:=(.bl true,h)) rfl ⟨true,rfl,ff ?_⟩;refine hY (pZ (rv (vy (t:=[]) rfl rfl rfl (by rw[VU];lia) λx c=>?_) ⟨true,rfl,ff ?_⟩))
 ·obtain⟨d,hd,rfl⟩:=Ww.mp c;rfl
 refine kJ (kj (df (iH (hY (pZ (Av (cJ (Av (cJ (HH (rv (By (t:=[]) (λd=>match d with | .tup (a::_)=>a | d=>d) rfl rfl rfl (by rw[VU];lia) λx c=>?_) ?_)))))))))))
 ·obtain⟨d,hd,rfl⟩:=Ww.mp c;rfl
 nofun;refine rv (a:=(.tup (W.ag.map D.str),h)) (by rw[Xh,<-vf o,Xh];rfl) ?_;nofun;refine rv (um (a:=1) (b:=6) (by lia) (by lia) (by lia) ok.sd ok.nd) ⟨true,rfl,ff ?_⟩;refine kJ (kj (oh (rv (vy (t:=[]) rfl rfl rfl (by rw[VU];lia) λx c=>?_) ?_)))
 ·obtain⟨d,hd,rfl⟩:=Ww.mp c;obtain⟨j,hj⟩:=Y2 hd;have hm:=VX (o.dd j d hj).2.1;have h3:=ok.p3 _ hm;exact um (a:=0) (b:=3) (by lia) (by lia) (by lia) (ok.sp _ hm) (ok.np _ hm)
 ·nofun
theorem Pz{j:Nat}{d:dC}(hj:P.ag[j]?=some d):Wr W P.names d.2.1 (Ko P.ag) where
 hn:=ok.sn
 hd:=ok.sd
 hp:=λw a=>ok.sp d.2.1 (VX (o.dd j d hj).2.1) w a
 hs:=λw a=>by rw[o.nm];exact(cg _).mem_iff.mpr a
 h3:=ok.p3
 hc:=λi e h b f=>by
  have g:i < P.ag.length:=by rw[o.dl];exact(VW.mp b).1
  have c:P.ag[i]?=some P.ag[i]:=V7 g;obtain⟨a1,a2,_⟩:=o.dd i _ c;rw[a1] at b;rw[a2] at f;cases b;cases f;exact MW (by rw[vf o];exact ok.nd) c
theorem xh{h:MH}(hm:m<=60):gV [aJ P] h=some (.bl true,h):=by
 have d2:=ok.d2;have dl:=o.dl;refine bg (bE ?_);nofun;refine rv (a:=(.bl true,h)) rfl ⟨true,rfl,ff ?_⟩;unfold aJ;nofun;refine rv (K3 ok o) ⟨true,rfl,ff ?_⟩;nofun;refine rv (K6 ok o) ⟨true,rfl,ff ?_⟩;refine kJ (kj (df (uh (rv (Ge rfl (by rw[vf o];exact ok.nd) (by lia)) ?_))));nofun;refine dw ?_;nofun;refine⟨_,_,rfl,?_⟩;refine dR (λi c b=>b=h/\∃(v5 v6 v7:Option D),c=[some (.tup [.tup (P.names.map D.str),.tup (P.ag.map cO)]),some (.tup (P.names.map D.str)),some (.tup (P.ag.map cO)),some (.dv (Ko P.ag)),some (.int ((60-((P.ag.take i).map λd=>ao d.2.2).sum:Nat):Int)),v5,v6,v7]) ⟨rfl,none,none,none,by rw[YO];rfl⟩ (λ_ _ _ _ _=>rfl) ?_ ?_
 ·rintro i x c b g ⟨rfl,v5,v6,v7,rfl⟩;rw[Wa] at g;obtain⟨d,hd,rfl⟩:=Wl.mp g;obtain⟨_,_,a3,a4⟩:=o.dd i d hd;have f:((P.ag.take (i+1)).map λd=>ao d.2.2).sum=((P.ag.take i).map λd=>ao d.2.2).sum+ao d.2.2:=by rw[take_snoc hd,Wq,W3];simp
  have e:((P.ag.take (i+1)).map λd=>ao d.2.2).sum<=(P.ag.map λd=>ao d.2.2).sum:=by
   conv=>rhs;rw[<-Xc (i+1) P.ag,Wq,W3]
   lia
  have ct:=o.ct;rw[f] at e ⊢;generalize ((P.ag.take i).map λd=>ao d.2.2).sum=s0 at*;unfold cO;nofun;refine rv (K5 (Pz ok o hd) d.2.2 _ b a3 a4 (by lia)) ?_;nofun;refine rv (a:=(.bl false,b)) rfl ⟨false,rfl,ff ?_⟩;nofun;rw[show 60-(s0+ao d.2.2)=60-s0-ao d.2.2 by lia];exact⟨rfl,_,_,_,rfl⟩
 ·rintro c b ⟨rfl,v5,v6,v7,rfl⟩;nofun
end
end Mi
namespace Mi
open PySem Sm L2 Pg
def xG(b:∀n,d≠.ob n)(a:jq H.length d=true):leave H d (H++g)=some (d,H):=by
 have h3:BO H.length (H++g) d=d:=by
  cases d with
  | ob n=>exact absurd rfl (b n)
  | _=>rfl
 unfold leave;rw[h3,Y0 (VZ _),WT,a,x5];rfl
def Cn(r:Rn (a d h) λp=>p.1=.nx/\Rn (b p.2.1 p.2.2) Q):Rn (sf a b d h) Q:=a9 (r.imp λp ⟨e,q⟩=>by
 obtain⟨f,c,g⟩:=p;obtain rfl:f=.nx:=e;exact q)
def ME(r:Rn (t d h) λp=>(p.1=true->Rn (a d p.2) Q)/\(p.1=false->Rn (b d p.2) Q)):Rn (GU t a b d h) Q:=a9 (r.imp λp ⟨f,e⟩=>by
 obtain⟨c,h⟩:=p;cases c with
 | true=>exact f rfl
 | false=>exact e rfl)
def MF(r:Rn (m a h) λp=>Rn (f p.1 p.2) Q):Rn (Ki f m a h) Q:=a9 r
def Au(r:Rn (m a h) λp=>Q (c,p.2)):Rn (jC c m a h) Q:=Fb r
def HE(r:Rn (a c h) Q):Rn (DD a b c h) Q:=by
 obtain⟨p,e,q⟩:=r;exact⟨p,by unfold DD;rw[e],q⟩
def HD(n:a c h=none)(r:Rn (b c h) Q):Rn (DD a b c h) Q:=by
 obtain⟨p,e,q⟩:=r;exact⟨p,by unfold DD;rw[n];exact e,q⟩
def Rl(r:Rn (b (entry len ds) h) Q):Rn (Fy len b ds h) Q:=r
def G3(h:MH):G4 qJ "NoRow" h=some (.str "NoRow",h):=by
 have g:(h++[MO.exc "NoRow"])[h.length]?=some (.exc "NoRow"):=by rw[We (VZ _),Xg];rfl
 have d:∀(n:Str)(b:Bool)(f:DS),decide (n∈(["NoRow","StuckError","ValueError"]:List Str))=b->f[1]?=some (some (.ob h.length))->qx iA n (aw 1) f (h++[MO.exc "NoRow"])=some (.bl b,h++[MO.exc "NoRow"]):=λn b f i hd=>by
  have j:aw 1 f (h++[MO.exc "NoRow"])=some (.ob h.length,h++[MO.exc "NoRow"]):=by unfold aw;rw[hd];rfl
  subst i;unfold qx;rw[j];show(match (h++[MO.exc "NoRow"])[h.length]? with | some (.exc c)=>(iA.lookup c).map λas=>(D.bl (decide (n∈as)),h++[MO.exc "NoRow"]) | _=>none)=_;rw[g];have:iA.lookup ("NoRow":Str)=some (["NoRow","StuckError","ValueError"]:List Str):=by ac_nf
  show(iA.lookup ("NoRow":Str)).map _=_;rw[this];rfl
 have e:(qJ [none,some (.ob h.length),none,none] (h++[.exc "NoRow"])).bind yF=some (.str "NoRow",h++[.exc "NoRow"]):=by
  refine bg (a9 ?_);unfold qJ;refine df (iH (HF (fV (wj (gK rfl (K0 (rv rfl ⟨false,rfl,⟨λz=>(nomatch z),λ_=>?_⟩⟩)))))));refine hY (pZ (rv (d "ValueError" true _ (by decide+kernel) rfl) ⟨true,rfl,⟨λz=>(nomatch z),λ_=>rv rfl (kj ?_)⟩⟩));refine df (rv (a:=(.nx,[none,some (.ob h.length),none,some (.lv [.bl true,.bl false,.bl false])],h++[.exc "NoRow"])) (bg (uh (HH (cJ (rv (d "NoRow" true _ (by decide+kernel) rfl) (cJ (rv (d "NoLock" false _ (by decide+kernel) rfl) (cJ (rv (d "NoText" false _ (by decide+kernel) rfl) (kK rfl)))))))))) (kj ?_));refine df (rv (a:=(.nx,[none,some (.ob h.length),none,some (.lv [.bl true,.bl false,.bl false,.bl false,.bl false])],h++[.exc "NoRow"])) (bg (uh (wj (gK rfl (HH (cJ (rv (d "NoLine" false _ (by decide+kernel) rfl) (cJ (rv (d "NoStep" false _ (by decide+kernel) rfl) (kK (rv rfl rfl))))))))))) (kj ?_));refine rv (a:=(.rt (.str "NoRow"),[none,some (.ob h.length),none,some (.lv [.bl true,.bl false,.bl false,.bl false,.bl false])],h++[.exc "NoRow"])) (by ac_nf) ?_;exact rv rfl rfl
 unfold G4;rw[e];exact xG (λn=>by simp) rfl
def xV(e:x (eV a b) h=some (("NoRow":Str),h)):eZ rP a qJ x m b h=some (.str "NoRow",h):=by
 unfold eZ;rw[e];show(if("NoRow":Str)∈rP then _ else _)=_;rw[V1 (by decide+kernel)];exact G3 h
noncomputable def flat(st:List (Nat×Nat)):List Nat:=st.flatMap λs=>[s.1,s.2]
def qa(st:List (Nat×Nat))(k:Nat):D:=fA (flat st++[k])
def Pp(l:List Row)(s:Nat×Nat):Option (List Row):=(l[s.1]?).bind λr=>(ak r)[s.2]?
def dS(a:List Row):List (Nat×Nat)->Option (List Row)
 | []=>some a
 | s::r=>(Pp a s).bind λl=>dS l r
def Ba(st:List (Nat×Nat)):(flat st).length=2*st.length:=by
 induction st with
 | nil=>rfl
 | cons s r a=>show([s.1,s.2]++flat r).length=_;rw[Wj,a];simp;lia
theorem Eh:∀{st:List (Nat×Nat)} {i:Nat} {s:Nat×Nat} (t:List Nat),st[i]?=some s->(flat st++t)[2*i]?=some s.1/\(flat st++t)[2*i+1]?=some s.2
 | x::r,0,s,t,e=>by cases e;exact⟨rfl,rfl⟩
 | x::r,i+1,s,t,e=>by
  have ⟨b,a⟩:=Eh (st:=r) (i:=i) t e;show(x.1::x.2::(flat r++t))[2*(i+1)]?=_/\(x.1::x.2::(flat r++t))[2*(i+1)+1]?=_;rw[show 2*(i+1)=2*i+1+1 by lia,WL,WL,WL,WL];exact⟨b,a⟩
def gx{a:List D}{i:Nat}{d:D}{h:MH}(e:a[i]?=some d):aX (.tup a) (.int (i:Int)) h=some (d,h):=by
 have q:jt a (i:Int)=some d:=tj e;simp only[aX,fG,fF,WJ,q,WC]
def oP{p:List Nat}{i x:Nat}{h:MH}(e:p[i]?=some x):aX (fA p) (.int (i:Int)) h=some (bo x,h):=
 gx (by rw[Wa,e];rfl)
def xP{p:List Nat}{i:Int}{j x:Nat}{h:MH}(a:i=(j:Int))(e:p[j]?=some x):aX (fA p) (.int i) h=some (bo x,h):=by
 subst a;exact oP e
def Ej{l:List Row}{i:Nat}{r:Row}{h:MH}(e:l[i]?=some r):aX (br l) (bo i) h=some (ay r,h):=
 gx (by rw[bA,Wa,e];rfl)
def Hg(n:Nat):(Builtin.Range.rangeSize 1 ((2*n+1:Nat):Int) 2).toNat=n:=by
 unfold Builtin.Range.rangeSize;rw[V1 (by decide)]
 split
 ·lia
 ·lia
def N9(r:Rn (m a h) λp=>∃i j c,p.1=[.int i,.int j,.int c]/\Kj i j c/\Q ((List.range (Builtin.Range.rangeSize i j c).toNat).map λ(k:Nat)=>D.int (i+(k:Int)*c),[],p.2)):Rn (LR m a h) Q:=by
 obtain⟨⟨d,b⟩,e,i,j,c,rfl,ok,q⟩:=r;refine⟨_,?_,q⟩;unfold LR;rw[e];show(if Kj i j c then _ else _)=_;rw[V1 ok]
def AL{b c:List Row}{st:List (Nat×Nat)}{k:Nat}{h:MH}(e:dS b st=some c)(hl:st.length<=1000):jz [br b,qa st k] h=some (br c,h):=by
 have E:Rn (jz [br b,qa st k] h) λp=>p=(br c,h):=by
  refine bE ?_;nofun;refine N9 ?_;nofun;refine rv (a:=(.int ((2*st.length+1:Nat):Int),h)) ?_ ?_
  ·show some (D.int (((flat st++[k]).map bo).length:Int),h)=_;rw[VU,Wj,Ba];rfl
  nofun;refine⟨_,_,_,rfl,?_,?_⟩
  ·unfold Kj;lia
  rw[Hg];refine dR (λi g n=>n=h/\∃(l:List Row)(t:Option D),g=[some (br b),some (qa st k),some (br l),t]/\dS l (st.drop i)=some c) ⟨rfl,b,_,rfl,e⟩ (λ_ _ _ _ _=>rfl) ?_ ?_
  ·rintro i x g n v ⟨rfl,l,t,rfl,f⟩;rw[Wa] at v;obtain⟨j,hj,A⟩:=gL v;obtain⟨m,hj⟩:=VW.mp hj;rw[ZF] at hj;subst hj;rw[Wv] at m;cases A;rw[List.drop_eq_getElem_cons m] at f;have hs:st[i]?=some st[i]:=V7 m;obtain⟨y,w⟩:=Eh [k] hs;obtain⟨u,s,q⟩:=bq f;obtain⟨r,z,o⟩:=bq s;nofun;refine rv (xP (j:=2*i) (by lia) y) ?_;nofun;refine rv (Ej z) ?_;nofun;refine rv (eO r _) ?_;nofun;refine rv (xP (j:=2*i+1) (by lia) w) ?_;nofun;refine rv (gx (d:=br u) (by rw[Wa,o];rfl)) ?_;nofun;exact⟨rfl,u,_,rfl,q⟩
  ·rintro g n ⟨rfl,l,t,rfl,f⟩;rw[VU,Wv,List.drop_length] at f;cases f;nofun
 obtain⟨p,C,rfl⟩:=E;exact C
noncomputable def nV:Row->List Lock
 | .within l _=>[l]
 | .all ls _=>ls
 | .ask l _ _=>[l]
 | _=>[]
def wy(r:Row)(h:MH):gh [ay r] h=some (.tup ((nV r).map aG),h):=by
 have c:Rn (gh [ay r] h) λp=>p=(.tup ((nV r).map aG),h):=by
  refine bE ?_;cases r with
  | all _ _=>rw[ay];nofun;refine⟨true,by ac_nf,tt ?_⟩;nofun;rfl
  | within _ _=>rw[ay];nofun;refine⟨false,by ac_nf,ff ?_⟩;nofun;refine rv (a:=(.bl true,h)) (by ac_nf) ⟨true,rfl,tt ?_⟩;nofun;rfl
  | ask _ _ _=>rw[ay];nofun;refine⟨false,by ac_nf,ff ?_⟩;nofun;refine rv (a:=(.bl true,h)) (by ac_nf) ⟨true,rfl,tt ?_⟩;nofun;rfl
  | _=>rw[ay];nofun;refine⟨false,by ac_nf,ff ?_⟩;nofun;refine rv (a:=(.bl false,h)) (by ac_nf) ⟨false,rfl,ff ?_⟩;nofun;rfl
 obtain⟨p,b,rfl⟩:=c;exact b
def iC(e:a d h=some (.nx,c,f)):sf a b d h=b c f:=by unfold sf;rw[e];rfl
def mG(e:t d h=some (c,f)):GU t a b d h=if c=true then a d f else b d f:=by unfold GU;rw[e];rfl
section
variable {P:Prog} {n j:Nat} {path:List Nat} {r:Row} {h:MH}
theorem Bo(hn:(placesFrom 0 P.ag)[n]?=some (j,path,r))(h:MH):fv zo F5 (eK (D.int 0)) (aw 1) (ar bG (af (aw 2) aD)) (List.set (entry 3 [aJ P,D.int (n:Int)]) 2 (some (D.lv ((placesFrom 0 P.ag).map ie)))) h=some (.bl true,h):=by
 have b:n < (placesFrom 0 P.ag).length:=(VW.mp hn).1;refine bg (Aw (rv rfl (rv (a:=(.int (n:Int),h)) rfl (rv rfl ⟨_,rfl,?_⟩))));rw[V1 (WB (show(0:Int)<=n by lia))];refine rv (a:=(.int ((placesFrom 0 P.ag).map ie).length,h)) rfl (rv rfl ?_);rw[VU];show(D.bl (decide ((n:Int) < (placesFrom 0 P.ag).length)),h)=_;rw[WB (show(n:Int) < (placesFrom 0 P.ag).length by lia)]
theorem uw(a:zP P)(hn:(placesFrom 0 P.ag)[n]?=some (j,path,r))(h:MH):cY [aJ P,.int (n:Int)] h=some (.tup [bo j,fA path,ay r],h):=by
 refine bg (bE ?_);nofun;refine rv (iI a h) ?_;refine kj (df (iH (hY (fV (rv (Bo hn h) ⟨true,rfl,?_⟩)))));refine⟨λz=>(nomatch z),λ_=>?_⟩;nofun;refine rv (cL hn) ?_;nofun;rfl
theorem mF(a:zP P)(hn:(placesFrom 0 P.ag)[n]?=some (j,path,r))(h:MH):iw [aJ P,.int (n:Int)] h=none:=by
 have c:aV 2 (ar cb (af (aw 0) aD)) (entry 3 [aJ P,.int (n:Int)]) h=some (.nx,List.set (entry 3 [aJ P,D.int (n:Int)]) 2 (some (D.lv ((placesFrom 0 P.ag).map ie))),h):=by
  refine bg ?_;nofun;refine rv (iI a h) ?_;rfl
 unfold iw Fy;rw[show([aJ P,D.int (n:Int)]:List D)=[aJ P,.int (n:Int)] from rfl];rw[iC c];have b:Sm.cQ (az (fv zo F5 (eK (.int 0)) (aw 1) (ar bG (af (aw 2) aD)))) (List.set (entry 3 [aJ P,D.int (n:Int)]) 2 (some (D.lv ((placesFrom 0 P.ag).map ie)))) h=some (false,h):=bg (hY (fV (rv (Bo hn h) ⟨true,rfl,rfl⟩)));rw[mG b];rfl
end
def Gg{l:List Row}{i:Nat}{r:Row}(e:l[i]?=some r):ao (l.take (i+1))=ao (l.take i)+cnt r/\l.take (i+1)=l.take i++[r]:=by
 have h:l.take (i+1)=l.take i++[r]:=by rw[Zh,e];rfl
 exact⟨by rw[h,b7];simp[ao],h⟩
def zu(l:List Row)(i:Nat):ao (l.take i)<=ao l:=by
 have:=b7 (l.take i) (l.drop i);rw[Xc] at this
 lia
def pT(r:Row)(h:MH):aX (ay r) (.int 0) h=some (.str (BS r),h):=by
 cases r <;> (rw[ay];rfl)
end Mi
namespace Pg
open PySem Sm L2
noncomputable def cA:Row->Nat->List Row->Row
 | .within l _,0,x=>.within l x
 | .all l _,0,x=>.all l x
 | .ask l _ e,0,x=>.ask l x e
 | .ask l b _,1,x=>.ask l b x
 | .j9 s t _ b c,0,x=>.j9 s t x b c
 | .j9 s t a _ c,1,x=>.j9 s t a x c
 | .j9 s t a b _,2,x=>.j9 s t a b x
 | .either _ b,0,x=>.either x b
 | .either a _,1,x=>.either a x
 | .again _,0,x=>.again x
 | r,_,_=>r
end Pg
namespace Mi
open PySem Sm L2 Pg
def putAt(k:Nat)(x:List Row):List (Nat×Nat)->List Row->List Row
 | [],l=>l.take k++x++l.drop (k+1)
 | s::st,l=>match l[s.1]? with
  | some r=>match (ak r)[s.2]? with
   | some t=>l.take s.1++[cA r s.2 (putAt k x st t)]++l.drop (s.1+1)
   | none=>l
  | none=>l
def Hf{a:List D}{k:Nat}{h:MH}(b:k<=a.length):ng (.tup a) none (some (k:Int)) h=some (.tup (a.take k),h):=by
 unfold ng cutD;dsimp only;rw[HT.t6,HT.yD,YD b,Z1,Aaj]
 split
 ·rename_i z;rw[Yb (Aak z.2.symm)]
 ·rfl
def sL{xs:List D}{k:Nat}{h:MH}(a:k<=xs.length):ng (.tup xs) (some (k:Int)) none h=some (.tup (xs.drop k),h):=by
 unfold ng cutD;dsimp only;rw[HT.t6,HT.yD,YD a]
 split
 ·rename_i z;rw[z.1,Z1]
 ·rw[Yb (by rw[XN];exact VZ _)]
def KQ{r:Row}{j:Nat}{t:List Row}(e:(ak r)[j]?=some t)(x:List Row):∃(a q:Int)(A B:List D),eC.lookup (BS r)=some [a,q]/\
  ay r=.tup (A++br t::B)/\a+(j:Int)=A.length/\ay (cA r j x)=.tup (A++[br x]++B)/\A.length<=10/\B.length<=10:=by
 cases r with
 | say w=>cases e
 | call d f=>cases e
 | within l b=>
  rcases j with _ | n
  ·cases e;exact⟨2,1,[.str "within",aG l],[],by ac_nf,by rw[ay];rfl,rfl,by show ay (.within l x)=_;rw[ay];rfl,by simp,by simp⟩
  ·cases e
 | all l b=>
  rcases j with _ | n
  ·cases e;exact⟨2,1,[.str "all",.tup (l.map aG)],[],by ac_nf,by rw[ay];rfl,rfl,by show ay (.all l x)=_;rw[ay];rfl,by simp,by simp⟩
  ·cases e
 | ask l b c=>
  rcases j with _ | _ | n
  ·cases e;exact⟨2,2,[.str "ask",aG l],[br c],by ac_nf,by rw[ay];rfl,rfl,by show ay (.ask l x c)=_;rw[ay];rfl,by simp,by simp⟩
  ·cases e;exact⟨2,2,[.str "ask",aG l,br b],[],by ac_nf,by rw[ay];rfl,rfl,by show ay (.ask l b x)=_;rw[ay];rfl,by simp,by simp⟩
  ·cases e
 | j9 s u a b c=>
  rcases j with _ | _ | _ | n
  ·cases e;exact⟨3,3,[.str "by",bC s,bC u],[br b,br c],by ac_nf,by rw[ay];rfl,rfl,by show ay (.j9 s u x b c)=_;rw[ay];rfl,by simp,by simp⟩
  ·cases e;exact⟨3,3,[.str "by",bC s,bC u,br a],[br c],by ac_nf,by rw[ay];rfl,rfl,by show ay (.j9 s u a x c)=_;rw[ay];rfl,by simp,by simp⟩
  ·cases e;exact⟨3,3,[.str "by",bC s,bC u,br a,br b],[],by ac_nf,by rw[ay];rfl,rfl,by show ay (.j9 s u a b x)=_;rw[ay];rfl,by simp,by simp⟩
  ·cases e
 | either a b=>
  rcases j with _ | _ | n
  ·cases e;exact⟨1,2,[.str "either"],[br b],by ac_nf,by rw[ay];rfl,rfl,by show ay (.either x b)=_;rw[ay];rfl,by simp,by simp⟩
  ·cases e;exact⟨1,2,[.str "either",br a],[],by ac_nf,by rw[ay];rfl,rfl,by show ay (.either a x)=_;rw[ay];rfl,by simp,by simp⟩
  ·cases e
 | again a=>
  rcases j with _ | n
  ·cases e;exact⟨1,1,[.str "again"],[],by ac_nf,by rw[ay];rfl,rfl,by show ay (.again x)=_;rw[ay];rfl,by simp,by simp⟩
  ·cases e
theorem uP:∀{b:List Nat},a∈b->a<=b.sum
 | x::r,h=>by
  rw[WO];rcases Wh.mp h with rfl | h
  ·exact Wu _ _
  ·exact V2 (uP h) (Nat.le_add_left _ _)
def Bl{l:List Row}{i j:Nat}{r:Row}{t:List Row}(c:l[i]?=some r)(b:(ak r)[j]?=some t):ao t<=ao l:=by
 have a:=zu l (i+1);rw[(Gg c).1] at a;have d:=dW r;have h3:ao t<=((ak r).map ao).sum:=uP (Yz (VX b))
 lia
def kX(l:List Row):(cm l).length=l.length:=by rw[bA,VU]
def uz:bG [fA p] h=some (.int (p.length:Int),h):=by
 show some (D.int ((p.map bo).length:Int),h)=_;rw[VU]
def IK{l:List Row}{k:Nat}{h:MH}(a:k<=l.length):ng (br l) none (some (k:Int)) h=some (br (l.take k),h):=by
 unfold br;rw[Hf (by rw[kX];exact a),bA,bA,ZE]
def AN{l:List Row}{k:Nat}{h:MH}(a:k<=l.length):ng (br l) (some (k:Int)) none h=some (br (l.drop k),h):=by
 unfold br;rw[sL (by rw[kX];exact a),bA,bA,Z8]
def sS(hl:a.length+b.length<=10000):aF (br a) (br b) h=some (br (a++b),h):=by
 unfold br;rw[Be (by rw[kX,kX];exact hl),bA,bA,bA,Wq]
def Cw{a b:Nat}{p:List Nat}{h:MH}:ng (fA (a::b::p)) (some 2) none h=some (fA p,h):=sL (xs:=bo a::bo b::p.map bo) (k:=2) (by simp)
theorem mw{k:Nat}{x:List Row}(E:x.length<=1000):∀(st:List (Nat×Nat)) (f:Nat) (l c:List Row) (h:MH),dS l st=some c->st.length < f->k < c.length->ao l<=1000->fy f [br l,qa st k,br x] h=some (br (putAt k x st l),h)
 | [],f,l,c,h,e,hf,g,hc=>by
  cases e;cases f with
  | zero=>exact absurd hf (Yg _)
  | succ f=>
  have hl:=oY l;rw[fy];refine bg (bE ?_);nofun;refine rv (oP (p:=flat []++[k]) (i:=0) rfl) ?_;nofun;refine rv (uz (p:=flat []++[k])) ?_;nofun;refine⟨false,rfl,λz=>(nomatch z),λ_=>?_⟩;nofun;refine⟨_,rfl,rv (IK (XG g)) ?_⟩;nofun;refine rv (sS (by rw[Wx];clear g;lia)) ?_;nofun;refine rv (a:=(.int ((k+1:Nat):Int),h)) rfl ?_;nofun;refine⟨_,rfl,rv rfl (rv (AN g) ?_)⟩;nofun;refine rv (sS (by rw[Wj,Wx,XN];lia)) ?_;nofun;rfl
 | s::st,f,l,c,h,e,hf,g,hc=>by
  obtain⟨t,G,F⟩:=bq e;obtain⟨r,j,m⟩:=bq G;cases f with
  | zero=>exact absurd hf (Yg _)
  | succ f=>
  have hl:=oY l;have ht:=Bl j m;have n:s.1 < l.length:=(VW.mp j).1;have C:=mw E st f t c h F (Nat.lt_of_succ_lt_succ hf) g (V2 ht hc);have d:putAt k x (s::st) l=l.take s.1++[cA r s.2 (putAt k x st t)]++l.drop (s.1+1):=by
   simp only[putAt,j,m]
  obtain⟨a,q,A,B,y,o,u,w,v,H⟩:=KQ m (putAt k x st t);rw[fy,d];refine bg (bE ?_);nofun;refine rv (oP (p:=s.1::s.2::(flat st++[k])) (i:=0) rfl) ?_;nofun;refine rv (uz (p:=s.1::s.2::(flat st++[k]))) ?_;nofun;refine⟨true,?_,λ_=>?_,λz=>(nomatch z)⟩
  ·show D.bl (decide ((1:Int) < ((s.1::s.2::(flat st++[k])).length:Int)))=_;rw[WB (by simp only[V9];lia)]
  nofun;refine rv (Ej j) ?_;nofun;refine rv (pT r h) ?_;nofun;refine rv (a:=(.tup [.int a,.int q],h)) (by show(eC.lookup (BS r)).map _=_;rw[y];rfl) ?_;nofun;refine rv (oP (p:=s.1::s.2::(flat st++[k])) (i:=1) rfl) ?_;nofun;refine rv (a:=(.int (a+(s.2:Int)),h)) rfl ?_;nofun;rw[o,u];refine⟨_,rfl,rv (Hf (by simp)) ?_⟩;rw[WD];nofun;refine rv (gx (i:=A.length) (by rw[We (VZ _),Xg];rfl)) ?_;nofun;refine⟨_,rfl,rv rfl (rv (Cw (p:=flat st++[k])) ?_)⟩;nofun;refine rv C ?_;nofun;refine rv (Be (xs:=A) (ys:=[br (putAt k x st t)]) (by simp;exact V2 v (by decide))) ?_;nofun;refine⟨_,rfl,rv rfl (rv (sL (k:=A.length+1) (by simp)) ?_)⟩;rw[X9,Yd (X3 _),Zp];nofun;refine rv (Be (xs:=A++[br (putAt k x st t)]) (ys:=B) (by simp;lia)) ?_;nofun;rw[show D.tup [D.tup (A++[br (putAt k x st t)]++B)]=br [cA r s.2 (putAt k x st t)] by rw[<-w];unfold br;rw[bA];rfl];refine⟨_,rfl,rv (IK (XG n)) ?_⟩;nofun;refine rv (sS (b:=[cA r s.2 (putAt k x st t)]) (by rw[Wx];simp;lia)) ?_;nofun;refine rv (a:=(.int ((s.1+1:Nat):Int),h)) rfl ?_;nofun;refine⟨_,rfl,rv rfl (rv (AN n) ?_)⟩;nofun;refine rv (sS (by rw[Wj,Wx,XN];simp;lia)) ?_;nofun
def je(P:Prog)(j k:Nat)(x:List Row)(st:List (Nat×Nat))(d:dC):Prog:={P with ag:=P.ag.take j++[(d.1,d.2.1,putAt k x st d.2.2)]++P.ag.drop (j+1)}
def fM{P:Prog}{j k:Nat}{x b:List Row}{st:List (Nat×Nat)}{d:dC}(g:x.length<=1000)(hd:P.ag[j]?=some d)(hl:dS d.2.2 st=some b)(c:st.length < 6)(l:k < b.length)(hc:ao d.2.2<=1000)(n:P.ag.length<=1000)(h:MH):
  eA [aJ P,bo j,qa st k,br x] h=some (aJ (je P j k x st d),h):=by
 have hj:j < P.ag.length:=(VW.mp hd).1;have m:aJ P=.tup [.tup (P.names.map D.str),.tup (P.ag.map cO)]:=rfl;have f:ng (.tup (P.ag.map cO)) none (some (j:Int)) h=some (.tup ((P.ag.take j).map cO),h):=by rw[Hf (by rw[VU];exact XG hj),ZE]
 have e:ng (.tup (P.ag.map cO)) (some ((j+1:Nat):Int)) none h=some (.tup ((P.ag.drop (j+1)).map cO),h):=by rw[sL (by rw[VU];exact hj),Z8]
 refine bg (bE ?_);rw[m];nofun;refine rv (a:=(.tup [.str d.1,.tup (d.2.1.map D.str),br d.2.2],h)) (gx (i:=j) (by rw[Wa,hd];rfl)) ?_;nofun;refine⟨_,rfl,rv f ?_⟩;nofun;refine rv (mw g st 6 d.2.2 b h hl c l hc) ?_;nofun;refine rv (Be (ys:=[.tup [.str d.1,.tup (d.2.1.map D.str),br (putAt k x st d.2.2)]]) (by simp;lia)) ?_;nofun;refine rv (a:=(.int ((j+1:Nat):Int),h)) rfl ?_;nofun;refine⟨_,rfl,rv rfl (rv e ?_)⟩;nofun;refine rv (Be (by simp;lia)) ?_;nofun;show(D.tup [D.tup (P.names.map D.str),D.tup _],h)=(D.tup [D.tup (P.names.map D.str),D.tup ((P.ag.take j++[(d.1,d.2.1,putAt k x st d.2.2)]++P.ag.drop (j+1)).map cO)],h);rw[Wq,Wq];rfl
end Mi
namespace Pg
open PySem Sm L2
theorem tI:∀(l:List Row)(n:Nat),n < ao l->∃x r y,l=x++r::y/\ao x<=n/\n < ao x+cnt r
 | [],n,h=>by simp[ao] at h
 | r::l,n,h=>by
  rw[ao] at h
  by_cases z:n < cnt r
  ·exact⟨[],r,l,rfl,by simp[ao],by simpa [ao] using z⟩
  ·obtain⟨x,a,y,rfl,c,b⟩:=tI l (n-cnt r) (by lia);exact⟨r::x,a,y,rfl,by rw[ao];lia,by rw[ao];lia⟩
theorem tJ:∀(l:List (List Row)) (n:Nat),n < (l.map ao).sum->∃x t y,l=x++t::y/\(x.map ao).sum<=n/\n < (x.map ao).sum+ao t
 | [],n,h=>by simp at h
 | r::l,n,h=>by
  rw[V6,WO] at h
  by_cases z:n < ao r
  ·exact⟨[],r,l,rfl,by simp,by simpa using z⟩
  ·obtain⟨x,a,y,rfl,c,b⟩:=tJ l (n-ao r) (by lia);exact⟨r::x,a,y,rfl,by rw[V6,WO];lia,by rw[V6,WO];lia⟩
def IJ(r:Row)(j:Nat)(t:List Row):ak (cA r j t)=(ak r).set j t:=by
 cases r <;> (rcases j with _ | _ | _ | n) <;> rfl
def tL(e:ak r=u++t::v)(a:List Row):ak (cA r u.length a)=u++a::v/\True:=by
 rw[IJ,e,XY _ _ (VZ _),Xg];exact⟨rfl,trivial⟩
def ji:(u++t::v)[u.length]?=some t:=by
 rw[We (VZ _),Xg];rfl
def hU:(u++t::v)[u.length]?=some t:=by
 rw[We (VZ _),Xg];rfl
def UA(W:Wd)(a:List Str):Row->Prop
 | .say w=>w∈W.names++W.ag
 | .call d b=>(∃(j:Nat)(c:List Str),W.ag[j]?=some d/\W.params[j]?=some c/\b.length=c.length)/\∀t∈b,cX a t
 | .within l _=>fu W a l
 | .all ls _=>2<=ls.length/\ls.length<=4/\ls.Nodup/\∀l∈ls,fu W a l
 | .ask l _ _=>fu W a l
 | .j9 s t _ _ _=>cX a s/\cX a t
 | _=>True
section
variable {W:Wd} {ps:List Str}
theorem gY:aW W ps n r↔UA W ps r/\(ak r≠[]->n < 5)/\∀t∈ak r,t.length<=12/\ba W ps (n+1) t:=by
 have one:∀{b:List Row} {p:List Row->Prop},p b->∀t∈[b],p t:=λh t ht=>by rw[Wg.mp ht];exact h
 have two:∀{b:List Row} {bs:List (List Row)} {p:List Row->Prop},p b->(∀t∈bs,p t)->∀t∈b::bs,p t:=λh g t ht=>(Wh.mp ht).elim (λe=>e ▸ h) (g t);cases r with
 | say w=>rw[aW];exact⟨λh=>⟨h,λz=>absurd rfl z,λt ht=>(nomatch ht)⟩,λh=>h.1⟩
 | call d k=>rw[aW];exact⟨λh=>⟨h,λz=>absurd rfl z,λt ht=>(nomatch ht)⟩,λh=>h.1⟩
 | within l b=>rw[aW];exact⟨λh=>⟨h.1,λ_=>h.2.1,one h.2.2⟩,λh=>⟨h.1,h.2.1 (Yw _ _),h.2.2 b (.head _)⟩⟩
 | all ls b=>rw[aW];exact⟨λh=>⟨h.1,λ_=>h.2.1,one h.2.2⟩,λh=>⟨h.1,h.2.1 (Yw _ _),h.2.2 b (.head _)⟩⟩
 | again b=>rw[aW];exact⟨λh=>⟨trivial,λ_=>h.1,one h.2⟩,λh=>⟨h.2.1 (Yw _ _),h.2.2 b (.head _)⟩⟩
 | ask l b e=>
  rw[aW];refine⟨λh=>⟨h.1,λ_=>h.2.1,two ⟨h.2.2.1,h.2.2.2.2.1⟩ (one ⟨h.2.2.2.1,h.2.2.2.2.2⟩)⟩,λh=>?_⟩;have f:=h.2.2 b (.head _);have i:=h.2.2 e (.tail _ (.head _));exact⟨h.1,h.2.1 (Yw _ _),f.1,i.1,f.2,i.2⟩
 | either b e=>
  rw[aW];refine⟨λh=>⟨trivial,λ_=>h.1,two ⟨h.2.1,h.2.2.2.1⟩ (one ⟨h.2.2.1,h.2.2.2.2⟩)⟩,λh=>?_⟩;have f:=h.2.2 b (.head _);have i:=h.2.2 e (.tail _ (.head _));exact⟨h.2.1 (Yw _ _),f.1,i.1,f.2,i.2⟩
 | j9 s u a b c=>
  rw[aW];refine⟨λh=>⟨⟨h.1,h.2.1⟩,λ_=>h.2.2.1,two ⟨h.2.2.2.1,h.2.2.2.2.2.2.1⟩ (two ⟨h.2.2.2.2.1,h.2.2.2.2.2.2.2.1⟩ (one ⟨h.2.2.2.2.2.1,h.2.2.2.2.2.2.2.2⟩))⟩,λh=>?_⟩;have j:=h.2.2 a (.head _);have f:=h.2.2 b (.tail _ (.head _));have hc:=h.2.2 c (.tail _ (.tail _ (.head _)));exact⟨h.1.1,h.1.2,h.2.1 (Yw _ _),j.1,f.1,hc.1,j.2,f.2,hc.2⟩
theorem kU:∀{l:List Row},(∀r∈l,aW W ps n r)->ba W ps n l
 | [],_=>by rw[ba];trivial
 | r::l,h=>by rw[ba];exact⟨h r (.head _),kU λx a=>h x (.tail _ a)⟩
theorem Ly(h:UA W ps r):UA W ps (cA r j t):=by
 cases r <;> (rcases j with _ | _ | _ | n) <;> exact h
theorem yY:∀(f n m:Nat)(l:List Row),aA l<=f->ba W ps n l->m+aA l<=6->ba W ps m l
 | 0,n,m,l,hf,_,_=>by cases l <;> rw[aA] at hf <;> lia
 | f+1,n,m,l,hf,h,hm=>kU λr hr=>by
  obtain⟨b,d,h3⟩:=gY.mp (cU h r hr);have hn:=fX hr;refine gY.mpr ⟨b,λz=>?_,λt ht=>⟨(h3 t ht).1,?_⟩⟩
  ·obtain⟨t,ht⟩:=List.exists_mem_of_ne_nil _ z;have a:=eJ ht;have c:1<=aA t:=by cases t <;> rw[aA] <;> lia
   lia
  ·have a:=eJ ht;exact yY f (n+1) (m+1) t (by lia) (h3 t ht).2 (by lia)
end
end Pg
namespace Mi
open PySem Sm L2 Pg
section
variable {W:Wd} {ps:List Str}
theorem a8:∀{l:List α} {i:Nat} {a:α},l[i]?=some a->∃x y,l=x++a::y/\x.length=i
 | a::l,0,_,h=>by cases h;exact⟨[],l,rfl,rfl⟩
 | b::l,i+1,a,h=>by
  obtain⟨x,y,rfl,e⟩:=a8 (l:=l) (i:=i) h;exact⟨b::x,y,rfl,by rw[V9,e]⟩
theorem ib:putAt x.length b [] (x++r::y)=x++b++y:=by
 show(x++r::y).take x.length++b++(x++r::y).drop (x.length+1)=_;rw[WD,X9,Yd (X3 _),show x.length+1-x.length=1 by lia];rfl
theorem ia(e:ak r=u++t::v):putAt k b ((x.length,u.length)::st) (x++r::y)=x++cA r u.length (putAt k b st t)::y:=by
 have a:(ak r)[u.length]?=some t:=by rw[e,ji]
 have c:(x++r::y)[x.length]?=some r:=hU;simp only[putAt,c,a];rw[WD,X9,Yd (X3 _),show x.length+1-x.length=1 by lia];simp
theorem HQ(hr:f[k]?=some r)(m:f.length-1+z.length<=12):∀(st:List (Nat×Nat)) (l:List Row) (n:Nat),dS l st=some f->ba W ps n l->l.length<=12->ba W ps (n+st.length) z->ba W ps n (putAt k z st l)/\(putAt k z st l).length<=12
 | [],l,n,e,h,hl,g=>by
  cases e;obtain⟨x,y,rfl,rfl⟩:=a8 hr;rw[ib];refine⟨kU λw c=>?_,by simp only[Wj,V9] at m ⊢;lia⟩;rcases Wz.mp c with c | c
  ·rcases Wz.mp c with c | c
   ·exact cU h w (WU _ c)
   ·exact cU g w c
  ·exact cU h w (Wf _ (.tail _ c))
 |(i,j)::st,l,n,e,h,hl,g=>by
  obtain⟨t,I,H⟩:=bq e;obtain⟨q,G,F⟩:=bq I;obtain⟨x,y,rfl,rfl⟩:=a8 G;obtain⟨u,v,d,rfl⟩:=a8 F;obtain⟨E,C,h3⟩:=gY.mp (cU h q (Wf _ (.head _)));obtain⟨p,o⟩:=h3 t (by rw[d];exact Wf _ (.head _));obtain⟨a,b⟩:=HQ hr m st t (n+1) H o p (by rw[show n+1+st.length=n+((x.length,u.length)::st).length by rw[V9];lia];exact g);obtain⟨A,_⟩:=tL d (putAt k z st t);rw[ia d];refine⟨kU λw c=>?_,by simp only[Wj,V9] at hl ⊢;exact hl⟩;rcases Wz.mp c with c | c
  ·exact cU h w (WU _ c)
  rcases Wh.mp c with rfl | c
  ·refine gY.mpr ⟨Ly E,λ_=>C (by rw[d];simp),λs hs=>?_⟩;rw[A] at hs;rcases Wz.mp hs with hs | hs
   ·exact h3 s (by rw[d];exact WU _ hs)
   ·rcases Wh.mp hs with rfl | hs
    ·exact⟨b,a⟩
    ·exact h3 s (by rw[d];exact Wf _ (.tail _ hs))
  ·exact cU h w (Wf _ (.tail _ c))
end
def idx:List (Nat×Nat)->Nat->List Row->Nat
 | [],k,l=>ao (l.take k)
 |(i,j)::st,k,l=>ao (l.take i)+(match l[i]? with
  | some r=>1+(((ak r).take j).map ao).sum+(match (ak r)[j]? with
   | some t=>idx st k t
   | none=>0)
  | none=>0)
def gv(e:ak r=u++t::v):idx ((x.length,u.length)::st) k (x++r::y)=ao x+(1+(u.map ao).sum+idx st k t):=by
 have a:(ak r)[u.length]?=some t:=by rw[e,ji]
 have b:(x++r::y)[x.length]?=some r:=hU;simp only[idx,b,a];rw[WD,e,WD]
theorem MV:∀(f:Nat)(l:List Row)(n:Nat),aA l<=f->n < ao l->∃st k b r,dS l st=some b/\b[k]?=some r/\idx st k l=n
 | 0,l,n,hf,hn=>by cases l <;> rw[aA] at hf <;> lia
 | f+1,l,n,hf,hn=>by
  obtain⟨x,a,y,rfl,q,p⟩:=tI l n hn;have d:a∈x++a::y:=Wf _ (.head _);have i:=fX d
  by_cases z:n=ao x
  ·exact⟨[],x.length,x++a::y,a,rfl,hU,by rw[idx,WD,z]⟩
  ·have hc:=dW a;obtain⟨u,t,v,e,w,s⟩:=tJ (ak a) (n-ao x-1) (by lia);have c:t∈ak a:=by rw[e];exact Wf _ (.head _)
   have h:=eJ c;obtain⟨st,k,b,r,o,m,j⟩:=MV f t (n-ao x-1-(u.map ao).sum) (by lia) (by clear z hn;lia);refine⟨(x.length,u.length)::st,k,b,r,?_,m,by rw[gv e,j];lia⟩;show((Pp (x++a::y) (x.length,u.length)).bind λl=>dS l st)=_;have g:Pp (x++a::y) (x.length,u.length)=some t:=by
    show((x++a::y)[x.length]?).bind (λr=>(ak r)[u.length]?)=_;rw[hU];show(ak a)[u.length]?=_;rw[e,ji]
   rw[g];exact o
theorem qo(p:List Nat):∀(k:Nat)(u:List (List Row)),(eU p k u).length=(u.map ao).sum
 | _,[]=>rfl
 | k,t::u=>by rw[eU,Wj,aU,qo p (k+1) u,V6,WO]
theorem lO(hr:c[k]?=some r):∀(st:List (Nat×Nat)) (l:List Row) (a:List Nat),dS l st=some c->(bc a 0 l)[idx st k l]?=some (a++(flat st++[k]),r)/\idx st k l < ao l
 | [],l,a,e=>by
  cases e;obtain⟨x,y,rfl,rfl⟩:=a8 hr;have hp:=dW r;rw[idx,WD,ic,We (by rw[aU];exact VZ _),aU,Xg,Xf,bc];exact⟨rfl,by rw[b7,ao];lia⟩
 |(i,j)::st,l,a,e=>by
  obtain⟨t,o,n⟩:=bq e;obtain⟨b,m,h⟩:=bq o;obtain⟨x,y,rfl,rfl⟩:=a8 m;obtain⟨u,v,d,rfl⟩:=a8 h;obtain⟨g,p⟩:=lO hr st t (a++[x.length]++[u.length]) n;have hc:=dW b;rw[d,Wq,W3,V6,WO] at hc;have f:(fW (a++[x.length]) b).length=cnt b-1:=by have:=ux (a++[x.length]) b;clear hc;lia
  rw[gv d];refine⟨?_,by rw[b7,ao];lia⟩;rw[ic,We (by rw[aU];simp),aU,Xf,bc,show ao x+(1+(u.map ao).sum+idx st k t)-ao x=((u.map ao).sum+idx st k t)+1 by lia,WL,Wc (by lia),xl,d,lK,We (by rw[qo];simp),qo,Xf,eU,Wc (by rw[aU];lia),Zp,g];simp[flat]
def set_set(r:Row)(j:Nat)(a b:List Row):cA (cA r j a) j b=cA r j b:=by
 cases r <;> (rcases j with _ | _ | _ | n) <;> rfl
def NO(e:(ak r)[j]?=some t):cA r j t=r:=by
 cases r <;> (rcases j with _ | _ | _ | n) <;> first | rfl |(cases e;rfl)
theorem kM(hr:d[k]?=some r):∀(st:List (Nat×Nat)) (l:List Row),dS l st=some d->idx st k (putAt k [q] st l)=idx st k l/\dS (putAt k [q] st l) st=some (d.set k q)/\(∀b,putAt k b st (putAt k [q] st l)=putAt k b st l)/\putAt k [r] st l=l/\ao (putAt k [q] st l)+cnt r=ao l+cnt q
 | [],l,e=>by
  cases e;obtain⟨x,y,rfl,rfl⟩:=a8 hr;rw[ib,ib,WY,List.singleton_append];refine⟨by rw[idx,idx,WD,WD],?_,λb=>by rw[ib,ib],by simp,by rw[b7,b7,ao,ao];lia⟩;show some (x++q::y)=_;rw[XY _ _ (VZ _),Xg];rfl
 |(i,j)::st,l,e=>by
  obtain⟨t,A,z⟩:=bq e;obtain⟨a,w,s⟩:=bq A;obtain⟨x,y,rfl,rfl⟩:=a8 w;obtain⟨u,v,c,rfl⟩:=a8 s;obtain⟨p,o,h3,n,C⟩:=kM hr st t z;obtain⟨f,_⟩:=tL c (putAt k [q] st t);have hs:=set_set a u.length;have m:cA a u.length t=a:=NO (by rw[c,ji]);have hc:=dW a;have g:=dW (cA a u.length (putAt k [q] st t));rw[c,Wq,W3,V6,WO] at hc;rw[f,Wq,W3,V6,WO] at g;rw[ia c,ia c];refine⟨by rw[gv f,gv c,p],?_,λb=>by rw[ia f,ia c,h3,hs],by rw[n,m],by rw[b7,b7,ao,ao];lia⟩;show((Pp (x++cA a u.length (putAt k [q] st t)::y) (x.length,u.length)).bind λl=>dS l st)=_;have h:Pp (x++cA a u.length (putAt k [q] st t)::y) (x.length,u.length)=some (putAt k [q] st t):=by
   show((x++cA a u.length (putAt k [q] st t)::y)[x.length]?).bind (λr=>(ak r)[u.length]?)=_;rw[hU];show(ak (cA a u.length (putAt k [q] st t)))[u.length]?=_;rw[f,ji]
  rw[h];exact o
end Mi
namespace Pg
open PySem Sm L2
mutual
noncomputable def cP(f:Nat->Bool):Nat->Row->Row
 | _,.say w=>.say w
 | _,.call d g=>.call d g
 | k,.within l b=>if f k=true then .ask l (fh f (k+1) b) [] else .within l (fh f (k+1) b)
 | k,.all ls b=>.all ls (fh f (k+1) b)
 | k,.ask l b e=>.ask l (fh f (k+1) b) (fh f (k+1+ao b) e)
 | k,.j9 s t a b c=>.j9 s t (fh f (k+1) a) (fh f (k+1+ao a) b) (fh f (k+1+ao a+ao b) c)
 | k,.either a b=>.either (fh f (k+1) a) (fh f (k+1+ao a) b)
 | k,.again a=>.again (fh f (k+1) a)
noncomputable def fh(f:Nat->Bool):Nat->List Row->List Row
 | _,[]=>[]
 | k,r::rs=>cP f k r::fh f (k+cnt r) rs
end
section
variable {f:Nat->Bool}
mutual
theorem EA:∀(k:Nat)(r:Row),cnt (cP f k r)=cnt r
 | _,.say _=>by rw[cP]
 | _,.call _ _=>by rw[cP]
 | k,.within l b=>by
  rw[cP]
  split <;> simp only[cnt,ao,cc (k+1) b,Nat.add_zero]
 | k,.all ls b=>by simp only[cP,cnt,cc (k+1) b]
 | k,.ask l b e=>by simp only[cP,cnt,cc _ b,cc _ e]
 | k,.j9 s t a b c=>by simp only[cP,cnt,cc _ a,cc _ b,cc _ c]
 | k,.either a b=>by simp only[cP,cnt,cc _ a,cc _ b]
 | k,.again a=>by simp only[cP,cnt,cc _ a]
theorem cc:∀(k:Nat)(l:List Row),ao (fh f k l)=ao l
 | _,[]=>by rw[fh]
 | k,r::rs=>by rw[fh,ao,ao,EA k r,cc (k+cnt r) rs]
end
theorem BE(h:∀m,k<=m->m < k+n->f m=false)(g:k<=b:=by lia)(e:b+d<=k+n:=by lia):∀m,b<=m->m < b+d->f m=false:=λm a c=>h m (by lia) (by lia)
mutual
theorem Qc:∀(k:Nat)(r:Row),(∀m,k<=m->m < k+cnt r->f m=false)->cP f k r=r
 | _,.say _,_=>by rw[cP]
 | _,.call _ _,_=>by rw[cP]
 | k,.within l b,h=>by
  rw[cnt] at h;rw[cP,V4 (by rw[h k (by lia) (by lia)];simp),dz (k+1) b (BE h)]
 | k,.all ls b,h=>by
  rw[cnt] at h;rw[cP,dz (k+1) b (BE h)]
 | k,.ask l b e,h=>by
  rw[cnt] at h;rw[cP,dz (k+1) b (BE h),dz (k+1+ao b) e (BE h)]
 | k,.j9 s t a b c,h=>by
  rw[cnt] at h;rw[cP,dz (k+1) a (BE h),dz (k+1+ao a) b (BE h),dz (k+1+ao a+ao b) c (BE h)]
 | k,.either a b,h=>by
  rw[cnt] at h;rw[cP,dz (k+1) a (BE h),dz (k+1+ao a) b (BE h)]
 | k,.again a,h=>by
  rw[cnt] at h;rw[cP,dz (k+1) a (BE h)]
theorem dz:∀(k:Nat)(l:List Row),(∀m,k<=m->m < k+ao l->f m=false)->fh f k l=l
 | _,[],_=>by rw[fh]
 | k,r::rs,h=>by
  rw[ao] at h;rw[fh,Qc k r (BE h),dz (k+cnt r) rs (BE h)]
end
mutual
theorem Qd(g:Nat->Bool):∀(k:Nat)(r:Row),cP g k (cP f k r)=cP (λm=>f m||g m) k r
 | _,.say _=>by rw[cP,cP,cP]
 | _,.call _ _=>by rw[cP,cP,cP]
 | k,.within l b=>by
  by_cases z:f k=true
  ·simp only[cP,z,Ys,fh,Bool.true_or,gd g (k+1) b]
  ·have d:f k=false:=by simpa using z
   simp only[cP,d,WH,Xk,Bool.false_or,gd g (k+1) b]
 | k,.all ls b=>by rw[cP,cP,cP,gd g (k+1) b]
 | k,.ask l b e=>by rw[cP,cP,cP,cc,gd g (k+1) b,gd g _ e]
 | k,.j9 s t a b c=>by rw[cP,cP,cP,cc,cc,gd g (k+1) a,gd g _ b,gd g _ c]
 | k,.either a b=>by rw[cP,cP,cP,cc,gd g (k+1) a,gd g _ b]
 | k,.again a=>by rw[cP,cP,cP,gd g (k+1) a]
theorem gd(g:Nat->Bool):∀(k:Nat)(l:List Row),fh g k (fh f k l)=fh (λm=>f m||g m) k l
 | _,[]=>by rw[fh,fh,fh]
 | k,r::rs=>by rw[fh,fh,fh,EA,Qd g k r,gd g _ rs]
end
theorem dX:∀(k:Nat)(l:List Row),(fh f k l).length=l.length
 | _,[]=>by rw[fh]
 | k,r::rs=>by rw[fh,V9,V9,dX _ rs]
theorem qE:∀(x y:List Row)(k:Nat),fh f k (x++y)=fh f k x++fh f (k+ao x) y
 | [],y,k=>by rw[fh,ao];rfl
 | r::x,y,k=>by rw[XO,fh,fh,qE x y,ao,XO,Yl]
def x9(f:Nat->Bool):Nat->List (List Row)->List (List Row)
 | _,[]=>[]
 | k,t::a=>fh f k t::x9 f (k+ao t) a
theorem zL:∀(x y:List (List Row)) (k:Nat),x9 f k (x++y)=x9 f k x++x9 f (k+(x.map ao).sum) y
 | [],y,k=>rfl
 | r::x,y,k=>by rw[XO,x9,x9,zL x y,V6,WO,XO,Yl]
theorem EB:∀(x:List (List Row)) (k:Nat),(x9 f k x).length=x.length/\((x9 f k x).map ao).sum=(x.map ao).sum
 | [],_=>⟨rfl,rfl⟩
 | t::x,k=>by
  obtain⟨a,b⟩:=EB x (k+ao t);exact⟨by rw[x9,V9,a,V9],by rw[x9,V6,WO,b,cc,V6,WO]⟩
theorem Dt:∀(x:List (List Row)) (k:Nat),(∀m,k<=m->m < k+(x.map ao).sum->f m=false)->x9 f k x=x
 | [],_,_=>rfl
 | t::x,k,h=>by
  rw[V6,WO] at h;rw[x9,dz k t (BE h),Dt x _ (BE h)]
theorem Ml(k:Nat)(r:Row):∃more,ak (cP f k r)=x9 f (k+1) (ak r)++more:=by
 cases r with
 | within l b=>
  rw[cP]
  split
  ·exact⟨[[]],rfl⟩
  ·exact⟨[],rfl⟩
 | say w=>exact⟨[],by rw[cP];rfl⟩
 | call d g=>exact⟨[],by rw[cP];rfl⟩
 | all ls b=>exact⟨[],by rw[cP];rfl⟩
 | ask l b e=>exact⟨[],by rw[cP];rfl⟩
 | j9 s t a b c=>exact⟨[],by rw[cP];rfl⟩
 | either a b=>exact⟨[],by rw[cP];rfl⟩
 | again a=>exact⟨[],by rw[cP];rfl⟩
theorem Mm(g:f k=false)(h:x9 f (k+1) (ak r)=(ak r).set j t):cP f k r=cA r j t:=by
 cases r with
 | say w=>rw[cP];rcases j with _ | _ | _ | n <;> rfl
 | call d i=>rw[cP];rcases j with _ | _ | _ | n <;> rfl
 | within l b=>rw[cP,V4 (by rw[g];simp)];rcases j with _ | _ | _ | n <;> exact congrArg (Row.within l) (List.cons.inj h).1
 | all ls b=>rw[cP];rcases j with _ | _ | _ | n <;> exact congrArg (Row.all ls) (List.cons.inj h).1
 | again b=>rw[cP];rcases j with _ | _ | _ | n <;> exact congrArg Row.again (List.cons.inj h).1
 | ask l b e=>rw[cP];rcases j with _ | _ | _ | n <;> exact(congr (congrArg (Row.ask l) (List.cons.inj h).1) (List.cons.inj (List.cons.inj h).2).1).trans rfl
 | either b e=>rw[cP];rcases j with _ | _ | _ | n <;> exact(congr (congrArg Row.either (List.cons.inj h).1) (List.cons.inj (List.cons.inj h).2).1).trans rfl
 | j9 s u a b c=>rw[cP];rcases j with _ | _ | _ | n <;> exact(congr (congr (congrArg (Row.j9 s u) (List.cons.inj h).1) (List.cons.inj (List.cons.inj h).2).1) (List.cons.inj (List.cons.inj (List.cons.inj h).2).2).1).trans rfl
theorem Qa(e:ak r=u++t::v)(c:f k=false)(b:x9 f (k+1) u=u)(a:x9 f (k+1+(u.map ao).sum+ao t) v=v):cP f k r=cA r u.length (fh f (k+1+(u.map ao).sum) t):=by
 refine Mm c ?_;rw[e,zL,x9,b,a,XY _ _ (VZ _),Xg];rfl
end
end Pg
namespace Mi
open PySem Sm L2 Pg
theorem JT(hr:f[k]?=some (.within lk b)):∀(st:List (Nat×Nat)) (l:List Row) (K:Nat),dS l st=some f->fh (λm=>m==K+idx st k l) K l=putAt k [.ask lk b []] st l
 | [],l,K,e=>by
  cases e;obtain⟨x,y,rfl,rfl⟩:=a8 hr;rw[ib,idx,WD,qE,dz K x λm a c=>by simp;exact Wk c,fh,dz _ y λm a c=>by simp;rw[cnt] at a;lia];rw[cP,V1 (by simp),dz _ b λm a c=>by simp;exact Y7 a];simp
 |(i,j)::st,l,K,e=>by
  obtain⟨t,s,h⟩:=bq e;obtain⟨g,r,q⟩:=bq s;obtain⟨x,y,rfl,rfl⟩:=a8 r;obtain⟨u,v,d,rfl⟩:=a8 q;have n:=JT hr st t (K+ao x+1+(u.map ao).sum) h;have o:=(lO hr st t [] h).2;have hc:=dW g;rw[d,Wq,W3,V6,WO] at hc;have p:K+idx ((x.length,u.length)::st) k (x++g::y)=K+ao x+1+(u.map ao).sum+idx st k t:=by rw[gv d];lia
  rw[p,ia d,qE,dz K x λm a c=>by simp;lia,fh,dz _ y λm a c=>by simp;lia];rw[Qa d (by simp;lia) (Dt u _ λm a c=>by simp;lia) (Dt v _ λm a c=>by simp;lia),n]
theorem M1(hr:c[k]?=some r):∀(st:List (Nat×Nat)) (l:List Row) (K:Nat),dS l st=some c->∃a,dS (fh f K l) st=some a/\a[k]?=some (cP f (K+idx st k l) r)/\idx st k (fh f K l)=idx st k l/\a.length=c.length
 | [],l,K,e=>by
  cases e;obtain⟨x,y,rfl,rfl⟩:=a8 hr;refine⟨_,rfl,?_,?_,dX _ _⟩
  ·rw[qE,fh,idx,WD];have:=dX (f:=f) K x;rw[<-this];exact hU
  ·rw[idx,idx,WD,qE];have:=dX (f:=f) K x;rw[<-this,WD,cc]
 |(i,j)::st,l,K,e=>by
  obtain⟨t,F,E⟩:=bq e;obtain⟨b,C,A⟩:=bq F;obtain⟨x,y,rfl,rfl⟩:=a8 C;obtain⟨u,v,g,rfl⟩:=a8 A;obtain⟨a,z,w,s,q⟩:=M1 (f:=f) hr st t (K+ao x+1+(u.map ao).sum) E;obtain⟨more,o⟩:=Ml (f:=f) (K+ao x) b;rw[g,zL,x9] at o;obtain⟨m,p⟩:=EB (f:=f) u (K+ao x+1);have n:=dX (f:=f) K x;have d:ak (cP f (K+ao x) b)=x9 f (K+ao x+1) u++fh f (K+ao x+1+(u.map ao).sum) t::(x9 f (K+ao x+1+(u.map ao).sum+ao t) v++more):=by rw[o];simp
  have hl:fh f K (x++b::y)=fh f K x++cP f (K+ao x) b::fh f (K+ao x+cnt b) y:=by rw[qE,fh]
  rw[hl];refine⟨a,?_,?_,?_,q⟩
  ·show((Pp _ (x.length,u.length)).bind λl=>dS l st)=_;have h:Pp (fh f K x++cP f (K+ao x) b::fh f (K+ao x+cnt b) y) (x.length,u.length)=some (fh f (K+ao x+1+(u.map ao).sum) t):=by
    show((fh f K x++cP f (K+ao x) b::fh f (K+ao x+cnt b) y)[x.length]?).bind (λr=>(ak r)[u.length]?)=_;rw[<-n,hU];show(ak (cP f (K+ao x) b))[u.length]?=_;rw[d,<-m,ji]
   rw[h];exact z
  ·rw[w,gv g];congr 2
   lia
  ·rw[gv g,<-n,<-m,gv d,s,cc,p]
section
variable {W:Wd} {ps:List Str} {f:Nat->Bool}
mutual
theorem Qb:∀(n K:Nat)(r:Row),aW W ps n r->aW W ps n (cP f K r)
 | n,K,.say w,h=>by rw[cP];exact h
 | n,K,.call d v,h=>by rw[cP];exact h
 | n,K,.within l b,h=>by
  rw[aW] at h;have m:=gJ (n+1) (K+1) b h.2.2.2;rw[cP]
  split
  ·rw[aW];exact⟨h.1,h.2.1,by rw[dX];exact h.2.2.1,by simp,m,by rw[ba];trivial⟩
  ·rw[aW];exact⟨h.1,h.2.1,by rw[dX];exact h.2.2.1,m⟩
 | n,K,.all ls b,h=>by
  rw[aW] at h;rw[cP,aW];exact⟨h.1,h.2.1,by rw[dX];exact h.2.2.1,gJ _ _ b h.2.2.2⟩
 | n,K,.ask l b e,h=>by
  rw[aW] at h;rw[cP,aW,dX,dX];exact⟨h.1,h.2.1,h.2.2.1,h.2.2.2.1,gJ _ _ b h.2.2.2.2.1,gJ _ _ e h.2.2.2.2.2⟩
 | n,K,.j9 s t a b c,h=>by
  rw[aW] at h;obtain⟨k,j,h3,i,g,u,q,p,o⟩:=h;rw[cP,aW,dX,dX,dX];exact⟨k,j,h3,i,g,u,gJ _ _ a q,gJ _ _ b p,gJ _ _ c o⟩
 | n,K,.either a b,h=>by
  rw[aW] at h;obtain⟨k,j,h3,i,g⟩:=h;rw[cP,aW,dX,dX];exact⟨k,j,h3,gJ _ _ a i,gJ _ _ b g⟩
 | n,K,.again a,h=>by
  rw[aW] at h;rw[cP,aW,dX];exact⟨h.1,h.2.1,gJ _ _ a h.2.2⟩
theorem gJ:∀(n K:Nat)(l:List Row),ba W ps n l->ba W ps n (fh f K l)
 | n,K,[],h=>by rw[fh];exact h
 | n,K,r::l,h=>by
  rw[ba] at h;rw[fh,ba];exact⟨Qb n K r h.1,gJ n _ l h.2⟩
end
end
def gf(f:Nat->Bool):Nat->List dC->List dC
 | _,[]=>[]
 | k,d::ds=>(d.1,d.2.1,fh f k d.2.2)::gf f (k+ao d.2.2) ds
def Bw(f:Nat->Bool)(P:Prog):Prog:=⟨P.names,gf f 0 P.ag⟩
def cC(d:dC)(a:List dC):bS (d::a)=ao d.2.2+bS a:=by simp[bS]
def oZ(x y:List dC):bS (x++y)=bS x+bS y:=by unfold bS;rw[Wq,W3]
def xT:(u++t::v)[u.length]?=some t:=by
 rw[We (VZ _),Xg];rfl
section
variable {f:Nat->Bool}
theorem zN:∀(x y:List dC)(k:Nat),gf f k (x++y)=gf f k x++gf f (k+bS x) y
 | [],y,k=>rfl
 | d::x,y,k=>by rw[XO,gf,gf,zN x y,cC,XO,Yl]
theorem zM:∀(a:List dC)(k:Nat),(∀m,k<=m->m < k+bS a->f m=false)->gf f k a=a
 | [],_,_=>rfl
 | d::a,k,h=>by
  rw[cC] at h;rw[gf,dz k _ (BE h),zM a _ (BE h)]
theorem JW(g:Nat->Bool):∀(a:List dC)(k:Nat),gf g k (gf f k a)=gf (λm=>f m||g m) k a
 | [],_=>rfl
 | d::a,k=>by
  rw[gf,gf,gf,cc,gd,JW g a]
theorem tu:∀(c:List dC)(k:Nat),(gf f k c).length=c.length/\bS (gf f k c)=bS c
 | [],_=>⟨rfl,rfl⟩
 | d::c,k=>by
  obtain⟨a,b⟩:=tu c (k+ao d.2.2);exact⟨by rw[gf,V9,a,V9],by rw[gf,cC,b,cC,cc]⟩
theorem Du:∀(a:List dC)(k j:Nat)(d:dC),a[j]?=some d->(gf f k a)[j]?=some (d.1,d.2.1,fh f (k+bS (a.take j)) d.2.2)
 | d::a,k,0,e,h=>by cases h;rfl
 | d::a,k,j+1,e,h=>by
  have:=Du a (k+ao d.2.2) j e h;rw[gf,WL,this,ZC,cC,Yl]
theorem JV(g:Nat->Bool)(P:Prog):Bw g (Bw f P)=Bw (λm=>f m||g m) P:=by
 unfold Bw;rw[JW]
theorem JU(h:∀m,f m=false):Bw f P=P:=by
 unfold Bw;rw[zM _ _ λm _ _=>h m]
structure At(P:Prog)(N j:Nat)(st:List (Nat×Nat))(k:Nat)(lot:List Row)(r:Row)(d:dC):Prop where
 hd:P.ag[j]?=some d
 hl:dS d.2.2 st=some lot
 hr:lot[k]?=some r
 hN:N=bS (P.ag.take j)+idx st k d.2.2
theorem at_of(hN:N < bS P.ag):∃j st k a r d,At P N j st k a r d:=by
 have split:∀(b:List dC)(n:Nat),n < bS b->∃j d,b[j]?=some d/\bS (b.take j)<=n/\n < bS (b.take j)+ao d.2.2:=by
  intro b
  induction b with
  | nil=>intro n h;simp[bS] at h
  | cons d b g=>
   intro n h;rw[cC] at h
   by_cases z:n < ao d.2.2
   ·exact⟨0,d,rfl,Xb _,by simpa [bS] using z⟩
   ·obtain⟨j,e,c,i,h3⟩:=g (n-ao d.2.2) (by lia);exact⟨j+1,e,c,by rw[ZC,cC];lia,by rw[ZC,cC];lia⟩
 obtain⟨j,d,c,i,h3⟩:=split P.ag N hN
 obtain⟨st,k,a,r,m,l,o⟩:=MV _ d.2.2 (N-bS (P.ag.take j)) (VZ _) (by lia);exact⟨j,st,k,a,r,d,c,m,l,by clear hN;lia⟩
theorem At.place(h:At P N j st k g r d):(placesFrom 0 P.ag)[N]?=some (j,flat st++[k],r):=by
 obtain⟨hd,hl,hr,hN⟩:=h;obtain⟨x,y,e,ex⟩:=a8 hd;obtain⟨a,b⟩:=lO hr st d.2.2 [] hl;have i:P.ag.take j=x:=by rw[e,<-ex,WD]
 rw[i] at hN;have c:(placesFrom 0 x).length=bS x:=bL 0 x;rw[e,fN,We (by lia),c,Xf,placesFrom,Wc (by rw[VU,aU];lia),Wa,hN,Zp,a,ex];rfl
theorem At.as(h:At P N j st k b r d):∃a,a.length=b.length/\At (Bw f P) N j st k a (cP f N r) (d.1,d.2.1,fh f (bS (P.ag.take j)) d.2.2):=by
 obtain⟨hd,hl,hr,hN⟩:=h;obtain⟨a,a1,a2,a3,a4⟩:=M1 (f:=f) hr st d.2.2 (bS (P.ag.take j)) hl;have ht:bS ((gf f 0 P.ag).take j)=bS (P.ag.take j):=by
  obtain⟨x,y,c,ex⟩:=a8 hd;rw[c,zN,<-ex,WD];have:=(tu (f:=f) x 0);rw[<-this.1,WD,this.2]
 refine⟨a,a4,?_,a1,by rw[hN];exact a2,?_⟩
 ·have:=Du (f:=f) P.ag 0 j d hd
  rwa [Xf] at this
 ·show N=bS ((gf f 0 P.ag).take j)+idx st k (fh f (bS (P.ag.take j)) d.2.2);rw[ht,a3,hN]
theorem At.ask(h:At P N j st k i (.within lk b) d):je P j k [.ask lk b []] st d=Bw (λm=>m==N) P:=by
 obtain⟨hd,hl,hr,hN⟩:=h;obtain⟨x,y,g,ex⟩:=a8 hd;have e:P.ag.take j=x:=by rw[g,<-ex,WD]
 have l:=(lO hr st d.2.2 [] hl).2;have n:=JT hr st d.2.2 (bS x) hl;rw[e] at hN;subst hN;unfold Bw je;congr 1;rw[e,g,zN,zM x _ λm a c=>by simp;lia,gf,zM y _ λm a c=>by simp;lia,Xf,n,<-ex,X9,Yd (X3 _),show x.length+1-x.length=1 by simp];simp
end
section
variable {P:Prog} {N j k:Nat} {st:List (Nat×Nat)} {lot b:List Row} {r q:Row} {d:dC} {W:Wd} {m m':Nat}
theorem gX(hd:P.ag[j]?=some d):∃x y,P.ag=x++d::y/\x.length=j/\(je P j k z st d).ag=x++(d.1,d.2.1,putAt k z st d.2.2)::y:=by
 obtain⟨x,y,a,ex⟩:=a8 hd;refine⟨x,y,a,ex,?_⟩;show P.ag.take j++[(d.1,d.2.1,putAt k z st d.2.2)]++P.ag.drop (j+1)=_;rw[a,<-ex,WD,X9,Yd (X3 _),show x.length+1-x.length=1 by simp];simp
theorem At.put(h:At P N j st k lot r d):At (je P j k [q] st d) N j st k (lot.set k q) q (d.1,d.2.1,putAt k [q] st d.2.2):=by
 obtain⟨hd,hl,hr,hN⟩:=h;obtain⟨x,y,g,a,c⟩:=gX (k:=k) (st:=st) (z:=[q]) hd;obtain⟨f,e,_⟩:=kM (q:=q) hr st d.2.2 hl;refine⟨?_,e,?_,?_⟩
 ·rw[c,<-a];exact xT
 ·rw[WG (VW.mp hr).1]
 ·rw[c,<-a,WD,f,hN,g,<-a,WD]
theorem At.put2(h:At P N j st k lot r d):je (je P j k [q] st d) j k b st (d.1,d.2.1,putAt k [q] st d.2.2)=je P j k b st d:=by
 obtain⟨hd,hl,hr,hN⟩:=h;obtain⟨x,y,f,e,a⟩:=gX (k:=k) (st:=st) (z:=[q]) hd;have c:=(kM (q:=q) hr st d.2.2 hl).2.2.1 b;unfold je at a ⊢;dsimp only at a ⊢;rw[a,f,<-e,WD,WD,X9,X9,c];simp
theorem At.Oj(h:At P N j st k lot r d):je P j k [r] st d=P:=by
 obtain⟨hd,hl,hr,hN⟩:=h;obtain⟨x,y,e,f,c⟩:=gX (k:=k) (st:=st) (z:=[r]) hd;have a:=(kM (q:=r) hr st d.2.2 hl).2.2.2.1;have:(je P j k [r] st d).ag=P.ag:=by rw[c,a,e]
 cases P;exact congrArg (Prog.mk _) this
theorem At.cnt(h:At P N j st k lot r d):bS (je P j k [q] st d).ag+Pg.cnt r=bS P.ag+Pg.cnt q:=by
 obtain⟨hd,hl,hr,hN⟩:=h;obtain⟨x,y,c,f,a⟩:=gX (k:=k) (st:=st) (z:=[q]) hd;have e:=(kM (q:=q) hr st d.2.2 hl).2.2.2.2;rw[a,c,oZ,oZ,cC,cC];dsimp only
 lia
theorem IC(o:BG W m P)(h:At P N j st k lot r d)(w:lot.length-1+z.length<=12)(A:ba W d.2.1 (1+st.length) z)(hc:bS (je P j k z st d).ag<=m'):BG W m' (je P j k z st d):=by
 obtain⟨hd,hl,hr,hN⟩:=h;obtain⟨x,y,l,C,g⟩:=gX (k:=k) (st:=st) (z:=z) hd;obtain⟨o1,v,u,t⟩:=o.dd j d hd;obtain⟨s,n⟩:=HQ hr w st d.2.2 1 hl u t A;refine⟨o.nm,by rw[g,<-o.dl,l];simp,λi e a=>?_,hc⟩;rw[g] at a
 by_cases f:i=j
 ·subst f;rw[<-C,xT] at a;cases a;exact⟨o1,v,s,n⟩
 ·refine o.dd i e ?_;rw[l];rcases Yv i x.length with c | c
  ·rw[Wc c] at a ⊢;exact a
  ·rw[We c] at a ⊢;obtain⟨p,hp⟩:∃p,i-x.length=p+1:=⟨i-x.length-1,by lia⟩;rw[hp,WL] at a ⊢;exact a
theorem D1(o:BG W m P):BG W m (Bw f P):=by
 obtain⟨a,n⟩:=tu (f:=f) P.ag 0;refine⟨o.nm,by show(gf f 0 P.ag).length=_;rw[a,o.dl],λi e c=>?_,by show bS (gf f 0 P.ag)<=m;rw[n];exact o.ct⟩;have p:i < P.ag.length:=by rw[<-a];exact(VW.mp c).1
 obtain⟨d,hd⟩:∃d,P.ag[i]?=some d:=⟨_,V7 p⟩;have:=Du (f:=f) P.ag 0 i d hd;cases(show(gf f 0 P.ag)[i]?=some e from c).symm.trans this;obtain⟨o1,l,h,g⟩:=o.dd i d hd;exact⟨o1,l,gJ 1 _ d.2.2 h,by rw[dX];exact g⟩
theorem Bv(o:BG W m P)(h:At P N j st k lot r d):aW W d.2.1 (1+st.length) r/\lot.length<=12/\st.length+1+bw r<=5/\Pg.cnt r<=m/\k < lot.length/\ao d.2.2<=m:=by
 obtain⟨hd,hl,hr,hN⟩:=h;obtain⟨o1,J,u,E⟩:=o.dd j d hd;have i:∀(st:List (Nat×Nat)) (l:List Row) (n:Nat),dS l st=some lot->ba W d.2.1 n l->l.length<=12->ba W d.2.1 (n+st.length) lot/\lot.length<=12/\ao lot<=ao l/\st.length+aA lot<=aA l:=by
  intro st
  induction st with
  | nil=>intro l n e h hl;cases e;exact⟨h,hl,VZ _,by simp⟩
  | cons s st F=>
   intro l n e h hl;obtain⟨t,I,H⟩:=bq e;obtain⟨C,y,x⟩:=bq I;have w:=VX y;have v:=VX x;obtain⟨R,Q,h3⟩:=gY.mp (cU h C w);obtain⟨A,z⟩:=h3 t v;obtain⟨a,b,c,g⟩:=F t (n+1) H z A;have:=fX w;have:=eJ v;exact⟨by rw[V9,show n+(st.length+1)=n+1+st.length by lia];exact a,b,V2 c (Bl y x),by rw[V9];lia⟩
 obtain⟨a,b,c,M⟩:=i st d.2.2 1 hl u E;have f:=cU a r (VX hr);have G:=Bk (VX hr);have p:ao d.2.2<=m:=V2 (yp (VX hd)) o.ct;have O:=bR 1 d.2.2 u (by decide);have L:=fX (VX hr);exact⟨f,b,by lia,by lia,(VW.mp hr).1,p⟩
end
def Cb(e:P.ag[i]?=some d):g7 [aJ P,bo i] h=some (br d.2.2,h):=by
 have b:Rn (g7 [aJ P,bo i] h) λp=>p=(br d.2.2,h):=by
  refine bE ?_;unfold aJ;nofun;refine rv (gx (by rw[Wa,e];rfl)) ?_;unfold cO;nofun;rfl
 obtain⟨p,a,rfl⟩:=b;exact a
def nE(e:a c h=none)(d:b c h=none):DD a b c h=none:=by unfold DD;rw[e];exact d
section
variable {P:Prog} {n j:Nat} {path:List Nat} {r:Row} {l0:Lock} {ls:List Lock}
theorem uN(hl:nV r=l0::ls)(d c b a:Option D)(h:MH):Sm.cQ (dJ (ar gh (af (aw 4) aD))) [d,c,b,a,some (ay r)] h=some (false,h):=by
 refine bg (hY (pZ ?_));nofun;refine rv (wy r h) ?_;rw[hl];exact⟨true,rfl,rfl⟩
theorem xk(a:zP P)(hn:(placesFrom 0 P.ag)[n]?=some (j,path,r))(h:MH):ft (ar cY (af (aw 0) (af (aw 1) aD))) (gT 3 (aj (gN 2) (aj (gN 3) (aj (gN 4) bB)))) (entry 5 [aJ P,.int (n:Int)]) h=some (.nx,[some (aJ P),some (.int (n:Int)),some (bo j),some (fA path),some (ay r)],h):=by
 refine bg ?_;nofun;refine rv (uw a hn h) ?_;nofun;rfl
theorem uM(a:zP P)(hn:(placesFrom 0 P.ag)[n]?=some (j,path,r))(hl:nV r=l0::ls)(h:MH):cD [aJ P,.int (n:Int)] h=some (.tup [bo j,fA path,ay r],h):=by
 refine bg (bE (df (rv (xk a hn h) (kj (df (iH (rv (uN hl _ _ _ _ h) ⟨λy=>(nomatch y),λ_=>rv rfl ?_⟩)))))));nofun
theorem yi(a:zP P)(hn:(placesFrom 0 P.ag)[n]?=some (j,path,r))(hl:nV r=l0::ls)(h:MH):fk [aJ P,.int (n:Int)] h=none:=by
 show Fy 5 _ _ h=none;unfold Fy;refine nE (mF a hn h) ?_;rw[iC (xk a hn h),mG (uN hl _ _ _ _ h)];rfl
theorem D8:bG [br l] h=some (.int (l.length:Int),h):=by
 show some (D.int ((cm l).length:Int),h)=_;rw[kX]
end
section
variable {P:Prog} {n j k:Nat} {st:List (Nat×Nat)} {r:Row} {d:dC} {lot b:List Row} {gone:List (List Row)} {l0:Lock} {ls:List Lock}
theorem xy(hd:P.ag[j]?=some d)(hl:dS d.2.2 st=some lot)(e:st.length < 6)(c a:Option D)(h:MH):
  az (au wC (au aF (au oN (ar bG (af (ar jz (af (ar g7 (af (aw 0) (af (aw 2) aD))) (af (aw 3) aD))) aD)) (eK (.int 1))) (ar bG (af (aw 5) aD))) (eK (.int 12))) [some (aJ P),c,some (bo j),some (qa st k),a,some (br b)] h=some (decide (12 < (lot.length:Int)-1+(b.length:Int)),h):=by
 refine bg (fV ?_);nofun;refine rv (Cb hd) ?_;nofun;refine rv (AL hl (by lia)) ?_;nofun;refine rv D8 ?_;nofun;refine rv D8 ?_;nofun;exact⟨_,rfl,rfl⟩
theorem xO(e:ak r=b::gone)(c:DS)(a:c[4]?=some (some (ay r)))(h:MH):au aX (ar bU (af (aw 4) aD)) (eK (.int 0)) c h=some (br b,h):=by
 refine bg (wj (Av (cJ (gK a (kK (rv (eO r h) ?_))))));rw[e,V6];exact K0 (rv (show aX (.tup (br b::gone.map br)) (.int ((0:Nat):Int)) h=some (br b,h) from gx rfl) rfl)
theorem AQ(c:zP P)(hn:(placesFrom 0 P.ag)[n]?=some (j,flat st++[k],r))(a:nV r=l0::ls)(h:MH):ft (ar cD (af (aw 0) (af (aw 1) aD))) (gT 3 (aj (gN 2) (aj (gN 3) (aj (gN 4) bB)))) (entry 6 [aJ P,.int (n:Int)]) h=some (.nx,[some (aJ P),some (.int (n:Int)),some (bo j),some (qa st k),some (ay r),none],h):=by
 refine bg ?_;nofun;refine rv (uM c hn a h) ?_;nofun;rfl
theorem EH(e:zP P)(hn:(placesFrom 0 P.ag)[n]?=some (j,flat st++[k],r))(c:nV r=l0::ls)(f:ak r=b::gone)(hd:P.ag[j]?=some d)(hl:dS d.2.2 st=some lot)(a:st.length < 6)(h:MH):
  dY [aJ P,.int (n:Int)] h=if 12 < (lot.length:Int)-1+(b.length:Int) then some (("NoRow":Str),h) else none:=by
 have i:=AQ e hn c h;have g:aV 5 (au aX (ar bU (af (aw 4) aD)) (eK (.int 0))) [some (aJ P),some (.int (n:Int)),some (bo j),some (qa st k),some (ay r),none] h=some (.nx,[some (aJ P),some (.int (n:Int)),some (bo j),some (qa st k),some (ay r),some (br b)],h):=bg (uh (rv (xO f _ (by rfl) h) rfl));show Fy 6 _ _ h=_;unfold Fy DD;rw[show Ki fk (af (aw 0) (af (aw 1) aD)) (entry 6 [aJ P,.int (n:Int)]) h=none from yi e hn c h];dsimp only;rw[iC i,iC g,mG (xy (k:=k) hd hl a _ _ h)]
 by_cases z:12 < (lot.length:Int)-1+(b.length:Int)
 ·rw[V1 (WB z),V1 z];rfl
 ·rw[V4 (by simpa using z),V4 z];rfl
theorem mH(f:zP P)(hn:(placesFrom 0 P.ag)[n]?=some (j,flat st++[k],r))(g:nV r=l0::ls)(i:ak r=b::gone)(hd:P.ag[j]?=some d)(hl:dS d.2.2 st=some lot)(a:st.length < 6)(c:k < lot.length)(hc:ao d.2.2<=1000)(e:b.length<=1000)(hm:¬12 < (lot.length:Int)-1+(b.length:Int))(h:MH):
  b9 [aJ P,.int (n:Int)] h=some (aJ (je P j k b st d),h):=by
 refine bg (bE (df (rv (AQ f hn g h) (kj ?_))));refine df (uh (rv (xO i _ (by rfl) h) (kj ?_)));refine df (iH (rv (xy (k:=k) hd hl a _ _ h) ⟨λz=>absurd (Wy z) hm,λ_=>rv rfl ?_⟩));nofun;refine rv (fM e hd hl a c hc f.dl h) ?_;nofun
theorem OW(f:zP P)(hn:(placesFrom 0 P.ag)[n]?=some (j,path,r))(c:nV r=l0::ls)(e:ak r=[b])(hl:aA b<=8)(hc:ao b<=1000)(o:Nat)(h:MH):jW [aJ P,.int (n:Int),.int (o:Int)] h=some (.int ((o+if n<=o then 1 else 0:Nat):Int),h):=by
 refine bg (bE ?_);nofun;refine rv (uM f hn c h) ?_;nofun;refine⟨_,rfl,λz=>?_,λz=>?_⟩
 ·have z:(o:Int) < n:=Wy z;nofun;rw[V4 (by lia)];rfl
 ·have z:¬(o:Int) < n:=Y8 z;rw[V1 (by lia)];nofun;refine rv (eO r h) ?_;rw[e,List.map_singleton];refine rv (a:=([some (aJ P),some (.int (n:Int)),some (.int (o:Int)),some (bo j),some (fA path),some (ay r),some (br b),some (.lv [])],h)) rfl ?_;nofun;refine rv (mR 8 b [] h hl hc (by decide)) ?_;nofun;rw[VU,aU];refine⟨_,rfl,λy=>?_,λy=>?_⟩
  ·nofun;rfl
  ·nofun;refine dw ?_;nofun;refine⟨_,_,rfl,?_⟩;refine rv (a:=([],h)) rfl ⟨Xb _,?_⟩;nofun;refine rv (a:=(.int 0,h)) rfl ?_;nofun;rfl
end
section
variable {P:Prog} {n j k:Nat} {st:List (Nat×Nat)} {r:Row} {d:dC} {lot:List Row} {w:D}
theorem Ip:(flat st++[k]).length=2*st.length+1:=by
 rw[Wj,Ba];rfl
theorem LV(m:Nat)(h:MH):zq (.int ((2*m+1:Nat):Int)) (.int 2) h=some (.int (m:Int),h):=by
 show some (D.int _,h)=_;congr 3
 lia
theorem yT(r:Row):D.tup [ay r]=br [r]:=by unfold br;rw[bA];rfl
def EI(P:Prog)(n j k:Nat)(st:List (Nat×Nat))(r:Row)(w:D):DS:=[some (aJ P),some (.int (n:Int)),some (w),some (bo j),some (qa st k),some (ay r),some (.int ((st.length+1:Nat):Int))]
theorem qy(hr:1+bw r<=8)(hc:cnt r<=1000)(h:MH):az (au wC (ar (cf 8) (af (ar bh (af (aw 5) aD)) (af (au aF (aw 6) (eK (.int 1))) aD))) (eK (.int 5))) (EI P n j k st r w) h=some (decide (5 < st.length+2+bw r),h):=by
 have hn:aA [r]=1+bw r:=by rw[aA,aA];simp
 refine bg (fV ?_);unfold EI;nofun;rw[yT,show((st.length+1:Nat):Int)+1=((st.length+2:Nat):Int) by rfl];refine rv (oW 8 [r] _ h (by rw[hn];exact hr) (by rw[ao,ao];exact hc)) ?_;refine rv rfl ⟨_,rfl,?_⟩;rw[hn];congr 1;exact YW.mpr (by lia)
theorem pR(a:zP P)(h:MH):az (au Kl (ar bG (af (ar cb (af (aw 0) aD)) aD)) (eK (.int 60))) (EI P n j k st r w) h=some (decide (60<=bS P.ag),h):=by
 refine bg (fV ?_);unfold EI;nofun;refine rv (iI a h) ?_;nofun;refine⟨_,rfl,?_⟩;rw[VU,show(placesFrom 0 P.ag).length=bS P.ag from bL 0 P.ag];congr 1;exact YW.mpr (by lia)
theorem qb(a:zP P)(hn:(placesFrom 0 P.ag)[n]?=some (j,flat st++[k],r))(h:MH)(q:Q (.nx,[some (aJ P),some (.int (n:Int)),some (w),some (bo j),some (qa st k),some (ay r),none],h)):Rn (ft (ar cY (af (aw 0) (af (aw 1) aD))) (gT 3 (aj (gN 3) (aj (gN 4) (aj (gN 5) bB)))) (entry 7 [aJ P,.int (n:Int),w]) h) Q:=by
 nofun;refine rv (uw a hn h) ?_;nofun;exact q
theorem ve(h:MH)(q:Q (.nx,EI P n j k st r w,h)):Rn (aV 6 (au aF (au zq (ar bG (af (aw 4) aD)) (eK (.int 2))) (eK (.int 1))) [some (aJ P),some (.int (n:Int)),some (w),some (bo j),some (qa st k),some (ay r),none] h) Q:=by
 nofun;refine rv (uz (p:=flat st++[k])) ?_;nofun;rw[Ip];refine rv (LV _ h) ?_;nofun;exact q
theorem Nd(a:zP P)(hn:(placesFrom 0 P.ag)[n]?=some (j,flat st++[k],r))(hr:1+bw r<=8)(hc:cnt r<=1000)(c:5 < st.length+2+bw r\/60<=bS P.ag)(h:MH):dZ [aJ P,.int (n:Int),w] h=some (("NoRow":Str),h):=by
 refine bg (Rl (HD ?_ (Cn ?_)))
 ·exact mF a hn h
 ·refine qb a hn h ⟨rfl,Cn (ve h ⟨rfl,?_⟩)⟩;have b:=qy (P:=P) (n:=n) (j:=j) (k:=k) (st:=st) (r:=r) (w:=w) hr hc h;have e:=pR (n:=n) (j:=j) (k:=k) (st:=st) (r:=r) (w:=w) a h
  by_cases z:5 < st.length+2+bw r
  ·exact HE (ME (rv b ⟨λ_=>Au (cJ (K0 (kK rfl))),λy=>absurd z (Y8 y)⟩))
  ·refine HD ?_ (Cn ?_)
   ·show GU _ _ _ (EI P n j k st r w) h=none;rw[mG b,V4 (by simpa using z)];rfl
   ·show Rn (dQ _ _ _ (EI P n j k st r w) h) _;refine iH (rv b ⟨λy=>absurd (Wy y) z,λ_=>?_⟩);refine rv rfl ⟨rfl,?_⟩;exact HE (ME (rv e ⟨λ_=>Au (cJ (K0 (kK rfl))),λy=>absurd (c.resolve_left z) (Y8 y)⟩))
theorem xE(hd:P.ag[j]?=some d)(c:du [w,.tup (P.names.map D.str),.tup (d.2.1.map D.str)] h=some (.bl b,h)):Sm.cQ (dJ (ar du (af (aw 2) (af (au aX (aw 0) (eK (.int 0))) (af (au aX (au aX (au aX (aw 0) (eK (.int 1))) (aw 3)) (eK (.int 1))) aD))))) (EI P n j k st r w) h=some (!b,h):=by
 refine bg ?_;unfold EI;refine hY (pZ ?_);nofun;refine rv (a:=(.tup (P.names.map D.str),h)) rfl ?_;nofun;refine rv (a:=(.tup (P.ag.map cO),h)) rfl ?_;nofun;refine rv (a:=(cO d,h)) (gx (i:=j) (by rw[Wa,hd];rfl)) ?_;nofun;refine rv (a:=(.tup (d.2.1.map D.str),h)) rfl ?_;nofun;exact rv c ⟨_,rfl,rfl⟩
theorem zV(b:zP P)(hn:(placesFrom 0 P.ag)[n]?=some (j,flat st++[k],r))(hr:1+bw r<=8)(hc:cnt r<=1000)(e:¬5 < st.length+2+bw r)(c:¬60<=bS P.ag)(hd:P.ag[j]?=some d)(i:du [w,.tup (P.names.map D.str),.tup (d.2.1.map D.str)] h=some (.bl true,h)):dZ [aJ P,.int (n:Int),w] h=none:=by
 have g:=qy (P:=P) (n:=n) (j:=j) (k:=k) (st:=st) (r:=r) (w:=w) hr hc h;have f:=pR (n:=n) (j:=j) (k:=k) (st:=st) (r:=r) (w:=w) b h;have m:=bg (a:=(Fl.nx,[some (aJ P),some (.int (n:Int)),some w,some (bo j),some (qa st k),some (ay r),none],h)) (qb b hn h rfl);have l:=bg (a:=(Fl.nx,EI P n j k st r w,h)) (ve h rfl);show Fy 7 _ _ h=none;unfold Fy;refine nE (mF b hn h) ?_;rw[iC m,iC l];refine nE (by rw[mG g,V4 (by simpa using e)];rfl) ?_;rw[iC (bg (a:=(Fl.nx,EI P n j k st r w,h)) (iH (rv g ⟨λy=>absurd (Wy y) e,λ_=>rv rfl rfl⟩)))];refine nE (by rw[mG f,V4 (by simpa using c)];rfl) ?_;rw[iC (bg (a:=(Fl.nx,EI P n j k st r w,h)) (iH (rv f ⟨λy=>absurd (Wy y) c,λ_=>rv rfl rfl⟩)))];rw[mG (xE hd i)];rfl
end
section
variable {P:Prog} {n j k:Nat} {st:List (Nat×Nat)} {r:Row} {d:dC} {lot:List Row} {lk:Lock}
theorem Ku(e:zP P)(hn:(placesFrom 0 P.ag)[n]?=some (j,flat st++[k],r))(hd:P.ag[j]?=some d)(hl:dS d.2.2 st=some lot)(a:st.length < 6)(b:k < lot.length)(c:ao d.2.2<=1000)(hr:1+bw r<=8)(hc:cnt r<=1000)(g:¬5 < st.length+2+bw r)(f:¬60<=bS P.ag)(i:du [aG lk,.tup (P.names.map D.str),.tup (d.2.1.map D.str)] h=some (.bl true,h)):
  fD [aJ P,.int (n:Int),aG lk] h=some (aJ (je P j k [.within lk [r]] st d),h):=by
 have m:=qy (P:=P) (n:=n) (j:=j) (k:=k) (st:=st) (r:=r) (w:=aG lk) hr hc h;have l:=pR (n:=n) (j:=j) (k:=k) (st:=st) (r:=r) (w:=aG lk) e h;refine bg (bE (df (qb e hn h (df (ve h ?_)))));refine df (iH (rv m ⟨λy=>absurd (Wy y) g,λ_=>rv rfl ?_⟩));refine df (iH (rv l ⟨λy=>absurd (Wy y) f,λ_=>rv rfl ?_⟩));refine df (iH (rv (xE hd i) ⟨λy=>(nomatch y),λ_=>rv rfl ?_⟩));unfold EI;nofun;rw[yT,show D.tup [D.tup [D.str (Str.ofString "within"),aG lk,br [r]]]=br [.within lk [r]] by unfold br;rw[bA,bA];show _=D.tup [ay (.within lk [r])];rw[ay,bA]];refine rv (fM (by show 1<=1000;decide) hd hl a b c e.dl h) ?_;nofun
end
def vq(e:x (eV a b) h=none)(c:m (eV a b) h=some (v,h)):eZ rP a qJ x m b h=some (.str "",h):=by
 unfold eZ;rw[e];show(m (eV a b) h).bind _=_;rw[c];show G5 qJ h=_;have e:(qJ [none,some .cu,none,none] h).bind yF=some (.str "",h):=by
  ac_nf
 unfold G5;rw[e];have:=xG (H:=h) (g:=[]) (d:=.str "") (λn=>by simp) rfl;rw[WW] at this;exact this
abbrev Rf(a b c:Nat):EM:=eZ rP [some a,some b,some c] qJ (Ki dZ (af (aw 2) (af (aw 1) (af (aw 0) aD)))) (ar fD (af (aw 2) (af (aw 1) (af (aw 0) aD))))
section
variable {P:Prog} {z:Int} {w:D} {δ:DS} {a b c:Nat} {h:MH}
theorem KW(d:eV [some a,some b,some c] δ=[some w,some (.int z),some (aJ P)])(e:dZ [aJ P,.int z,w] h=some (("NoRow":Str),h)):Rf a b c δ h=some (.str "NoRow",h):=
 xV (by rw[d];exact bg (MF (rv (a:=([aJ P,.int z,w],h)) rfl (rv e rfl))))
theorem Hz(d:eV [some a,some b,some c] δ=[some w,some (.int z),some (aJ P)])(e:dZ [aJ P,.int z,w] h=none)(f:fD [aJ P,.int z,w] h=some (v,h)):Rf a b c δ h=some (.str "",h):=
 vq (v:=v) (by rw[d];exact e) (by rw[d];exact f)
end
end Mi
namespace Sm
open PySem L2
theorem vi(A f:α->D):∀(a:List α)(o:Option D),(∀x∈a,e (some (A x)::t) h=some (f x,h))->bJ [] (gN 0) bY e (a.map A) (o::t) h=some (a.map f,h)
 | [],o,_=>rfl
 | x::r,o,b=>by
  have g:e (some (A x)::t) h=some (f x,h):=b x V3;have d:=vi A f r (some (A x)) λy c=>b y (V5 _ c);show((e (some (A x)::t) h).bind λy=>(bJ [] (gN 0) bY e (r.map A) (some (A x)::t) y.2).map λz=>(y.1::z.1,z.2))=_;rw[g];show((bJ [] (gN 0) bY e (r.map A) (some (A x)::t) h).map λz=>(f x::z.1,z.2))=_;rw[d];rfl
end Sm
namespace Mi
open PySem Sm L2 Pg
def Dp.tm(t:Term):Dp 1 (bC t):=Dp.tup (n:=0) (dI.cons (Dp.str _) (dI.cons (Dp.int _) dI.nil))
def Dp.lk(l:Lock):Dp 2 (aG l):=Dp.tup (n:=1) (dI.cons (Dp.str _) (dI.cons (Dp.tm _) dI.nil))
def dI.up(h:dI n xs)(hm:n<=m):dI m xs:=let⟨p,a,b,c⟩:=h;⟨p,a,V2 b hm,c⟩
def Jt(h:dI n (cm l)):Dp (n+1) (.tup (cm l)):=Dp.tup h
mutual
theorem VI:∀r:Row,Dp (4+2*bw r) (ay r)
 | .say w=>by rw[ay];exact(Dp.tup (n:=0) (dI.cons (Dp.str _) (dI.cons (Dp.str _) dI.nil))).up (by exact Nat.succ_pos _)
 | .call d f=>by rw[ay];exact(Dp.tup (n:=2) (dI.cons (Dp.str _) (dI.cons (Dp.str _) (dI.cons (Dp.tup (dI.map λt _=>Dp.tm t)) dI.nil)))).up (by exact X3 _)
 | .within l b=>by rw[ay,bw];exact(Dp.tup (n:=3+2*aA b) (dI.cons (Dp.str _) (dI.cons ((Dp.lk l).up (by lia)) (dI.cons ((Jt (sF b)).up (by lia)) dI.nil)))).up (by lia)
 | .all ls b=>by rw[ay,bw];exact(Dp.tup (n:=3+2*aA b) (dI.cons (Dp.str _) (dI.cons ((Dp.tup (dI.map λl _=>Dp.lk l)).up (by simp)) (dI.cons ((Jt (sF b)).up (by lia)) dI.nil)))).up (by lia)
 | .ask l b e=>by rw[ay,bw];exact(Dp.tup (n:=3+2*max (aA b) (aA e)) (dI.cons (Dp.str _) (dI.cons ((Dp.lk l).up (by lia)) (dI.cons ((Jt (sF b)).up (by lia)) (dI.cons ((Jt (sF e)).up (by lia)) dI.nil))))).up (by lia)
 | .j9 s t a b c=>by rw[ay,bw];exact(Dp.tup (n:=3+2*max (aA a) (max (aA b) (aA c))) (dI.cons (Dp.str _) (dI.cons ((Dp.tm s).up (by lia)) (dI.cons ((Dp.tm t).up (by lia)) (dI.cons ((Jt (sF a)).up (by lia)) (dI.cons ((Jt (sF b)).up (by lia)) (dI.cons ((Jt (sF c)).up (by lia)) dI.nil))))))).up (by lia)
 | .either a b=>by rw[ay,bw];exact(Dp.tup (n:=3+2*max (aA a) (aA b)) (dI.cons (Dp.str _) (dI.cons ((Jt (sF a)).up (by lia)) (dI.cons ((Jt (sF b)).up (by lia)) dI.nil)))).up (by lia)
 | .again a=>by rw[ay,bw];exact(Dp.tup (n:=3+2*aA a) (dI.cons (Dp.str _) (dI.cons ((Jt (sF a)).up (by lia)) dI.nil))).up (by lia)
theorem sF:∀l:List Row,dI (2+2*aA l) (cm l)
 | []=>by rw[cm];exact dI.nil
 | r::rs=>by
  rw[cm,aA];exact dI.cons ((VI r).up (by lia)) ((sF rs).up (by lia))
end
def sR(a:zP P)(h:MH):iY (aJ P) (aJ P) h=some (.bl false,h):=by
 refine F3 (Dp.tup (n:=63) (dI.cons ((Dp.tup (n:=0) (dI.map λw _=>Dp.str w)).up (by decide)) (dI.cons ((Dp.tup (n:=40) (dI.map λd hd=>?_)).up (by decide)) dI.nil)));have:=a.nd d hd;exact(Dp.tup (n:=3+2*aA d.2.2) (dI.cons (Dp.str _) (dI.cons ((Dp.tup (n:=0) (dI.map λw _=>Dp.str w)).up (by lia)) (dI.cons ((Jt (sF d.2.2)).up (by lia)) dI.nil)))).up (by lia)
def Jm(a:dI 0 xs):cp (.lv xs) (.lv xs) h=some (.bl true,h):=by
 obtain⟨p,d,b,c⟩:=Dp.lv (n:=63) (a.up (by decide));show(Km (.lv xs) (.lv xs) h).map _=_;unfold Km;show(((ur (.lv xs)).bind λa=>(ur (.lv xs)).bind _).map _)=_;rw[d];show((if p.depth<=64/\p.depth<=64 then some (PyData.eqv p p) else none).map _)=_;rw[V1 ⟨b,b⟩,c];rfl
def Fw{W:Wd}{m:Nat}{P:Prog}(o:BG W m P){w:Str}:w∈P.names↔w∈W.names:=by rw[o.nm];exact(cg W.names).mem_iff
def Ff{W:Wd}{fl:List Int}{odd:Int}{m N:Nat}{P:Prog}{lk:Lock}(ok:vB W fl odd)(o:BG W m P)(hm:m<=60)(hN:N < bS P.ag)(f:lk.1∈P.names)(ht:∀G,cX G lk.2)(h:MH):gn [aJ P,.int (N:Int),aG lk] h=some (.bl true,h):=by
 have fit:=o.fit (by exact V2 hm (by decide)) ok.d2;obtain⟨j,st,k,c,r,d,A⟩:=at_of hN;obtain⟨J,Q,O,M,F,L⟩:=Bv o A;have E:=yO (h:=h) f (ht d.2.1);have s:bS P.ag<=m:=o.ct
 by_cases big:5 < st.length+2+bw r\/60<=bS P.ag
 ·refine bg (bE ?_);nofun;refine rv (KW (P:=P) (z:=(N:Int)) (w:=aG lk) rfl (Nd fit A.place (by lia) (by lia) big h)) ?_;nofun;refine⟨true,by ac_nf,λ_=>?_,λy=>(nomatch y)⟩;nofun
 ·have v:¬5 < st.length+2+bw r:=λy=>big (.inl y);have u:¬60<=bS P.ag:=λy=>big (.inr y);have C:=Ku (lk:=lk) fit A.place A.hd A.hl (by clear big;lia) F (by lia) (by lia) (by lia) v u E;have p:=zV fit A.place (by lia) (by lia) v u A.hd E;have I:=A.cnt (q:=.within lk [r]);have H:cnt (.within lk [r])=1+cnt r:=by rw[cnt,ao,ao,Nat.add_zero]
  have l:BG W 60 (je P j k [.within lk [r]] st d):=IC o A (by show c.length-1+1<=12;lia) (by
   rw[ba,ba,aW];refine⟨⟨⟨(Fw o).mp f,ht d.2.1⟩,by clear big;lia,by show 1<=12;decide,?_⟩,trivial⟩;exact yY _ (1+st.length) _ [r] (VZ _) (kU λx p=>by rw[Wg.mp p];exact J) (by rw[aA,aA];lia)) (by clear big s;lia)
  have a:=l.fit (by decide) ok.d2;have i:=A.put (q:=.within lk [r]);have e:=mH a i.place (l0:=lk) (ls:=[]) rfl (b:=[r]) (gone:=[]) rfl i.hd i.hl (by clear big;lia) (by rw[Xa];exact F) (by
   have:=(Bv l i).2.2.2.2.2;exact V2 this (by decide)) (by show 1<=1000;decide) (by rw[Xa];show ¬12 < (c.length:Int)-1+1;lia) h
  rw[A.put2,A.Oj] at e;refine bg (bE ?_);nofun;refine rv (Hz (P:=P) (z:=(N:Int)) (w:=aG lk) rfl p C) ?_;nofun;refine⟨false,by ac_nf,λy=>(nomatch y),λ_=>?_⟩;nofun;refine rv C ?_;nofun;refine rv (xh ok l (by decide)) ⟨true,rfl,λy=>(nomatch y),λ_=>?_⟩;nofun;refine rv e ?_;nofun;refine rv (sR fit h) ⟨false,rfl,λy=>(nomatch y),λ_=>?_⟩;nofun;refine hZ ?_;nofun;refine rv (pS fit h) ?_;nofun;have g:((placesFrom 0 P.ag).map rowAt).length=bS P.ag:=by rw[VU,bL];rfl
  refine⟨(bS P.ag:Int),by rw[g],by simp,by lia,?_⟩;rw[X5];refine rv (vi (t:=[some (aJ (je P j k [.within lk [r]] st d)),some (.int (N:Int))]) (λk:Nat=>D.int (k:Int)) (λk:Nat=>D.int ((k+if N<=k then 1 else 0:Nat):Int)) (List.range (bS P.ag)) none λx _=>?_) ⟨by rw[VU,Wv,show sizeLine=16777216 from rfl];lia,?_⟩
  ·refine bg ?_;nofun;refine rv (OW a i.place (l0:=lk) (ls:=[]) rfl (b:=[r]) rfl (by rw[aA,aA];lia) (by rw[ao,ao];lia) x h) ?_;nofun
  nofun;refine hZ ?_;nofun;refine⟨(bS P.ag:Int),by rw[VU,Wv],by simp,by lia,?_⟩;rw[X5];refine rv (vi (t:=[some (.int (N:Int))]) (λk:Nat=>D.int (k:Int)) (λk:Nat=>D.int ((k+if N<=k then 1 else 0:Nat):Int)) (List.range (bS P.ag)) none λx _=>?_) ⟨by rw[VU,Wv,show sizeLine=16777216 from rfl];lia,?_⟩
  ·refine bg ?_;nofun
   by_cases z:N<=x
   ·rw[WB (show(N:Int)<=x by exact Int.ofNat_le.mpr z),V1 z];exact rv rfl (rv rfl rfl)
   ·rw[WM (show ¬(N:Int)<=x by lia),V4 z];exact rv rfl (rv rfl rfl)
  nofun;refine rv (Jm (dI.map (n:=0) λx _=>Dp.int _)) ?_;nofun
def Gu(lk:Lock)(b:List Row)(h:MH):vJ [ay (.within lk b)] h=some (ay (.ask lk b []),h):=by
 rw[ay,ay];refine bg (bE ?_);nofun;rfl
def Tp(P:Prog)(n:Nat):Prop:=∃j st k a lk b d,At P n j st k a (.within lk b) d
def k8{W:Wd}{fl:List Int}{odd:Int}{m:Nat}{P:Prog}(ok:vB W fl odd)(o:BG W m P)(hm:m<=60){L:List Nat}(nd:L.Nodup)(C:∀n∈L,Tp P n)(hl:L.length<=1000)(h:MH):cj [aJ P,.tup (L.map bo)] h=some (aJ (Bw (λx=>decide (x∈L)) P),h):=by
 have G:Bw (λx=>decide (x∈L.take 0)) P=P:=JU λx=>by simp
 refine bg (bE ?_);nofun;refine dw ?_;nofun;refine⟨_,_,rfl,?_⟩;refine dR (λi p c=>∃(v3 v4 v5 v6:Option D),p=[some (aJ P),some (.tup (L.map bo)),some (aJ (Bw (λx=>decide (x∈L.take i)) P)),v3,v4,v5,v6]/\c=h)
  ⟨_,_,_,_,by rw[G];rfl,rfl⟩ (λ_ _ _ _ _=>rfl) ?_ ?_
 ·rintro i x p c t ⟨v3,v4,v5,v6,rfl,rfl⟩;rw[Wa] at t;obtain⟨n,q,rfl⟩:=Wl.mp t;obtain⟨j,st,k,w,lk,b,d,A⟩:=C n (VX q);have J:i < L.length:=(VW.mp q).1;have g:L.take (i+1)=L.take i++[n]:=by rw[Zh,q];rfl
  have l:n∉L.take i:=by
   have:=nd.sublist (Zg (i+1) L);rw[g,X4] at this;exactλz=>this.2.2 n z n (Wg.mpr rfl) rfl
  have F:(λx=>decide (x∈L.take (i+1)))=λx=>(decide (x∈L.take i)||x==n):=by
   funext x
   rw[g];simp[Bool.decide_or];rfl
  obtain⟨s,E,e⟩:=A.as (f:=λx=>decide (x∈L.take i));have I:cP (λx=>decide (x∈L.take i)) n (.within lk b)=.within lk (fh (λx=>decide (x∈L.take i)) (n+1) b):=by
   rw[cP,V4 (by simpa using l)]
  rw[I] at e;have r:=D1 (f:=λx=>decide (x∈L.take i)) o;have a:=r.fit (by exact V2 hm (by decide)) ok.d2;obtain⟨R,Q,O,N,H,M⟩:=Bv r e;have u:=e.ask;rw[JV,<-F] at u;generalize fh (λx=>decide (x∈L.take i)) (n+1) b=v at*;nofun;refine rv (uw a e.place c) ?_;nofun;refine rv (pT (.within lk v) c) ?_;nofun;refine⟨false,by ac_nf,λy=>(nomatch y),λ_=>?_⟩;nofun;refine rv (Gu lk v c) ?_;nofun;rw[yT];refine rv (fM (by show 1<=1000;decide) e.hd e.hl (by lia) H (by lia) a.dl c) ?_;nofun;rw[u];exact⟨_,_,_,_,rfl,rfl⟩
 ·rintro p c ⟨v3,v4,v5,v6,rfl,rfl⟩;rw[VU,WT];nofun
noncomputable def IU:Row->Bool
 | .within _ _=>true
 | _=>false
def iD:Nat->List (Nat×List Nat×Row)->List Nat
 | _,[]=>[]
 | k,x::xs=>if IU x.2.2=true then k::iD (k+1) xs else iD (k+1) xs
theorem tF:∀{a:List (Nat×List Nat×Row)} {k n:Nat},n∈iD k a->∃i x,a[i]?=some x/\IU x.2.2=true/\n=k+i
 | [],k,n,h=>by simp[iD] at h
 | y::a,k,n,h=>by
  have b:n∈iD (k+1) a->_:=λc=>let⟨i,x,e,d,f⟩:=tF c;(⟨i+1,x,e,d,by lia⟩:∃i,∃x:Nat×List Nat×Row,(y::a)[i]?=some x/\IU x.2.2=true/\n=k+i);rw[iD] at h
  split at h
  ·rename_i z;rcases Wh.mp h with h | h
   ·exact⟨0,y,rfl,z,h⟩
   ·exact b h
  ·exact b h
theorem tE:∀(c:List (Nat×List Nat×Row)) (k:Nat),(iD k c).Nodup/\(iD k c).length<=c.length
 | [],k=>⟨Zx,VZ _⟩
 | y::c,k=>by
  obtain⟨a,b⟩:=tE c (k+1);rw[iD]
  split
  ·refine⟨X0.mpr ⟨λz=>?_,a⟩,by rw[V9,V9];exact X7 b⟩;obtain⟨i,x,f,e,d⟩:=tF z
   lia
  ·exact⟨a,by rw[V9];exact YM b⟩
abbrev VG:GM:=gT 2 (aj (gN 0) (aj (gT 2 (aj (gN 1) (aj (gN 2) bB))) bB))
abbrev Tz:TM:=az (au cp (au aX (aw 2) (eK (.int 0))) (eK (.str "within")))
theorem wK:∀(a:List (Nat×List Nat×Row)) (k:Nat) (o0 o1 b:Option D),bJ [] VG Tz (aw 0) (j8 k (a.map rowAt)) [o0,o1,b] h=some ((iD k a).map bo,h)
 | [],k,o0,o1,b=>rfl
 | y::a,k,o0,o1,b=>by
  have c:=wK (h:=h) a (k+1) (some (bo k)) (some (bo y.1)) (some (ay y.2.2));have d:Tz [some (bo k),some (bo y.1),some (ay y.2.2)] h=some (IU y.2.2,h):=by
   refine bg (fV ?_);nofun;refine rv (pT y.2.2 h) ?_;nofun;generalize y.2.2=r;cases r <;> exact⟨_,rfl,by ac_nf⟩
  rw[V6,j8,iD];unfold bJ;rw[V1 (show mB [] h=true from rfl)];show((Tz [some (bo k),some (bo y.1),some (ay y.2.2)] h).bind _)=_;rw[d];cases IU y.2.2 with
  | true=>exact congrArg (Option.map λw=>(bo k::w.1,w.2)) c
  | false=>exact c
def Ng:n∈iD 0 (placesFrom 0 P.ag)->Tp P n:=λh=>by
 obtain⟨i,x,e,g,c⟩:=tF h;have f:n < bS P.ag:=by
  have:=(VW.mp e).1;rw[bL] at this;show n < _;rw[c,Xf];exact this
 obtain⟨j,st,k,a,r,d,A⟩:=at_of f;have hp:=A.place;rw[c,Xf,e] at hp;cases hp;cases r with
 | within lk b=>exact⟨j,st,k,a,lk,b,d,A⟩
 | _=>cases g
theorem Ax:∀b:List Nat,kl (b.map bo)=some (b.map λ(n:Nat)=>PyData.int (n:Int))
 | []=>rfl
 | k::r=>by
  show(ur (bo k)).bind (λa=>(kl (r.map bo)).map λbs=>a::bs)=_;rw[Ax r];rfl
theorem vd:∀b:List Nat,PyData.depthAll (b.map λ(n:Nat)=>PyData.int (n:Int))<=2
 | []=>by simp[PyData.depthAll]
 | k::r=>by
  have:=vd r;simp only[V6,PyData.depthAll,PyData.depth]
  lia
def Jh(l:Nat)(b:List Nat)(h:MH):GH (bo l) (.tup (b.map bo)) h=some (.bl (decide (l∈b)),h):=by
 have c:inD (bo l) (.tup (b.map bo)) h=some (decide (l∈b)):=by
  show((kl (b.map bo)).bind λbs=>if(PyData.int (l:Int)).depth<=60/\PyData.depthAll bs<=60 then some (bs.any λx=>PyData.eqv x (.int (l:Int))) else none)=_;rw[Ax];show(if(PyData.int (l:Int)).depth<=60/\PyData.depthAll (b.map λ(n:Nat)=>PyData.int (n:Int))<=60 then some ((b.map λ(n:Nat)=>PyData.int (n:Int)).any λx=>PyData.eqv x (.int (l:Int))) else none)=_;rw[V1 ⟨by simp[PyData.depth],V2 (vd b) (by decide)⟩,List.any_map];congr 1;rw[X2,Yx,decide_eq_true_iff];constructor
  ·rintro⟨x,a,e⟩;have e:((x:Int)==(l:Int))=true:=e;have:x=l:=by have:=eq_of_beq e;lia
   exact this ▸ a
  ·intro a;exact⟨l,a,by show((l:Int)==(l:Int))=true;simp⟩
 unfold GH;rw[c];rfl
def CO(l:Nat)(b:List Nat)(h:MH):ir (bo l) (.tup (b.map bo)) h=some (.bl (!decide (l∈b)),h):=by
 have e:=Jh l b h;unfold GH at e;unfold ir;revert e;cases inD (bo l) (.tup (b.map bo)) h with
 | none=>intro e;cases e
 | some c=>intro e;cases e;rfl
abbrev TJ:TM:=az (au ir (aw 0) (aw 1))
theorem xc(S:List Nat):∀(a:List Nat)(o:Option D),bJ [] (gN 0) TJ (aw 0) (a.map bo) [o,some (.tup (S.map bo))] h=some ((a.filter λx=>!decide (x∈S)).map bo,h)
 | [],o=>rfl
 | x::a,o=>by
  have b:=xc S (h:=h) a (some (bo x));have c:TJ [some (bo x),some (.tup (S.map bo))] h=some (!decide (x∈S),h):=by
   refine bg (fV ?_);nofun;exact rv (CO x S h) ⟨_,rfl,rfl⟩
  rw[V6,List.filter_cons];unfold bJ;rw[V1 (show mB [] h=true from rfl)];show((TJ [some (bo x),some (.tup (S.map bo))] h).bind _)=_;rw[c];cases !decide (x∈S) with
  | true=>exact congrArg (Option.map λw=>(bo x::w.1,w.2)) b
  | false=>exact b
abbrev G6:TM:=az (au cp (ar aS (af (aw 1) (af (eK (.int 2)) aD))) (eK (.int 0)))
theorem xN:∀(a:List Nat)(R:Nat)(o:Option D)(h:MH),Sb 1 0 cs H (R+a.length) h->Rn (bJ [] (gN 0) G6 (aw 0) (a.map bo) [o,some (.ob 1)] h) λp=>∃S:List Nat,p.1=S.map bo/\S.Sublist a/\Sb 1 0 cs H R p.2
 | [],R,o,h,A=>⟨_,rfl,[],rfl,List.Sublist.refl _,A⟩
 | x::a,R,o,h,A=>by
  have b:Rn (G6 [some (bo x),some (.ob 1)] h) λp=>Sb 1 0 cs H (R+a.length) p.2:=by
   refine fV ?_;nofun;refine fQ (R:=R+a.length) (A.le (by rw[V9];lia)) (by decide) (by decide) λm e _ _ d=>?_;nofun;exact⟨_,rfl,d⟩
  obtain⟨⟨c,e⟩,b,d⟩:=b;obtain⟨⟨i,j⟩,f,S,rfl,hs,g⟩:=xN a R (some (bo x)) e d;rw[V6];unfold bJ;rw[V1 (show mB [] h=true from rfl)];show Rn ((G6 [some (bo x),some (.ob 1)] h).bind _) _;rw[b];cases c with
  | true=>exact⟨_,congrArg (Option.map λw:List D×MH=>(bo x::w.1,w.2)) f,x::S,rfl,hs.cons₂ x,g⟩
  | false=>exact⟨_,f,S,rfl,hs.cons x,g⟩
theorem DT(hr:a[k]?=some r):∀(st:List (Nat×Nat)) (l:List Row),dS l st=some a->ao (putAt k z st l)+cnt r=ao l+ao z
 | [],l,e=>by
  cases e;obtain⟨x,y,rfl,rfl⟩:=a8 hr;rw[ib,b7,b7,b7,ao]
  lia
 |(i,j)::st,l,e=>by
  obtain⟨t,n,m⟩:=bq e;obtain⟨d,h,g⟩:=bq n;obtain⟨x,y,rfl,rfl⟩:=a8 h;obtain⟨u,v,c,rfl⟩:=a8 g;have o:=DT (z:=z) hr st t m;obtain⟨f,_⟩:=tL c (putAt k z st t);have hc:=dW d;have b:=dW (cA d u.length (putAt k z st t));rw[c,Wq,W3,V6,WO] at hc;rw[f,Wq,W3,V6,WO] at b;rw[ia c,b7,b7,ao,ao]
  lia
def OK{W:Wd}{fl:List Int}{odd:Int}{m:Nat}{P:Prog}(ok:vB W fl odd)(o:BG W m P)(hm:m<=60){n:Nat}(u:Tp P n)(h:MH):dY [aJ P,bo n] h=some (("NoRow":Str),h)\/
  (dY [aJ P,bo n] h=none/\∃Q,zP Q/\b9 [aJ P,bo n] h=some (aJ Q,h)/\b9 [aJ (Bw (λx=>decide (x∈[n])) P),bo n] h=some (aJ Q,h)):=by
 obtain⟨j,st,k,i,lk,b,d,A⟩:=u;have fit:=o.fit (by exact V2 hm (by decide)) ok.d2;obtain⟨G,R,O,F,r,N⟩:=Bv o A;obtain⟨M,L,p3⟩:=gY.mp G;obtain⟨s,J⟩:=p3 b (.head _);have c:=EH fit A.place (l0:=lk) (ls:=[]) rfl (b:=b) (gone:=[]) rfl A.hd A.hl (by lia) h
 by_cases z:12 < (i.length:Int)-1+(b.length:Int)
 ·rw[V1 z] at c;exact .inl c
 ·rw[V4 z] at c;have l:(λx=>decide (x∈[n]))=λx=>x==n:=by funext x;simp;rfl
  have g:=D1 (f:=λx=>decide (x∈[n])) o;rw[l,<-A.ask] at g;have a:=g.fit (by exact V2 hm (by decide)) ok.d2;have e:=A.put (q:=.ask lk b []);have E:=mH fit A.place (l0:=lk) (ls:=[]) rfl (b:=b) (gone:=[]) rfl A.hd A.hl (by lia) r (by lia) (by exact V2 s (by decide)) z h;have p:=mH a e.place (l0:=lk) (ls:=[]) rfl (b:=b) (gone:=[[]]) rfl e.hd e.hl (by lia) (by rw[Xa];exact r) (by
   have:=(Bv g e).2.2.2.2.2
   lia) (by exact V2 s (by decide)) (by rw[Xa];exact z) h
  rw[A.put2] at p;refine .inr ⟨c,je P j k b st d,?_,E,by rw[l,<-A.ask];exact p⟩;have C:ao b<=m:=by rw[cnt] at F;lia
  have w:aA b<=bw (.within lk b):=eJ (.head _);have t:BG W 1000 (je P j k b st d):=IC o A (by lia) (yY _ _ _ b (VZ _) J (by lia)) (by
   obtain⟨x,y,I,S,H⟩:=gX (k:=k) (st:=st) (z:=b) A.hd;have:=DT (z:=b) A.hr st d.2.2 A.hl;have v:bS P.ag<=m:=o.ct;rw[H,oZ,cC];rw[I,oZ,cC] at v;dsimp only
   lia)
  exact t.fit (by decide) ok.d2
def Sj(S:St s c cs (R+6200) h)(C:Cl h)(k:∀(W:Wd)(fl:List Int)(odd:Int)(m:Nat)(P:Prog)(a:MH),m<=60->vB W fl odd->BG W m P->Sb s c cs h R a->Cl a->Q (aJ P,a)):Rn (nC [.ob s] h) Q:=by
 refine bE ?_;nofun;refine mC (R:=R+6198+1) (is:=[4,8,12,20,40,60]) (λi=>0<=i/\i<=60) (by decide) S.sb λf a hm _ n=>?_;nofun;refine mC (R:=R+6198) (is:=[0,2,5,9]) (λi=>0<=i/\i<=9) (by decide) n λodd o g _ e=>?_;nofun;obtain⟨m,rfl⟩:=Xy hm.1;refine Gp (R:=R) (e.le (by lia)) (C.but e.S e.b) g.1 (by exact Xi g.2 (by decide)) λW fl P h3 ok d l j=>?_;nofun;exact k W fl odd m P h3 (by exact Int.ofNat_le.mp hm.2) ok d l j
def VS(cs:List Int):Cl [.lst (cs.map D.int),.lst [.int 0,.ob 0,.int 0]]:=by
 intro o a;rcases Wh.mp a with rfl | a
 ·exact gb _ D.int (λ_=>rfl) _
 ·rw[Wg.mp a];rfl
def law_true(ns:List Int)(hn:ns.length<=63):∃l,BD [.ro (ns.map D.int)] []=some (.bl true,l):=by
 have e:Rn (BD [.ro (ns.map D.int)] []) λp=>p.1=.bl true:=by
  obtain⟨cs,ed,S0⟩:=Di ns hn 20000 (by decide);refine bE ?_;nofun;refine rv ed ?_;nofun;refine hZ ?_;nofun;refine⟨2,rfl,by decide,by decide,?_⟩;refine dR (λi g h=>∃(v2 v3 v4 v5 v6 v7 v8 v9 v10:Option D),g=[some (.ro (ns.map D.int)),some (.ob 1),v2,v3,v4,v5,v6,v7,v8,v9,v10]/\St 1 0 cs (20000-6600*i) h/\Cl h)
   ⟨_,_,_,_,_,_,_,_,_,rfl,S0,VS cs⟩ (λ_ _ _ _ _=>rfl) ?_ ?_
  ·rintro i x g h hx ⟨v2,v3,v4,v5,v6,v7,v8,v9,v10,rfl,S,C⟩;have hi:i < 2:=by
    have:=(VW.mp hx).1
    simpa using this
   nofun;refine Sj (R:=20000-6600*(i+1)+400) (S.le (by lia)) C λW fl odd m P h1 hm ok o A1 C1=>?_;have fit:=o.fit (by exact V2 hm (by decide)) ok.d2;have h60:bS P.ag<=60:=V2 o.ct hm;have hnl:P.names.length=W.names.length:=by rw[o.nm,(cg W.names).length_eq]
   have hn1:=ok.n1;have hn2:=ok.n2;have E:(placesFrom 0 P.ag).length=bS P.ag:=bL 0 P.ag;nofun;refine rv (pS fit h1) ?_;nofun;refine hZ ?_;nofun;refine⟨bS P.ag,by rw[VU,E],by simp,by lia,?_⟩;refine dR (λn g h=>∃(v5 v6:Option D),g=[some (.ro (ns.map D.int)),some (.ob 1),some x,some (aJ P),some (.tup ((placesFrom 0 P.ag).map rowAt)),v5,v6,v7,v8,v9,v10]/\Sb 1 0 cs h1 (20000-6600*(i+1)+100+2*(60-n)) h)
    ⟨_,_,rfl,A1.S.sb.le (by lia)⟩ (λ_ _ _ _ _=>rfl) ?_ ?_
   ·rintro n y g l s ⟨v5,v6,rfl,N⟩;rw[Wa] at s;obtain⟨q,eq,rfl⟩:=Wl.mp s;have F:n < bS P.ag:=by have:=(VW.mp eq).1;simpa using this
    obtain rfl:q=n:=by
     have:=(VW.mp eq).2
     simpa using this.symm
    nofun;refine rv (a:=(.tup (P.names.map D.str),l)) rfl ?_;nofun;refine JL (R:=20000-6600*(i+1)+100+2*(60-(q+1))+1) (N.le (by lia)) (.inr rfl) (by rw[VU];lia) (by rw[VU];lia) λw0 h4 X I=>?_;obtain⟨w,hw,rfl⟩:=Ww.mp X;nofun;refine fQ (R:=20000-6600*(i+1)+100+2*(60-(q+1))) I (by decide) (by decide) λr1 h5 r0 r9 r=>?_;nofun;refine rv (Ff ok o hm F (lk:=(w,(Str.ofString "",r1-4))) hw (λps=>⟨.inl rfl,by dsimp only;lia,by dsimp only;lia⟩) h5) ⟨true,rfl,λy=>(nomatch y),λ_=>?_⟩;nofun;exact⟨_,_,rfl,r⟩
   ·rintro g l ⟨v5,v6,rfl,N⟩;have I:Sb 1 0 cs h1 (20000-6600*(i+1)+100) l:=N.le (by lia);have C4:=C1.but I.S I.b;clear N;obtain⟨O,wl⟩:=tE (placesFrom 0 P.ag) 0;have J:∀n∈iD 0 (placesFrom 0 P.ag),Tp P n:=λn=>Ng;have wc:bJ [] _ _ _ _ _ l=_:=wK (placesFrom 0 P.ag) 0 none none none;generalize iD 0 (placesFrom 0 P.ag)=ws at*;nofun;refine oj ?_;nofun;refine⟨_,_,_,rfl,rfl,?_⟩;refine rv wc ⟨by rw[VU,show sizeLine=16777216 from rfl];lia,?_⟩;nofun;refine dw ?_;nofun;refine⟨_,_,rfl,?_⟩;refine(xN ws (20000-6600*(i+1)) none l (I.le (by lia))).imp ?_;rintro⟨_,c⟩ ⟨S,rfl,hs,r⟩;dsimp only at r ⊢;have hsl:=hs.length_le;refine⟨by rw[VU,show sizeLine=16777216 from rfl];lia,?_⟩;have C5:=C1.but r.S r.b;nofun;refine rv (a:=(.tup (S.map bo),c)) rfl ?_;nofun;refine dw ?_;nofun;refine⟨_,_,rfl,?_⟩;refine rv (xc S ws none) ⟨by rw[VU,show sizeLine=16777216 from rfl];have:=Aaq (λx=>!decide (x∈S)) ws;lia,?_⟩;nofun;refine rv (a:=(.tup ((ws.filter λx=>!decide (x∈S)).map bo),c)) rfl ?_;nofun;have M:∀n,n∈ws.filter (λx=>!decide (x∈S))↔n∈ws/\n∉S:=λn=>by simp[ZV]
    have hTl:=Aaq (λx=>!decide (x∈S)) ws;have hTn:=O.filter (λx=>!decide (x∈S));generalize ws.filter (λx=>!decide (x∈S))=T at*;have e1:=k8 ok o hm (hs.nodup O) (λn hn=>J n (hs.subset hn)) (by lia) c;have U:=D1 (f:=λx=>decide (x∈S)) o;have H:=U.fit (by exact V2 hm (by decide)) ok.d2;have e2:=k8 ok U hm hTn (λn hn=>by
     obtain⟨j,st,k,lot,lk,b,d,A⟩:=J n ((M n).mp hn).1;obtain⟨lot',hl',A'⟩:=A.as (f:=λx=>decide (x∈S));rw[cP,V4 (by simpa using ((M n).mp hn).2)] at A';exact⟨_,_,_,_,_,_,_,A'⟩) (by lia) c
    have e3:=k8 ok o hm O J (by lia) c;have e4:=k8 ok o hm (L:=[]) Zx (λn hn=>nomatch hn) (by decide) c;rw[JU λx=>by simp] at e4;have hu:(λm=>(decide (m∈S)||decide (m∈T)))=λm=>decide (m∈ws):=by
     funext m
     rw[<-Bool.decide_or];refine YW.mpr ⟨λz=>z.elim (λz=>hs.subset z) (λz=>((M m).mp z).1),λz=>?_⟩
     by_cases y:m∈S
     ·exact .inl y
     ·exact .inr ((M m).mpr ⟨z,y⟩)
    rw[JV,hu] at e2;have G:=(D1 (f:=λx=>decide (x∈ws)) o).fit (by exact V2 hm (by decide)) ok.d2;have Z:bS (Bw (λx=>decide (x∈S)) P).ag=bS P.ag:=(tu P.ag 0).2;have Y:(placesFrom 0 (Bw (λx=>decide (x∈S)) P).ag).length=bS P.ag:=(bL 0 _).trans Z;have qL:=xh ok U hm (h:=c);generalize Bw (λx=>decide (x∈S)) P=L at*;refine rv e1 ?_;nofun;refine rv e2 ?_;nofun;refine rv (a:=(.tup (ws.map bo),c)) rfl ?_;nofun;refine rv e3 ?_;nofun;refine rv (sR G c) ⟨false,rfl,λy=>(nomatch y),λ_=>?_⟩;nofun;refine rv qL ⟨true,rfl,λy=>(nomatch y),λ_=>?_⟩;nofun;refine rv e4 ?_;nofun;refine rv (sR fit c) ⟨false,rfl,λy=>(nomatch y),λ_=>?_⟩;nofun;refine rv (pS H c) ?_;nofun;refine⟨false,by rw[VU,VU,Y,E,Xm];rfl,λy=>(nomatch y),λ_=>?_⟩;nofun;refine dw ?_;nofun;refine⟨_,_,rfl,?_⟩;refine dR (λ_ g h=>∃(u:Option D),g=[some (.ro (ns.map D.int)),some (.ob 1),some x,some (aJ P),some (.tup ((placesFrom 0 P.ag).map rowAt)),u,v6,some (.lv (ws.map bo)),some (.tup (S.map bo)),some (.tup (T.map bo)),some (aJ L)]/\h=c)
     ⟨_,rfl,rfl⟩ (λ_ _ _ _ _=>rfl) ?_ ?_
    ·rintro i' y g h3 s ⟨u,rfl,rfl⟩;rw[Wa] at s;obtain⟨n,en,rfl⟩:=Wl.mp s;have t:=J n (VX en);nofun;rcases OK ok o hm t h3 with g1 |⟨g1,Q,fq,g2,g3⟩
     ·refine rv (xV (bg (MF (rv (a:=([aJ P,bo n],h3)) rfl (rv g1 rfl))))) ?_;nofun;refine⟨false,by ac_nf,λy=>(nomatch y),λ_=>?_⟩;nofun;exact⟨_,rfl,rfl⟩
     ·refine rv (vq (v:=aJ Q) g1 g2) ?_;nofun;refine⟨true,by ac_nf,λ_=>?_,λy=>(nomatch y)⟩;nofun;refine rv (k8 ok o hm (L:=[n]) (X0.mpr ⟨by simp,Zx⟩) (λk hk=>by rw[Wg.mp hk];exact t) (by show 1<=1000;decide) h3) ?_;nofun;refine rv g3 ?_;nofun;refine rv g2 ?_;nofun;refine rv (sR fq h3) ⟨false,rfl,λy=>(nomatch y),λ_=>?_⟩;nofun;exact⟨_,rfl,rfl⟩
    ·rintro g h3 ⟨u,rfl,rfl⟩;nofun;exact⟨_,_,_,_,_,_,_,_,_,rfl,r.S,C5⟩
  ·rintro g h ⟨v2,v3,v4,v5,v6,v7,v8,v9,v10,rfl,S,C⟩;nofun
 obtain⟨⟨d,l⟩,e1,rfl⟩:=e;exact⟨l,e1⟩
end Mi
open PySem PySem.W PyProof.Rows
def Mi.UH:defOf Mi.view "law"=some (Hd.n6 "law" Mi.nP,[]):=by ac_nf
def Mi.hp:PySem.Program.theDef Mi.pw "law"=some (L2.oV Mi.nP,L2.eQ Mi.nP,L2.ah Mi.nP):=by ac_nf
theorem PySem.Challenge.cw_neverstuck_k78_whole_put_in_and_out_holds : PySem.Challenge.rw_neverstuck_k78_whole_put_in_and_out.Holds := by
 refine holds_law Mi.NU λNU=>?_;refine PySem.W.holds_open (q:=Mi.view) (loose:=["SHAPES"]) (Xt:=Mi.Xt) (XP:=XL Mi.view []) (Yf:=Mi.Yf) (Ya:=Mi.ya) (YP:=λw h=>Hd.tabAt h "SHAPES"=(Mi.ya w).1/\Hd.sD h (Mi.iA.map (·.1)) Mi.sy=(Mi.ya w).2) (N:=20000) (d:=Hd.n6 "law" Mi.nP) (kwd:=[]) Mi.left (λ_ _ e=>⟨congrArg Prod.fst e,congrArg Prod.snd e⟩) (λ_ _ _ y k=>⟨Hd.BQ k y.1,Hd.xR k y.2⟩) (λs e=>xl_of s (Wt.mp e).1) XL.keeps Mi.UH Mi.hp (by ac_nf) (λs e=>recFacts_of (Wt.mp e).2) (by ac_nf) NU (by decide+kernel) ⟨rfl,rfl,rfl,rfl,rfl,by decide+kernel⟩ (by w_witness2) ?_;exact Hd.Pn (k:=29) (by ac_nf) (by ac_nf) ⟨rfl,by decide,by decide⟩ λw s₀ mg a h G Y=>Mi.all_mk G.T Y.1 Y.2 Mi.law_true
