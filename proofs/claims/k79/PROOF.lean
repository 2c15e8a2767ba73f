import PyProof.Rows.All
import Wide.All
import OpenK.AllK
import Wide.FinOn
import Lean
import PyProof.EqAt
import PyProof.EqKinds
import PyProof.TupleCall
import PyProof.AttrMissHeap
import KE.KDictOf
import PyProof.ConsumeWalk
import PyProof.ZipIter
import PyProof.EnumMake
import KE.KEqDict
import KE.KDictList
import KE.KDictSum
import KE.KItemsList
import KE.KSortTup
import PyProof.CallStr
import PyProof.CollectIter
import PyProof.DictFindH
import PyProof.DictRoadsH
import PyProof.FString
import PyProof.FString5
import PyProof.FactsAll.tuple_2
import PyProof.FactsAll.zip_1
import PyProof.ListMulRoad
import PyProof.ListRange
import PyProof.MeetsStr
import PyProof.NeKinds
import PyProof.P3Eq
import PyProof.Rows.Range3
import PyProof.Rows.ReprOcc
import PyProof.Rows.RuleDivmod
import PyProof.Rows.SortShell
import PyProof.Rows.StrWeight2
import PyProof.StrCalls2
import PyProof.StrCalls5
import PyProof.StrWalks
import PyProof.WalksMore
import PySem.Challenge.RW_neverstuck_k79_programs_shown
set_option Elab.async false
set_option linter.all false
set_option maxRecDepth 100000
set_option maxHeartbeats 4000000
set_option compiler.small 0
set_option compiler.extract_closed false
set_option compiler.reuse false
noncomputable section
local macro_rules | `(tactic| ac_nf) => `(tactic| kernel_rfl)
local macro_rules | `(tactic| nofun) => `(tactic| walk_at "r")
abbrev HG:=@PySem.wpAny_bind
abbrev HH:=@List.length_map
abbrev HI:=@PySem.Heap.get?_push_of_some
abbrev HJ:=@List.getElem?_eq_some_iff
abbrev HK:=@PySem.wpAny_pure
abbrev HL:=@List.length_append
abbrev HM:=@List.mem_of_getElem?
abbrev HN:=@Nat.le_refl
abbrev HP:=@List.length_cons
abbrev HQ:=@if_pos
abbrev HR:=@List.mem_cons
abbrev HS:=@if_neg
abbrev HU:=@List.getElem?_append_left
abbrev HV:=@PySem.Heap.lt_size
abbrev HW:=@List.size_toArray
abbrev HX:=@List.map_cons
abbrev HY:=@List.mem_cons_self
abbrev HZ:=@PySem.Heap.get?_push_size
abbrev Ia:=@List.mem_singleton
abbrev Ib:=@List.mem_cons_of_mem
abbrev Ic:=@List.map_append
abbrev Ie:=@Nat.le_trans
abbrev Ig:=@Bool.and_eq_true_iff
abbrev Ih:=@List.length_take
abbrev Ii:=@Bool.and_eq_true
abbrev Ij:=@Option.map_eq_some_iff
abbrev Ik:=@List.getElem?_append_right
abbrev Il:=@List.mem_append
abbrev Im:=@PySem.Str.length_append
abbrev Io:=@List.getElem?_map
abbrev Ip:=@List.getElem?_eq_none
abbrev Iq:=@List.getElem?_take_of_lt
abbrev Ir:=@Nat.lt_of_lt_of_le
abbrev Iu:=@PySem.wpAny_field
abbrev Iv:=@Nat.ne_of_lt
abbrev Iw:=@PyProof.Rows.slot_tuple_getitem
abbrev Iy:=@PySem.wpAny_callSpecial?_slot
abbrev Iz:=@List.getElem?_eq_getElem
abbrev IA:=@PySem.wpAny_call_entry
abbrev IB:=@decide_eq_false
abbrev IC:=@PySem.wpAny_newObj_type
abbrev ID:=@List.lookup_cons
abbrev IE:=@decide_eq_true
abbrev IF:=@PySem.F.plainAttrs_str
abbrev IG:=@Bool.false_ne_true
abbrev IH:=@PySem.F.type_str_join
abbrev II:=@PySem.F.slot_str_join
abbrev IJ:=@List.mem_append_right
abbrev IK:=@Nat.le_add_right
abbrev IL:=@PySem.F.slot_enumerate_next
abbrev IP:=@List.length_range
abbrev IQ:=@List.append_assoc
abbrev IS:=@List.getElem?_set_ne
abbrev IT:=@List.getElem?_set_self
abbrev IU:=@beq_self_eq_true
abbrev IV:=@PySem.PassesOwn.never
abbrev IW:=@PySem.Heap.size_push
abbrev IX:=@Int.eq_ofNat_of_zero_le
abbrev IY:=@PySem.W.kia_one
abbrev IZ:=@of_decide_eq_true
abbrev I0:=@PySem.wpAny_mono
abbrev I8:=@PySem.F.plainAttrs_list
abbrev I9:=@List.take_length
abbrev Ja:=@List.mem_map
abbrev Jb:=@PySem.mem_of_lookup
abbrev Jc:=@Option.bind_some
abbrev Jd:=@List.map_map
abbrev Je:=@Int.toNat_natCast
abbrev Jf:=@PySem.F.slot_list_append
abbrev Jg:=@List.length_nil
abbrev Jh:=@List.append_nil
abbrev Ji:=@List.replicate_succ
abbrev Jj:=@PySem.F.slot_dict_keyiterator_next
abbrev Jk:=@List.cons_append
abbrev Jl:=@Ne.symm
abbrev Jm:=@List.length_singleton
abbrev Jn:=@List.length_set
abbrev Jo:=@List.find?_cons
abbrev Jp:=@PySem.wpAny_seqItems
abbrev Jq:=@Nat.zero_le
abbrev Jr:=@PySem.F.type_list_append
abbrev Js:=@List.filterMap_cons
abbrev Jt:=@Array.length_toList
abbrev Ju:=@PySem.wpAny_holding
abbrev Jv:=@List.take_append_of_le_length
abbrev Jw:=@PySem.wpAny_isInstance
abbrev Jx:=@Bool.or_eq_true
abbrev Jy:=@List.any_cons
abbrev Jz:=@PySem.F.slot_dict_get
abbrev JA:=@decide_eq_true_eq
abbrev JB:=@PySem.wpAny_typeNameOfWhole_keyiter
abbrev JC:=@PyProof.Rows.callWith_type1
abbrev JD:=@List.flatten_cons
abbrev JE:=@PySem.tupleKind_room_in1
abbrev JF:=@PySem.wpAny_passesOwn
abbrev JG:=@PySem.wpAny_attempt
abbrev JH:=@List.all_eq_true
abbrev JI:=@PySem.F.slot_tuple_iterator_next
abbrev JJ:=@Nat.add_assoc
abbrev JK:=@List.sum_cons
abbrev JL:=@Option.map_some
abbrev JN:=@Option.bind_eq_some_iff
abbrev JO:=@PySem.wpAny_standAt
abbrev JP:=@PySem.F.entry_dict_get
abbrev JQ:=@Nat.ne_of_gt
abbrev JR:=@List.take_add_one
abbrev JS:=@List.reverse_cons
abbrev JT:=@PySem.wpAny_rule
abbrev JU:=@PySem.wpAny_pyIter_tuple
abbrev JV:=@PySem.wpAny_getItem_str_slice
abbrev JW:=@PySem.F.args_enumerate_next_1
abbrev JX:=@List.take_append_drop
abbrev JY:=@Nat.lt_irrefl
abbrev JZ:=@List.all_cons
abbrev J1:=@if_false
abbrev J2:=@PySem.isSubtype_stop
abbrev J3:=@PySem.F.entry_enumerate_next
abbrev Ka:=@PySem.F.slot_enumerate_iter
abbrev Kb:=@List.length_reverse
abbrev Kc:=@of_decide_eq_false
abbrev Kd:=@PySem.sizeLine_eq
abbrev Ke:=@List.mem_range
abbrev Kf:=@Bool.false_eq_true
abbrev Kg:=@if_true
abbrev Kh:=@PySem.Heap.SameBut.update
abbrev Ki:=@Nat.le_succ
abbrev Kj:=@List.flatMap_cons
abbrev Kk:=@List.ext_getElem?
abbrev Kl:=@PySem.codeAny_mono
abbrev Km:=@PySem.F.args_tuple_add_2
abbrev Kn:=@Option.isSome_iff_exists
abbrev Ko:=@PySem.wpAny_Call_Name_kw
abbrev Kp:=@PySem.Obj.data_mapFields
abbrev Kq:=@PySem.F.entry_tuple_add
abbrev Kr:=@PySem.F.called_enumerate
abbrev Ks:=@List.not_mem_nil
abbrev Kt:=@List.length_drop
abbrev Ku:=@PySem.F.slot_tuple_add
abbrev Kv:=@PySem.F.slot_tuple_hash
abbrev Kw:=@List.sum_append
abbrev Kx:=@List.nodup_cons
abbrev Ky:=@Int.emod_nonneg
abbrev Kz:=@PySem.F.slot_list_extend
abbrev KA:=@List.mem_of_mem_take
abbrev KC:=@Array.mem_toList_iff
abbrev KD:=@beq_eq_false_iff_ne
abbrev KG:=@PySem.wpAny_typeOf
abbrev KH:=@PySem.Str.ofString_eq_toList
abbrev KI:=@List.flatMap_append
abbrev KJ:=@PySem.wpAny_specialOf
abbrev KL:=@PySem.wpAny_execs_nil
abbrev KN:=@PySem.post_val_or_str
abbrev KO:=@PySem.F.slot_zip_next
abbrev KP:=@PySem.Heap.get?_update_self
abbrev KQ:=@Nat.lt_of_le_of_lt
abbrev KR:=@List.mem_filterMap
abbrev KS:=@List.filterMap_map
abbrev KU:=@Int.emod_lt_of_pos
abbrev KW:=@PySem.wpAny_updateSeq_pair
abbrev KY:=@PySem.wpAny_setField
abbrev KZ:=@PySem.wpAny_letGo
abbrev K0:=@Option.isSome_map
abbrev K1:=@Nat.zero_add
abbrev K2:=@List.map_reverse
abbrev K3:=@List.getElem_mem
abbrev K4:=@PySem.wpAny_onRaise
abbrev K5:=@Nat.min_le_left
abbrev K6:=@List.of_mem_zip
abbrev K7:=@List.forIn_cons
abbrev K8:=@or_false
abbrev K9:=@PySem.wpAny_sequenceKey
abbrev La:=@PySem.wpAny_pyIter_slot
abbrev Lb:=@PySem.wpAny_dictEntries
abbrev Lc:=@PySem.slot_list_getitem
abbrev Ld:=@PySem.eqIsQuiet_byValue
abbrev Le:=@PySem.call_meetsIn
abbrev Lf:=@List.getD_eq_getElem?_getD
abbrev Lg:=@Int.fmod_eq_emod_of_nonneg
abbrev Lh:=@Int.fdiv_eq_ediv_of_nonneg
abbrev Li:=@PySem.F.slot_dict_getitem
abbrev Lj:=@PyProof.Rows.slicePart_none
abbrev Lk:=@Array.getElem?_eq_getElem
abbrev Ll:=@PySem.noFill_tuple_add
abbrev Lm:=@PySem.F.type_list_extend
abbrev Lo:=@PySem.F.args_dict_keyiterator_next_1
abbrev Lp:=@decide_eq_false_iff_not
abbrev Lq:=@PySem.F.entry_dict_keyiterator_next
abbrev Lr:=@PySem.F.args_dict_get_3
abbrev Ls:=@PySem.F.args_dict_get_2
abbrev Lu:=@PyProof.Rows.entry_tuple_getitem
abbrev Lv:=@Option.join_eq_some_iff
abbrev Lw:=@List.getElem?_replicate
abbrev Lx:=@PySem.wpAny_dictEpoch
abbrev Ly:=@PySem.codeAny_builtin
abbrev Lz:=@PySem.W.cellsFrom_some
abbrev LA:=@PySem.SeqAt.eqAt_reads
abbrev LB:=@PySem.F.args_tuple_iterator_next_1
abbrev LC:=@Nat.le_of_lt
abbrev LD:=@List.map_nil
abbrev LF:=@PySem.F.entry_tuple_iterator_next
abbrev LG:=@PyProof.Rows.assignInOrder_cons
abbrev LH:=@PyProof.Rows.args_tuple_getitem
abbrev LI:=@List.mem_iff_getElem?
abbrev LJ:=@PySem.wpAny_newTuple
abbrev LK:=@PySem.wpAny_letOwnedTupleGo_enum
abbrev LL:=@PySem.call_meets
abbrev LM:=@PySem.Calls.Name_function_global
abbrev LN:=@Nat.pow_le_pow_right
abbrev LO:=@List.mem_append_left
abbrev LP:=@List.map_congr_left
abbrev LQ:=@List.getElem?_range
abbrev LR:=@Int.toNat_of_nonneg
abbrev LS:=@PySem.wpAny_getItem_list_slice
abbrev LU:=@PySem.wpAny_comprehension_free
abbrev LV:=@PySem.seq_tuple_add
abbrev LW:=@PySem.evalPart_none
abbrev LX:=@PySem.W.kitx_tuple
abbrev LY:=@List.pairwise_cons
abbrev LZ:=@Int.not_lt
abbrev L3:=@Int.natCast_nonneg
abbrev L4:=@Array.forIn_toList
abbrev L5:=@PySem.W.kitx_list
abbrev L6:=@PySem.W.kitx_dict
abbrev L7:=@PySem.F.args_enumerate_iter_1
abbrev L8:=@List.take_sublist
abbrev L9:=@List.nodup_append
abbrev Ma:=@List.getElem?_inj
abbrev Mb:=@Bool.not_eq_true'
set_option hygiene false
set_option hygiene true
abbrev FR:=PySem.W.Frag
namespace Hd
open PySem PySem.W PySem.Spec PyProof.Rows
noncomputable def sS:List Value->Option (List Int)
 | []=>some []
 | .int i _::r=>(sS r).map λis=>i::is
 | _=>none
noncomputable def tu(v:Value)(t:String):Bool:=match v with
 | .type s=>decide (s=t)
 | _=>false
noncomputable def rowAt(h:Heap)(e:DictEntry):Option (Str×Int×List Int):=match e.key with
 | .str x _=>match e.val with
  | .ref t=>match h.get? t with
   | some u=>if tu u.cls "tuple"&&u.dict.isNone then(match u.data with
     | .seq its _=>if its.size<=100 then(sS its.toList).map λis=>(x,e.hash,is) else none
     | _=>none) else none
   | none=>none
  | _=>none
 | _=>none
noncomputable def iw(h:Heap):List DictEntry->Option (List (Str×Int×List Int))
 | []=>some []
 | e::r=>(rowAt h e).bind λx=>(iw h r).map λxs=>x::xs
noncomputable def tabAt(h:Heap)(nm:Str):Option (List (Str×Int×List Int)):=match h.nsMap mainGlobals nm with
 | some (.ref a)=>if a==sysModules then none else(match h.get? a with
  | some o=>if tu o.cls "dict"&&o.dict.isNone&&decide (o.slots=#[]) then(match o.data with
    | .dict es _=>iw h es.toList
    | _=>none) else none
  | none=>none)
 | _=>none
theorem zf(row:String)(h0:∀w:World,(fencedOpening treeTable p w N).map (λs₀=>(topFrom treeTable p (w.withFollow row false) N s₀).map (λs=>(openSeen q loose (importedModules p.main.body) Xt true s,Yf s)))=some (some (openGood q loose,Ya (w.withFollow row false))))(h1:∀w:World,(fencedOpening treeTable p w N).map (λs₀=>(topFrom treeTable p (w.withFollow row true) N s₀).map (λs=>(openSeen q loose (importedModules p.main.body) Xt true s,Yf s)))=some (some (openGood q loose,Ya (w.withFollow row true)))):LeftO p q loose Xt Yf Ya N true:=λw=>by
 obtain⟨s₀,a,b0⟩:=Ij.mp (h0 w);obtain⟨s₁,a1,b1⟩:=Ij.mp (h1 w);have e:=World.withFollow_self w row;unfold openEnds;cases hb:w.params.followText row <;> rw[hb] at e
 ·rw[a];rw[e] at b0;exact b0
 ·rw[a1];rw[e] at b1;exact b1
end Hd
namespace Mi
open PySem
abbrev pw:Program:=PySem.Challenge.pw_neverstuck_k79_programs_shown
noncomputable def top(i:Nat):Stmt:=pw.main.body.getD i (.Pass ⟨0,0,0,0⟩)
noncomputable def gR:List (Str×List Int):=[("say",[2,0]),("call",[3,0]),("within",[2,1]),("all",[2,1]),("ask",[2,2]),("by",[3,3]),("either",[1,2]),("again",[1,1])]
noncomputable def view:Program:={pw with main:={pw.main with body:=[top 1,top 2,top 4,top 5,top 6,top 8,top 9,top 10,top 11,top 12,top 14,top 15,top 16,top 17,top 18,top 19,top 20,top 21,top 22,top 23,top 24,top 25,top 26,top 27,top 28,top 29,top 30]}}
end Mi
local macro_rules | `(tactic| walk_at "s") => `(tactic| exact⟨rfl, rfl, rfl, by decide +kernel, rfl, by decide +kernel, by decide +kernel⟩)
namespace Mi
open PySem PySem.W PyProof.Rows
abbrev ya(w:World):=some (gR.map λx:Str×List Int=>(x.1,hashStr w x.1,x.2))
abbrev Xt:Shared->Bool:=λs=>xlAt view [] s&&recOk (RowW.records (OpenRow.toRowW PySem.Challenge.rw_neverstuck_k79_programs_shown.row)) s
abbrev Yf:Shared->Option (List (Str×Int×List Int)):=λs=>Hd.tabAt s.heap "SHAPES"
theorem ES(w:World):(fencedOpening treeTable pw w 20000).map (λs₀=>(topFrom treeTable pw (w.withFollow "special-get-raises" false) 20000 s₀).map (λs=>(openSeen view (["SHAPES"]:List Str) (importedModules pw.main.body) Xt true s,Yf s)))=some (some (openGood view (["SHAPES"]:List Str),(ya) (w.withFollow "special-get-raises" false))):=by ac_nf
theorem ER(w:World):(fencedOpening treeTable pw w 20000).map (λs₀=>(topFrom treeTable pw (w.withFollow "special-get-raises" true) 20000 s₀).map (λs=>(openSeen view (["SHAPES"]:List Str) (importedModules pw.main.body) Xt true s,Yf s)))=some (some (openGood view (["SHAPES"]:List Str),(ya) (w.withFollow "special-get-raises" true))):=by ac_nf
theorem left:LeftO pw view (["SHAPES"]:List Str) Xt Yf (ya) 20000:=Hd.zf "special-get-raises" ES ER
theorem Ba:PySem.Challenge.rw_neverstuck_k79_programs_shown.wellSaid=true:=by
 unfold OpenLaw.wellSaid
 repeat(with_reducible refine look_both ?_ (by decide+kernel))
 unfold OpenRow.wellSaid
 repeat(with_reducible refine look_both ?_ (by decide+kernel))
 unfold OpenRow.partSaid
 repeat(with_reducible refine look_both ?_ (by decide+kernel))
 unfold looksOpen
 repeat(with_reducible refine look_both ?_ (by decide+kernel))
 decide+kernel
end Mi
theorem bN{α:Type}{p:α}{C:Prop}(h:none=some p):C:=nomatch h
namespace L2
open PySem PySem.Spec PyProof.Rows
abbrev Key:=Sum Int Str
noncomputable def nG:Key->Value->Bool
 | .inl k,v=>Value.isInt k v
 | .inr x,v=>Value.isStrOf x v
noncomputable def Cw(w:World):Key->Int
 | .inl k=>hashInt k
 | .inr x=>hashStr w x
theorem bB:∀{k:Key} {v:Value},nG k v=true->(∃i t,k=Sum.inl i/\v=Value.int i t)\/(∃x t,k=Sum.inr x/\v=Value.str x t)
 | .inl i,v,h=>by
  obtain⟨t,e⟩:=Value.isInt_shape (k:=i) (v:=v) h;exact .inl ⟨i,t,rfl,e⟩
 | .inr x,v,h=>by
  obtain⟨t,e⟩:=Value.isStrOf_shape (x:=x) (v:=v) h;exact .inr ⟨x,t,rfl,e⟩
theorem uh(i:Int)(t:Tok):nG (.inl i) (.int i t)=true:=by simp[nG,Value.isInt]
theorem ug(x:Str)(t:Tok):nG (.inr x) (.str x t)=true:=by simp[nG,Value.isStrOf]
theorem Cu(a b:Int):decide ((Sum.inl a:Key)=Sum.inl b)=(a==b):=by
 by_cases e:a=b
 ·subst e;simp
 ·have h:¬(Sum.inl a:Key)=Sum.inl b:=λq=>e (Sum.inl.inj q);rw[IB h];exact(KD.mpr e).symm
theorem Cr(a b:Str):decide ((Sum.inr a:Key)=Sum.inr b)=decide (a=b):=by
 by_cases e:a=b
 ·subst e;simp
 ·have h:¬(Sum.inr a:Key)=Sum.inr b:=λq=>e (Sum.inr.inj q);rw[IB h,IB e]
theorem Ct(a:Int)(b:Str):decide ((Sum.inl a:Key)=Sum.inr b)=false:=IB (λq=>nomatch q)
theorem Cs(a:Str)(b:Int):decide ((Sum.inr a:Key)=Sum.inl b)=false:=IB (λq=>nomatch q)
noncomputable def aQ(prog:Program)(w:World):PySem.KeyKind prog w Key where
 is:=nG
 hash:=Cw w
 inj:=λv a b ha hb=>by
  rcases bB ha with⟨i,t,rfl,rfl⟩ |⟨x,t,rfl,rfl⟩
  ·rcases bB hb with⟨j,u,rfl,e⟩ |⟨y,u,rfl,e⟩
   ·injection e with e1 _;rw[e1]
   ·exact nomatch e
  ·rcases bB hb with⟨j,u,rfl,e⟩ |⟨y,u,rfl,e⟩
   ·exact nomatch e
   ·injection e with e1 _;rw[e1]
 byValue:=λk v h=>by
  rcases bB h with⟨i,t,rfl,rfl⟩ |⟨x,t,rfl,rfl⟩ <;> rfl
 pyHash:=λhv h=>by
  rcases bB hv with⟨i,t,rfl,rfl⟩ |⟨x,t,rfl,rfl⟩
  ·exact wpAny_pyHash_int h
  ·exact wpAny_pyHash_str h
 eqBool:=λhu hv h=>by
  rcases bB hu with⟨i,t,rfl,rfl⟩ |⟨x,t,rfl,rfl⟩
  ·rcases bB hv with⟨j,u,rfl,rfl⟩ |⟨y,u,rfl,rfl⟩
   ·rw[Cu] at h;exact wpAny_eqBool_int h
   ·rw[Ct] at h;exact SeqAt.EqAt.int_str i t y u _ _ _ _ h
  ·rcases bB hv with⟨j,u,rfl,rfl⟩ |⟨y,u,rfl,rfl⟩
   ·rw[Cs] at h;exact SeqAt.EqAt.str_int x t j u _ _ _ _ h
   ·rw[Cr] at h;exact wpAny_eqBool_str h
 «strs»:=λk x t v h=>by
  rcases bB h with⟨i,u,rfl,e⟩ |⟨y,u,rfl,e⟩
  ·exact nomatch e
  ·injection e with e1 _
   subst e1;cases v <;> rfl
theorem jS(prog:Program)(w:World)(i:Int)(t:Tok):(aQ prog w).is (.inl i) (.int i t)=true:=uh i t
theorem jR(prog:Program)(w:World)(x:Str)(t:Tok):(aQ prog w).is (.inr x) (.str x t)=true:=ug x t
inductive V where
 | ck | bl (b:Bool) | int (i:Int) | str (x:Str) | byt (b:Array UInt8) | Dy (b:UInt64) | ref (a:Addr) | ty (n:String)
 deriving DecidableEq
def RelV:V->Value->Prop
 | .ck,u=>u=Value.none
 | .bl b,u=>u=Value.bool b
 | .int i,u=>∃t,u=Value.int i t
 | .str x,u=>∃t,u=Value.str x t
 | .byt b,u=>∃t,u=Value.bytes b t
 | .Dy b,u=>∃t,u=Value.float b t
 | .ref a,u=>u=Value.ref a
 | .ty n,u=>u=Value.type n
abbrev Vals:List V->List Value->Prop:=Paired RelV
theorem Vals.length(r:Vals xs us):xs.length=us.length:=Paired.length r
theorem Vals.get:∀{xs:List V} {us:List Value} {i:Nat} {x:V},Vals xs us->xs[i]?=some x->∃u,us[i]?=some u/\RelV x u
 | _,_,_,_,.nil,e=>by simp at e
 | _,_,0,_,.cons r _,e=>by simp at e;subst e;exact⟨_,rfl,r⟩
 | _,_,i+1,x,.cons _ t,e=>by
  obtain⟨u,h1,h2⟩:=Vals.get (i:=i) (x:=x) t (by simpa using e);exact⟨u,by simpa using h1,h2⟩
theorem Vals.set(r:RelV x u):∀{xs:List V} {us:List Value} (i:Nat),Vals xs us->Vals (xs.set i x) (us.set i u)
 | _,_,_,.nil=>.nil
 | _,_,0,.cons _ t=>.cons r t
 | _,_,i+1,.cons q t=>.cons q (Vals.set r i t)
theorem Vals.append:∀{xs ys:List V} {us ws:List Value},Vals xs us->Vals ys ws->Vals (xs++ys) (us++ws)
 | _,_,_,_,.nil,s=>s
 | _,_,_,_,.cons r t,s=>.cons r (Vals.append t s)
theorem Vals.take:∀{xs:List V} {us:List Value} (n:Nat),Vals xs us->Vals (xs.take n) (us.take n)
 | _,_,0,_=>.nil
 | _,_,_+1,.nil=>.nil
 | _,_,n+1,.cons r t=>.cons r (Vals.take n t)
theorem Vals.drop:∀{xs:List V} {us:List Value} (n:Nat),Vals xs us->Vals (xs.drop n) (us.drop n)
 | _,_,0,r=>r
 | _,_,_+1,.nil=>.nil
 | _,_,n+1,.cons _ t=>Vals.drop n t
def jI:Option V->Option Value->Prop
 | some v,some u=>RelV v u
 | none,none=>True
 | _,_=>False
def KV{κ:Type}:List (κ×V)->List (κ×Value)->Prop:=Paired λ(p:κ×V)(q:κ×Value)=>p.1=q.1/\RelV p.2 q.2
noncomputable def kV:Key->V
 | .inl i=>.int i
 | .inr x=>.str x
inductive HO where
 | lst (xs:List V)
 | tup (xs:List V)
 | dK (kvs:List (Key×V)) | dT (kvs:List (List Key×V))
 | set (S:Int->Bool) (n:Nat)
 | ins (C dx:Addr) (fs:List (Str×V))
 | own (x:Addr)
 | xd (fs:List (Str×V))
 | met (f x:Addr)
 | Gi (lo hi:Int)
 | sU (o:Obj) (u:HO)
 | AH (ps:Array Value)
 | ext (φ:Heap->Prop)
 | xM (φ:World->Heap->Prop)
abbrev Hp:=Addr->Option HO
noncomputable def upd(H:Hp)(a:Addr)(o:HO):Hp:=λb=>if b=a then some o else H b
theorem ax:upd H a o a=some o:=by unfold upd;rw[HQ rfl]
theorem ao(h:b≠a):upd H a o b=H b:=by unfold upd;rw[HS h]
theorem EE{H:Hp}{a b:Addr}{o u:HO}(h:H a=some o)(h':H b=some u)(d:o≠u):a≠b:=by
 intro e;subst e;rw[h] at h';exact d (Option.some.inj h')
theorem aA{H:Hp}{a b:Addr}{o:HO}(h:H a=some o)(h':H b=none):a≠b:=by
 intro e;subst e;rw[h] at h';cases h'
def mR(h:Heap)(a:Addr)(items:Array Value):Prop:=∃o,h.get? a=some o/\o.cls=.type "tuple"/\(∃n,o.data=.seq items n)/\o.dict=none
theorem mR.tup(x:mR h a items):IsTup h a items:=let⟨o,e,c,d,_⟩:=x;⟨o,e,c,d⟩
theorem mR.new(h:Heap)(items:Array Value):mR (h.push {cls:=.type "tuple",data:=.seq items}) h.objs.size items:=⟨_,HZ _ rfl,rfl,⟨_,rfl⟩,rfl⟩
section
variable (P:Program) (w:World)
def bE(H:Hp)(h:Heap)(a:Addr):HO->Prop
 | .lst xs=>xs.length<=sizeLine/\∃(its:List Value)(n:Nat),Vals xs its/\h.get? a=some {cls:=.type "list",data:=.seq its.toArray n}
 | .tup xs=>xs.length<=sizeLine/\∃its:List Value,Vals xs its/\mR h a its.toArray
 | .dK kvs=>kvs.length<=sizeLine/\(a==sysModules)=false/\∃vs,KV kvs vs/\h.DictOf (aQ P w) a vs
 | .dT kvs=>kvs.length<=sizeLine/\(a==sysModules)=false/\∃xs:List (List Key×Addr×Value),
   Paired (λ(p:List Key×V)(q:List Key×Addr×Value)=>p.1=q.1/\H q.2.1=some (.tup (p.1.map kV))/\RelV p.2 q.2.2) kvs xs/\
   ∃o es ep,h.get? a=some o/\o.ExactDict/\o.data=.dict es ep/\es.toList=xs.map (entryOfKey (tupleKind (aQ P w)))/\(xs.map (·.1)).Nodup
 | .set S n=>h.SetOf (intKind P w) a S n
 | .ins C dx fs=>H dx=some (.own a)/\fs.length<=1000/\dx≠a/\h.get? a=some (PySem.W.instObj C dx)/\
   ∃mA,h.Ns1 dx mA/\(∀f,jI (fs.lookup f) (mA f))/\PySem.Within mA (fs.map (·.1))
 | .own _=>∃o,h.get? a=some o
 | .xd fs=>∃mA,h.Ns1 a mA/\∀f,jI (fs.lookup f) (mA f)
 | .Gi lo hi=>∃t u v,h.get? a=some {cls:=.type "range",data:=.fields #[.int lo t,.int hi u,.int 1 v]}
 | .sU o u=>h.get? a=some o/\bE H h a u
 | .AH ps=>h.get? a=some {cls:=.none,data:=.fields ps}
 | .met f x=>h.get? a=some (PySem.W.methodObj (.ref f) (.ref x))
 | .ext φ=>φ h/\(∃o,h.get? a=some o)/\∀h1 h2:Heap,φ h1->(∀o,h1.get? a=some o->h2.get? a=some o)->φ h2
 | .xM φ=>φ w h/\(∃o,h.get? a=some o)/\∀h1 h2:Heap,φ w h1->(∀o,h1.get? a=some o->h2.get? a=some o)->φ w h2
def hV(H:Hp)(h:Heap):Prop:=∀a o,H a=some o->bE P w H h a o
end
theorem bE.lt(x:bE P w H h a o):a < h.objs.size:=by
 cases o with
 | lst xs=>obtain⟨_,_,_,_,e⟩:=x;exact HV e
 | tup xs=>obtain⟨_,_,_,p⟩:=x;exact p.tup.lt
 | dK kvs=>obtain⟨_,_,_,_,o,_,_,e,_⟩:=x;exact HV e
 | dT kvs=>obtain⟨_,_,_,_,o,_,_,e,_⟩:=x;exact HV e
 | set S n=>obtain⟨o,_,_,_,e,_⟩:=x;exact HV e
 | ins C dx fs=>obtain⟨_,_,_,e,_⟩:=x;exact HV e
 | own y=>obtain⟨_,e⟩:=x;exact HV e
 | xd fs=>obtain⟨_,⟨_,_,_,e,_⟩,_⟩:=x;exact HV e
 | Gi lo hi=>obtain⟨_,_,_,e⟩:=x;exact HV e
 | sU ob u=>obtain⟨e,_⟩:=x;exact HV e
 | AH ps=>exact HV (show h.get? a=some _ from x)
 | met f y=>exact HV (show h.get? a=some _ from x)
 | ext φ=>obtain⟨_,⟨_,e⟩,_⟩:=x;exact HV e
 | xM φ=>obtain⟨_,⟨_,e⟩,_⟩:=x;exact HV e
theorem Paired.Ck:∀{l₁:List α} {l₂:List β},Paired F l₁ l₂->(∀a b,F a b->G a b)->Paired G l₁ l₂
 | _,_,.nil,_=>.nil
 | _,_,.cons r t,f=>.cons (f _ _ r) (Paired.Ck t f)
theorem bE.pP(x:bE P w H h a o)(k:∀b u,(b=a\/H b=some (.own a))->h.get? b=some u->h'.get? b=some u)
  (ho:∀b,H b=some (.own a)->H' b=some (.own a)) (ht:∀b xs,H b=some (.tup xs)->H' b=some (.tup xs)):bE P w H' h' a o:=by
 induction o with
 | lst xs=>obtain⟨z,its,n,r,e⟩:=x;exact⟨z,its,n,r,k _ _ (.inl rfl) e⟩
 | tup xs=>obtain⟨z,its,r,ob,e,c⟩:=x;exact⟨z,its,r,ob,k _ _ (.inl rfl) e,c⟩
 | dK kvs=>obtain⟨z,y,vs,r,ob,es,ep,e,c⟩:=x;exact⟨z,y,vs,r,ob,es,ep,k _ _ (.inl rfl) e,c⟩
 | dT kvs=>
  obtain⟨z,y,xs,r,ob,es,ep,e,c⟩:=x;exact⟨z,y,xs,Paired.Ck r λp q z=>⟨z.1,ht _ _ z.2.1,z.2.2⟩,ob,es,ep,k _ _ (.inl rfl) e,c⟩
 | set S n=>obtain⟨ob,es,ep,t,e,c⟩:=x;exact⟨ob,es,ep,t,k _ _ (.inl rfl) e,c⟩
 | ins C dx fs=>
  obtain⟨d,z,ne,e,mA,⟨od,es,ep,e2,c⟩,r⟩:=x;exact⟨ho _ d,z,ne,k _ _ (.inl rfl) e,mA,⟨od,es,ep,k _ _ (.inr d) e2,c⟩,r⟩
 | own y=>obtain⟨ob,e⟩:=x;exact⟨ob,k _ _ (.inl rfl) e⟩
 | xd fs=>obtain⟨mA,⟨od,es,ep,e,c⟩,r⟩:=x;exact⟨mA,⟨od,es,ep,k _ _ (.inl rfl) e,c⟩,r⟩
 | Gi lo hi=>obtain⟨t,u,v,e⟩:=x;exact⟨t,u,v,k _ _ (.inl rfl) e⟩
 | sU ob u ih=>obtain⟨e,q⟩:=x;exact⟨k _ _ (.inl rfl) e,ih q⟩
 | AH ps=>
  have e:h.get? a=some {cls:=.none,data:=.fields ps}:=x;show h'.get? a=some {cls:=.none,data:=.fields ps};exact k a _ (.inl rfl) e
 | met f y=>
  have e:h.get? a=some (PySem.W.methodObj (.ref f) (.ref y)):=x;show h'.get? a=some (PySem.W.methodObj (.ref f) (.ref y));exact k a _ (.inl rfl) e
 | ext φ=>obtain⟨p,⟨o,e⟩,st⟩:=x;exact⟨st _ _ p λo q=>k _ _ (.inl rfl) q,⟨o,k _ _ (.inl rfl) e⟩,st⟩
 | xM φ=>obtain⟨p,⟨o,e⟩,st⟩:=x;exact⟨st _ _ p λo q=>k _ _ (.inl rfl) q,⟨o,k _ _ (.inl rfl) e⟩,st⟩
theorem hV.lt(x:hV P w H h)(e:H a=some o):a < h.objs.size:=(x a o e).lt
theorem hV.fresh(x:hV P w H h)(e:h.objs.size<=a):H a=none:=by
 cases q:H a with
 | none=>rfl
 | some u=>exact absurd (Ir (x.lt q) e) (JY _)
theorem hV.kept(x:hV P w H h)(k:∀b u,h.get? b=some u->h'.get? b=some u):hV P w H h':=λa o e=>
 (x a o e).pP (λb u _ q=>k b u q) (λ_ q=>q) λ_ _ q=>q
theorem hV.laid(x:hV P w H h)(k:∀b u,h.get? b=some u->h'.get? b=some u)(hp:h.objs.size<=a)(new:bE P w (upd H a o) h' a o):hV P w (upd H a o) h':=λb u e=>by
 have hn:=x.fresh hp
 by_cases hb:b=a
 ·subst hb;rw[ax] at e;cases e;exact new
 ·rw[ao hb] at e;exact(x b u e).pP (λc v _ q=>k c v q) (λc q=>by rw[ao (aA q hn)];exact q) λc xs q=>by rw[ao (aA q hn)];exact q
def Rd(H:Hp)(a:Addr)(u:HO):Prop:=H a=some u\/∃o,H a=some (.sU o u)
theorem Rd.ok(r:Rd H a u)(x:hV P w H h):bE P w H h a u:=by
 rcases r with r |⟨o,r⟩
 ·exact x a u r
 ·obtain⟨_,q⟩:=x a _ r;exact q
def FD:Option HO->Prop
 | some (.lst _)=>True
 | some (.dK _)=>True
 | some (.dT _)=>True
 | some (.set _ _)=>True
 | some (.ins _ _ _)=>True
 | some (.ext _)=>True
 | some (.xM _)=>True
 | _=>False
theorem hV.write(ok:hV P w H h)(mu:FD (H x))(he:e=x\/H e=some (.own x))(k:∀b u,b≠e->h.get? b=some u->h'.get? b=some u)(heo:∃u,h'.get? e=some u)
  (new:bE P w (upd H x o') h' x o'):hV P w (upd H x o') h':=λb u q=>by
 have nown:∀c y,H c=some (.own y)->c≠x:=λc y r z=>by subst z;rw[r] at mu;exact mu
 have ntup:∀c xs,H c=some (.tup xs)->c≠x:=λc xs r z=>by subst z;rw[r] at mu;exact mu
 by_cases hb:b=x
 ·subst hb;rw[ax] at q;cases q;exact new
 ·rw[ao hb] at q
  by_cases hbe:b=e
  ·have q':H b=some (.own x):=by
    rcases he with z | z
    ·exact absurd (hbe.trans z) hb
    ·rw[hbe];exact z
   rw[q] at q';cases q';obtain⟨v,hv⟩:=heo;exact⟨v,by rw[hbe];exact hv⟩
  ·refine(ok b u q).pP (λc v hc r=>k c v ?_ r) (λc r=>by rw[ao (nown c b r)];exact r) λc xs r=>by rw[ao (ntup c xs r)];exact r
   rcases hc with rfl | hc
   ·exact hbe
   ·rintro rfl;rcases he with z | z
    ·exact nown c b hc z
    ·rw[hc] at z;cases z;exact hb rfl
structure Un(fs ex:List Addr)(H H':Hp)(h h':Heap):Prop where
 keep:∀b o,h.get? b=some o->H b=none->b∉fs->b∉ex->h'.get? b=some o
 slot:∀b o,h.get? b=some o->H b=none->b∈fs->b∉ex->∃sl,h'.get? b=some {o with slots:=sl}
 free:∀b o,h.get? b=some o->H b=none->b∉ex->H' b=none
 there:∀b o,h.get? b=some o->b∉ex->∃o',h'.get? b=some o'
 n4:∀b xs,H b=some (.tup xs)->H' b=some (.tup xs)
 mL:∀b o u,H b=some (.sU o u)->H' b=some (.sU o u)
 n5:∀b ps,H b=some (.AH ps)->∃more,H' b=some (.AH (ps++more))
theorem Un.any(u:Un fs ex H H1 h h1)(q:h.get? b=some ob)(n:H b=none)(hx:b∉ex):∃sl,h1.get? b=some {ob with slots:=sl}:=by
 by_cases hb:b∈fs
 ·exact u.slot b ob q n hb hx
 ·exact⟨ob.slots,u.keep b ob q n hb hx⟩
theorem Un.kept(k:∀b u,h.get? b=some u->h'.get? b=some u):Un fs ex H H h h':=
 ⟨λb ob q _ _ _=>k b ob q,λb ob q _ _ _=>⟨ob.slots,k b ob q⟩,λ_ _ _ n _=>n,λb ob q _=>⟨ob,k b ob q⟩,λ_ _ q=>q,λ_ _ _ q=>q,λ_ ps q=>⟨#[],by rw[q];simp⟩⟩
theorem Un.refl:Un fs ex H H h h:=Un.kept λ_ _ q=>q
theorem Un.laid(k:∀b u,h.get? b=some u->h'.get? b=some u)(hp:h.objs.size<=a)(hn:H a=none):Un fs ex H (upd H a o) h h' where
 keep:=λb u q _ _ _=>k b u q
 slot:=λb u q _ _ _=>⟨u.slots,k b u q⟩
 free:=λb u q n _=>by rw[ao (Iv (Ir (HV q) hp))];exact n
 there:=λb u q _=>⟨u,k b u q⟩
 n4:=λb xs q=>by rw[ao (aA q hn)];exact q
 mL:=λb u xs q=>by rw[ao (aA q hn)];exact q
 n5:=λb ps q=>⟨#[],by rw[ao (aA q hn),q];simp⟩
theorem Un.write(mu:FD (H x))(he:e=x\/H e=some (.own x))(k:∀b u,b≠e->h.get? b=some u->h'.get? b=some u)(heo:∃u,h'.get? e=some u):Un fs ex H (upd H x o) h h':=by
 have hx:∀b,H b=none->b≠x:=λb n z=>by subst z;rw[n] at mu;exact mu
 have hb:∀b,H b=none->b≠e:=λb n z=>by
  subst z;rcases he with r | r
  ·exact hx b n r
  ·rw[n] at r;cases r
 have hm:∀b u,H b=some u->¬FD (some u)->b≠x:=λb u q nm z=>by subst z;rw[q] at mu;exact nm mu
 refine⟨λb u q n _ _=>k b u (hb b n) q,λb u q n _ _=>⟨u.slots,k b u (hb b n) q⟩,λb u q n _=>by rw[ao (hx b n)];exact n,λb u q _=>?_,
  λb xs q=>by rw[ao (hm b _ q λz=>z)];exact q,λb u xs q=>by rw[ao (hm b _ q λz=>z)];exact q,λb ps q=>⟨#[],by rw[ao (hm b _ q λz=>z),q];simp⟩⟩
 by_cases hbe:b=e
 ·subst hbe;exact heo
 ·exact⟨u,k b u hbe q⟩
noncomputable def FN(h:Heap)(H:Hp):List Addr:=(List.range h.objs.size).filter λa=>(H a).isSome
noncomputable def oV(h:Heap)(H:Hp):Heap:=PySem.W.hideAll h (FN h H)
theorem uo(h:Heap)(H:Hp):(oV h H).objs.size=h.objs.size:=PySem.W.hideAll_size _ _
theorem wM(e:h.get? b=some o)(n:H b=none):(oV h H).get? b=some o:=
 PySem.W.hideAll_get _ e λhm=>by
  have q:(H b).isSome=true:=(List.mem_filter.mp hm).2;rw[n] at q;simp at q
theorem y8(e:(oV h H).get? b=some o):h.get? b=some o/\H b=none:=by
 have e':h.get? b=some o:=PySem.W.of_hideAll (FN h H) e;refine⟨e',?_⟩;cases q:H b with
 | none=>rfl
 | some x=>
  have hm:b∈FN h H:=List.mem_filter.mpr ⟨Ke.mpr (HV e'),by simp[q]⟩;have z:(oV h H).get? b=none:=PySem.W.hideAll_none (FN h H) hm;rw[z] at e;cases e
structure Mod(K:FR)(mg:Str->Option Value)(base:Heap):Prop where
 GG:K.In base
 glob:base.Ns mainGlobals mg
 blt:∃mb,base.Ns builtinsNs mb/\∀x:Str,x≠"__name__"->mb x=bootBuiltins x
 nolimit:base.NoLimit
structure Cx where
 prog:Program
 w:World
 K:FR
 mg:Str->Option Value
 base:Heap
 A:Around
 N:List Str
 s₀:Shared
 H₀:Hp
 env:Env
 outer:List Env
 stack:List Env
 ex:List Addr
 fn:Str->Bool
 calm:Bool
 pn:List (Addr×Obj)
 xe:Value->Shared->Prop
noncomputable def uP(l:List Env):List Addr:=l.filterMap (·.frame)
abbrev Cx.fs(X:Cx):List Addr:=uP X.outer
def Fi(sc:Scope)(x:Str):Prop:=sc.names.lookup x=some .local\/sc.names.lookup x=some .cell\/sc.names.lookup x=some .free
def Loc(sc:Scope)(x:Str):Prop:=sc.names.lookup x=some .local\/sc.names.lookup x=some .cell
def Look(env:Env)(h:Heap)(m:Str->Option Value)(x:Str)(u:Value):Prop:=
 (env.kindOf x=some .local/\m x=some u)\/((env.kindOf x=some .cell\/env.kindOf x=some .free)/\∃c,env.cells.lookup x=some c/\h.IsCell c (some u))
structure Cx.Ok(X:Cx):Prop where
 mod:Mod X.K X.mg X.base
 kind:X.env.scope.kind=.function
 glob:X.env.globals=mainGlobals
 blt:X.env.builtins=builtinsNs
 above:X.s₀.heap.objs.size<=X.env.locals
 inj:∀x y c,X.env.cells.lookup x=some c->X.env.cells.lookup y=some c->x=y
 has:∀x,(X.env.kindOf x=some .cell\/X.env.kindOf x=some .free)->∃c,X.env.cells.lookup x=some c
 E3:∀x c,X.fn x=true->X.env.cells.lookup x=some c->X.s₀.heap.objs.size<=c
 hd:X.calm=true->X.A.handled=none
 frames:X.A.frames=some X.stack
 FO:X.stack=X.outer\/(X.stack=X.env::X.outer/\X.env.frame=some X.env.locals)
 Hb:∀b∈X.ex,b≠X.env.locals/\∀x c,X.env.cells.lookup x=some c->c≠b
 bs:∀b o,X.base.get? b=some o->X.s₀.heap.get? b=some o/\X.H₀ b=none
 Ao:X.base.objs.size<=X.s₀.heap.objs.size
 wx:∀b o,X.base.get? b=some o->b∉X.ex
 zw:∀b∈X.ex,b∉X.fs
 lF:X.s₀.heap.FunFrames X.base X.outer
 Dx:∀b∈X.fs,X.H₀ b=none
structure Inv(X:Cx)(pins:List (Addr×Obj))(σ:List (Option V))(H:Hp)(s:Shared):Prop where
 ok:X.Ok
 os:s.os=X.s₀.os
 bare:AllBare s.gens
 base:Un X.fs X.ex X.H₀ H X.s₀.heap s.heap
 loc:∃m,s.heap.Ns X.env.locals m/\∀(i:Nat)(x:Str)(v:V),X.N[i]?=some x->σ[i]?=some (some v)->Fi X.env.scope x->∃u,RelV v u/\Look X.env s.heap m x u
 cell:∀x c,X.env.cells.lookup x=some c->∃v,s.heap.IsCell c v
 free:H X.env.locals=none
 ie:∀x c,X.env.cells.lookup x=some c->H c=none
 pin:∀p∈X.pn++pins,s.heap.get? p.1=some p.2/\H p.1=none/\p.1≠X.env.locals/\p.1∉X.fs/\∀v,p.2.data≠.cell v
 aZ:hV X.prog X.w H s.heap
 len:σ.length=X.N.length
section
variable {X:Cx} {pins:List (Addr×Obj)} {σ:List (Option V)} {H H':Hp} {s:Shared} {h':Heap}
theorem Cx.Ok.GC(ok:X.Ok)(e:X.base.get? b=some o):b∉X.fs:=λhb=>by
 have:=(ok.lF.mem hb).1;rw[e] at this;cases this
theorem Inv.bs(I:Inv X pins σ H s):∀b o,X.base.get? b=some o->s.heap.get? b=some o/\H b=none:=λb o e=>
 ⟨I.base.keep b o (I.ok.bs b o e).1 (I.ok.bs b o e).2 (I.ok.GC e) (I.ok.wx b o e),I.base.free b o (I.ok.bs b o e).1 (I.ok.bs b o e).2 (I.ok.wx b o e)⟩
theorem Inv.bk(I:Inv X pins σ H s):∀b o,X.base.get? b=some o->s.heap.get? b=some o:=λb o e=>(I.bs b o e).1
theorem Inv.mod(I:Inv X pins σ H s):Mod X.K X.mg X.base:=I.ok.mod
theorem Inv.oT(I:Inv X pins σ H s):X.K.In s.heap:=I.ok.mod.GG.keeps I.bk
theorem Inv.lt(I:Inv X pins σ H s):X.env.locals < s.heap.objs.size:=let⟨_,hn,_⟩:=I.loc;hn.lt
theorem Inv.sz(I:Inv X pins σ H s):X.s₀.heap.objs.size<=s.heap.objs.size:=Ie I.ok.above (LC I.lt)
theorem Inv.GB(I:Inv X pins σ H s)(h:s.heap.objs.size<=a):a∉X.fs:=λhb=>by
 obtain⟨_,o,ho,_⟩:=I.ok.lF.mem hb;exact absurd (Ir (HV ho) (Ie I.sz h)) (JY _)
theorem Inv.CT(I:Inv X pins σ H s):∀x c,X.env.cells.lookup x=some c->c≠X.env.locals:=λx c e z=>by
 obtain⟨v,o,ho,hd⟩:=I.cell x c e;obtain⟨m,⟨o',es,ep,ho',hd',_⟩,_⟩:=I.loc;rw[z,ho'] at ho;cases ho;rw[hd'] at hd;cases hd
theorem Inv.lF(I:Inv X pins σ H s):s.heap.FunFrames X.base X.outer:=by
 have all:∀(l:List Env),(∀b∈uP l,b∈X.fs)->X.s₀.heap.FunFrames X.base l->s.heap.FunFrames X.base l:=by
  intro l
  induction l with
  | nil=>intro _ _;trivial
  | cons env r ih=>
   intro hs hl;obtain⟨hk,⟨L,o,hf,hn,ho,hd⟩,hr⟩:=hl;have hL:L∈X.fs:=hs L (by unfold uP;rw[Js,hf];exact HY);obtain⟨sl,e⟩:=I.base.slot L o ho (I.ok.Dx L hL) hL λz=>I.ok.zw L z hL;exact⟨hk,⟨L,_,hf,hn,e,hd⟩,ih (λb hb=>hs b (by unfold uP;rw[Js,hf];exact Ib _ hb)) hr⟩
 exact all X.outer (λ_ hb=>hb) I.ok.lF
theorem Inv.stack(I:Inv X pins σ H s):s.heap.FunFrames X.base X.stack:=by
 rcases I.ok.FO with e |⟨e,hf⟩
 ·rw[e];exact I.lF
 ·rw[e];obtain⟨m,hn,_⟩:=I.loc;refine .cons (by rw[I.ok.kind];decide) hf hn ?_ I.lF;exact Heap.get?_none_of_le (Ie I.ok.Ao I.ok.above)
theorem Inv.kL(I:Inv X pins σ H s):∀b∈uP X.stack,b∈X.env.locals::X.fs:=λb hb=>by
 rcases I.ok.FO with e |⟨e,hf⟩
 ·rw[e] at hb;exact Ib _ hb
 ·rw[e] at hb;unfold uP at hb;rw[Js,hf] at hb;exact hb
theorem Inv.sf(I:Inv X pins σ H s):∀b∈uP X.stack,H b=none:=λb hb=>by
 rcases HR.mp (I.kL b hb) with e | hb
 ·rw[e];exact I.free
 ·obtain⟨_,o,ho,_⟩:=I.ok.lF.mem hb;exact I.base.free b o ho (I.ok.Dx b hb) λz=>I.ok.zw b z hb
theorem Inv.step{g':Array GenState}{t':Nat}{d':Drawn}{ch:List Addr}(I:Inv X pins σ H s)
  (hch:∀b∈ch,(b∈X.ex\/X.s₀.heap.objs.size<=b)/\b≠X.env.locals/\(∀x c,X.env.cells.lookup x=some c->c≠b)/\∀p∈X.pn++pins,p.1≠b)
  (keep:∀b o,b≠X.env.locals->b∉X.fs->b∉ch->s.heap.get? b=some o->H b=none->h'.get? b=some o)
  (slot:∀b o,b≠X.env.locals->b∈X.fs->b∉ch->s.heap.get? b=some o->H b=none->∃sl,h'.get? b=some {o with slots:=sl}) (free:∀b o,b∉ch->s.heap.get? b=some o->H b=none->H' b=none)
  (there:∀b o,b∉ch->s.heap.get? b=some o->∃o',h'.get? b=some o')
  (n4:∀b xs,H b=some (.tup xs)->H' b=some (.tup xs)) (mL:∀b o u,H b=some (.sU o u)->H' b=some (.sU o u)) (n5:∀b ps,H b=some (.AH ps)->∃more,H' b=some (.AH (ps++more)))
  (ns:∀m,s.heap.Ns X.env.locals m->h'.Ns X.env.locals m) (aZ:hV X.prog X.w H' h') (hg:AllBare g'):
  Inv X pins σ H' {s with heap:=h',gens:=g',drawn:=d',toks:=t'}:=by
 have neL:∀b o,X.s₀.heap.get? b=some o->b≠X.env.locals:=λb o e=>Iv (Ir (HV e) I.ok.above);have neC:∀b o,X.s₀.heap.get? b=some o->b∉X.ex->b∉ch:=λb o e hx hb=>by
  rcases(hch b hb).1 with z | z
  ·exact hx z
  ·exact absurd (Ir (HV e) z) (JY _)
 have cellK:∀x c,X.env.cells.lookup x=some c->∀v,s.heap.IsCell c v->h'.IsCell c v:=λx c e v ⟨o,ho,hd⟩=>by
  have nch:c∉ch:=λz=>(hch c z).2.2.1 x c e rfl
  by_cases hc:c∈X.fs
  ·obtain⟨sl,q⟩:=slot c o (I.CT x c e) hc nch ho (I.ie x c e);exact⟨_,q,hd⟩
  ·exact⟨o,keep c o (I.CT x c e) hc nch ho (I.ie x c e),hd⟩
 refine⟨I.ok,I.os,hg,⟨λb o e n hb hx=>?_,λb o e n hb hx=>?_,λb o e n hx=>?_,λb o e hx=>?_,λb xs e=>n4 b xs (I.base.n4 b xs e),λb o xs e=>mL b o xs (I.base.mL b o xs e),λb ps e=>?_⟩,?_,λx c e=>?_,?_,λx c e=>?_,λp hp=>?_,aZ,I.len⟩
 ·exact keep b o (neL b o e) hb (neC b o e hx) (I.base.keep b o e n hb hx) (I.base.free b o e n hx)
 ·obtain⟨sl,e1⟩:=I.base.slot b o e n hb hx;obtain⟨sl',e2⟩:=slot b _ (neL b o e) hb (neC b o e hx) e1 (I.base.free b o e n hx);exact⟨sl',e2⟩
 ·obtain⟨o',e1⟩:=I.base.there b o e hx;exact free b o' (neC b o e hx) e1 (I.base.free b o e n hx)
 ·obtain⟨o',e1⟩:=I.base.there b o e hx;exact there b o' (neC b o e hx) e1
 ·obtain⟨m1,e1⟩:=I.base.n5 b ps e;obtain⟨m2,e2⟩:=n5 b _ e1;exact⟨m1++m2,by rw[e2,Array.append_assoc]⟩
 ·obtain⟨m,hn,hl⟩:=I.loc;refine⟨m,ns m hn,λi x v e1 e2 e3=>?_⟩;obtain⟨u,r,l⟩:=hl i x v e1 e2 e3;refine⟨u,r,?_⟩;rcases l with l |⟨k,c,e,z⟩
  ·exact .inl l
  ·exact .inr ⟨k,c,e,cellK x c e _ z⟩
 ·obtain⟨v,z⟩:=I.cell x c e;exact⟨v,cellK x c e v z⟩
 ·obtain⟨m,⟨o,_,_,ho,_⟩,_⟩:=I.loc;exact free _ o (λz=>(hch _ z).2.1 rfl) ho I.free
 ·obtain⟨v,o,ho,hd⟩:=I.cell x c e;exact free c o (λz=>(hch c z).2.2.1 x c e rfl) ho (I.ie x c e)
 ·obtain⟨e,n,ne,nf,d⟩:=I.pin p hp;have nch:p.1∉ch:=λz=>(hch p.1 z).2.2.2 p hp rfl;exact⟨keep p.1 p.2 ne nf nch e n,free p.1 p.2 nch e n,ne,nf,d⟩
theorem Inv.un{t':Nat}(I:Inv X pins σ H s)(u:Un X.fs [] H H' s.heap h')(aZ:hV X.prog X.w H' h'):Inv X pins σ H' {s with heap:=h',toks:=t'}:=by
 obtain⟨m,⟨o,es,ep,ho,r⟩,_⟩:=id I.loc;obtain⟨sl,hL⟩:=u.any ho I.free (by simp);exact I.step (g':=s.gens) (d':=s.drawn) (ch:=[]) (λ_ z=>nomatch z) (λb o _ hb _ e n=>u.keep b o e n hb (by simp)) (λb o _ hb _ e n=>u.slot b o e n hb (by simp)) (λb o _ e n=>u.free b o e n (by simp)) (λb o _ e=>u.there b o e (by simp)) u.n4 u.mL u.n5 (λm' hm=>by
  obtain⟨o',es',ep',ho',r'⟩:=hm;rw[ho] at ho';cases ho';exact⟨_,es',ep',hL,r'⟩) aZ I.bare
theorem Inv.call{g':Array GenState}{t':Nat}{d':Drawn}{ch:List Addr}(I:Inv X pins σ H s)(u:Un (uP X.stack) ch H H' s.heap h')(aZ:hV X.prog X.w H' h')(hg:AllBare g')
  (hch:∀b∈ch,(b∈X.ex\/X.s₀.heap.objs.size<=b)/\b≠X.env.locals/\(∀x c,X.env.cells.lookup x=some c->c≠b)/\∀p∈X.pn++pins,p.1≠b):
  Inv X pins σ H' {s with heap:=h',gens:=g',drawn:=d',toks:=t'}:=by
 obtain⟨m,⟨o,es,ep,ho,r⟩,_⟩:=id I.loc;obtain⟨sl,hL⟩:=u.any ho I.free λz=>(hch _ z).2.1 rfl;exact I.step (ch:=ch) hch (λb o hL hb hc e n=>u.keep b o e n (λz=>(HR.mp (I.kL b z)).elim hL hb) hc) (λb o _ _ hc e n=>u.any e n hc) (λb o hc e n=>u.free b o e n hc) (λb o hc e=>u.there b o e hc) u.n4 u.mL u.n5 (λm' hm=>by
  obtain⟨o',es',ep',ho',r'⟩:=hm;rw[ho] at ho';cases ho';exact⟨_,es',ep',hL,r'⟩) aZ hg
theorem Inv.turned{t':Nat}{it:Addr}(I:Inv X pins σ H s)(k:∀b o,b≠it->s.heap.get? b=some o->h'.get? b=some o)(hn:H it=none)(hL:it≠X.env.locals)
  (h1:it∈X.ex\/X.s₀.heap.objs.size<=it) (h2:∀x c,X.env.cells.lookup x=some c->c≠it) (h3:∀p∈X.pn++pins,p.1≠it):Inv X pins σ H {s with heap:=h',toks:=t'}:=by
 have nit:∀b u,H b=some u->b≠it:=λb u e z=>by rw[z,hn] at e;cases e
 refine I.step (g':=s.gens) (d':=s.drawn) (ch:=[it]) (λb hb=>?_) (λb o _ _ hc e _=>k b o (λz=>hc (by simp[z])) e) (λb o _ _ hc e _=>⟨o.slots,k b o (λz=>hc (by simp[z])) e⟩) (λ_ _ _ _ n=>n)
  (λb o hc e=>⟨o,k b o (λz=>hc (by simp[z])) e⟩) (λ_ _ e=>e) (λ_ _ _ e=>e) (λb ps e=>⟨#[],by rw[e];simp⟩) (λm hm=>?_) (λb u e=>?_) I.bare
 ·have e:b=it:=by simpa using hb
  subst e;exact⟨h1,hL,h2,h3⟩
 ·obtain⟨o,es,ep,ho,r⟩:=hm;exact⟨o,es,ep,k _ o (Jl hL) ho,r⟩
 ·refine(I.aZ b u e).pP (λc v hc q=>k c v ?_ q) (λ_ q=>q) λ_ _ q=>q;rcases hc with z | z
  ·rw[z];exact nit b u e
  ·exact nit c _ z
theorem Inv.tok(I:Inv X pins σ H s)(t:Nat):Inv X pins σ H {s with toks:=t}:=I.un (h':=s.heap) (t':=t) Un.refl I.aZ
theorem Inv.kept(I:Inv X pins σ H s)(k:∀b u,s.heap.get? b=some u->h'.get? b=some u):Inv X pins σ H {s with heap:=h',toks:=t'}:=I.un (Un.kept k) (I.aZ.kept k)
theorem Inv.laid(I:Inv X pins σ H s)(k:∀b u,s.heap.get? b=some u->h'.get? b=some u)(hp:s.heap.objs.size<=a)(new:bE X.prog X.w (upd H a o) h' a o):
  Inv X pins σ (upd H a o) {s with heap:=h',toks:=t'}:=I.un (Un.laid k hp (I.aZ.fresh hp)) (I.aZ.laid k hp new)
theorem Inv.write(I:Inv X pins σ H s)(mu:FD (H x))(he:e=x\/H e=some (.own x))(k:∀b u,b≠e->s.heap.get? b=some u->h'.get? b=some u)(heo:∃u,h'.get? e=some u)(new:bE X.prog X.w (upd H x o) h' x o):Inv X pins σ (upd H x o) {s with heap:=h',toks:=t'}:=I.un (Un.write mu he k heo) (I.aZ.write mu he k heo new)
theorem Inv.sE(I:Inv X pins σ H s)(h:∀p∈pins',s.heap.get? p.1=some p.2/\H p.1=none/\p.1≠X.env.locals/\p.1∉X.fs/\∀v,p.2.data≠.cell v):Inv X pins' σ H s:=
 ⟨I.ok,I.os,I.bare,I.base,I.loc,I.cell,I.free,I.ie,λp hp=>(Il.mp hp).elim (λz=>I.pin p (LO _ z)) (h p),I.aZ,I.len⟩
theorem p6{N:List Str}(hN:N.Nodup){i j:Nat}{x:Str}(a:N[i]?=some x)(b:N[j]?=some x):i=j:=by
 obtain⟨h1,e1⟩:=HJ.mp a;obtain⟨h2,e2⟩:=HJ.mp b;exact(List.getElem_inj hN).mp (e1.trans e2.symm)
theorem mY{M:Model}{A:Around}{E:Value->Shared->Prop}{i:Nat}{x:Str}{v:V}{u:Value}{Q:Unit->Shared->Prop}(I:Inv X pins σ H s)(hN:X.N.Nodup)(hi:X.N[i]?=some x)(hx:Loc X.env.scope x)(r:RelV v u)
  (h:∀s',Inv X pins (σ.set i (some v)) H s'->(∃a,Heap.SameBut a s.heap s'.heap/\(a=X.env.locals\/X.env.cells.lookup x=some a))->Q () s') (hf:X.fn x=true\/X.env.scope.names.lookup x=some .local:=by first | exact .inl rfl | exact .inr rfl | assumption):wpAny M A (storeName X.env x u) Q E s:=by
 obtain⟨m,hn,hl⟩:=id I.loc;have hcls:(X.env.scope.kind==.class||(X.env.scope.kind==.module&&X.env.locals !=X.env.globals))=false:=by rw[I.ok.kind];rfl
 have hiσ:i < σ.length:=by rw[I.len];exact(HJ.mp hi).1
 have CT:=I.CT;have tracked:∀{a:Addr} {h':Heap},(∃o,s.heap.get? a=some o/\H a=none)->Heap.SameBut a s.heap h'->hV X.prog X.w H h':=λ{a h'} ha hs b ob e=>by
  obtain⟨_,_,hfree⟩:=ha;refine(I.aZ b ob e).pP (λc w' hc q=>(hs.2 c ?_).trans q) (λ_ q=>q) λ_ _ q=>q;rintro rfl;rcases hc with rfl | hc
  ·rw[hfree] at e;cases e
  ·rw[hfree] at hc;cases hc
 rcases hx with hk | hk
 ·refine wpAny_storeName_local hk hn (λh' hn' hs=>?_) hcls;obtain⟨oL,_,_,hoL,_⟩:=id hn;refine h _ ⟨I.ok,I.os,I.bare,⟨λb o e n hb hx=>?_,λb o e n hb hx=>?_,I.base.free,λb o e hx=>?_,I.base.n4,I.base.mL,I.base.n5⟩,⟨_,hn',λj y v' e1 e2 e3=>?_⟩,λy c e=>?_,I.free,I.ie,λp hp=>?_,tracked ⟨oL,hoL,I.free⟩ hs,by simpa using I.len⟩ ⟨_,hs,.inl rfl⟩
  ·exact(hs.2 b (Iv (Ir (HV e) I.ok.above))).trans (I.base.keep b o e n hb hx)
  ·obtain⟨sl,e1⟩:=I.base.slot b o e n hb hx;exact⟨sl,(hs.2 b (Iv (Ir (HV e) I.ok.above))).trans e1⟩
  ·obtain⟨o',e1⟩:=I.base.there b o e hx;exact⟨o',(hs.2 b (Iv (Ir (HV e) I.ok.above))).trans e1⟩
  ·by_cases hj:j=i
   ·subst hj;rw[hi] at e1;cases e1;rw[IT hiσ] at e2;cases e2;exact⟨u,r,.inl ⟨hk,by simp⟩⟩
   ·rw[IS (Jl hj)] at e2;obtain⟨u',r',q⟩:=hl j y v' e1 e2 e3;refine⟨u',r',?_⟩;rcases q with⟨k,e⟩ |⟨k,c,e,z⟩
    ·refine .inl ⟨k,?_⟩;have:y≠x:=λe=>hj (p6 hN e1 (e ▸ hi));simp[this,e]
    ·exact .inr ⟨k,c,e,z.sameBut hs (CT y c e)⟩
  ·obtain⟨w',z⟩:=I.cell y c e;exact⟨w',z.sameBut hs (CT y c e)⟩
  ·obtain⟨e,n,ne,nf,d⟩:=I.pin p hp;exact⟨(hs.2 p.1 ne).trans e,n,ne,nf,d⟩
 ·have hfn:X.fn x=true:=by
   rcases hf with z | z
   ·exact z
   ·rw[z] at hk;cases hk
  obtain⟨c,hc⟩:=I.ok.has x (.inl hk);obtain⟨w',z⟩:=I.cell x c hc;refine wpAny_storeName_cell I.ok.kind hk hc z (λh' hc' hs=>?_);obtain⟨oc,hoc,hocd⟩:=id z;refine h {s with heap:=h'} ⟨I.ok,I.os,I.bare,⟨λb o e n hb hx=>?_,λb o e n hb hx=>?_,I.base.free,λb o e hx=>?_,I.base.n4,I.base.mL,I.base.n5⟩,⟨m,hn.sameBut hs (Jl (CT x c hc)),λj y v' e1 e2 e3=>?_⟩,λy c' e=>?_,I.free,I.ie,λp hp=>?_,tracked ⟨oc,hoc,I.ie x c hc⟩ hs,by simpa using I.len⟩ ⟨c,hs,.inr hc⟩
  ·exact(hs.2 b (Iv (Ir (HV e) (I.ok.E3 x c hfn hc)))).trans (I.base.keep b o e n hb hx)
  ·obtain⟨sl,e1⟩:=I.base.slot b o e n hb hx;exact⟨sl,(hs.2 b (Iv (Ir (HV e) (I.ok.E3 x c hfn hc)))).trans e1⟩
  ·obtain⟨o',e1⟩:=I.base.there b o e hx;exact⟨o',(hs.2 b (Iv (Ir (HV e) (I.ok.E3 x c hfn hc)))).trans e1⟩
  ·by_cases hj:j=i
   ·subst hj;rw[hi] at e1;cases e1;rw[IT hiσ] at e2;cases e2;exact⟨u,r,.inr ⟨.inl hk,c,hc,hc'⟩⟩
   ·rw[IS (Jl hj)] at e2;obtain⟨u',r',q⟩:=hl j y v' e1 e2 e3;refine⟨u',r',?_⟩;rcases q with q |⟨k,c',e,z'⟩
    ·exact .inl q
    ·refine .inr ⟨k,c',e,z'.sameBut hs ?_⟩;rintro rfl;exact hj (p6 hN e1 (I.ok.inj _ _ _ e hc ▸ hi))
  ·by_cases hcc:c'=c
   ·subst hcc;exact⟨_,hc'⟩
   ·obtain⟨w2,z2⟩:=I.cell y c' e;exact⟨w2,z2.sameBut hs hcc⟩
  ·obtain⟨e,n,ne,nf,d⟩:=I.pin p hp;refine⟨(hs.2 p.1 ?_).trans e,n,ne,nf,d⟩;intro q;rw[q,hoc] at e;have q':oc=p.2:=Option.some.inj e;exact d w' (by rw[<-q'];exact hocd)
theorem iQ(I:Inv X pins σ H s)(hN:X.N.Nodup)(hi:X.N[i]?=some x)(hx:Loc X.env.scope x)(r:RelV v u)(h:∀s',Inv X pins (σ.set i (some v)) H s'->Q () s')(hf:X.fn x=true\/X.env.scope.names.lookup x=some .local:=by first | exact .inl rfl | exact .inr rfl | assumption):wpAny M A (storeName X.env x u) Q E s:=
 mY I hN hi hx r (λs' I' _=>h s' I') hf
theorem Inv.call'(I:Inv X pins σ H s)(ho:s'.os=s.os)(u:Un (uP X.stack) ch H H' s.heap s'.heap)(aZ:hV X.prog X.w H' s'.heap)(hg:AllBare s'.gens)(hch:∀b∈ch,(b∈X.ex\/X.s₀.heap.objs.size<=b)/\b≠X.env.locals/\(∀x c,X.env.cells.lookup x=some c->c≠b)/\∀p∈X.pn++pins,p.1≠b):Inv X pins σ H' s':=by
 obtain⟨h',g',d',t',o'⟩:=s';have e:o'=s.os:=ho;subst e;exact I.call (g':=g') (t':=t') (d':=d') u aZ hg hch
end
abbrev XK:=Value->Option Addr->Hp->Prop
abbrev St:=List (Option V)
abbrev VK:=V->Hp->Prop
abbrev TE:=St->Hp->VK->Prop
abbrev TT:=St->Hp->(Bool->Hp->Prop)->Prop
abbrev TA:=St->Hp->(List V->Hp->Prop)->Prop
structure Ends where
 nx:St->Hp->Prop
 rt:VK
 bk:St->Hp->Prop:=λ_ _=>False
 ct:St->Hp->Prop:=λ_ _=>False
abbrev TS:=Ends->St->Hp->Prop
inductive Hn(X:Cx)(pins:List (Addr×Obj))(σ:St)(Q:VK)(u:Value)(s':Shared):Prop where
 | mk (v H'):Inv X pins σ H' s'->RelV v u->Q v H'->Hn X pins σ Q u s'
def EP(X:Cx)(pins:List (Addr×Obj))(σ:St)(Q:VK)(u:Value)(s':Shared):Prop:=Hn X pins σ Q u s'
def TP(X:Cx)(pins:List (Addr×Obj))(σ:St)(Q:Bool->Hp->Prop)(b:Bool)(s':Shared):Prop:=∃H',Inv X pins σ H' s'/\Q b H'
inductive Ho(X:Cx)(pins:List (Addr×Obj))(σ:St)(Q:List V->Hp->Prop)(us:List Value)(s':Shared):Prop where
 | mk (vs H'):Inv X pins σ H' s'->Vals vs us->Q vs H'->Ho X pins σ Q us s'
def AP(X:Cx)(pins:List (Addr×Obj))(σ:St)(Q:List V->Hp->Prop)(us:List Value)(s':Shared):Prop:=Ho X pins σ Q us s'
def SP(X:Cx)(pins:List (Addr×Obj))(D:Ends)(f:Flow)(s':Shared):Prop:=
 match f with
 | .next=>∃σ' H',Inv X pins σ' H' s'/\D.nx σ' H'
 | .brk=>∃σ' H',Inv X pins σ' H' s'/\D.bk σ' H'
 | .cont=>∃σ' H',Inv X pins σ' H' s'/\D.ct σ' H'
 | .ret u=>∃v σ' H',Inv X pins σ' H' s'/\RelV v u/\D.rt v H'
def PE(X:Cx)(e:Expr)(t:TE):Prop:=
 ∀(pins:List (Addr×Obj)) (s:Shared) (σ:St) (H:Hp) (Q:VK),Inv X pins σ H s->t σ H Q->wpAny (model X.prog X.w) X.A (eval e X.env) (EP X pins σ Q) X.xe s
def PT(X:Cx)(e:Expr)(t:TT):Prop:=
 ∀(pins:List (Addr×Obj)) (s:Shared) (σ:St) (H:Hp) (Q:Bool->Hp->Prop),Inv X pins σ H s->t σ H Q->wpAny (model X.prog X.w) X.A (isTrue e X.env (eval e X.env)) (TP X pins σ Q) X.xe s
def PW(X:Cx)(e:Expr)(t:TT):Prop:=
 ∀(whole:Sem Value)(pins:List (Addr×Obj)) (s:Shared) (σ:St) (H:Hp) (Q:Bool->Hp->Prop),Inv X pins σ H s->t σ H Q->wpAny (model X.prog X.w) X.A (isTrue e X.env whole) (TP X pins σ Q) X.xe s
theorem PW.pt(h:PW X e t):PT X e t:=h _
def PA(X:Cx)(es:List Expr)(t:TA):Prop:=
 ∀(pos:Pos)(pins:List (Addr×Obj)) (s:Shared) (σ:St) (H:Hp) (Q:List V->Hp->Prop),Inv X pins σ H s->t σ H Q->wpAny (model X.prog X.w) X.A (spliced (backTo pos (starEach es X.env))) (AP X pins σ Q) X.xe s
def PS(X:Cx)(st:Stmt)(t:TS):Prop:=
 ∀(pins:List (Addr×Obj)) (s:Shared) (σ:St) (H:Hp) (D:Ends),Inv X pins σ H s->t D σ H->wpAny (model X.prog X.w) X.A (exec st X.env) (SP X pins D) X.xe s
def qB(X:Cx)(st:List Stmt)(t:TS):Prop:=
 ∀(pins:List (Addr×Obj)) (s:Shared) (σ:St) (H:Hp) (D:Ends),Inv X pins σ H s->t D σ H->wpAny (model X.prog X.w) X.A (execs st X.env) (SP X pins D) X.xe s
theorem bT(h:wpAny M A t Q E s)(hQ:∀a s,Q a s->Q' a s):wpAny M A t Q' E s:=I0 h hQ λ_ _ x=>x
section
variable {X:Cx}
def FX(i:Nat):TE:=λσ H Q=>∃v,σ[i]?=some (some v)/\Q v H
def tC(v:V):TE:=λ_ H Q=>Q v H
theorem BH(hN:X.N[i]?=some x)(hv:Fi X.env.scope x)(hd:(x==("__debug__":Str))=false:=by decide)(hcd:(x==("__classdict__":Str))=false:=by decide):PE X (.Name x pos) (FX i):=by
 intro pins s σ H Q I h;obtain⟨v,e,h⟩:=h;obtain⟨m,hn,hl⟩:=I.loc;obtain⟨u,r,l⟩:=hl i x v hN e hv;have fin:EP X pins σ Q u s:=⟨v,H,I,r,h⟩;rcases l with⟨hk,hm⟩ |⟨hk,c,hc,hcell⟩
 ·exact wpAny_Name (wpAny_loadName_local I.ok.kind hk hn hm fin) hd
 ·rcases hk with hk | hk
  ·exact wpAny_Name (wpAny_loadName_cell I.ok.kind hk hc hcell fin) hd
  ·exact wpAny_Name (wpAny_loadName_free I.ok.kind hk hc hcell fin hcd) hd
theorem wa{i j pos}:PE X (.Constant (.int i) j pos) (tC (.int i)):=λ_ _ _ H _ I h=>wpAny_Constant_int ⟨.int i,H,I.tok _,⟨_,rfl⟩,h⟩
theorem Et{b j pos}:PE X (.Constant (.bool b) j pos) (tC (.bl b)):=λ_ _ _ H _ I h=>Constant_bool ⟨.bl b,H,I,rfl,h⟩
theorem BN{j pos}:PE X (.Constant .none j pos) (tC .ck):=λ_ _ _ H _ I h=>Constant_none ⟨.ck,H,I,rfl,h⟩
theorem BK{x j pos}:PE X (.Constant (.str x) j pos) (tC (.str x)):=λ_ _ _ H _ I h=>Calls.Constant_str ⟨.str x,H,I.tok _,⟨_,rfl⟩,h⟩
def Gl(X:Cx)(x:Str):Prop:=X.env.kindOf x=some .globalImplicit
theorem oR(I:Inv X pins σ H s)(hg:Gl X x)(hm:X.mg x=some u)(h:Q u s)(hd:(x==("__debug__":Str))=false:=by decide):wpAny (model X.prog X.w) X.A (eval (.Name x pos) X.env) Q E s:=
 LM I.ok.kind hg (Calls.loadGlobal_global (by rw[I.ok.glob];exact I.mod.glob.keeps I.bk) hm h) hd
theorem iF(I:Inv X pins σ H s)(hg:Gl X x)(hm:X.mg x=none)(hv:bootBuiltins x=some u)(h:Q u s)(hn:x≠"__name__":=by decide)(hd:(x==("__debug__":Str))=false:=by decide):wpAny (model X.prog X.w) X.A (eval (.Name x pos) X.env) Q E s:=by
 obtain⟨mb,h1,h2⟩:=I.mod.blt;exact LM I.ok.kind hg (Calls.loadGlobal_builtin (by rw[I.ok.glob];exact I.mod.glob.keeps I.bk) hm (by rw[I.ok.blt];exact h1.keeps I.bk) ((h2 x hn).trans hv) h) hd
theorem yU(hg:Gl X x)(hm:X.mg x=some u)(r:RelV v u)(hd:(x==("__debug__":Str))=false:=by decide):PE X (.Name x pos) (tC v):=
 λ_ _ _ H _ I h=>oR I hg hm ⟨v,H,I,r,h⟩ hd
theorem yY(hg:Gl X x)(hm:X.mg x=none)(hv:bootBuiltins x=some u)(r:RelV v u)(hn:x≠"__name__":=by decide)(hd:(x==("__debug__":Str))=false:=by decide):PE X (.Name x pos) (tC v):=
 λ_ _ _ H _ I h=>iF I hg hm hv ⟨v,H,I,r,h⟩ hn hd
variable {a b:Expr} {ta tb:TE} {pos:Pos}
variable {tA tB':TT} {rest:List Expr}
def qL(t u:TT):TT:=λσ H Q=>t σ H λc H1=>if c=true then u σ H1 Q else Q false H1
def xG(t u:TT):TT:=λσ H Q=>t σ H λc H1=>if c=true then Q true H1 else u σ H1 Q
def tS(t:TT):TT:=λσ H Q=>t σ H λc H1=>Q (!c) H1
theorem yD(ha:PT X a tA):PW X (.BoolOp .And [a] pos) tA:=by
 intro wh pins s σ H Q I h;refine isTrue_and (bT (ha pins s σ H Q I h) λc s1 e=>?_);cases c with
 | true=>exact isTrue_and_nil e
 | false=>exact e
theorem Bu(ha:PT X a tA):PW X (.BoolOp .Or [a] pos) tA:=by
 intro wh pins s σ H Q I h;refine isTrue_or (bT (ha pins s σ H Q I h) λc s1 e=>?_);cases c with
 | false=>exact isTrue_or_nil e
 | true=>exact e
theorem Bv(ha:PT X a tA)(hb:PW X (.BoolOp .And (b::rest) pos) tB'):PW X (.BoolOp .And (a::b::rest) pos) (qL tA tB'):=by
 intro wh pins s σ H Q I h;refine isTrue_and (bT (ha pins s σ H _ I h) λc s1 ⟨H1,I1,q1⟩=>?_);cases c with
 | true=>exact hb wh pins s1 σ H1 Q I1 q1
 | false=>exact⟨H1,I1,q1⟩
theorem Em(ha:PT X a tA)(hb:PW X (.BoolOp .Or (b::rest) pos) tB'):PW X (.BoolOp .Or (a::b::rest) pos) (xG tA tB'):=by
 intro wh pins s σ H Q I h;refine isTrue_or (bT (ha pins s σ H _ I h) λc s1 ⟨H1,I1,q1⟩=>?_);cases c with
 | true=>exact⟨H1,I1,q1⟩
 | false=>exact hb wh pins s1 σ H1 Q I1 q1
theorem Bx(ha:PT X a tA):PT X (.UnaryOp .Not a pos) (tS tA):=by
 intro pins s σ H Q I h;exact isTrue_not (ha pins s σ H (λc H1=>Q (!c) H1) I h)
theorem BM{op}(h:PE X a t):PE X (.BoolOp op [a] pos) t:=λpins s σ H Q I hw=>BoolOp_one (h pins s σ H Q I hw)
def Hw(t:TT)(ta tb:TE):TE:=λσ H Q=>t σ H λc H1=>if c=true then ta σ H1 Q else tb σ H1 Q
theorem wb(hc:PT X c tA)(ha:PE X a ta)(hb:PE X b tb):PE X (.IfExp c a b pos) (Hw tA ta tb):=by
 intro pins s σ H Q I h;refine wpAny_IfExp (bT (hc pins s σ H _ I h) λd s1 ⟨H1,I1,q1⟩=>?_);cases d with
 | true=>exact ha pins s1 σ H1 Q I1 q1
 | false=>exact hb pins s1 σ H1 Q I1 q1
end
def fu(K:FR)(H:Hp)(a:Addr)(xs:List V):Prop:=
 Rd H a (.lst xs)\/
  ∃(o:Obj)(its:Array Value)(n:Nat),K.lookup a=some o/\o.cls=.type "list"/\o.dict=none/\o.data=.seq its n/\its.size<=sizeLine/\Vals xs its.toList
def g8(K:FR)(H:Hp)(a:Addr)(xs:List V):Prop:=
 Rd H a (.tup xs)\/
  ∃(o:Obj)(its:Array Value)(n:Nat),K.lookup a=some o/\o.cls=.type "tuple"/\o.data=.seq its n/\its.size<=sizeLine/\Vals xs its.toList/\o.dict=none
noncomputable def GX:Value->Option V
 | .none=>some .ck
 | .bool b=>some (.bl b)
 | .int i _=>some (.int i)
 | .str x _=>some (.str x)
 | .bytes b _=>some (.byt b)
 | .float b _=>some (.Dy b)
 | .ref a=>some (.ref a)
 | .type n=>some (.ty n)
 | _=>none
theorem RelV.abs(r:RelV x u):GX u=some x:=by
 cases x with
 | ck=>cases r;rfl
 | bl _=>cases r;rfl
 | int _=>obtain⟨t,rfl⟩:=r;rfl
 | str _=>obtain⟨t,rfl⟩:=r;rfl
 | byt _=>obtain⟨t,rfl⟩:=r;rfl
 | Dy _=>obtain⟨t,rfl⟩:=r;rfl
 | ref _=>cases r;rfl
 | ty _=>cases r;rfl
theorem RelV.inj(r:RelV x u)(q:RelV y u):x=y:=Option.some.inj (r.abs.symm.trans q.abs)
theorem Vals.inj:∀{xs ys:List V} {us:List Value},Vals xs us->Vals ys us->xs=ys
 | _,_,_,.nil,.nil=>rfl
 | _,_,_,.cons r t,.cons r' t'=>by rw[r.inj r',Vals.inj t t']
theorem fu.of{K:FR}(h:H a=some (.lst xs)):fu K H a xs:=.inl (.inl h)
theorem Inv.list(I:Inv X pins σ H s)(h:fu X.K H a xs):∃its:List Value,Vals xs its/\PlainL s.heap a its.toArray/\xs.length<=sizeLine:=by
 rcases h with h |⟨o,its,n,hk,hc,hd,hs,hz,r⟩
 ·obtain⟨z,its,n,r,e⟩:=h.ok I.aZ;exact⟨its,r,⟨_,n,e,rfl,rfl,rfl⟩,z⟩
 ·refine⟨its.toList,r,⟨o,n,I.oT a o hk,hc,hd,by simpa using hs⟩,?_⟩;have e:=r.length;simp only[Jt] at e
  lia
theorem Inv.tuple(I:Inv X pins σ H s)(h:g8 X.K H a xs):∃its:List Value,Vals xs its/\IsTup s.heap a its.toArray/\xs.length<=sizeLine:=by
 rcases h with h |⟨o,its,n,hk,hc,hs,hz,r,_⟩
 ·obtain⟨z,its,r,p⟩:=h.ok I.aZ;exact⟨its,r,p.tup,z⟩
 ·refine⟨its.toList,r,⟨o,I.oT a o hk,hc,n,by simpa using hs⟩,?_⟩;have e:=r.length;simp only[Jt] at e
  lia
theorem Inv.qa(I:Inv X pins σ H s)(h:fu X.K H a xs)(h':fu X.K H a ys):xs=ys:=by
 obtain⟨its,r,⟨o,n,e,_,_,d⟩,_⟩:=I.list h;obtain⟨its',r',⟨o',n',e',_,_,d'⟩,_⟩:=I.list h';rw[e] at e';cases e';rw[d] at d';injection d' with d1 _
 have:its=its':=by simpa using congrArg Array.toList d1
 subst this;exact r.inj r'
theorem Inv.mW(I:Inv X pins σ H s)(h:g8 X.K H a xs)(h':g8 X.K H a ys):xs=ys:=by
 obtain⟨its,r,⟨o,e,_,n,d⟩,_⟩:=I.tuple h;obtain⟨its',r',⟨o',e',_,n',d'⟩,_⟩:=I.tuple h';rw[e] at e';cases e';rw[d] at d';injection d' with d1 _
 have:its=its':=by simpa using congrArg Array.toList d1
 subst this;exact r.inj r'
abbrev Cx.l9(X:Cx)(E:Value->Shared->Prop):Cx:={X with xe:=E}
abbrev Cx.Dw(X:Cx):Cx:=X.l9 λ_ _=>False
theorem Cx.Ok.l9{X:Cx}(ok:X.Ok)(E:Value->Shared->Prop):(X.l9 E).Ok:=
 ⟨ok.mod,ok.kind,ok.glob,ok.blt,ok.above,ok.inj,ok.has,ok.E3,ok.hd,ok.frames,ok.FO,ok.Hb,ok.bs,ok.Ao,ok.wx,ok.zw,ok.lF,ok.Dx⟩
theorem Cx.Ok.gm{X:Cx}{E:Value->Shared->Prop}(ok:(X.l9 E).Ok):X.Ok:=
 ⟨ok.mod,ok.kind,ok.glob,ok.blt,ok.above,ok.inj,ok.has,ok.E3,ok.hd,ok.frames,ok.FO,ok.Hb,ok.bs,ok.Ao,ok.wx,ok.zw,ok.lF,ok.Dx⟩
theorem Inv.l9(I:Inv X pins σ H s)(E:Value->Shared->Prop):Inv (X.l9 E) pins σ H s:=⟨I.ok.l9 E,I.os,I.bare,I.base,I.loc,I.cell,I.free,I.ie,I.pin,I.aZ,I.len⟩
theorem Inv.gm(I:Inv (X.l9 E) pins σ H s):Inv X pins σ H s:=⟨I.ok.gm,I.os,I.bare,I.base,I.loc,I.cell,I.free,I.ie,I.pin,I.aZ,I.len⟩
theorem SP.gm(h:SP (X.l9 E) pins D f s'):SP X pins D f s':=by
 cases f with
 | next=>obtain⟨σ',H',I,q⟩:=h;exact⟨σ',H',I.gm,q⟩
 | brk=>obtain⟨σ',H',I,q⟩:=h;exact⟨σ',H',I.gm,q⟩
 | cont=>obtain⟨σ',H',I,q⟩:=h;exact⟨σ',H',I.gm,q⟩
 | ret u=>obtain⟨v,σ',H',I,r,q⟩:=h;exact⟨v,σ',H',I.gm,r,q⟩
theorem qB.Dw{st:List Stmt}{t:TS}(h:qB X.Dw st t):qB X st t:=λpins s σ H D I hw=>
 I0 (h pins s σ H D (I.l9 _) hw) (λ_ _ q=>q.gm) λ_ _ z=>False.elim z
section
variable {X:Cx} {st:Stmt} {rest:List Stmt} {t u:TS} {e:Expr} {te:TE} {pos:Pos}
def DV:TS:=λD σ H=>D.nx σ H
def DO(t u:TS):TS:=λD σ H=>t {D with nx:=u D} σ H
theorem yG:qB X [] DV:=λ_ _ σ H _ I h=>KL ⟨σ,H,I,h⟩
theorem vP(h1:PS X st t)(h2:qB X rest u):qB X (st::rest) (DO t u):=by
 intro pins s σ H D I h;refine wpAny_execs_cons (bT (h1 pins s σ H {D with nx:=u D} I h) λf s1 q=>?_);cases f with
 | next=>
  obtain⟨σ',H',I',q⟩:=q;exact h2 pins s1 σ' H' D I' q
 | ret v=>exact q
 | brk=>exact q
 | cont=>exact q
theorem yF(h1:PS X st t):qB X [st] t:=by
 intro pins s σ H D I h;refine wpAny_execs_cons (bT (h1 pins s σ H D I h) λf s1 q=>?_);cases f with
 | next=>exact KL q
 | ret v=>exact q
 | brk=>exact q
 | cont=>exact q
theorem Inv.quiet(I:Inv X pins σ H s):interactive X.env=false:=by simp[interactive,I.ok.kind]
def DY(te:TE):TS:=λD σ H=>te σ H λ_ H1=>D.nx σ H1
theorem yJ(he:PE X e te)(hs:swapsWith e none pos.line X.env=pure false:=by rfl):PS X (.Expr e pos) (DY te):=by
 intro pins s σ H D I h;exact wpAny_Expr_any (bT (he pins s σ H _ I h) λv s1 ⟨x,H1,I1,r1,q1⟩=>⟨σ,H1,I1,q1⟩) I.quiet hs
def FZ(te:TE):TS:=λD σ H=>te σ H D.rt
theorem Bz(he:PE X e te):PS X (.Return (some e) pos) (FZ te):=by
 intro pins s σ H D I h;exact wpAny_Return_some (bT (he pins s σ H _ I h) λv s1 ⟨x,H1,I1,r1,q1⟩=>⟨x,σ,H1,I1,r1,q1⟩)
def F5(c:TT)(t u:TS):TS:=λD σ H=>c σ H λb H1=>if b=true then t D σ H1 else u D σ H1
theorem Eo(hc:PT X c tc)(ha:qB X a t)(hb:qB X b u):PS X (.If c a b pos) (F5 tc t u):=by
 intro pins s σ H D I h;refine wpAny_If (bT (hc pins s σ H _ I h) λd s1 ⟨H1,I1,q1⟩=>?_);cases d with
 | true=>exact ha pins s1 σ H1 D I1 q1
 | false=>exact hb pins s1 σ H1 D I1 q1
end
abbrev TG:=V->St->Hp->(St->Hp->Prop)->Prop
abbrev Di:=List V->St->Hp->(St->Hp->Prop)->Prop
def PG(X:Cx)(target:Expr)(t:TG):Prop:=
 ∀(pins:List (Addr×Obj)) (s:Shared) (σ:St) (H:Hp) (v:V) (u:Value) (Q:St->Hp->Prop),Inv X pins σ H s->RelV v u->t v σ H Q->
  wpAny (model X.prog X.w) X.A (assign target X.env u) (λ_ s'=>∃σ' H',Inv X pins σ' H' s'/\Q σ' H') X.xe s
def Au(X:Cx)(ts:List Expr)(t:Di):Prop:=
 ∀(pins:List (Addr×Obj)) (s:Shared) (σ:St) (H:Hp) (vs:List V) (us:List Value) (Q:St->Hp->Prop),Inv X pins σ H s->Vals vs us->t vs σ H Q->
  wpAny (model X.prog X.w) X.A (assignInOrder ((assignEach ts X.env).map (·.2)) us) (λ_ s'=>∃σ' H',Inv X pins σ' H' s'/\Q σ' H') X.xe s
abbrev Fm:=V->V->V->Hp->(Hp->Prop)->Prop
def zP(X:Cx)(t:Fm):Prop:=
 ∀(pins:List (Addr×Obj)) (s:Shared) (σ:St) (H:Hp) (o i v:V) (ov iv u:Value) (Q:Hp->Prop),Inv X pins σ H s->RelV o ov->RelV i iv->RelV v u->t o i v H Q->
  wpAny (model X.prog X.w) X.A (setItem ov iv u) (λ_ s'=>∃H',Inv X pins σ H' s'/\Q H') X.xe s
def qg(i:Nat):TG:=λv σ H Q=>Q (σ.set i (some v)) H
theorem yS(hN:X.N.Nodup)(hi:X.N[i]?=some x)(hx:Loc X.env.scope x)(hf:X.fn x=true\/X.env.scope.names.lookup x=some .local:=by first | exact .inl rfl | exact .inr rfl | assumption):PG X (.Name x pos) (qg i):=by
 intro pins s σ H v u Q I r h;exact wpAny_assign_Name (iQ I hN hi hx r (λs' I'=>⟨_,H,I',h⟩) hf)
noncomputable def GL:Di:=λvs σ H Q=>vs=[]/\Q σ H
def ET(t:TG)(u:Di):Di:=λvs σ H Q=>∃v r,vs=v::r/\t v σ H λσ' H'=>u r σ' H' Q
theorem yR:Au X [] GL:=by
 intro pins s σ H vs us Q I r h;obtain⟨e,h⟩:=h;subst e;cases r;exact assignInOrder_nil ⟨σ,H,I,h⟩
theorem vW(h1:PG X e t)(h2:Au X es u)(hs:(assignEach (e::es) X.env).map (·.2)=assign e X.env::(assignEach es X.env).map (·.2):=by rfl):Au X (e::es) (ET t u):=by
 intro pins s σ H vs us Q I r h;obtain⟨v,vr,e1,h⟩:=h;subst e1;cases r with
 | cons r rr=>
  rw[hs];refine LG (bT (h1 pins s σ H _ _ _ I r h) λ_ s1 ⟨σ1,H1,I1,q1⟩=>?_);exact h2 pins s1 σ1 H1 _ _ Q I1 rr q1
def GK(K:FR)(n:Nat)(t:Di):TG:=λv σ H Q=>∃a xs,v=.ref a/\g8 K H a xs/\xs.length=n/\t xs σ H Q
theorem BG(hc:X.calm=true)(h:Au X es t)(hn:(assignEach es X.env).length=n:=by rfl)(hst:(assignEach es X.env).findIdx? (·.1)=none:=by rfl):PG X (.Tuple es k pos) (GK X.K n t):=by
 intro pins s σ H v u Q I r hw;obtain⟨a,xs,e1,hq,hl,hw⟩:=hw;subst e1;cases r;obtain⟨its,rv,ht,hz⟩:=I.tuple hq;refine assign_Tuple_tuple (I.ok.hd hc) ht (by simp[hn,<-hl,rv.length]) hst λh' hx=>?_;have I1:Inv X pins σ H {s with heap:=h'}:=I.kept (t':=s.toks) λb o e=>hx b o (Iv (HV e)) e;exact h pins _ σ H xs _ Q I1 (by simpa using rv) hw
def oW(to ti:TE)(t:Fm):TG:=λv σ H Q=>to σ H λo H1=>ti σ H1 λi H2=>t o i v H2 λH3=>Q σ H3
theorem vX (ho:PE X o to) (hi:PE X i ti) (hs:zP X t) (ha:∀v,assign (.Subscript o i pos) X.env v=(do
   let ov<-holding [v] (eval o X.env);let iv<-holding [v,ov] (eval i X.env)
   standAt pos
   holding [v,ov,iv] (setItem ov iv v)
   release [v,ov,iv] []):=by intro _;rfl):PG X (.Subscript o i pos) (oW to ti t):=by
 intro pins s σ H v u Q I r h;rw[ha];refine HG (Ju (bT (ho pins s σ H _ I h) λov s1 ⟨x,H1,I1,r1,q1⟩=>?_));refine HG (Ju (bT (hi pins s1 σ H1 _ I1 q1) λiv s2 ⟨y,H2,I2,r2,q2⟩=>?_));refine HG (JO (HG (Ju (bT (hs pins s2 σ H2 x y v ov iv u _ I2 r1 r2 r q2) λ_ s3 ⟨H3,I3,q3⟩=>?_))));exact wpAny_release ⟨σ,H3,I3,q3⟩
def xY(te:TE)(g:TG):TS:=λD σ H=>te σ H λx H1=>g x σ H1 D.nx
theorem BB(he:PE X e te)(hg:PG X tg g)(hs:swapsWithSole [tg] e pos.line X.env=pure false:=by rfl)(hw:swappedStores [tg] e X.env=pure none:=by rfl)(h1:(assignEach [tg] X.env).map (·.2)=[assign tg X.env]:=by rfl):PS X (.Assign [tg] e pos) (xY te g):=by
 intro pins s σ H D I h;refine wpAny_Assign_stores (bT (he pins s σ H _ I h) λv s1 ⟨x,H1,I1,r1,q1⟩=>?_) hs hw;rw[h1];exact bT (hg pins s1 σ H1 x v _ I1 r1 q1) λ_ s2 q=>q
theorem By(hN:X.N.Nodup)(hi:X.N[i]?=some x)(hx:Loc X.env.scope x)(he:PE X e te)(hs:swapsWith e (some (.Name x pos')) pos.line X.env=pure false:=by rfl)(hf:X.fn x=true\/X.env.scope.names.lookup x=some .local:=by first | exact .inl rfl | exact .inr rfl | assumption):
  PS X (.Assign [.Name x pos'] e pos) (xY te (qg i)):=by
 intro pins s σ H D I h;refine wpAny_Assign_Name (bT (he pins s σ H _ I h) λv s1 ⟨y,H1,I1,r1,q1⟩=>?_) hs;exact iQ I1 hN hi hx r1 (λs2 I2=>⟨_,H1,I2,q1⟩) hf
def DR(i j:Nat)(ta:TA):TS:=λD σ H=>ta σ H λvs H1=>∃v w,vs=[v,w]/\D.nx ((σ.set i (some v)).set j (some w)) H1
theorem vR{kt k2 pt2}(hc:X.calm=true)(hN:X.N.Nodup)(hi:X.N[i]?=some x)(hj:X.N[j]?=some y)(hij:i≠j)(hx:X.env.scope.names.lookup x=some .local)(hy:X.env.scope.names.lookup y=some .local)(ha:PA X [a,b] ta)(hw:swappedStores [.Tuple [.Name x px,.Name y py] kt pt] (.Tuple [a,b] k2 pt2) X.env=pure (some [x,y]))(hs:swapsWithSole [.Tuple [.Name x px,.Name y py] kt pt] (.Tuple [a,b] k2 pt2) pos.line X.env=pure false:=by rfl):
  PS X (.Assign [.Tuple [.Name x px,.Name y py] kt pt] (.Tuple [a,b] k2 pt2) pos) (DR i j ta):=by
 intro pins s σ H D I h;rw[exec_Assign_arm];refine HG (JO ?_);rw[hs];refine HG (HK ?_);rw[HS (by decide)];refine HG (Tuple_ (bT (ha _ pins s σ H _ I h) λus s1 ⟨vs,H1,I1,r1,q1⟩=>?_));obtain⟨v,w,e1,q1⟩:=q1;subst e1;obtain⟨u1,u2,rfl,rv,rw'⟩:∃u1 u2,us=[u1,u2]/\RelV v u1/\RelV w u2:=by
  cases r1 with
  | cons p q=>
   cases q with
   | cons p' q'=>
    cases q';exact⟨_,_,rfl,p,p'⟩
 refine IC ?_ (by show 2<=sizeLine;decide);have I2:Inv X pins σ H1 {s1 with heap:=s1.heap.push {cls:=.type "tuple",data:=.seq [u1,u2].toArray}}:=I1.kept (t':=s1.toks) λb o e=>HI _ e;rw[hw];refine HG (HK ?_);show wpAny (model X.prog X.w) X.A (do rule "assign.swapped-stores";let items<-unpackItems (.ref s1.heap.objs.size) 2 none;assignInOrder [λv=>bindName X.env y v,λv=>bindName X.env x v] items.reverse;pure Flow.next) _ _ _;refine HG (JT (HG (unpackItems_tuple (items:=#[u1,u2]) (I.ok.hd hc) (IsTup.new s1.heap _) λh' hx'=>?_)));have I3:=I2.kept (h':=h') (t':=s1.toks) λb o e=>hx' b o (Iv (HV e)) e;show wpAny _ _ (assignInOrder [λv=>bindName X.env y v,λv=>bindName X.env x v] [u2,u1] >>=λ_=>pure Flow.next) _ _ _;refine HG (LG (wpAny_bindName (iQ I3 hN hj (.inl hy) rw' (λs2 I4=>?_) (.inr hy))));refine LG (wpAny_bindName (iQ I4 hN hi (.inl hx) rv (λs3 I5=>assignInOrder_nil (HK ?_)) (.inr hx)));rw[List.set_comm _ _ (Jl hij)] at I5;exact⟨_,H1,I5,q1⟩
def uY(c:TT)(tb:TS):TS:=λD σ H=>∃W:Nat->St->Hp->Prop,(∃m,W m σ H)/\∀m σ H,W m σ H->
 c σ H λb H1=>if b=true then ∃N:St->Hp->Prop,(∀σ' H',N σ' H'->∃m',m' < m/\W m' σ' H')/\tb {D with nx:=N,ct:=N,bk:=D.nx} σ H1 else D.nx σ H1
theorem vQ(hp:PassesOwn (model X.prog X.w) X.A X.env X.xe)(hc:PT X c tc)(hb:qB X body tb):PS X (.While c body [] pos) (uY tc tb):=by
 intro pins s σ H D I h;obtain⟨W,⟨m0,w0⟩,turn⟩:=h;refine wpAny_While (codeAny_whileLoop (λn s'=>∃σ' H',Inv X pins σ' H' s'/\W n σ' H') ?_ m0 ⟨σ,H,I,w0⟩);rintro n s1 ⟨σ1,H1,I1,w1⟩;refine JF hp (bT (hc pins s1 σ1 H1 _ I1 (turn n σ1 H1 w1)) λb s2 ⟨H2,I2,q2⟩=>?_);cases b with
 | true=>
  obtain⟨N,hN,q2⟩:=q2;rw[HQ rfl];refine JF hp (bT (hb pins s2 σ1 H2 _ I2 q2) λf s3 q3=>?_);cases f with
  | next=>
   obtain⟨σ3,H3,I3,n3⟩:=q3;obtain⟨m',hm,w3⟩:=hN σ3 H3 n3;exact⟨m',hm,σ3,H3,I3,w3⟩
  | cont=>
   obtain⟨σ3,H3,I3,n3⟩:=q3;obtain⟨m',hm,w3⟩:=hN σ3 H3 n3;exact⟨m',hm,σ3,H3,I3,w3⟩
  | brk=>exact q3
  | ret v=>exact q3
 | false=>
  rw[HS IG];exact KL ⟨σ1,H2,I2,q2⟩
structure It where
 go:Nat->Hp->Prop
 Av:Nat->Hp->V->Hp->Prop
 stop:Nat->Hp->Prop
def fv(X:Cx)(pins:List (Addr×Obj))(H:Hp)(b:Addr):Prop:=
 H b=none/\b≠X.env.locals/\b∉X.fs/\(b∈X.ex\/X.s₀.heap.objs.size<=b)/\(∀x c,X.env.cells.lookup x=some c->c≠b)/\∀p∈X.pn++pins,p.1≠b
theorem Inv.qh(I:Inv X pins σ H s)(hb:s.heap.objs.size<=b)(hn:H' b=none):fv X pins H' b:=by
 refine⟨hn,JQ (Ir I.lt hb),I.GB hb,.inr (Ie I.sz hb),λx c e z=>?_,λp hp z=>?_⟩
 ·obtain⟨v,q⟩:=I.cell x c e;exact absurd (Ir q.lt (by rw[z];exact hb)) (JY _)
 ·exact absurd (Ir (HV (I.pin p hp).1) (by rw[z];exact hb)) (JY _)
structure Turn(P:Program)(w:World)(K:FR)(tg:Expr)(J:It)(fp:List Addr)(it:Addr)(tn:Nat->Heap->Prop):Prop where
 mem:it∈fp
 obj:∀i h,tn i h->∀b∈fp,∃o,h.get? b=some o/\∀v,o.data≠.cell v
 keep:∀i h h',tn i h->(∀b∈fp,∀o,h.get? b=some o->h'.get? b=some o)->tn i h'
 item:∀(X:Cx),X.prog=P->X.w=w->X.K=K->X.calm=true->∀(i:Nat)(pins:List (Addr×Obj)) (s:Shared) (σ:St) (H:Hp) (E:Value->Shared->Prop),Inv X pins σ H s->(∀b∈fp,fv X pins H b)->tn i s.heap->J.go i H->
  wpAny (model P w) X.A (pyNext (.ref it)) (λr s1=>∃u,r=some u/\
   wpAny (model P w) X.A (letOwnedTupleGo tg (.ref it) u) (λ_ s2=>∃x H',Inv X pins σ H' s2/\RelV x u/\J.Av i H x H'/\tn (i+1) s2.heap/\∀b∈fp,H' b=none) E s1) E s
 done:∀(X:Cx),X.prog=P->X.w=w->X.K=K->X.calm=true->∀(i:Nat)(pins:List (Addr×Obj)) (s:Shared) (σ:St) (H:Hp) (E:Value->Shared->Prop),Inv X pins σ H s->(∀b∈fp,fv X pins H b)->tn i s.heap->J.stop i H->
  wpAny (model P w) X.A (pyNext (.ref it)) (λr s1=>r=none/\Inv X pins σ H s1) E s
 self:∀(A:Around)(i:Nat)(s:Shared)(Q:Value->Shared->Prop)(E:Value->Shared->Prop),tn i s.heap->Q (.ref it) s->wpAny (model P w) A (pyIter (.ref it)) Q E s
abbrev TI:=St->Hp->(It->Hp->Prop)->Prop
def Hj(X:Cx)(pins:List (Addr×Obj))(σ:St)(tg:Expr)(R:It->Hp->Prop)(itv:Value)(s2:Shared):Prop:=
 ∃(it:Addr)(fp:List Addr)(tn:Nat->Heap->Prop)(J:It)(H':Hp),itv=.ref it/\Inv X pins σ H' s2/\Turn X.prog X.w X.K tg J fp it tn/\tn 0 s2.heap/\(∀b∈fp,fv X pins H' b)/\R J H'
def PI(X:Cx)(tg iter:Expr)(wi:TI):Prop:=
 ∀(pins:List (Addr×Obj)) (s:Shared) (σ:St) (H:Hp) (R:It->Hp->Prop),Inv X pins σ H s->wi σ H R->
  wpAny (model X.prog X.w) X.A (eval iter X.env) (λv s1=>wpAny (model X.prog X.w) X.A (pyIter v) (Hj X pins σ tg R) X.xe s1) X.xe s
theorem wO(ho:s.heap.get? it=some o)(hc:o.cls=.type n)(hd:o.data=.fields vs)(hn:["enumerate","zip","dict_itemiterator","dict_reverseitemiterator","odict_iterator","itertools.zip_longest","itertools.pairwise"].contains n=false)(hQ:Q () s):wpAny M A (letOwnedTupleGo tg (.ref it) u) Q E s:=by
 unfold letOwnedTupleGo;cases tg <;> first
  | exact HK hQ
  |(cases u <;> first
    | exact HK hQ
    |(refine HG (wpAny_load ho ?_);rw[hc,hd];show wpAny M A (if(["enumerate","zip","dict_itemiterator","dict_reverseitemiterator","odict_iterator","itertools.zip_longest","itertools.pairwise"].contains n&&vs[0]?==some (rawInt _))=true then _ else _) Q E s;rw[HS (by intro h;rw[hn,Bool.false_and] at h;cases h)];exact HK hQ))
noncomputable def G1(K:FR)(a:Addr):It:=
 ⟨λi H=>∃xs x,fu K H a xs/\xs[i]?=some x,λi H x H'=>H'=H/\∀xs,fu K H a xs->xs[i]?=some x,λi H=>∃xs,fu K H a xs/\xs.length<=i⟩
noncomputable def G0(K:FR)(a:Addr):It:=
 ⟨λi H=>∃xs x,g8 K H a xs/\xs[i]?=some x,λi H x H'=>H'=H/\∀xs,g8 K H a xs->xs[i]?=some x,λi H=>∃xs,g8 K H a xs/\xs.length<=i⟩
noncomputable def FV(lo:Int)(n:Nat):It:=⟨λi _=>i < n,λi H x H'=>H'=H/\x=.int (lo+i),λi _=>n<=i⟩
theorem tO{P:Program}{w:World}{K:FR}{tg:Expr}(a it:Addr):Turn P w K tg (G1 K a) [it] it (λi h=>h.IsListIter it a i) where
 mem:=by simp
 obj:=λi h st b hb=>by
  have e:b=it:=by simpa using hb
  subst e;obtain⟨o,e,c,d⟩:=st;exact⟨o,e,λv z=>by rw[d] at z;cases z⟩
 keep:=λi h h' st k=>st.at λo e=>k it (by simp) o e
 item:=by
  intro X hP hw hK hc i pins s σ H E I hf st hg;subst hP hw hK;obtain⟨xs,x,hq,hx⟩:=hg;obtain⟨its,rv,p,hz⟩:=I.list hq;obtain⟨u,hu,ru⟩:=rv.get hx;obtain⟨f0,f1,f2,f3,f4,f5⟩:=hf it (by simp);refine wpAny_pyNext_list_item st p.isList (x:=u) (by simpa using hu) λh' st' sb=>?_;have I1:Inv X pins σ H {s with heap:=h'}:=I.turned (t':=s.toks) (λb o hb e=>(sb.2 b hb).trans e) f0 f1 f3 f4 f5;obtain⟨o,e,c,d⟩:=id st';exact⟨u,rfl,wO (s:={s with heap:=h'}) e c d (by decide) ⟨x,H,I1,ru,⟨rfl,λys hy=>by rw[I.qa hy hq];exact hx⟩,st',λb hb=>(hf b hb).1⟩⟩
 done:=by
  intro X hP hw hK hc i pins s σ H E I hf st hg;subst hP hw hK;obtain⟨xs,hq,hx⟩:=hg;obtain⟨its,rv,p,hz⟩:=I.list hq;obtain⟨f0,f1,f2,f3,f4,f5⟩:=hf it (by simp);have hl:=rv.length;exact wpAny_pyNext_list_end (I.ok.hd hc) st p.isList (by simp;lia) λh' eb=>⟨rfl,I.turned (t':=s.toks) (λb o hb e=>eb b o hb e) f0 f1 f3 f4 f5⟩
 self:=λ_ _ _ _ _ st h=>wpAny_pyIter_listiter st h
theorem qG{P:Program}{w:World}{K:FR}{tg:Expr}(a it:Addr):Turn P w K tg (G0 K a) [it] it (λi h=>h.IsTupleIter it a i) where
 mem:=by simp
 obj:=λi h st b hb=>by
  have e:b=it:=by simpa using hb
  subst e;obtain⟨o,e,c,d⟩:=st;exact⟨o,e,λv z=>by rw[d] at z;cases z⟩
 keep:=λi h h' st k=>st.at λo e=>k it (by simp) o e
 item:=by
  intro X hP hw hK hc i pins s σ H E I hf st hg;subst hP hw hK;obtain⟨xs,x,hq,hx⟩:=hg;obtain⟨its,rv,p,hz⟩:=I.tuple hq;obtain⟨u,hu,ru⟩:=rv.get hx;obtain⟨f0,f1,f2,f3,f4,f5⟩:=hf it (by simp);refine wpAny_pyNext_tuple_item st (show s.heap.IsTuple a its.toArray from p) (x:=u) (by simpa using hu) λh' st' sb=>?_;have I1:Inv X pins σ H {s with heap:=h'}:=I.turned (t':=s.toks) (λb o hb e=>(sb.2 b hb).trans e) f0 f1 f3 f4 f5;obtain⟨o,e,c,d⟩:=id st';exact⟨u,rfl,wO (s:={s with heap:=h'}) e c d (by decide) ⟨x,H,I1,ru,⟨rfl,λys hy=>by rw[I.mW hy hq];exact hx⟩,st',λb hb=>(hf b hb).1⟩⟩
 done:=by
  intro X hP hw hK hc i pins s σ H E I hf st hg;subst hP hw hK;obtain⟨xs,hq,hx⟩:=hg;obtain⟨its,rv,p,hz⟩:=I.tuple hq;obtain⟨f0,f1,f2,f3,f4,f5⟩:=hf it (by simp);have hl:=rv.length;exact wpAny_pyNext_tuple_end (I.ok.hd hc) st (show s.heap.IsTuple a its.toArray from p) (by simp;lia) λh' eb=>⟨rfl,I.turned (t':=s.toks) (λb o hb e=>eb b o hb e) f0 f1 f3 f4 f5⟩
 self:=λ_ _ _ _ _ st h=>wpAny_pyIter_tupleiter st h
theorem qH{P:Program}{w:World}{K:FR}{tg:Expr}(it:Addr)(lo:Int)(n:Nat):Turn P w K tg (FV lo n) [it] it (λi h=>IsRangeIter h it (lo+(i:Nat)*1) ((n:Int)-(i:Nat)) 1) where
 mem:=by simp
 obj:=λi h st b hb=>by
  have e:b=it:=by simpa using hb
  subst e;exact⟨_,st,λv z=>by
   have z':Data.fields _=Data.cell v:=z;cases z'⟩
 keep:=λi h h' st k=>k it (by simp) _ st
 item:=by
  intro X hP hw hK hc i pins s σ H E I hf st hg;subst hP hw hK;obtain⟨f0,f1,f2,f3,f4,f5⟩:=hf it (by simp);have W:=Walks.range (prog:=X.prog) (w:=X.w) (I.ok.hd hc) it lo 1 n;refine W.item i s _ _ hg st λv h' tk hv st' kk=>?_;obtain⟨t,rfl⟩:=hv;have I1:Inv X pins σ H {s with heap:=h',toks:=tk}:=I.turned (λb o hb e=>kk b o (by simpa using hb) e) f0 f1 f3 f4 f5;refine⟨_,rfl,wO (s:={s with heap:=h',toks:=tk}) (n:="range_iterator") st' rfl rfl (by decide) ⟨.int (lo+i),H,I1,⟨t,?_⟩,⟨rfl,rfl⟩,st',λb hb=>(hf b hb).1⟩⟩;rw[Int.mul_one]
 done:=by
  intro X hP hw hK hc i pins s σ H E I hf st hg;subst hP hw hK;obtain⟨f0,f1,f2,f3,f4,f5⟩:=hf it (by simp);exact wpAny_pyNext_range_end (I.ok.hd hc) st (by have:n<=i:=hg;lia) λh' eb=>⟨rfl,I.turned (t':=s.toks) (λb o hb e=>eb b o hb e) f0 f1 f3 f4 f5⟩
 self:=λ_ _ _ _ _ st h=>wpAny_pyIter_rangeiter st h
theorem vH{pins:List (Addr×Obj)}{σ:St}{H:Hp}{s:Shared}{R:It->Hp->Prop}{E:Value->Shared->Prop}{lo hi:Int}{t u v:Tok}{tk:Nat}(I:Inv X pins σ H s)(h1:-(2^62)<=lo)(h2:lo < 2^62)(h3:-(2^62)<=hi)(h4:hi < 2^62)
  (q:R (FV lo (hi-lo).toNat) H):wpAny (model X.prog X.w) X.A (pyIter (.ref s.heap.objs.size)) (Hj X pins σ tg R) E {s with heap:=s.heap.push {cls:=.type "range",data:=.fields #[.int lo t,.int hi u,.int 1 v]},toks:=tk}:=by
 refine wpAny_pyIter_range (IsRange.new ..) (small_one h1 h2 h3 h4) ?_;have I1:Inv X pins σ H {s with heap:=s.heap.push {cls:=.type "range",data:=.fields #[.int lo t,.int hi u,.int 1 v]},toks:=tk}:=I.kept λb o e=>HI _ e;refine⟨(s.heap.push {cls:=.type "range",data:=.fields #[.int lo t,.int hi u,.int 1 v]}).objs.size,[(s.heap.push {cls:=.type "range",data:=.fields #[.int lo t,.int hi u,.int 1 v]}).objs.size],_,_,H,rfl,
  I1.kept (t':=tk) λb o e=>HI _ e,qH _ lo (hi-lo).toNat,?_,λb hb=>?_,q⟩
 ·have e1:lo+((0:Nat):Int)*1=lo:=by simp
  have e2:(((hi-lo).toNat:Nat):Int)-((0:Nat):Int)=Builtin.Range.rangeSize lo hi 1:=by rw[rangeSize_one];split <;> lia
  show IsRangeIter _ _ (lo+((0:Nat):Int)*1) ((((hi-lo).toNat:Nat):Int)-((0:Nat):Int)) 1;rw[e1,e2];exact HZ _ rfl
 ·have e:b=(s.heap.push {cls:=.type "range",data:=.fields #[.int lo t,.int hi u,.int 1 v]}).objs.size:=by simpa using hb
  subst e;exact I1.qh (HN _) (I1.aZ.fresh (HN _))
def EN(ta:TA):TI:=λσ H R=>ta σ H λvs H1=>∃j:Int,vs=[.int j]/\-(2^62)<=j/\j < 2^62/\R (FV 0 j.toNat) H1
theorem t6{a:Expr}{ta:TA}{p pos:Pos}(hg:Gl X "range")(hm:X.mg "range"=none)(ha:PA X [a] ta)(hs:starEach [a] X.env=[(false,eval a X.env)]:=by rfl):PI X tg (.Call (.Name "range" p) [a] [] pos) (EN ta):=by
 intro pins s σ H R I h;refine Call_ (iF I hg hm boot_range (JC (bT (ha pos pins s σ H _ I h) λus s1 ⟨vs,H1,I1,r1,q1⟩=>?_) hs rfl));obtain⟨j,e,q1,q2,q⟩:=q1;subst e;cases r1 with
 | cons r rr=>
  cases rr;obtain⟨t,rfl⟩:=r;exact call_range_1 (vH I1 (by lia) (by lia) q1 q2 (by simpa using q))
def DX(wi:TI)(g:TG)(tb:TS):TS:=λD σ H=>wi σ H λJ H1=>∃W:Nat->Nat->St->Hp->Prop,(∃m,W 0 m σ H1)/\∀i m σ H,W i m σ H->
 (J.stop i H/\D.nx σ H)\/(J.go i H/\∃N:St->Hp->Prop,(∀σ' H',N σ' H'->∃m',m' < m/\W (i+1) m' σ' H')/\∀x H',J.Av i H x H'->g x σ H' λσ2 H2=>tb {D with nx:=N,ct:=N,bk:=D.nx} σ2 H2)
noncomputable def k5(fp:List Addr)(h:Heap):List (Addr×Obj):=fp.filterMap λb=>(h.get? b).map λo=>(b,o)
theorem fQ(hb:b∈fp)(e:h.get? b=some o):(b,o)∈k5 fp h:=KR.mpr ⟨b,hb,by rw[e];rfl⟩
theorem t7(hp:p∈k5 fp h):p.1∈fp/\h.get? p.1=some p.2:=by
 obtain⟨b,hb,e⟩:=KR.mp hp;cases q:h.get? b with
 | none=>rw[q] at e;cases e
 | some o=>
  rw[q] at e;have e':(b,o)=p:=Option.some.inj e;subst e';exact⟨hb,q⟩
theorem Inv.pinned(I:Inv X pins σ H s)(hf:∀b∈fp,fv X pins H b)(ho:∀b∈fp,∃o,s.heap.get? b=some o/\∀v,o.data≠.cell v):Inv X (pins++k5 fp s.heap) σ H s:=
 I.sE λp hp=>(Il.mp hp).elim (λz=>I.pin p (IJ _ z)) λz=>by
  obtain⟨hb,e⟩:=t7 z;obtain⟨f0,f1,f2,_⟩:=hf p.1 hb;obtain⟨o,e',d⟩:=ho p.1 hb;rw[e] at e';cases e';exact⟨e,f0,f1,f2,d⟩
theorem Inv.iO(I:Inv X (pins++pl) σ H s):Inv X pins σ H s:=I.sE λp hp=>I.pin p (IJ _ (LO _ hp))
theorem BA(hp:PassesOwn (model X.prog X.w) X.A X.env X.xe)(hc:X.calm=true)(hi:PI X tg iter wi)(hg:PG X tg g)(hb:qB X body tb)(hs:∀x,foldedSetIterable iter X.env x=pure x:=by intro _;rfl):PS X (.For tg iter body [] pos) (DX wi g tb):=by
 intro pins s σ H D I h;refine wpAny_For (bT (hi pins s σ H _ I h) λv s1 h1=>bT h1 λitv s2 h2=>?_) hs;obtain⟨it,fp,tn,J,H2,e,I2,T,st2,f2,W,⟨m0,w0⟩,turn⟩:=h2;subst e;have stat:∀{H':Hp},(∀b∈fp,H' b=none)->∀b∈fp,fv X pins H' b:=λhn b hb=>⟨hn b hb,(f2 b hb).2⟩;refine codeAny_forLoop_any (λn s'=>∃i σ' H',Inv X pins σ' H' s'/\tn i s'.heap/\(∀b∈fp,H' b=none)/\W i n σ' H') ?_ m0 ⟨0,σ,H2,I2,st2,λb hb=>(f2 b hb).1,w0⟩;rintro n s3 ⟨i,σ3,H3,I3,st3,fr3,w3⟩;rcases turn i n σ3 H3 w3 with⟨stop,qn⟩ |⟨go,N,hN,step⟩
 ·refine JF hp (bT (T.done X rfl rfl rfl hc i pins s3 σ3 H3 X.xe I3 (stat fr3) st3 stop) λr s4 ⟨hr,I4⟩=>?_);subst hr;exact KL ⟨σ3,H3,I4,qn⟩
 ·refine JF hp (bT (T.item X rfl rfl rfl hc i pins s3 σ3 H3 X.xe I3 (stat fr3) st3 go) λr s4 ⟨u,hr,h4⟩=>?_);subst hr;refine JF hp (bT h4 λ_ s5 ⟨x,H5,I5,r5,y5,st5,fr5⟩=>?_);have I5':=I5.pinned (stat fr5) (T.obj _ _ st5);refine JF hp (bT (hg _ s5 σ3 H5 x u _ I5' r5 (step x H5 y5)) λ_ s6 ⟨σ6,H6,I6,q6⟩=>?_);refine JF hp (bT (hb _ s6 σ6 H6 _ I6 q6) λf s7 q7=>?_);have again:∀{σ7:St} {H7:Hp},Inv X (pins++k5 fp s5.heap) σ7 H7 s7->N σ7 H7->∃m,m < n/\∃i σ' H',Inv X pins σ' H' s7/\tn i s7.heap/\(∀b∈fp,H' b=none)/\W i m σ' H':=λ{σ7 H7} I7 n7=>by
   obtain⟨m',hm,w7⟩:=hN σ7 H7 n7;refine⟨m',hm,i+1,σ7,H7,I7.iO,T.keep _ _ _ st5 λb hb o e=>(I7.pin (b,o) (IJ _ (IJ _ (fQ hb e)))).1,λb hb=>?_,w7⟩;obtain⟨o,e,d⟩:=T.obj _ _ st5 b hb;exact(I7.pin (b,o) (IJ _ (IJ _ (fQ hb e)))).2.1
  cases f with
  | next=>obtain⟨σ7,H7,I7,n7⟩:=q7;exact again I7 n7
  | cont=>obtain⟨σ7,H7,I7,n7⟩:=q7;exact again I7 n7
  | brk=>obtain⟨σ7,H7,I7,q7⟩:=q7;exact⟨σ7,H7,I7.iO,q7⟩
  | ret v=>obtain⟨x7,σ7,H7,I7,r7,q7⟩:=q7;exact⟨x7,σ7,H7,I7.iO,r7,q7⟩
abbrev R2:=V->V->Hp->VK->Prop
def lZ(X:Cx)(f:Value->Value->Sem Value)(r:R2):Prop:=
 ∀(pins:List (Addr×Obj)) (s:Shared) (σ:St) (H:Hp) (x y:V) (v u:Value) (Q:VK),Inv X pins σ H s->RelV x v->RelV y u->r x y H Q->
  wpAny (model X.prog X.w) X.A (f v u) (EP X pins σ Q) X.xe s
def Fj(X:Cx)(f:Value->Sem Value)(r:V->Hp->VK->Prop):Prop:=
 ∀(pins:List (Addr×Obj)) (s:Shared) (σ:St) (H:Hp) (x:V) (v:Value) (Q:VK),Inv X pins σ H s->RelV x v->r x H Q->
  wpAny (model X.prog X.w) X.A (f v) (EP X pins σ Q) X.xe s
def fy(X:Cx)(f:Value)(r:List V->Hp->VK->Prop):Prop:=
 ∀(pins:List (Addr×Obj)) (s:Shared) (σ:St) (H:Hp) (xs:List V) (us:List Value) (Q:VK),Inv X pins σ H s->Vals xs us->r xs H Q->
  wpAny (model X.prog X.w) X.A (call f us) (EP X pins σ Q) X.xe s
def GY(X:Cx)(r:V->Hp->(Bool->Hp->Prop)->Prop):Prop:=
 ∀(pins:List (Addr×Obj)) (s:Shared) (σ:St) (H:Hp) (x:V) (v:Value) (Q:Bool->Hp->Prop),Inv X pins σ H s->RelV x v->r x H Q->
  wpAny (model X.prog X.w) X.A (truthy v) (TP X pins σ Q) X.xe s
def DT(r:R2)(ta tb:TE):TE:=λσ H Q=>ta σ H λx H1=>tb σ H1 λy H2=>r x y H2 Q
def Hr(r:V->Hp->VK->Prop)(ta:TE):TE:=λσ H Q=>ta σ H λx H1=>r x H1 Q
def rI(C:Int->Int->Prop)(g:Int->Int->V):R2:=λx y H Q=>∃i j,x=.int i/\y=.int j/\C i j/\Q (g i j) H
def Aa(g:Int->Int->V):R2:=λx y H Q=>∃i j,x=.int i/\y=.int j/\Q (g i j) H
def rU(g:Int->V):V->Hp->VK->Prop:=λx H Q=>∃i,x=.int i/\Q (g i) H
theorem Dg(ha:PE X a ta)(hb:PE X b tb){pins:List (Addr×Obj)}{s:Shared}{σ:St}{H:Hp}{R:V->V->Hp->Prop}(I:Inv X pins σ H s)
  (h:ta σ H λx H1=>tb σ H1 λy H2=>R x y H2) {Q:Value->Shared->Prop} {f:Value->Value->Sem Value}
  (hf:∀v u s2 x y H2,Inv X pins σ H2 s2->RelV x v->RelV y u->R x y H2->wpAny (model X.prog X.w) X.A (f v u) Q X.xe s2):
  wpAny (model X.prog X.w) X.A (eval a X.env) (λv s₁=>wpAny (model X.prog X.w) X.A (eval b X.env) (λu s₂=>wpAny (model X.prog X.w) X.A (f v u) Q X.xe s₂) X.xe s₁) X.xe s:=by
 refine bT (ha pins s σ H _ I h) λv s1 ⟨x,H1,I1,r1,q1⟩=>?_;refine bT (hb pins s1 σ H1 _ I1 q1) λu s2 ⟨y,H2,I2,r2,q2⟩=>?_;exact hf v u s2 x y H2 I2 r1 r2 q2
theorem Ab{op:Operator}{r:R2}(ho:lZ X (binaryOp op) r)(ha:PE X a ta)(hb:PE X b tb):PE X (.BinOp a op b pos) (DT r ta tb):=by
 intro pins s σ H Q I h;exact wpAny_BinOp (Dg ha hb I h λv u s2 x y H2 I2 rx ry q=>ho pins s2 σ H2 x y v u Q I2 rx ry q)
theorem Ep(ho:Fj X (unaryOp op) r)(ha:PE X a ta):PE X (.UnaryOp op a pos) (Hr r ta):=by
 intro pins s σ H Q I h;exact UnaryOp_ (bT (ha pins s σ H _ I h) λv s1 ⟨x,H1,I1,r1,q1⟩=>ho pins s1 σ H1 x v Q I1 r1 q1)
theorem FP{f:Value->Value->Sem Value}{C:Int->Int->Prop}{g:Int->Int->Int}
  (rule:∀(i j:Int)(t u:Tok)(s:Shared)(Q:Value->Shared->Prop)(E:Value->Shared->Prop),C i j->Q (.int (g i j) s.toks) {s with toks:=s.toks+1}->wpAny (model X.prog X.w) X.A (f (.int i t) (.int j u)) Q E s):
  lZ X f (rI C λi j=>.int (g i j)):=by
 intro pins s σ H x y v u Q I rx ry h;obtain⟨i,j,rfl,rfl,hc,q⟩:=h;obtain⟨t,rfl⟩:=rx;obtain⟨t',rfl⟩:=ry;exact rule i j t t' s _ _ hc ⟨.int (g i j),H,I.tok _,⟨_,rfl⟩,q⟩
theorem ED{f:Value->Value->Sem Value}{g:Int->Int->Int}
  (rule:∀(i j:Int)(t u:Tok)(s:Shared)(Q:Value->Shared->Prop)(E:Value->Shared->Prop),Q (.int (g i j) s.toks) {s with toks:=s.toks+1}->wpAny (model X.prog X.w) X.A (f (.int i t) (.int j u)) Q E s):
  lZ X f (Aa λi j=>.int (g i j)):=by
 intro pins s σ H x y v u Q I rx ry h;obtain⟨i,j,rfl,rfl,q⟩:=h;obtain⟨t,rfl⟩:=rx;obtain⟨t',rfl⟩:=ry;exact rule i j t t' s _ _ ⟨.int (g i j),H,I.tok _,⟨_,rfl⟩,q⟩
theorem Cf{f:Value->Value->Sem Value}{g:Int->Int->Bool}
  (rule:∀(i j:Int)(t u:Tok)(s:Shared)(Q:Value->Shared->Prop)(E:Value->Shared->Prop),Q (.bool (g i j)) s->wpAny (model X.prog X.w) X.A (f (.int i t) (.int j u)) Q E s):
  lZ X f (Aa λi j=>.bl (g i j)):=by
 intro pins s σ H x y v u Q I rx ry h;obtain⟨i,j,rfl,rfl,q⟩:=h;obtain⟨t,rfl⟩:=rx;obtain⟨t',rfl⟩:=ry;exact rule i j t t' s _ _ ⟨.bl (g i j),H,I,rfl,q⟩
def G5(i j:Int):Prop:=0 < j/\j < 1073741824
def G4(i j:Int):Prop:=0<=j/\j<=1000000/\i.natAbs < 2^64
def Dt(i j:Int):Prop:=(-(2^64) < i/\i < 2^64)\/(-(2^64) < j/\j < 2^64)
theorem Dt.ok(h:Dt i j):IntMulOk i j:=by
 rcases h with⟨h1,h2⟩ |⟨h1,h2⟩
 ·exact .of_left (intBits_le_64 h1 h2)
 ·exact .of_right (intBits_le_64 h1 h2)
theorem Ce:lZ X (binaryOp .Add) (Aa λi j=>.int (i+j)):=ED λ_ _ _ _ _ _ _ q=>add_int q
theorem BZ:lZ X (binaryOp .Sub) (Aa λi j=>.int (i-j)):=ED λ_ _ _ _ _ _ _ q=>sub_int q
theorem Cc:lZ X (binaryOp .Mult) (rI Dt λi j=>.int (i*j)):=FP λ_ _ _ _ _ _ _ hc q=>mul_int q hc.ok
theorem Cd:lZ X (binaryOp .Mod) (rI (λ_ j=>0 < j) λi j=>.int (i % j)):=FP λi j _ _ _ _ _ hc q=>by
 have h1:(0:Int) < j:=hc;exact mod_int' (by lia) (by rw[Lg i (by lia)];exact q)
theorem Ca:lZ X (binaryOp .Pow) (rI G4 λi j=>.int (i^j.toNat)):=FP λ_ _ _ _ _ _ _ hc q=>pow_int_small hc.1 hc.2.1 hc.2.2 q
theorem Hq{f:Value->Sem Value}{g:Int->Int}
  (rule:∀(i:Int)(t:Tok)(s:Shared)(Q:Value->Shared->Prop)(E:Value->Shared->Prop),Q (.int (g i) s.toks) {s with toks:=s.toks+1}->wpAny (model X.prog X.w) X.A (f (.int i t)) Q E s):
  Fj X f (rU λi=>.int (g i)):=by
 intro pins s σ H x v Q I rx h;obtain⟨i,rfl,q⟩:=h;obtain⟨t,rfl⟩:=rx;exact rule i t s _ _ ⟨.int (g i),H,I.tok _,⟨_,rfl⟩,q⟩
theorem AD:Fj X (unaryOp .USub) (rU λi=>.int (-i)):=Hq λ_ _ _ _ _ q=>neg_int q
theorem EA:lZ X (compareOp .Lt) (Aa λi j=>.bl (decide (i < j))):=Cf λ_ _ _ _ _ _ _ q=>lt_int q
theorem EB:lZ X (compareOp .Gt) (Aa λi j=>.bl (decide (j < i))):=Cf λ_ _ _ _ _ _ _ q=>gt_int q
theorem EC:lZ X (compareOp .GtE) (Aa λi j=>.bl (decide (j<=i))):=Cf λ_ _ _ _ _ _ _ q=>ge_int q
theorem oO(b:Expr)(h:op≠.In:=by decide)(h2:op≠.NotIn:=by decide):behindInMarks op b=false:=by
 have e1:(op==CmpOp.In)=false:=by cases op <;> first | rfl | exact absurd rfl h
 have e2:(op==CmpOp.NotIn)=false:=by cases op <;> first | rfl | exact absurd rfl h2
 cases b <;> simp[behindInMarks,e1,e2]
theorem yW{op:CmpOp}{r:R2}(ho:lZ X (compareOp op) r)(ha:PE X a ta)(hb:PE X b tb)(hm:behindInMarks op b=false):PE X (.Compare a [op] [b] pos) (DT r ta tb):=by
 intro pins s σ H Q I h;exact wpAny_Compare1 (Dg ha hb I h λv u s2 x y H2 I2 rx ry q=>ho pins s2 σ H2 x y v u Q I2 rx ry q) hm
def DN(t:TE):TT:=λσ H Q=>t σ H λx H'=>∃k,x=.bl k/\Q k H'
theorem yE(ho:lZ X (compareOp op) r)(ha:PE X a ta)(hb:PE X b tb)(hm:behindInMarks op b=false):PT X (.Compare a [op] [b] pos) (DN (DT r ta tb)):=by
 intro pins s σ H Q I h;refine wpAny_isTrue_Compare1 (bT (ha pins s σ H _ I h) λv s1 ⟨x,H1,I1,r1,q1⟩=>bT (hb pins s1 σ H1 _ I1 q1) λu s2 ⟨y,H2,I2,r2,q2⟩=>
  bT (ho pins s2 σ H2 x y v u _ I2 r1 r2 q2) λc s3 ⟨z,H3,I3,r3,k,e,q3⟩=>?_) hm
 subst e;cases r3;exact wpAny_truthy_bool ⟨H3,I3,q3⟩
def zN(K:FR)(x:V)(H:Hp)(k:Bool):Prop:=
 match x with
 | .ck=>k=false
 | .bl b=>k=b
 | .int i=>k=(i !=0)
 | .str y=>y.length<=sizeLine/\k=((y.length:Int) !=0)
 | .byt y=>y.size<=sizeLine/\k=((y.size:Int) !=0)
 | .ref p=>(∃xs,fu K H p xs/\k=!xs.isEmpty)\/(∃xs,g8 K H p xs/\k=!xs.isEmpty)\/∃kvs,H p=some (.dK kvs)/\k=!kvs.isEmpty
 | _=>False
theorem rm(r:KV kvs vs):(!vs.isEmpty)=!kvs.isEmpty:=by
 cases r <;> rfl
theorem lD(r:Vals xs its):(!its.toArray.isEmpty)=!xs.isEmpty:=by
 cases r <;> simp
theorem iE:(sizeLine:Nat) < 2^63:=by rw[Kd];decide
theorem uW:GY X (λx H Q=>∃k,zN X.K x H k/\Q k H):=by
 intro pins s σ H x v Q I rx h;obtain⟨k,e,q⟩:=h;have hl:=iE;have hs:sizeLine=16777216:=Kd;cases x with
 | ck=>
  cases rx;have e':k=false:=e;subst e';exact truthy_none ⟨H,I,q⟩
 | bl b=>
  cases rx;have e':k=b:=e;subst e';exact wpAny_truthy_bool ⟨H,I,q⟩
 | int i=>
  obtain⟨t,rfl⟩:=rx;have e':k=(i !=0):=e;subst e';exact PySem.P.truthy_int ⟨H,I,q⟩
 | str y=>
  obtain⟨t,rfl⟩:=rx;obtain⟨hy,e'⟩:y.length<=sizeLine/\k=((y.length:Int) !=0):=e;subst e';exact PySem.P.truthy_str (by lia) ⟨H,I.tok _,q⟩
 | byt y=>
  obtain⟨t,rfl⟩:=rx;obtain⟨hy,e'⟩:y.size<=sizeLine/\k=((y.size:Int) !=0):=e;subst e';exact PySem.W.truthy_bytes (by lia) ⟨H,I.tok _,q⟩
 | ref p=>
  cases rx;have e':(∃xs,fu X.K H p xs/\k=!xs.isEmpty)\/(∃xs,g8 X.K H p xs/\k=!xs.isEmpty)\/∃kvs,H p=some (.dK kvs)/\k=!kvs.isEmpty:=e;rcases e' with⟨xs,hx,e'⟩ |⟨xs,hx,e'⟩ |⟨kvs,hx,e'⟩
  ·subst e';obtain⟨its,r,pl,hz⟩:=I.list hx;have hlen:=r.length;exact wpAny_truthy_list pl.isList (by simp only[HW];lia) ⟨H,I.tok _,by rw[lD r];exact q⟩
  ·subst e';obtain⟨its,r,pl,hz⟩:=I.tuple hx;have hlen:=r.length;exact truthy_tuple pl (by simp only[HW];lia) ⟨H,I.tok _,by rw[lD r];exact q⟩
  ·subst e';obtain⟨hz,hS,vs,r,m⟩:kvs.length<=sizeLine/\(p==sysModules)=false/\∃vs,KV kvs vs/\s.heap.DictOf (aQ X.prog X.w) p vs:=I.aZ p _ hx;have hlen:kvs.length=vs.length:=Paired.length r;exact wpAny_truthy_dict hS m (by lia) ⟨H,I.tok _,by rw[rm r];exact q⟩
 | _=>exact(show False from e).elim
theorem vO(ha:PE X a ta)(he:∀whole,isTrue a X.env whole=(do let v<-whole;standAt a.pos;holding [v] (truthy v))):
  PT X a (λσ H Q=>ta σ H λx H'=>∃k,zN X.K x H' k/\Q k H'):=by
 intro pins s σ H Q I h;exact isTrue_plain (bT (ha pins s σ H _ I h) λv s1 ⟨x,H1,I1,r1,q1⟩=>uW pins s1 σ H1 x v Q I1 r1 q1) (he _)
theorem q0:lZ X (binaryOp .Add) (λx y H Q=>∃i j,x=.str i/\y=.str j/\i.length+j.length<=sizeLine/\Q (.str (i++j)) H):=by
 intro pins s σ H x y v u Q I rx ry h;obtain⟨i,j,rfl,rfl,hz,q⟩:=h;obtain⟨t,rfl⟩:=rx;obtain⟨t',rfl⟩:=ry;exact add_str (λt' tk=>⟨.str (i++j),H,I.tok _,⟨_,rfl⟩,q⟩) hz
theorem vals1(r:Vals [x] us):∃u,us=[u]/\RelV x u:=by
 cases r with
 | cons r1 r2=>cases r2;exact⟨_,rfl,r1⟩
theorem vals2(r:Vals [x,y] us):∃u w',us=[u,w']/\RelV x u/\RelV y w':=by
 cases r with
 | cons r1 r2=>
  cases r2 with
  | cons r3 r4=>cases r4;exact⟨_,_,rfl,r1,r3⟩
theorem xq:fy X (.builtin "abs") (λxs H Q=>∃i,xs=[.int i]/\Q (.int (if i < 0 then -i else i)) H):=by
 intro pins s σ H xs us Q I r h;obtain⟨i,rfl,q⟩:=h;obtain⟨u,rfl,t,rfl⟩:=vals1 r;exact call_abs_int λu tk=>⟨.int (if i < 0 then -i else i),H,I.tok _,⟨_,rfl⟩,q⟩
theorem pj:fy X (.type "str") (λxs H Q=>∃i,xs=[.int i]/\i.natAbs.log2 < 1920/\Q (.str (toString i)) H):=by
 intro pins s σ H xs us Q I r h;obtain⟨i,rfl,hz,q⟩:=h;obtain⟨u,rfl,t,rfl⟩:=vals1 r;exact PySem.P.str_of_int hz ⟨.str _,H,I.tok _,⟨_,rfl⟩,q⟩
theorem qy:fy X (.builtin "divmod") (λxs H Q=>∃i j,xs=[.int i,.int j]/\G5 i j/\∀p,H p=none->Q (.ref p) (upd H p (.tup [.int (i / j),.int (i % j)]))):=by
 intro pins s σ H xs us Q I r h;obtain⟨i,j,rfl,⟨h1,h2⟩,q⟩:=h;obtain⟨u,w',rfl,⟨t,rfl⟩,⟨t',rfl⟩⟩:=vals2 r;refine divmod_int (by lia) ?_ (.inl (PyProof.noPylong_small (by lia)));rw[Lh i (by lia),Lg i (by lia)];have hn:H s.heap.objs.size=none:=I.aZ.fresh (HN _);refine⟨.ref s.heap.objs.size,_,?_,rfl,q _ hn⟩;refine I.laid (λb o e=>HI _ e) (HN _) ⟨by simp only[HP,Jg];rw[Kd];decide,[.int (i / j) s.toks,.int (i % j) (s.toks+1)],.cons ⟨_,rfl⟩ (.cons ⟨_,rfl⟩ .nil),?_⟩;exact⟨_,HZ s.heap rfl,rfl,⟨0,rfl⟩,rfl⟩
structure Dp(h:Heap)(x dx C:Addr)(mA:Str->Option Value):Prop where
 obj:h.get? x=some (PySem.W.instObj C dx)
 ns:h.Ns1 dx mA
 ne:dx≠x
theorem uc{h:Heap}{dx:Addr}{mA:Str->Option Value}(n:h.Ns1 dx mA):∃od,h.get? dx=some od/\∀name,PySem.W.lookIn name od=some (mA name):=by
 obtain⟨o,es,ep,ho,hd,hk,_,hm⟩:=n;refine⟨o,ho,λname=>?_⟩;have e:=hm name;unfold nsFind findBy at e;rw[<-Array.find?_toList] at e;unfold PySem.W.lookIn;rw[hd];dsimp only
 split
 ·rename_i y q;rw[q] at e;exact congrArg some e
 ·rename_i q;rw[q] at e;have a:es.toList.any (·.refKey)=false:=by
   rw[List.any_eq_false];intro y hy;obtain⟨z,t,hkey⟩:=hk y (KC.mp hy);simp[DictEntry.refKey,hkey]
  have a':¬es.toList.any (·.refKey)=true:=by rw[a];exact IG
  rw[HS a'];exact congrArg some e
theorem Dp.look(I:Dp h x dx C mA):∃od,PySem.W.InstAt h x (PySem.W.instObj C dx) C (some od)/\∀name,PySem.W.lookIn name od=some (mA name):=
 let⟨od,ho,hl⟩:=uc I.ns
 ⟨od,⟨I.obj,rfl,rfl,ho⟩,hl⟩
section
variable {prog:Program} {w:World} {A:Around} {E:Value->Shared->Prop} {s:Shared} {K:FR} {x dx C f:Addr} {mA:Str->Option Value} {name:Str} {v:Value}
end
theorem jI.some_of(r:jI (some v) o):∃u,o=some u/\RelV v u:=by
 cases o with
 | none=>exact(show False from r).elim
 | some u=>exact⟨u,rfl,r⟩
theorem zl(aZ:hV P w H h)(e:H a=some (.ins C dx fs)):∃mA,Dp h a dx C mA/\(∀f,jI (fs.lookup f) (mA f))/\PySem.Within mA (fs.map (·.1))/\fs.length<=1000/\H dx=some (.own a):=by
 obtain⟨d,z,ne,ob,mA,n,r,q⟩:=(show bE P w H h a (.ins C dx fs) from aZ a _ e);exact⟨mA,⟨ob,n,ne⟩,r,q,z,d⟩
structure G3(K:FR)(C:Addr):Prop where
 pg:PySem.W.plainGet K C Str.empty=true
 hd:PySem.W.hasDictIn K C=true
 po:PySem.W.plainOver K C=true
 sa:PySem.W.findIn K (.ref C) "__setattr__"=some (some (.builtin "object.__setattr__"))
theorem G3.get{K:FR}{C:Addr}(c:G3 K C)(f:Str):PySem.W.plainGet K C f=true:=c.pg
inductive jg(K:FR)(H:Hp):V->Value->Prop where
 | ck:jg K H .ck (.type "NoneType")
 | bl (x:Bool):jg K H (.bl x) (.type "bool")
 | int (i:Int):jg K H (.int i) (.type "int")
 | str (x:Str):jg K H (.str x) (.type "str")
 | Dy (x:UInt64):jg K H (.Dy x) (.type "float")
 | lst {a:Addr} {xs:List V} (e:H a=some (.lst xs)):jg K H (.ref a) (.type "list")
 | sU {a:Addr} {o:Obj} {xs:List V} (e:H a=some (.sU o (.lst xs))):jg K H (.ref a) (.type "list")
 | tup {a:Addr} {xs:List V} (e:H a=some (.tup xs)):jg K H (.ref a) (.type "tuple")
 | dK {a:Addr} {kvs:List (Key×V)} (e:H a=some (.dK kvs)):jg K H (.ref a) (.type "dict")
 | dT {a:Addr} {kvs:List (List Key×V)} (e:H a=some (.dT kvs)):jg K H (.ref a) (.type "dict")
 | ins {a C dx:Addr} {fs:List (Str×V)} (e:H a=some (.ins C dx fs)) (cl:G3 K C) (ha:PySem.W.findIn K (.ref C) "__class__"=some (some (.builtin "object.__class__")))
   (hn:PySem.W.specialIn K (.builtin "object.__class__") "__get__"=some (some (.builtin "getset_descriptor.__get__"))) (htk:PySem.W.takesIn K (.builtin "object.__class__")=some true)
   (hm:PySem.W.mroIn K C (.type "object")=some true):jg K H (.ref a) (.ref C)
theorem uk(I:Inv X pins σ H s)(rx:RelV x u)(ty:jg X.K H x t)(e:PySem.W.kitOne X.K t c=some b)(h:∀tk,Q (.bool b) {s with toks:=tk}):
  wpAny (model X.prog X.w) A (call (.builtin "isinstance") [u,c]) Q E s:=by
 cases ty with
 | ck=>cases(show u=Value.none from rx);exact IY PySem.W.kitx_none I.oT True.intro e (λz=>nomatch z) h
 | bl y=>cases(show u=Value.bool y from rx);exact IY PySem.W.kitx_bool I.oT True.intro e (λz=>nomatch z) h
 | int i=>obtain⟨t,q⟩:=(show ∃t,u=Value.int i t from rx);cases q;exact IY PySem.W.kitx_int I.oT True.intro e (λz=>nomatch z) h
 | str y=>obtain⟨t,q⟩:=(show ∃t,u=Value.str y t from rx);cases q;exact IY PySem.W.kitx_str I.oT True.intro e (λz=>nomatch z) h
 | Dy y=>obtain⟨t,q⟩:=(show ∃t,u=Value.float y t from rx);cases q;exact IY PySem.W.kitx_float I.oT True.intro e (λz=>nomatch z) h
 | @lst a xs ea=>
  cases(show u=Value.ref a from rx);obtain⟨_,_,n,_,h1⟩:=(show bE X.prog X.w H s.heap a (.lst xs) from I.aZ a _ ea);exact IY L5 I.oT ⟨_,h1,rfl⟩ e (λz=>nomatch z) h
 | @sU a ob xs ea=>
  cases(show u=Value.ref a from rx);obtain⟨_,_,_,n,_,h1⟩:=(show bE X.prog X.w H s.heap a (.sU ob (.lst xs)) from I.aZ a _ ea);exact IY L5 I.oT ⟨_,h1,rfl⟩ e (λz=>nomatch z) h
 | @tup a xs ea=>
  cases(show u=Value.ref a from rx);obtain⟨_,_,_,p⟩:=(show bE X.prog X.w H s.heap a (.tup xs) from I.aZ a _ ea);obtain⟨o,h1,h2,_⟩:=p;exact IY LX I.oT ⟨o,h1,h2⟩ e (λz=>nomatch z) h
 | @dK a kvs ea=>
  cases(show u=Value.ref a from rx);obtain⟨_,_,vs,_,p⟩:=(show bE X.prog X.w H s.heap a (.dK kvs) from I.aZ a _ ea);obtain⟨o,es,ep,h1,h2,_⟩:=p;exact IY L6 I.oT ⟨o,h1,h2.1⟩ e (λz=>nomatch z) h
 | @dT a kvs ea=>
  cases(show u=Value.ref a from rx);obtain⟨_,_,xs,_,o,es,ep,h1,h2,_⟩:=(show bE X.prog X.w H s.heap a (.dT kvs) from I.aZ a _ ea);exact IY L6 I.oT ⟨o,h1,h2.1⟩ e (λz=>nomatch z) h
 | @ins a C dx fs ea cl ha hn htk hm=>
  cases(show u=Value.ref a from rx);obtain⟨mA,O,_⟩:=zl I.aZ ea;obtain⟨od,J,_⟩:=O.look;exact IY (PySem.W.kitx_own (cl.get _) cl.hd ha hn htk hm) I.oT J e (λz=>nomatch z) h
structure df(k:Nat)(A:Around):Prop where
 hd:A.handled=none
 dp:A.depth+3*k+5 < recursionLimit
 un:A.units+16*k+200 < cLine
theorem df.mono(r:df k A)(h:j<=k):df j A:=⟨r.hd,by have:=r.dp;lia,by have:=r.un;lia⟩
theorem df.deeper(r:df (k+1) A)(env:Env):df k (A.deeper env):=
 ⟨r.hd,by have:=r.dp;show A.depth+1+3*k+5 < _;lia,by have:=r.un;show A.units+3+16*k+200 < _;lia⟩
theorem df.depth(r:df k A):A.depth < recursionLimit:=by have:=r.dp;lia
theorem df.units(r:df k A):A.units+64 < cLine:=by have:=r.un;lia
def DU:TA:=λ_ H Q=>Q [] H
def zW(ta:TE)(tr:TA):TA:=λσ H Q=>ta σ H λx H1=>tr σ H1 λxs H2=>Q (x::xs) H2
theorem BQ:PA X [] DU:=λ_ _ _ _ H Q I h=>Calls.spliced_nil ⟨[],H,I,.nil,h⟩
theorem yZ(ha:PE X e te)(hr:PA X es t)(hs:starEach (e::es) X.env=(false,eval e X.env)::starEach es X.env:=by rfl):PA X (e::es) (zW te t):=by
 intro pos pins s σ H Q I h;rw[hs];show wpAny _ _ (spliced ((false,eval e X.env)::backTo pos (starEach es X.env))) _ _ s;refine Calls.spliced_cons (bT (ha pins s σ H _ I h) λu s1 ⟨x,H1,I1,r1,q1⟩=>?_);exact bT (hr pos pins s1 σ H1 _ I1 q1) λus s2 ⟨xs,H2,I2,r2,q2⟩=>⟨x::xs,H2,I2,.cons r1 r2,q2⟩
def FY(t:TA):TE:=λσ H Q=>t σ H λxs H1=>xs.length<=sizeLine/\∀p,H1 p=none->Q (.ref p) (upd H1 p (.tup xs))
def F4(t:TA):TE:=λσ H Q=>t σ H λxs H1=>xs.length<=sizeLine/\∀p,H1 p=none->Q (.ref p) (upd H1 p (.lst xs))
theorem BI{x1}(h:PA X es t):PE X (.Tuple es x1 pos) (FY t):=by
 intro pins s σ H Q I hq;refine wpAny_Tuple_spliced (bT (h pos pins s σ H _ I hq) λus s1 ⟨xs,H1,I1,r,z,q⟩=>⟨by rw[<-r.length];exact z,?_⟩);have hf:H1 s1.heap.objs.size=none:=I1.aZ.fresh (HN _);refine⟨.ref s1.heap.objs.size,upd H1 s1.heap.objs.size (.tup xs),I1.laid (t':=s1.toks) (λb u e=>HI _ e) (HN _) ?_,rfl,q _ hf⟩;exact⟨z,us,r,⟨_,HZ _ rfl,rfl,⟨_,rfl⟩,rfl⟩⟩
theorem BO(h:PA X es t):PE X (.List es pos) (F4 t):=by
 intro pins s σ H Q I hq;refine wpAny_List_spliced (bT (h pos pins s σ H _ I hq) λus s1 ⟨xs,H1,I1,r,z,q⟩=>⟨by rw[<-r.length];exact z,?_⟩);have hf:H1 s1.heap.objs.size=none:=I1.aZ.fresh (HN _);refine⟨.ref s1.heap.objs.size,upd H1 s1.heap.objs.size (.lst xs),I1.laid (t':=s1.toks) (λb u e=>HI _ e) (HN _) ?_,rfl,q _ hf⟩;exact⟨z,us,0,r,HZ _ rfl⟩
abbrev Sp:=List V->Hp->VK->XK->Prop
abbrev zU:=List Env->Hp->Shared->XK->Value->Shared->Prop
structure zS(P:Program)(w:World)(K:FR)(mg:Str->Option Value)(base:Heap)(A:Around)(outer:List Env)(s:Shared)(H:Hp):Prop where
 frames:A.frames=some outer
 mod:Mod K mg base
 bs:∀b o,base.get? b=some o->s.heap.get? b=some o/\H b=none
 Ao:base.objs.size<=s.heap.objs.size
 lF:s.heap.FunFrames base outer
 Dx:∀b∈uP outer,H b=none
 aZ:hV P w H s.heap
 bare:AllBare s.gens
def CE(outer:List Env)(P:Program)(w:World)(H:Hp)(s:Shared)(Q:VK)(u:Value)(s':Shared):Prop:=
 ∃v H',s'.os=s.os/\AllBare s'.gens/\Un (uP outer) [] H H' s.heap s'.heap/\hV P w H' s'.heap/\RelV v u/\Q v H'
def CR(CX:zU)(outer:List Env)(P:Program)(w:World)(H:Hp)(s:Shared)(Q:VK)(E:XK)(r:Result)(s':Shared):Prop:=
 match r with
 | .ok (.ret u)=>CE outer P w H s Q u s'
 | .ok _=>False
 | .error e=>CX outer H s E e s'
structure bx(P:Program)(w:World)(K:FR)(mg:Str->Option Value)(base:Heap)(CX:zU)(k:Nat)(f:Addr)(fd:FuncData)(ps:List Str)(sp:Sp):Prop where
 len:∀vs H Q E,sp vs H Q E->vs.length=ps.length
 run:∀(A:Around)(outer:List Env)(s:Shared)(H:Hp)(args:Args)(us:List Value)(vs:List V)(Q:VK)(E:XK),df k A->zS P w K mg base A outer s H->BindsTo s fd args (ps.zip us)->Vals vs us->sp vs H Q E->
  codeAny (model P w) A (.call (.ref f) args) (CR CX outer P w H s Q E) s
theorem bx.imp{P:Program}{w:World}{K:FR}{mg:Str->Option Value}{base:Heap}{CX:zU}{k:Nat}{f:Addr}{fd:FuncData}{ps:List Str}{sp sp':Sp}(F:bx P w K mg base CX k f fd ps sp)
  (h:∀vs H Q E,sp' vs H Q E->sp vs H Q E):bx P w K mg base CX k f fd ps sp':=
 ⟨λvs H Q E q=>F.len vs H Q E (h _ _ _ _ q),λA outer s H args us vs Q E hr he hb hv hs=>F.run A outer s H args us vs Q E hr he hb hv (h _ _ _ _ hs)⟩
theorem Inv.GO(I:Inv X pins σ H s):zS X.prog X.w X.K X.mg X.base X.A X.stack s H:=
 ⟨I.ok.frames,I.ok.mod,I.bs,Ie I.ok.Ao I.sz,I.stack,I.sf,I.aZ,I.bare⟩
theorem Inv.after(I:Inv X pins σ H s)(h:CE X.stack X.prog X.w H s Q u s'):EP X pins σ Q u s':=by
 obtain⟨v,H',os,bare,un,aZ,r,q⟩:=h;obtain⟨hh,g,d,t,os'⟩:=s';obtain rfl:os'=s.os:=os;exact⟨v,H',I.call (h':=hh) (g':=g) (d':=d) (t':=t) (ch:=[]) un aZ bare (λb z=>absurd z (by simp)),r,q⟩
def DZ(sp:Sp)(dvs:List V)(E:XK)(t:TA):TE:=λσ H Q=>t σ H λvs H1=>sp (vs++dvs) H1 Q E
def Binds(K:FR)(fd:FuncData)(ps:List Str)(ds:List Value):Prop:=
 ∀(s:Shared)(us:List Value),K.In s.heap->(us++ds).length=ps.length->BindsTo s fd ⟨us,[]⟩ (ps.zip (us++ds))
theorem Binds.all{K:FR}{fd:FuncData}{ps:List Str}(h:∀us:List Value,us.length=ps.length->bindArgs fd ⟨us,[]⟩=pure (ps.zip us)):Binds K fd ps []:=λs us _ hl=>by
 rw[Jh] at hl ⊢;exact .of_eq (h us hl)
def Passes(CX:zU)(X:Cx)(E:XK):Prop:=∀(pins:List (Addr×Obj)) (σ:St) (H:Hp) (s:Shared) (e:Value) (s':Shared),Inv X pins σ H s->CX X.stack H s E e s'->X.xe e s'
theorem Bc(F:bx X.prog X.w X.K X.mg X.base CX k f fd ps sp)(hr:df k X.A)(hb:Binds X.K fd ps ds)(hd:Vals dvs ds)(hx:Passes CX X E)(I:Inv X pins σ H s)(r:Vals vs us)(h:sp (vs++dvs) H Q E):wpAny (model X.prog X.w) X.A (call (.ref f) us) (EP X pins σ Q) X.xe s:=by
 have r2:Vals (vs++dvs) (us++ds):=r.append hd;have hl:(us++ds).length=ps.length:=by rw[<-r2.length];exact F.len _ _ _ _ h
 refine wpAny_call (Kl (F.run X.A X.stack s H ⟨us,[]⟩ (us++ds) (vs++dvs) Q E hr I.GO (hb s us I.oT hl) r2 h) λr s' hq=>?_);cases r with
 | error e=>exact hx pins σ H s e s' I hq
 | ok fl=>
  cases fl with
  | ret u=>exact I.after hq
  | next=>exact False.elim hq
  | brk=>exact False.elim hq
  | cont=>exact False.elim hq
theorem yX(F:bx X.prog X.w X.K X.mg X.base CX k f fd ps sp)(hr:df k X.A)(hg:Gl X x)(hm:X.mg x=some (.ref f))(hk:PySem.W.keepIn X.K (.ref f)=true)(hb:Binds X.K fd ps ds)(hd:Vals dvs ds)(hx:Passes CX X E)
  (ha:PA X (e::es) t) (hdb:(x==("__debug__":Str))=false:=by decide) (he:starEach (e::es) X.env=(false,eval e X.env)::starEach es X.env:=by rfl) (hpl:(backTo pos (starEach es X.env)).any (·.1)=false:=by rfl):
  PE X (.Call (.Name x p) (e::es) [] pos) (DZ sp dvs E t):=by
 intro pins s σ H Q I h;refine Ko (oR I hg hm ?_ hdb);refine PySem.W.callWith_K (h₀:=X.base) I.ok.mod.GG hk (bT (ha pos pins s σ H _ I h) λus s1 ⟨vs,H1,I1,r,q⟩=>⟨I1.oT,?_⟩) he hpl;exact Bc F hr hb hd hx I1 r q
def PK(X:Cx)(kws:List Keyword)(t:TA):Prop:=
 ∀(pos:Pos)(pins:List (Addr×Obj)) (s:Shared) (σ:St) (H:Hp) (Q:List V->Hp->Prop),Inv X pins σ H s->t σ H Q->wpAny (model X.prog X.w) X.A (evalAll ((backToKw pos (keywordEach kws X.env)).map (·.2))) (AP X pins σ Q) X.xe s
theorem BC:PK X [] DU:=λ_ _ _ _ H Q I h=>wpAny_evalAll_nil ⟨[],H,I,.nil,h⟩
theorem yN(ha:PE X e te)(hr:PK X kws t):PK X (⟨nm,e,kpos⟩::kws) (zW te t):=by
 intro pos pins s σ H Q I h;show wpAny _ _ (evalAll ((do let v<-eval e X.env;standAt pos;pure v)::(backToKw pos (keywordEach kws X.env)).map (·.2))) _ _ s;refine wpAny_evalAll_cons (HG (bT (ha pins s σ H _ I h) λu s1 ⟨x,H1,I1,r1,q1⟩=>HG (JO (HK ?_))));exact bT (hr pos pins s1 σ H1 _ I1 q1) λus s2 ⟨xs,H2,I2,r2,q2⟩=>⟨x::xs,H2,I2,.cons r1 r2,q2⟩
structure au(N P:List Str)(sc:Scope):Prop where
 kind:sc.kind=.function
 co:sc.isCoroutine=false
 gen:sc.isGenerator=false
 nd:N.Nodup
 pre:N.take P.length=P
 par:∀x∈P,sc.names.lookup x=some .local\/sc.names.lookup x=some .cell
 Ci:∀y∈sc.names,y.2≠.free
theorem nQ{kindOf:Str->Option NameKind}{x:Str}:∀{binds:List (Str×Value)} {m:Str->Option Value},(∀v,(x,v)∉binds)->bindL kindOf binds m x=m x
 | [],_,_=>rfl
 |(n,v)::r,m,h=>by
  unfold bindL;rw[nQ λw hw=>h w (Ib _ hw)]
  split
  ·have:x≠n:=by rintro rfl;exact h v HY
   simp[this]
  ·rfl
theorem nS{kindOf:Str->Option NameKind}{x:Str}:∀{binds:List (Str×Value)} {m:Str->Option Value},(∀v,(x,v)∉binds)->bindC kindOf binds m x=m x
 | [],_,_=>rfl
 |(n,v)::r,m,h=>by
  unfold bindC;rw[nS λw hw=>h w (Ib _ hw)]
  split
  ·rfl
  ·have:x≠n:=by rintro rfl;exact h v HY
   simp[this]
theorem nR{kindOf:Str->Option NameKind}{x:Str}{v:Value}:∀{P:List Str} {vs:List Value} {i:Nat} {m:Str->Option Value},P.Nodup->P[i]?=some x->vs[i]?=some v->kindOf x=some .local->
  bindL kindOf (P.zip vs) m x=some v
 | [],_,_,_,_,h,_,_=>by simp at h
 | _::_,[],_,_,_,_,h,_=>by simp at h
 | p::P,w::vs,0,m,nd,h1,h2,hk=>by
  simp at h1 h2;subst h1;subst h2;show bindL kindOf ((p,w)::P.zip vs) m p=_;unfold bindL;rw[nQ λv hv=>(Kx.mp nd).1 (K6 hv).1,HQ hk];simp
 | p::P,w::vs,i+1,m,nd,h1,h2,hk=>by
  show bindL kindOf ((p,w)::P.zip vs) m x=_;unfold bindL;exact nR (i:=i) (Kx.mp nd).2 (by simpa using h1) (by simpa using h2) hk
theorem nT{kindOf:Str->Option NameKind}{x:Str}{v:Value}:∀{P:List Str} {vs:List Value} {i:Nat} {m:Str->Option Value},P.Nodup->P[i]?=some x->vs[i]?=some v->kindOf x≠some .local->
  bindC kindOf (P.zip vs) m x=some v
 | [],_,_,_,_,h,_,_=>by simp at h
 | _::_,[],_,_,_,_,h,_=>by simp at h
 | p::P,w::vs,0,m,nd,h1,h2,hk=>by
  simp at h1 h2;subst h1;subst h2;show bindC kindOf ((p,w)::P.zip vs) m p=_;unfold bindC;rw[nS λv hv=>(Kx.mp nd).1 (K6 hv).1,HS hk];simp
 | p::P,w::vs,i+1,m,nd,h1,h2,hk=>by
  show bindC kindOf ((p,w)::P.zip vs) m x=_;unfold bindC;exact nT (i:=i) (Kx.mp nd).2 (by simpa using h1) (by simpa using h2) hk
noncomputable def start(N:List Str)(vs:List V):St:=vs.map some++List.replicate (N.length-vs.length) none
abbrev qq(CX:zU)(P:Program)(w:World)(K:FR)(mg:Str->Option Value)(base:Heap)(N:List Str)(qual:Str)(scope:Scope)(f:Addr)(cd:Value)(A:Around)(outer:List Env)(s:Shared)(H:Hp)(E:XK):Cx where
 prog:=P
 w:=w
 K:=K
 mg:=mg
 base:=base
 A:=A.deeper (envOfC qual scope s.heap.objs.size f cd)
 N:=N
 s₀:=s
 H₀:=H
 env:=envOfC qual scope s.heap.objs.size f cd
 outer:=outer
 stack:=envOfC qual scope s.heap.objs.size f cd::outer
 ex:=[]
 calm:=true
 fn:=λ_=>true
 pn:=[]
 xe:=λe s'=>wpAny (model P w) (A.deeper (envOfC qual scope s.heap.objs.size f cd)) (leaving (envOfC qual scope s.heap.objs.size f cd) e) (λ_ s''=>CX outer H s E e s'') (λe' s''=>CX outer H s E e' s'') s'
theorem qx{sc:Scope}{n:Nat}{x:Str}(h:sc.names.lookup x=some .cell):∃c,(cellsFrom n sc.names []).lookup x=some c:=by
 have q:=Lz sc.names n [] (.inl h);exact Kn.mp q
theorem um{CX:zU}{P:Program}{w:World}{K:FR}{mg:Str->Option Value}{base:Heap}{N ps:List Str}{qual:Str}{scope:Scope}{f:Addr}{cd:Value}{A:Around}{outer:List Env}{s s1:Shared}{H:Hp}{E:XK}{us:List Value}{vs:List V}
  (S:au N ps scope) (hd:A.handled=none) (e0:zS P w K mg base A outer s H) (hl:vs.length=ps.length) (r:Vals vs us)
  (x:InCallC s s.heap.objs.size (bindL (envOfC qual scope s.heap.objs.size f cd).kindOf (ps.zip us) λ_=>none) (cellsFrom (s.heap.objs.size+1) scope.names []) (bindC (envOfC qual scope s.heap.objs.size f cd).kindOf (ps.zip us) λ_=>none) s1):
  Inv (qq CX P w K mg base N qual scope f cd A outer s H E) [] (start N vs) H s1:=by
 have hpl:ps.length<=N.length:=by have:=congrArg List.length S.pre;rw[Ih] at this;lia
 obtain⟨h1,tk,rfl,hk⟩:=x.done;have noA:∀b:Addr,b∉(qq CX P w K mg base N qual scope f cd A outer s H E).ex:=λb z=>absurd (show b∈([]:List Addr) from z) (by simp);refine⟨⟨e0.mod,S.kind,rfl,rfl,HN _,λy z c h1 h2=>?_,λy hy=>?_,λy c _ h=>?_,λ_=>hd,Around.frames_deeper e0.frames,.inr ⟨rfl,rfl⟩,λb z=>absurd z (noA b),e0.bs,e0.Ao,λb _ _=>noA b,λb z=>absurd z (noA b),e0.lF,e0.Dx⟩,
  rfl,e0.bare,Un.kept hk,⟨_,x.toInCall.ns,λi y v h1 h2 h3=>?_⟩,λy c h=>⟨_,x.cell y c h⟩,e0.aZ.fresh (HN _),λy c h=>?_,λp hp=>absurd (show p∈([]:List (Addr×Obj)) from hp) (by simp),e0.aZ.kept hk,?_⟩
 ·exact name_of_addr x.apart (Jb h1) (Jb h2)
 ·have hy:scope.names.lookup y=some .cell\/scope.names.lookup y=some .free:=hy;rcases hy with hy | hy
  ·exact qx hy
  ·exact absurd rfl (S.Ci _ (Jb hy))
 ·exact LC (x.above y c (Jb h))
 ·have hi:i < vs.length:=by
   unfold start at h2
   by_cases hi:i < vs.length
   ·exact hi
   ·rw[Ik (by simpa using hi)] at h2;rw[Lw] at h2
    split at h2 <;> cases h2
  have ha:vs[i]?=some v:=by
   unfold start at h2;rw[HU (by simpa using hi),Io] at h2;cases e:vs[i]? with
   | none=>rw[e] at h2;cases h2
   | some a=>rw[e] at h2;cases h2;rfl
  obtain⟨u,hu,rv⟩:=r.get ha;have hp:ps[i]?=some y:=by
   rw[<-S.pre,Iq (by lia)];exact h1
  have ndP:ps.Nodup:=by rw[<-S.pre];exact S.nd.sublist (L8 _ _)
  refine⟨u,rv,?_⟩;rcases S.par y (HM hp) with k | k
  ·exact .inl ⟨k,nR ndP hp hu k⟩
  ·obtain⟨c,e⟩:=qx (n:=s.heap.objs.size+1) k;refine .inr ⟨.inl k,c,e,?_⟩;have q:=x.cell y c e;rw[nT ndP hp hu (by show scope.names.lookup y≠_;rw[k];decide)] at q;exact q
 ·exact e0.aZ.fresh (LC (x.above y c (Jb h)))
 ·unfold start;show _=N.length;rw[HL,HH,List.length_replicate]
  lia
theorem EU{CX:zU}{P:Program}{w:World}{K:FR}{mg:Str->Option Value}{base:Heap}{k:Nat}{f:Addr}{name qual:Str}{params:Arguments}{body:List Stmt}{scope:Scope}{dV kV doc pm cdv ct oc:Value}{an od:Option Addr}
  {osl:Array (Option Value)} {N ps:List Str} {sp:Sp} (lk:K.lookup f=some ⟨oc,od,.func (PySem.W.fnOf name qual params body scope dV kV doc pm an cdv ct),osl⟩) (hcd:PySem.W.codeIn K cdv qual=true) (S:au N ps scope)
  (len:∀vs H Q E,sp vs H Q E->vs.length=ps.length)
  (hbody:∀(A:Around)(outer:List Env)(s:Shared)(H:Hp)(vs:List V)(Q:VK)(E:XK),df k (A.deeper (envOfC qual scope s.heap.objs.size f cdv))->sp vs H Q E->
   ∃t,qB (qq CX P w K mg base N qual scope f cdv A outer s H E) body t/\t {nx:=λ_ H'=>Q .ck H',rt:=Q} (start N vs) H):
  bx P w K mg base CX (k+1) f (PySem.W.fnOf name qual params body scope dV kV doc pm an cdv ct) ps sp:=by
 refine⟨len,λA outer s H args us vs Q E hr e0 hb r hsp=>?_⟩;have hl:=len _ _ _ _ hsp;have KX:K.In s.heap:=e0.mod.GG.keeps λb o e=>(e0.bs b o e).1;have lim:s.heap.NoLimit:=e0.mod.nolimit.keeps λb o e=>(e0.bs b o e).1;have hkind:∀y∈ps.zip us,scope.names.lookup y.1=some .local\/(scope.names.lookup y.1=some .cell/\((cellsFrom (s.heap.objs.size+1) scope.names []).lookup y.1).isSome=true):=λ⟨n,v⟩ hy=>by
  rcases S.par n (K6 hy).1 with q | q
  ·exact .inl q
  ·exact .inr ⟨q,Lz _ _ _ (.inl q)⟩
 refine codeAny_call_function hr.depth (KX _ _ lk) rfl S.co S.gen rfl (PySem.W.codeRec_of KX hcd) (hb _ _ _ _ ?_);refine wpAny_newFunctionEnv_cells S.kind hkind λenv he s1 x=>?_;subst he;refine⟨lim.keeps x.toInCall.keep,codeAny_func ?_⟩;obtain⟨t,ht,hq⟩:=hbody A outer s H vs Q E (hr.deeper _) hsp;have I:Inv (qq CX P w K mg base N qual scope f cdv A outer s H E) [] (start N vs) H s1:=um S hr.hd e0 hl r x;refine I0 (ht [] s1 (start N vs) H _ I hq) (λfl s' hs=>?_) λe s' hs=>hs;have fin:∀{σ':St} {H':Hp} {v:V} {u:Value},Inv (qq CX P w K mg base N qual scope f cdv A outer s H E) [] σ' H' s'->RelV v u->Q v H'->CE outer P w H s Q u s':=
  λ{σ' H' v u} J rv q=>⟨v,H',J.os,J.bare,J.base,J.aZ,rv,q⟩
 cases fl with
 | ret u=>
  obtain⟨v,σ',H',J,rv,q⟩:=hs;exact fin J rv q
 | next=>
  obtain⟨σ',H',J,q⟩:=hs;exact fin (v:=V.ck) (u:=Value.none) J rfl q
 | brk=>
  obtain⟨_,_,_,q⟩:=hs;exact False.elim q
 | cont=>
  obtain⟨_,_,_,q⟩:=hs;exact False.elim q
section
variable {X:Cx} {x:Str} {p pos:Pos} {e:Expr} {es:List Expr} {t:TA} {id T:String} {r:List V->Hp->VK->Prop}
def G7(r:List V->Hp->VK->Prop)(t:TA):TE:=λσ H Q=>t σ H λvs H1=>r vs H1 Q
theorem wg(hc:fy X (.builtin id) r)(hg:Gl X x)(hm:X.mg x=none)(hv:bootBuiltins x=some (.builtin id))(ha:PA X (e::es) t)(hn:x≠"__name__":=by decide)(hdb:(x==("__debug__":Str))=false:=by decide)
  (he:starEach (e::es) X.env=(false,eval e X.env)::starEach es X.env:=by rfl) (hpl:(backTo pos (starEach es X.env)).any (·.1)=false:=by rfl):PE X (.Call (.Name x p) (e::es) [] pos) (G7 r t):=by
 intro pins s σ H Q I h;refine Ko (iF I hg hm hv ?_ hn hdb);exact PyProof.Rows.callWith_builtin1 (bT (ha pos pins s σ H _ I h) λus s1 ⟨vs,H1,I1,r1,q1⟩=>hc pins s1 σ H1 vs us Q I1 r1 q1) he hpl
theorem nr(hc:fy X (.type T) r)(hg:Gl X x)(hm:X.mg x=none)(hv:bootBuiltins x=some (.type T))(ha:PA X (e::es) t)(hn:x≠"__name__":=by decide)(hdb:(x==("__debug__":Str))=false:=by decide)
  (he:starEach (e::es) X.env=(false,eval e X.env)::starEach es X.env:=by rfl) (hpl:(backTo pos (starEach es X.env)).any (·.1)=false:=by rfl):PE X (.Call (.Name x p) (e::es) [] pos) (G7 r t):=by
 intro pins s σ H Q I h;refine Ko (iF I hg hm hv ?_ hn hdb);exact JC (bT (ha pos pins s σ H _ I h) λus s1 ⟨vs,H1,I1,r1,q1⟩=>hc pins s1 σ H1 vs us Q I1 r1 q1) he hpl
end
end L2
namespace HT
open PySem PyProof.Rows
section
open PySem.SeqAt
open PySem.AutoSeq1 (wpAny_loadPart')
open PySem.MeetsSeq PySem.MeetsSeq2 PySem.MeetsSeq3
end
theorem zI(ht:IsTup s.heap t vs.toArray)(hb:IsTup s.heap b ws.toArray)(hv:vs≠[])(h1:ws=[]->Q (.ref t) s)(h2:ws≠[]->Q (.ref s.heap.objs.size) {s with heap:=s.heap.push {cls:=.type "tuple",data:=.seq (vs++ws).toArray}})(hsz:vs.length+ws.length<=sizeLine):wpAny (model prog w) A (binaryOp .Add (.ref t) (.ref b)) Q E s:=by
 obtain⟨⟨cls,dd,data,sl⟩,ho,hc,n,hd⟩:=id ht;obtain⟨⟨cls2,dd2,data2,sl2⟩,ho2,hc2,n2,hd2⟩:=id hb;simp only at hc hd hc2 hd2;subst hc hd hc2 hd2;have e:vs.toArray++ws.toArray=(vs++ws).toArray:=by simp
 by_cases hw:ws=[]
 ·exact concat_meets ⟨_,ho,rfl⟩ ⟨_,ho2,rfl⟩ Ll LV Ku Kq (Km _ _)
   (tuple_addW1 t b vs.toArray ws.toArray n n2 dd dd2 sl sl2 (by simpa using hv) (by simp[hw])) ⟨ho,ho2,h1 hw⟩
 ·refine concat_meets ⟨_,ho,rfl⟩ ⟨_,ho2,rfl⟩ Ll LV Ku Kq (Km _ _)
   (tuple_addW2 t b vs.toArray ws.toArray n n2 dd dd2 sl sl2 (by simpa using hv) (by simpa using hw) (by rw[HW,HW];exact hsz)) ⟨ho,ho2,?_⟩
  rw[e];exact h2 hw
noncomputable def bP(n d:Nat):Option Int->Nat
 | none=>d
 | some v=>if v < 0 then(v+(n:Int)).toNat else min v.toNat n
theorem Bb(n d:Nat)(hd:d<=n)(o:Option Int):bP n d o<=n:=by
 cases o with
 | none=>exact hd
 | some v=>
  show(if v < 0 then(v+(n:Int)).toNat else min v.toNat n)<=n
  by_cases hv:v < 0
  ·rw[HQ hv];lia
  ·rw[HS hv];exact Nat.min_le_right _ _
theorem tw(v:Int)(n d:Nat):(if v < 0 then max (v+(n:Int)) 0 else min v (n:Int))=((bP n d (some v):Nat):Int):=by
 show(if v < 0 then max (v+(n:Int)) 0 else min v (n:Int))=(((if v < 0 then(v+(n:Int)).toNat else min v.toNat n):Nat):Int)
 by_cases hv:v < 0
 ·simp only[HQ hv];lia
 ·simp only[HS hv];lia
theorem rR(lo hi:Option Int)(n:Nat):Builtin.Slice.sliceAdjust lo hi 1 (n:Int)=(((bP n 0 lo:Nat):Int),((bP n n hi:Nat):Int)):=by
 have h1:¬((1:Int) < 0):=by lia
 unfold Builtin.Slice.sliceAdjust;simp only[h1,J1];refine Prod.ext ?_ ?_
 ·cases lo with
  | none=>rfl
  | some v=>exact tw v n 0
 ·cases hi with
  | none=>rfl
  | some v=>exact tw v n n
theorem qW(i j:Nat):Builtin.Slice.slicePlaces (i:Int) (j:Int) 1=j-i:=by
 unfold Builtin.Slice.slicePlaces;have h1:(1:Int) > 0:=by lia
 simp only[h1,Kg,Int.ediv_one]
 split <;> lia
theorem kM(p:IsPart v o)(h:Q o s):wpAny (model prog w) A (Builtin.Slice.slicePartIndex v) Q E s:=by
 cases p with
 | none=>exact Lj h
 | int i t=>exact slicePart_int h
theorem eY{sl:Addr}{vl vu:Value}{lo hi:Option Int}{n:Nat}{Q:Int×Int×Nat->Shared->Prop}(hs:s.heap.IsSliceOf sl vl vu .none)(pl:IsPart vl lo)(pu:IsPart vu hi)
  (h:Q (((bP n 0 lo:Nat):Int),1,bP n n hi-bP n 0 lo) s):wpAny (model prog w) A (Builtin.Slice.sliceApplied (.ref sl) (pure (n:Int))) Q E s:=by
 obtain⟨os,hos,hcs,hds⟩:=id hs;unfold Builtin.Slice.sliceApplied Builtin.Slice.sliceFields;refine HG (HG (Iu hos hds (x:=vl) rfl (HG (Iu hos hds (x:=vu) rfl (HG (Iu hos hds (x:=.none) rfl (HK ?_)))))));refine HG (Lj ?_);show wpAny _ _ (if((1:Int)==0)=true then _ else _) _ _ s;rw[HS (by decide)];refine HG (kM pl (HG (kM pu (HG (HK ?_)))));show wpAny _ _ (match Builtin.Slice.sliceAdjust lo hi 1 (n:Int) with |(lo,hi)=>pure (lo,(1:Int),Builtin.Slice.slicePlaces lo hi 1)) _ _ s;rw[rR lo hi n];show wpAny _ _ (pure (((bP n 0 lo:Nat):Int),(1:Int),Builtin.Slice.slicePlaces ((bP n 0 lo:Nat):Int) ((bP n n hi:Nat):Int) 1)) _ _ s;rw[qW];exact HK h
theorem vU(xs:Array Value)(i k:Nat):((List.range k).filterMap λ(m:Nat)=>xs[((i:Int)+(m:Int)*1).toNat]?).toArray=((xs.toList.drop i).take k).toArray:=by
 have e:(λ(m:Nat)=>xs[((i:Int)+(m:Int)*1).toNat]?)=λm=>xs[i+m]?:=by
  funext m
  have:((i:Int)+(m:Int)*1).toNat=i+m:=by lia
  rw[this]
 rw[e];have:=pick_run xs i k;rw[KS] at this;have e2:((λx=>xs[x]?)∘λx=>i+x)=λm=>xs[i+m]?:=rfl;rw[e2] at this;rw[this]
theorem i5{t sl:Addr}{items:Array Value}{vl vu:Value}{lo hi:Option Int}{Q:Value->Shared->Prop}(ht:IsTup s.heap t items)(hs:s.heap.IsSliceOf sl vl vu .none)(pl:IsPart vl lo)(pu:IsPart vu hi)
  (hw:¬(bP items.size 0 lo=0/\bP items.size items.size hi=items.size))
  (h:Q (.ref s.heap.objs.size) {s with heap:=s.heap.push {cls:=.type "tuple",data:=.seq ((items.toList.drop (bP items.size 0 lo)).take (bP items.size items.size hi-bP items.size 0 lo)).toArray}})
  (hsz:items.size<=sizeLine):wpAny (model prog w) A (getItem (.ref t) (.ref sl)) Q E s:=by
 have htake:sizeOk (.seq ((items.toList.drop (bP items.size 0 lo)).take (bP items.size items.size hi-bP items.size 0 lo)).toArray):=by
  show((items.toList.drop (bP items.size 0 lo)).take (bP items.size items.size hi-bP items.size 0 lo)).toArray.size<=sizeLine;rw[HW,Ih,Kt,Jt]
  lia
 have hj:bP items.size items.size hi<=items.size:=Bb _ _ (HN _) hi;obtain⟨os,hos,hcs,hds⟩:=id hs;have hTs:s.TypeIs (.ref sl) "slice":=⟨os,hos,hcs⟩;unfold getItem
 try with_reducible refine Ju ?_
 first | refine HG (HK ?_) | skip
 refine HG (K9 ht.typeIs (by decide) ?_);refine HG (Iy (name:=Str.ofString "__getitem__") ht.typeIs Iw
  (IA Iw ht.typeIs Lu ?_ (LH _ _)))
 show wpAny _ _ (Builtin.Tuple.tupleItemsOf (.ref t) >>=_) _ _ s;refine HG (tupleItemsOf_ ht ?_);refine HG (KG hTs ?_);rw[HQ (by decide)];refine HG (eY hs pl pu ?_);have hno:¬((((bP items.size 0 lo:Nat):Int)==0&&(1:Int)==1&&(bP items.size items.size hi-bP items.size 0 lo)==items.size)=true):=by
  intro q;rw[Ii,Ii] at q;have q1:((bP items.size 0 lo:Nat):Int)=0:=eq_of_beq q.1.1;have q2:bP items.size items.size hi-bP items.size 0 lo=items.size:=eq_of_beq q.2;exact hw ⟨by lia,by lia⟩
 show wpAny _ _ (if(((bP items.size 0 lo:Nat):Int)==0&&(1:Int)==1&&(bP items.size items.size hi-bP items.size 0 lo)==items.size)=true then _ else _) _ _ s;rw[HS hno,vU]
 first
  | exact HG (m:=Builtin.Tuple.tupleExact _) (IC (HK ⟨_,rfl,HK h⟩) htake)
  | exact HG (m:=Builtin.Tuple.tupleExact _) (IC (HG (HK (HK ⟨_,rfl,HK h⟩))) htake)
  | exact HG (HG (m:=Builtin.Tuple.tupleExact _) (IC (HK (HK ⟨_,rfl,HK h⟩)) htake))
  | exact HG (HG (m:=Builtin.Tuple.tupleExact _) (IC (HK ⟨_,rfl,HK h⟩) htake))
end HT
namespace L2
open PySem PySem.Spec PyProof.Rows
abbrev TO:=St->Hp->(Option Int->Hp->Prop)->Prop
def PO(X:Cx)(e:Option Expr)(t:TO):Prop:=
 ∀(pins:List (Addr×Obj)) (s:Shared) (σ:St) (H:Hp) (Q:Option Int->Hp->Prop),Inv X pins σ H s->t σ H Q->
  wpAny (model X.prog X.w) X.A (evalPart e X.env) (λu s'=>∃o H',Inv X pins σ H' s'/\IsPart u o/\Q o H') X.xe s
noncomputable def xX:TO:=λ_ H Q=>Q none H
def DQ(t:TE):TO:=λσ H Q=>t σ H λx H1=>∃i,x=.int i/\Q (some i) H1
section
variable {X:Cx} {e:Expr} {te:TE} {lo hi:Option Expr} {tl th:TO} {pos p2:Pos}
theorem yM:PO X none xX:=by
 intro pins s σ H Q I h;rw[LW];exact HK ⟨none,H,I,.none,h⟩
theorem yL(h:PE X e te):PO X (some e) (DQ te):=by
 intro pins s σ H Q I hw;rw[evalPart_some];refine bT (h pins s σ H _ I hw) λu s1 ⟨x,H1,I1,r1,q1⟩=>?_;obtain⟨i,rfl,q⟩:=q1;obtain⟨t,rfl⟩:=r1;exact⟨some i,H1,I1,.int i t,q⟩
def Dj(X:Cx)(r:V->Option Int->Option Int->Hp->VK->Prop):Prop:=
 ∀(pins:List (Addr×Obj)) (s:Shared) (σ:St) (H:Hp) (x:V) (v vl vu:Value) (lo hi:Option Int) (sl:Addr) (Q:VK),Inv X pins σ H s->RelV x v->s.heap.IsSliceOf sl vl vu .none->IsPart vl lo->IsPart vu hi->r x lo hi H Q->
  ∃T id,typeLookup (.type T) "__getitem__"=pure (some (.builtin id))/\s.TypeIs v T/\wpAny (model X.prog X.w) X.A (getItem v (.ref sl)) (EP X pins σ Q) X.xe s
def Ht(r:V->Option Int->Option Int->Hp->VK->Prop)(te:TE)(tl th:TO):TE:=λσ H Q=>te σ H λx H1=>tl σ H1 λl H2=>th σ H2 λu H3=>r x l u H3 Q
theorem vY(hr:Dj X r)(he:PE X e te)(hl:PO X lo tl)(hu:PO X hi th):PE X (.Subscript e (.Slice lo hi none p2) pos) (Ht r te tl th):=by
 intro pins s σ H Q I h;refine Subscript_ (bT (he pins s σ H _ I h) λv s1 ⟨x,H1,I1,r1,q1⟩=>?_);refine wpAny_Slice (bT (hl pins s1 σ H1 _ I1 q1) λvl s2 ⟨l,H2,I2,pl,q2⟩=>bT (hu pins s2 σ H2 _ I2 q2) λvu s3 ⟨u,H3,I3,pu,q3⟩=>?_);rw[LW];refine HK ?_;have I4:Inv X pins σ H3 {s3 with heap:=s3.heap.push {cls:=.type "slice",data:=.fields #[vl,vu,.none]}}:=I3.kept (t':=s3.toks) λb ob q=>HI _ q;obtain⟨T,id,hT,ht,hg⟩:=hr pins {s3 with heap:=s3.heap.push {cls:=.type "slice",data:=.fields #[vl,vu,.none]}} σ H3 x v vl vu l u s3.heap.objs.size Q I4 r1 (Heap.IsSliceOf.new ..) pl pu q3;show wpAny (model X.prog X.w) X.A (subscriptTail e (.Slice lo hi none p2) v (.ref s3.heap.objs.size)) (EP X pins σ Q) X.xe {s3 with heap:=s3.heap.push {cls:=.type "slice",data:=.fields #[vl,vu,.none]}};exact tail_any (ops:=[.ref s3.heap.objs.size,v]) ht hT hg (by with_unfolding_all rfl)
noncomputable def lK(xs:List V)(lo hi:Option Int):List V:=(xs.drop (HT.bP xs.length 0 lo)).take (HT.bP xs.length xs.length hi-HT.bP xs.length 0 lo)
theorem jX(xs:List V)(lo hi:Option Int):(lK xs lo hi).length<=xs.length:=by
 unfold lK;rw[Ih,Kt]
 lia
def Gp(K:FR):V->Option Int->Option Int->Hp->VK->Prop:=λx lo hi H Q=>∃a xs,x=.ref a/\g8 K H a xs/\
 ¬(HT.bP xs.length 0 lo=0/\HT.bP xs.length xs.length hi=xs.length)/\∀p,H p=none->Q (.ref p) (upd H p (.tup (lK xs lo hi)))
theorem AN:Dj X (Gp X.K):=by
 intro pins s σ H x v vl vu lo hi sl Q I rx hs pl pu h;obtain⟨a,xs,rfl,hx,hw,q⟩:=h;cases rx;obtain⟨its,r,ht,hz⟩:=I.tuple hx;have hlen:its.toArray.size=xs.length:=by rw[HW];exact r.length.symm
 refine⟨"tuple",_,Iw.lookup,ht.typeIs,?_⟩;refine HT.i5 ht hs pl pu (by rw[hlen];exact hw) ?_ (by rw[hlen];exact hz);rw[hlen];refine⟨.ref s.heap.objs.size,_,I.laid (t':=s.toks) (o:=.tup (lK xs lo hi)) (λb ob q=>HI _ q) (HN _) ?_,rfl,q _ (I.aZ.fresh (HN _))⟩;exact⟨Ie (jX xs lo hi) hz,_,(r.drop (HT.bP xs.length 0 lo)).take (HT.bP xs.length xs.length hi-HT.bP xs.length 0 lo),mR.new _ _⟩
def El(K:FR):R2:=λx y H Q=>∃a b xs ys,x=.ref a/\y=.ref b/\g8 K H a xs/\g8 K H b ys/\xs≠[]/\xs.length+ys.length<=sizeLine/\
 (ys=[]->Q (.ref a) H)/\(ys≠[]->∀p,H p=none->Q (.ref p) (upd H p (.tup (xs++ys))))
theorem Vals.kz(r:Vals xs us):us=[]↔xs=[]:=by
 cases r with
 | nil=>simp
 | cons _ _=>simp
theorem y7:lZ X (binaryOp .Add) (El X.K):=by
 intro pins s σ H x y v u Q I rx ry h;obtain⟨a,b,xs,ys,rfl,rfl,ha,hb,hx,hz,q1,q2⟩:=h;cases rx;cases ry;obtain⟨its,r1,p1,_⟩:=I.tuple ha;obtain⟨its2,r2,p2,_⟩:=I.tuple hb;refine HT.zI p1 p2 (λz=>hx (r1.kz.mp z)) (λz=>⟨.ref a,H,I,rfl,q1 (r2.kz.mp z)⟩) (λz=>?_) (by rw[<-r1.length,<-r2.length];exact hz);refine⟨.ref s.heap.objs.size,_,I.laid (t':=s.toks) (o:=.tup (xs++ys)) (λb ob q=>HI _ q) (HN _) ?_,rfl,q2 (λw=>z (r2.kz.mpr w)) _ (I.aZ.fresh (HN _))⟩;exact⟨by rw[HL];exact hz,_,r1.append r2,mR.new _ _⟩
end
noncomputable def qe(n:Nat)(i:Int):Option Nat:=if 0<=i then(if i < n then some i.toNat else none) else if -(n:Int)<=i then some (i+n).toNat else none
noncomputable def gb{α:Type}(xs:List α)(i:Int):Option α:=(qe xs.length i).bind λj=>xs[j]?
theorem sR(h:qe n i=some j):seqIndex? i n=some j/\j < n/\-(n:Int)<=i/\i < n:=by
 unfold qe at h
 by_cases h0:0<=i
 ·rw[HQ h0] at h
  by_cases h1:i < n
  ·rw[HQ h1] at h;have e:i.toNat=j:=Option.some.inj h;exact⟨by rw[seqIndex_of h0 h1,e],by lia,by lia,h1⟩
  ·rw[HS h1] at h;cases h
 ·rw[HS h0] at h
  by_cases h1:-(n:Int)<=i
  ·rw[HQ h1] at h;have e:(i+n).toNat=j:=Option.some.inj h;exact⟨by rw[seqIndex_neg (by lia) h1,e],by lia,h1,by lia⟩
  ·rw[HS h1] at h;cases h
theorem kC(h:gb xs i=some v):∃j,seqIndex? i xs.length=some j/\xs[j]?=some v/\j < xs.length/\-(xs.length:Int)<=i/\i < xs.length:=by
 unfold gb at h;cases e:qe xs.length i with
 | none=>rw[e] at h;cases h
 | some j=>
  rw[e] at h;obtain⟨h1,h2,h3,h4⟩:=sR e;exact⟨j,h1,h,h2,h3,h4⟩
theorem tI{α:Type}{xs:List α}{j:Nat}{v:α}(h:xs[j]?=some v):gb xs (j:Int)=some v:=by
 have hj:j < xs.length:=(HJ.mp h).1;have e:qe xs.length (j:Int)=some j:=by
  unfold qe;rw[HQ (by lia),HQ (by lia)];simp
 unfold gb;rw[e];exact h
def jl(b:Expr):Prop:=∀o i,subscripted b false o i=operate [o,i] (getItem o i)
def FE(X:Cx)(r:R2):Prop:=
 ∀(value slice:Expr)(pins:List (Addr×Obj)) (s:Shared) (σ:St) (H:Hp) (x y:V) (v u:Value) (Q:VK),Inv X pins σ H s->RelV x v->RelV y u->r x y H Q->
  subscripted slice false v u=operate [v,u] (getItem v u)->wpAny (model X.prog X.w) X.A (subscriptTail value slice v u) (EP X pins σ Q) X.xe s
def Dq(X:Cx)(id:String)(r:V->List V->Hp->VK->Prop):Prop:=
 ∀(pins:List (Addr×Obj)) (s:Shared) (σ:St) (H:Hp) (x:V) (xs:List V) (v:Value) (us:List Value) (Q:VK),Inv X pins σ H s->RelV x v->Vals xs us->r x xs H Q->
  wpAny (model X.prog X.w) X.A (call (.builtin id) (v::us)) (EP X pins σ Q) X.xe s
section
variable {X:Cx} {a b:Expr} {ta tb:TE} {pos:Pos}
theorem Er(hr:FE X r)(ha:PE X a ta)(hb:PE X b tb)(hs:jl b):PE X (.Subscript a b pos) (DT r ta tb):=by
 intro pins s σ H Q I h;exact Subscript_ (Dg ha hb I h λv u s2 x y H2 I2 rx ry q=>hr a b pins s2 σ H2 x y v u Q I2 rx ry q (hs _ _))
def Gy(K:FR):R2:=λx y H Q=>∃p xs i v,x=.ref p/\y=.int i/\fu K H p xs/\gb xs i=some v/\Q v H
def Gw(K:FR):R2:=λx y H Q=>∃p xs i v,x=.ref p/\y=.int i/\g8 K H p xs/\gb xs i=some v/\Q v H
def Gx:R2:=λx y H Q=>∃z i c,x=.str z/\y=.int i/\z.length<=sizeLine/\gb z.cps.toList i=some c/\Q (.str ⟨#[c]⟩) H
theorem zj:FE X (Gy X.K):=by
 intro value slice pins s σ H x y v u Q I rx ry h hs;obtain⟨p,xs,i,z,rfl,rfl,hq,he,q⟩:=h;cases rx;obtain⟨t,rfl⟩:=ry;obtain⟨its,r,pl,hz⟩:=I.list hq;obtain⟨j,h1,h2,h3,h4,h5⟩:=kC he;obtain⟨w,ew,rw'⟩:=r.get h2;have hl:=r.length;have hn:=iE;have fin:EP X pins σ Q w s:=⟨z,H,I,rw',q⟩
 by_cases h0:0<=i
 ·have hj:i.toNat=j:=by
   rw[seqIndex_of h0 h5] at h1;exact Option.some.inj h1
  exact item_listR pl.isList h0 (by lia) (by rw[hj];simpa using ew) fin hs
 ·have hj:(i+(its.toArray.size:Int)).toNat=j:=by
   rw[seqIndex_neg (by lia) h4] at h1;rw[HW,<-hl];exact Option.some.inj h1
  exact subscriptTail_builtinR (x:=w) pl.isList.typeIs Lc.lookup
   (wpAny_getItem_list_neg (Q:=λr s'=>r=w/\EP X pins σ Q r s') pl.isList (by lia) (by rw[HW] <;> lia) (by lia) (by rw[hj];simpa using ew) ⟨rfl,fin⟩) hs
theorem Cy:FE X (Gw X.K):=by
 intro value slice pins s σ H x y v u Q I rx ry h hs;obtain⟨p,xs,i,z,rfl,rfl,hq,he,q⟩:=h;cases rx;obtain⟨t,rfl⟩:=ry;obtain⟨its,r,pl,hz⟩:=I.tuple hq;obtain⟨j,h1,h2,h3,h4,h5⟩:=kC he;obtain⟨w,ew,rw'⟩:=r.get h2;have hl:=r.length;have hn:=iE;have fin:EP X pins σ Q w s:=⟨z,H,I,rw',q⟩;exact subscriptTail_builtinR (x:=w) pl.typeIs Iw.lookup
  (getItem_tuple (j:=j) (Q:=λr s'=>r=w/\EP X pins σ Q r s') pl (by lia) (by lia) (by rw[HW,<-hl];exact h1) (by simpa using ew) ⟨rfl,fin⟩) hs
theorem Cz:FE X Gx:=by
 intro value slice pins s σ H x y v u Q I rx ry h hs;obtain⟨z,i,c,rfl,rfl,hz,he,q⟩:=h;obtain⟨t,rfl⟩:=rx;obtain⟨t',rfl⟩:=ry;obtain⟨j,h1,h2,h3,h4,h5⟩:=kC he;have hl:z.cps.toList.length=z.length:=by simp[Str.length]
 rw[hl] at h1 h4 h5;have hn:=iE;exact tail_any (typeIs_str s z t) slot_str_getitem.lookup (getItem_str (c:=c) (by
  have e1:decide (i < -(2^63:Int))=false:=IB (by lia);have e2:decide (i≥2^63)=false:=IB (by lia);rw[e1,e2,Bool.or_false]) (by rw[h1];simpa using h2) ⟨.str ⟨#[c]⟩,H,I.tok _,⟨_,rfl⟩,q⟩) hs
theorem rg(its:List Value)(n j:Nat)(u:Value):Obj.mapSeq (·.setIfInBounds j u) {cls:=.type "list",data:=.seq its.toArray n}={cls:=.type "list",data:=.seq (its.set j u).toArray n}:=by
 simp[Obj.mapSeq]
theorem Inv.lst(I:Inv X pins σ H s)(h:H p=some (.lst xs)):
  ∃(its:List Value)(n:Nat),Vals xs its/\s.heap.get? p=some {cls:=.type "list",data:=.seq its.toArray n}/\xs.length<=sizeLine:=by
 obtain⟨z,its,n,r,e⟩:=I.aZ p _ h;exact⟨its,n,r,e,z⟩
theorem Inv.Co{pins:List (Addr×Obj)}{σ:St}{H:Hp}{s:Shared}{p:Addr}{xs ys:List V}{its its':List Value}{n n':Nat}{f:Obj->Obj}(I:Inv X pins σ H s)(h:H p=some (.lst xs))
  (ho:s.heap.get? p=some {cls:=.type "list",data:=.seq its.toArray n}) (hf:f {cls:=.type "list",data:=.seq its.toArray n}={cls:=.type "list",data:=.seq its'.toArray n'}) (r:Vals ys its') (hz:ys.length<=sizeLine) (t:Nat):
  Inv X pins σ (upd H p (.lst ys)) {s with heap:=s.heap.update p f,toks:=t}:=by
 have e:(s.heap.update p f).get? p=some {cls:=.type "list",data:=.seq its'.toArray n'}:=by
  rw[KP f ho (by rw[hf] <;> rfl),hf]
 refine I.write (x:=p) (e:=p) (by rw[h];trivial) (.inl rfl) (λb u hb q=>(Heap.get?_update_other _ _ (Jl hb)).trans q) ⟨_,e⟩ ?_;exact⟨hz,its',n',r,e⟩
def Ej:V->V->V->Hp->(Hp->Prop)->Prop:=λo i v H Q=>∃p xs k j,o=.ref p/\i=.int k/\H p=some (.lst xs)/\qe xs.length k=some j/\Q (upd H p (.lst (xs.set j v)))
theorem set_list:zP X Ej:=by
 intro pins s σ H o i v ov iv u Q I ro ri rv h;obtain⟨p,xs,k,j,rfl,rfl,hp,hj,q⟩:=h;cases ro;obtain⟨t,rfl⟩:=ri;obtain⟨its,n,r,ho,hz⟩:=I.lst hp;obtain⟨h1,h2,h3,h4⟩:=sR hj;have hl:=r.length;have hn:=iE;have I':Inv X pins σ (upd H p (.lst (xs.set j v))) {s with heap:=s.heap.update p (Obj.mapSeq (·.setIfInBounds j u))}:=
  I.Co hp ho (rg its n j u) (r.set rv j) (by rw[Jn];exact hz) s.toks
 by_cases h0:0<=k
 ·have hk:k.toNat=j:=by
   rw[seqIndex_of h0 h4] at h1;exact Option.some.inj h1
  exact PySem.W.ki_setAt ho h0 (by lia) (by rw[HW,<-hl];exact h4) (by rw[hk];exact⟨_,I',q⟩)
 ·have hk:(k+(its.toArray.size:Int)).toNat=j:=by
   rw[seqIndex_neg (by lia) h3] at h1;rw[HW,<-hl];exact Option.some.inj h1
  exact PySem.W.ki_setBack ho (by lia) (by rw[HW,<-hl];exact h3) (by lia) (by rw[hk];exact⟨_,I',q⟩)
theorem oj(lo hi:Option Int)(n:Nat):(sliceBounds lo hi none n).1=((HT.bP n 0 lo:Nat):Int)/\(sliceBounds lo hi none n).2.1=((HT.bP n n hi:Nat):Int)/\(sliceBounds lo hi none n).2.2=1:=by
 refine⟨?_,?_,rfl⟩
 ·cases lo with
  | none=>simp[sliceBounds,HT.bP]
  | some i=>
   simp only[sliceBounds,HT.bP,Option.getD_none,show(1:Int) > 0 by decide,Kg]
   by_cases h:i < 0
   ·simp only[h,Kg] <;> lia
   ·simp only[h,J1] <;> lia
 ·cases hi with
  | none=>simp[sliceBounds,HT.bP]
  | some i=>
   simp only[sliceBounds,HT.bP,Option.getD_none,show(1:Int) > 0 by decide,Kg]
   by_cases h:i < 0
   ·simp only[h,Kg] <;> lia
   ·simp only[h,J1] <;> lia
theorem mj(its:List Value)(lo hi:Option Int):slicePick its.toArray lo hi none=((its.drop (HT.bP its.length 0 lo)).take (HT.bP its.length its.length hi-HT.bP its.length 0 lo)).toArray:=by
 obtain⟨h1,h2,h3⟩:=oj lo hi its.toArray.size;unfold slicePick;rw[h1,h2,h3];simp only[sliceRange_one,pick_run,HW] <;> rfl
def Gr(K:FR):V->Option Int->Option Int->Hp->VK->Prop:=λx lo hi H Q=>∃a xs,x=.ref a/\fu K H a xs/\∀p,H p=none->Q (.ref p) (upd H p (.lst (lK xs lo hi)))
theorem x4:Dj X (Gr X.K):=by
 intro pins s σ H x v vl vu lo hi sl Q I rx hs pl pu h;obtain⟨a,xs,rfl,hx,q⟩:=h;cases rx;obtain⟨its,r,ht,hz⟩:=I.list hx;have hlen:=r.length;refine⟨"list",_,Lc.lookup,ht.isList.typeIs,?_⟩;refine LS ht.isList hs pl pu .none (by simp) ?_ (by rw[HW] <;> lia);rw[mj,<-hlen];refine⟨.ref s.heap.objs.size,_,I.laid (t':=s.toks) (o:=.lst (lK xs lo hi)) (λb ob q=>HI _ q) (HN _) ?_,rfl,q _ (I.aZ.fresh (HN _))⟩;exact⟨Ie (jX xs lo hi) hz,_,0,(r.drop (HT.bP xs.length 0 lo)).take (HT.bP xs.length xs.length hi-HT.bP xs.length 0 lo),HZ _ rfl⟩
theorem pB:fy X (.builtin "len") (λxs H Q=>∃p ys,xs=[.ref p]/\(fu X.K H p ys\/g8 X.K H p ys)/\Q (.int ys.length) H):=by
 intro pins s σ H xs us Q I r h;obtain⟨p,ys,rfl,hq,q⟩:=h;obtain⟨u,rfl,rx⟩:=vals1 r;cases rx;have hn:=iE;rcases hq with hq | hq
 ·obtain⟨its,r',pl,hz⟩:=I.list hq;have hlen:=r'.length;exact Calls.call_len_list pl.isList (by simp only[HW] <;> lia) ⟨.int ys.length,H,I.tok _,⟨s.toks+1,by rw[HW,hlen]⟩,q⟩
 ·obtain⟨its,r',pl,hz⟩:=I.tuple hq;have hlen:=r'.length;exact len_tuple pl (by simp only[HW] <;> lia) ⟨.int ys.length,H,I.tok _,⟨s.toks+1,by rw[HW,hlen]⟩,q⟩
theorem pA:fy X (.builtin "len") (λxs H Q=>∃z,xs=[.str z]/\z.length<=sizeLine/\Q (.int z.length) H):=by
 intro pins s σ H xs us Q I r h;obtain⟨z,rfl,hz,q⟩:=h;obtain⟨u,rfl,t,rfl⟩:=vals1 r;have hn:=iE;exact len_str (by lia) ⟨.int z.length,H,I.tok _,⟨_,rfl⟩,q⟩
theorem pv:fy X (.type "list") (λxs H Q=>∃p ys,xs=[.ref p]/\(fu X.K H p ys\/g8 X.K H p ys)/\∀l,H l=none->Q (.ref l) (upd H l (.lst ys))):=by
 intro pins s σ H xs us Q I r h;obtain⟨p,ys,rfl,hq,q⟩:=h;obtain⟨u,rfl,rx⟩:=vals1 r;cases rx;have fin:∀(its:List Value),Vals ys its->ys.length<=sizeLine->∀(h':Heap)(c':Nat),(∀b o',s.heap.get? b=some o'->h'.get? b=some o')->
   h'.get? s.heap.objs.size=some {cls:=.type "list",dict:=none,data:=.seq its.toArray c',slots:=#[]}->EP X pins σ Q (.ref s.heap.objs.size) {s with heap:=h'}:=λits r' hz h' c' kp e=>
  ⟨.ref s.heap.objs.size,_,I.laid (t':=s.toks) kp (HN _) (show bE X.prog X.w _ h' _ (.lst ys) from⟨hz,its,c',r',e⟩),rfl,q _ (I.aZ.fresh (HN _))⟩
 rcases hq with hq | hq
 ·obtain⟨its,r',pl,hz⟩:=I.list hq;have hlen:=r'.length;obtain⟨o,ho,hc,n,hd⟩:=pl.isList;exact call_list_seq p (.inl rfl) ho hc hd (λh' c' kp e=>fin its r' hz h' c' kp e) (by simp only[HW] <;> lia)
 ·obtain⟨its,r',pl,hz⟩:=I.tuple hq;have hlen:=r'.length;obtain⟨o,ho,hc,n,hd⟩:=pl;exact call_list_seq p (.inr rfl) ho hc hd (λh' c' kp e=>fin its r' hz h' c' kp e) (by simp only[HW] <;> lia)
theorem mP:fy X (.type "tuple") (λxs H Q=>∃p ys,xs=[.ref p]/\((fu X.K H p ys/\∀l,H l=none->Q (.ref l) (upd H l (.tup ys)))\/(g8 X.K H p ys/\Q (.ref p) H))):=by
 intro pins s σ H xs us Q I r h;obtain⟨p,ys,rfl,h⟩:=h;obtain⟨u,rfl,rx⟩:=vals1 r;cases rx;rcases h with⟨hq,q⟩ |⟨hq,q⟩
 ·obtain⟨its,r',pl,hz⟩:=I.list hq;have hlen:=r'.length;refine call_tuple_list pl.isList (λh' kp=>?_) (by simp only[HW] <;> lia);have I1:Inv X pins σ H {s with heap:=h'}:=I.kept (t':=s.toks) kp;have I2:Inv X pins σ (upd H h'.objs.size (.tup ys)) {s with heap:=h'.push {cls:=.type "tuple",data:=.seq its.toArray}}:=
   I1.laid (t':=s.toks) (λb o e=>HI _ e) (HN _) (show bE X.prog X.w _ _ _ (.tup ys) from⟨hz,its,r',mR.new _ _⟩)
  exact⟨.ref h'.objs.size,_,I2,rfl,q _ (I1.aZ.fresh (HN _))⟩
 ·obtain⟨its,r',pl,hz⟩:=I.tuple hq;exact call_tuple_same pl ⟨.ref p,H,I,rfl,q⟩
def Du(K:FR)(T:String)(x:V)(H:Hp):Prop:=match x with
 | .str _=>T="str"
 | .int _=>T="int"
 | .ref p=>(T="list"/\∃xs,fu K H p xs)\/(T="tuple"/\∃o,K.lookup p=some o/\o.cls=.type "tuple"/\o.dict=none)\/
   (T="dict"/\((∃kvs,H p=some (.dK kvs))\/(∃kvs,H p=some (.dT kvs))\/∃φ,H p=some (.xM φ)/\∀w h,φ w h->∃o,h.get? p=some o/\o.ExactDict))\/(T="set"/\∃S n,H p=some (.set S n))
 | _=>False
theorem AG(I:Inv X pins σ H s)(r:RelV x v)(ty:Du X.K T x H):
  s.TypeIs v T/\∀a,v=.ref a->∃ob,s.heap.get? a=some ob/\ob.dict=none:=by
 cases x with
 | str z=>
  obtain⟨t,rfl⟩:=r;cases(show T="str" from ty);exact⟨typeIs_str s z t,λ_ e=>nomatch e⟩
 | int i=>
  obtain⟨t,rfl⟩:=r;cases(show T="int" from ty);exact⟨typeIs_int s i t,λ_ e=>nomatch e⟩
 | ref p=>
  cases r;rcases ty with⟨rfl,xs,hq⟩ |⟨rfl,o,hk,hc,hd⟩ |⟨rfl,hk⟩ |⟨rfl,S,n,hk⟩
  ·obtain⟨its,_,pl,_⟩:=I.list hq;refine⟨pl.isList.typeIs,λa e=>?_⟩;cases e;obtain⟨o,n,e,c,hd,_⟩:=pl;exact⟨o,e,hd⟩
  ·refine⟨⟨o,I.oT p o hk,hc⟩,λa e=>?_⟩;cases e;exact⟨o,I.oT _ o hk,hd⟩
  ·have z:∃o,s.heap.get? p=some o/\o.ExactDict:=by
    rcases hk with⟨kvs,hk⟩ |⟨kvs,hk⟩ |⟨φ,hk,hφ⟩
    ·obtain⟨_,_,_,_,o,_,_,e,ex,_⟩:=I.aZ p _ hk;exact⟨o,e,ex⟩
    ·obtain⟨_,_,_,_,o,_,_,e,ex,_⟩:=I.aZ p _ hk;exact⟨o,e,ex⟩
    ·obtain⟨q,_⟩:=I.aZ p _ hk;exact hφ _ _ q
   obtain⟨o,e,ex⟩:=z;refine⟨⟨o,e,ex.1⟩,λa e2=>?_⟩;cases e2;exact⟨o,e,ex.2.1⟩
  ·obtain⟨o,_,_,_,e,ex,_⟩:=I.aZ p _ hk;refine⟨⟨o,e,ex.1⟩,λa e2=>?_⟩;cases e2;exact⟨o,e,ex.2.1⟩
 | _=>exact False.elim ty
def Hy(K:FR)(T:String)(r:V->List V->Hp->VK->Prop)(to:TE)(t:TA):TE:=λσ H Q=>to σ H λx H1=>Du K T x H1/\t σ H1 λxs H2=>r x xs H2 Q
variable {o e:Expr} {es:List Expr} {to:TE} {t:TA} {name:Str} {apos cpos:Pos} {T id:String} {r:V->List V->Hp->VK->Prop}
theorem Es(pa:PlainAttrs T)(slot:Slot T name id)(hty:typeOf (.builtin id)=pure (.type "method_descriptor"))(hm:Dq X id r)(ho:PE X o to)(ha:PA X (e::es) t)
  (hbase:attributeBase o name X.env (eval o X.env)=eval o X.env:=by rfl)
  (hfew:((backTo cpos (starEach (e::es) X.env)).all (λx=>!x.1)&&(backToKw cpos (keywordEach [] X.env)).all (λx=>x.1.isSome)
   &&decide ((e::es).length+([]:List Keyword).length+(if([]:List Keyword).isEmpty then 0 else 1) < 30))=true:=by rfl)
  (hline:(apos.endLine==cpos.line)=true:=by rfl) (hs:starEach (e::es) X.env=(false,eval e X.env)::starEach es X.env:=by rfl) (hplain:(backTo cpos (starEach es X.env)).any (·.1)=false:=by rfl):
  PE X (.Call (.Attribute o name apos) (e::es) [] cpos) (Hy X.K T r to t):=by
 intro pins s σ H Q I h;refine wpAny_Call_method_late hbase hfew hline rfl (bT (ho pins s σ H _ I h) λv s1 ⟨x,H1,I1,r1,ty,q1⟩=>?_);obtain⟨h1,h2⟩:=AG I1 r1 ty;refine⟨T,id,pa,slot,hty,h1,h2,?_⟩;have hA:=ha cpos pins s1 σ H1 _ I1 q1;rw[hs] at hA ⊢;refine Calls.callWith_builtin (by show(false||(backTo cpos (starEach es X.env)).any (·.1))=false;rw[hplain] <;> rfl) (Calls.evalArgs_plain ?_);exact bT hA λus s2 ⟨vs,H2,I2,r2,q2⟩=>hm pins s2 σ H2 x vs v us Q I2 r1 r2 q2
end
def Hk(X:Cx)(id:String)(r:V->List V->Hp->VK->Prop):Prop:=
 ∀(pins:List (Addr×Obj)) (s:Shared) (σ:St) (H:Hp) (x:V) (xs:List V) (v:Value) (us:List Value) (Q:VK),Inv X pins σ H s->RelV x v->Vals xs us->r x xs H Q->
  wpAny (model X.prog X.w) X.A (call (.builtin id) (v::us)) (EP X pins σ Q) X.xe s
theorem Vals.one{x:V}{us:List Value}(h:Vals [x] us):∃u,us=[u]/\RelV x u:=by
 cases h with
 | cons r t=>cases t;exact⟨_,rfl,r⟩
theorem Vals.two{x y:V}{us:List Value}(h:Vals [x,y] us):∃u v,us=[u,v]/\RelV x u/\RelV y v:=by
 cases h with
 | cons r t=>cases t with
  | cons q z=>cases z;exact⟨_,_,rfl,r,q⟩
theorem Vals.rep(h:Vals xs us):∀k:Nat,Vals (List.replicate k xs).flatten (List.replicate k us).flatten
 | 0=>.nil
 | k+1=>by
  rw[Ji,Ji,JD,JD];exact Vals.append h (Vals.rep h k)
theorem foldl_rep(its:List Value):∀(k:Nat)(acc:List Value),
  List.foldl (λx1 x2=>x1++x2) acc.toArray (List.replicate k its.toArray)=(acc++(List.replicate k its).flatten).toArray
 | 0,acc=>by simp
 | k+1,acc=>by
  have e:acc.toArray++its.toArray=(acc++its).toArray:=by simp
  have e2:(acc++its)++(List.replicate k its).flatten=acc++(List.replicate (k+1) its).flatten:=by
   rw[Ji,JD,IQ]
  rw[<-e2,<-foldl_rep its k (acc++its),<-e,Ji,List.foldl_cons]
theorem Inv.EF{its its':List Value}{n:Nat}{f:Array Value->Array Value}{t':Nat}(I:Inv X pins σ H s)(hH:H l=some (.lst xs))
  (e:s.heap.get? l=some {cls:=.type "list",data:=.seq its.toArray n}) (hf:f its.toArray=its'.toArray) (hv:Vals ys its') (hz:ys.length<=sizeLine):
  Inv X pins σ (upd H l (.lst ys)) {s with heap:=s.heap.update l (Obj.mapSeq f),toks:=t'}:=by
 have q:=PySem.IsL.update e f;rw[hf] at q;refine I.write (x:=l) (e:=l) (by rw[hH];exact trivial) (.inl rfl) (λb' u hb hu=>(Heap.get?_update_other s.heap (Obj.mapSeq f) (Jl hb)).trans hu) ⟨_,q⟩ ?_;exact⟨hz,its',_,hv,q⟩
theorem Inv.Cq(I:Inv X pins σ H s)(hv:Vals ys its)(hz:ys.length<=sizeLine):
  Inv X pins σ (upd H s.heap.objs.size (.lst ys)) {s with heap:=s.heap.push {cls:=.type "list",data:=.seq its.toArray},toks:=t'}:=
 I.laid (λ_ _ q=>HI _ q) (HN _) ⟨hz,its,0,hv,HZ _ rfl⟩
theorem Inv.fresh(I:Inv X pins σ H s):H s.heap.objs.size=none:=I.aZ.fresh (HN _)
theorem Inv.ua(I:Inv X pins σ H s)(hH:H l=some (.lst xs)):xs.length<=sizeLine/\∃(its:List Value)(n:Nat),Vals xs its/\xs.length=its.length/\s.heap.get? l=some {cls:=.type "list",data:=.seq its.toArray n}:=by
 obtain⟨z,its,n,r,e⟩:=I.aZ l _ hH;exact⟨z,its,n,r,r.length,e⟩
theorem p5(h:n<=sizeLine):Builtin.List.listTooLong n=false:=by
 unfold Builtin.List.listTooLong;exact IB (by lia)
def yB:V->List V->Hp->VK->Prop:=λx vs H Q=>∃l xs y,x=.ref l/\vs=[y]/\H l=some (.lst xs)/\xs.length < sizeLine/\Q .ck (upd H l (.lst (xs++[y])))
theorem nz:Hk X "list.append" yB:=by
 intro pins s σ H x vs v us Q I rx rv h;obtain⟨l,xs,y,rfl,rfl,hH,hz,q⟩:=h;cases rx;obtain⟨u,rfl,ru⟩:=rv.one;obtain⟨z,its,n,r,hl,e⟩:=I.ua hH;refine LL Jf ⟨_,e,rfl⟩ F.entry_list_append (F.args_list_append_2 _ _) (PySem.list_append l its.toArray n u (by rw[HW];lia)) ⟨e,?_⟩;refine⟨.ck,_,I.EF (its':=its++[u]) hH e (by simp) (r.append (.cons ru .nil)) ?_,rfl,q⟩;rw[HL,Jm]
 lia
def yA:V->List V->Hp->VK->Prop:=λx vs H Q=>∃l b xs zs,x=.ref l/\vs=[.ref b]/\H l=some (.lst xs)/\H b=some (.lst zs)/\xs.length+zs.length<=sizeLine/\Q .ck (upd H l (.lst (xs++zs)))
theorem t9:Hk X "list.extend" yA:=by
 intro pins s σ H x vs v us Q I rx rv h;obtain⟨l,b,xs,zs,rfl,rfl,hH,hB,hz,q⟩:=h;cases rx;obtain⟨u,rfl,ru⟩:=rv.one;cases ru;obtain⟨z,its,n,r,hl,e⟩:=I.ua hH;obtain⟨z2,its2,n2,r2,hl2,e2⟩:=I.ua hB;have hsz:its.toArray.size+its2.toArray.size<=sizeLine:=by rw[HW,HW];lia
 have hlong:¬(!its.toArray.isEmpty&&Builtin.List.listTooLong (its.toArray.size+its2.toArray.size))=true:=by
  rw[p5 hsz,Bool.and_false];exact IG
 refine LL Kz ⟨_,e,rfl⟩ F.entry_list_extend (F.args_list_extend_2 _ _)
  (AutoSeq1.list_extend_list_list_0 l its.toArray n b its2.toArray n2 hlong (by rw[HW];lia) (by lia)) ⟨e,e2,?_⟩
 refine⟨.ck,_,I.EF (its':=its++its2) hH e (by simp) (r.append r2) ?_,rfl,q⟩;rw[HL]
 lia
def Gz:R2:=λx y H Q=>∃l b xs zs,x=.ref l/\y=.ref b/\H l=some (.lst xs)/\H b=some (.lst zs)/\xs.length+zs.length<=sizeLine/\∀p,H p=none->Q (.ref p) (upd H p (.lst (xs++zs)))
theorem wt:lZ X (binaryOp .Add) Gz:=by
 intro pins s σ H x y v u Q I rx ry h;obtain⟨l,b,xs,zs,rfl,rfl,hH,hB,hz,q⟩:=h;cases rx;cases ry;obtain⟨z,its,n,r,hl,e⟩:=I.ua hH;obtain⟨z2,its2,n2,r2,hl2,e2⟩:=I.ua hB;refine PySem.P.add_list e e2 ?_ (by rw[HW,HW];lia);have ea:its.toArray++its2.toArray=(its++its2).toArray:=by simp
 rw[ea];exact⟨.ref _,_,I.Cq (t':=s.toks) (r.append r2) (by rw[HL];lia),rfl,q _ I.fresh⟩
def Gv:R2:=λx y H Q=>∃l k xs,x=.ref l/\y=.int k/\H l=some (.lst xs)/\-(2^63)<=k/\k < 2^63/\xs.length*k.toNat<=sizeLine/\
 ∀p,H p=none->Q (.ref p) (upd H p (.lst (List.replicate k.toNat xs).flatten))
theorem len_rep(xs:List α)(k:Nat):(List.replicate k xs).flatten.length=k*xs.length:=by
 induction k with
 | zero=>simp
 | succ k ih=>rw[Ji,JD,HL,ih,Nat.succ_mul,Nat.add_comm]
theorem B0:lZ X (binaryOp .Mult) Gv:=by
 intro pins s σ H x y v u Q I rx ry h;obtain⟨l,k,xs,rfl,rfl,hH,h1,h2,hz,q⟩:=h;cases rx;obtain⟨t,rfl⟩:=ry;obtain⟨z,its,n,r,hl,e⟩:=I.ua hH;have hlen:its.toArray.size*k.toNat<=sizeLine:=by rw[HW,<-hl];exact hz
 have hcap:¬its.toArray.size*k.toNat > (2^63-1) / 8:=by
  have:(sizeLine:Nat)<=(2^63-1) / 8:=by decide
  lia
 have hfit:¬(!Builtin.List.listFitsIndex k)=true:=by
  rw[fitsIndex_both h1 h2];exact IG
 have hlong:¬Builtin.List.listTooLong (its.toArray.size*k.toNat)=true:=by
  rw[p5 hlen];exact IG
 have hnew:List.foldl (λx1 x2=>x1++x2) #[] (List.replicate (if its.toArray.isEmpty=true then 0 else k.toNat) its.toArray)=(List.replicate k.toNat its).flatten.toArray:=by
  have f0:∀m:Nat,List.foldl (λx1 x2=>x1++x2) #[] (List.replicate m its.toArray)=(List.replicate m its).flatten.toArray:=λm=>by
   have:=foldl_rep its m [];rw[List.nil_append] at this;exact this
  rw[f0];cases its with
  | nil=>simp
  | cons a r'=>rw[HS (by simp)]
 refine wpAny_binaryOp_repeat_ref (T:="list") (U:="int") (by decide) ⟨_,e,rfl⟩ (λs'=>typeIs_int s' k t) noFill_list_mul F.fills_int_mul F.slot_int_rmul repeat_list F.slot_int_index.lookup
  (LL F.slot_int_rmul (typeIs_int s k t) F.entry_int_rmul (F.args_int_rmul_2 _ _) (int___rmul___int_list k t l its.toArray n)
   ⟨e,rfl,⟨_,e,rfl⟩,LL F.slot_list_mul ⟨_,e,rfl⟩ F.entry_list_mul (F.args_list_mul_2 _ _) (AutoListH.list___mul___list_int_3 l its.toArray n k t hfit hcap hlong) ⟨e,?_⟩⟩)
 rw[hnew];exact⟨.ref _,_,I.Cq (t':=s.toks) (r.rep k.toNat) (by rw[len_rep,Nat.mul_comm];exact hz),rfl,q _ I.fresh⟩
section
variable {κ:Type} [DecidableEq κ]
noncomputable def gh(kvs:List (κ×V))(k:κ):Option V:=(kvs.find? λkv=>decide (kv.1=k)).map (·.2)
noncomputable def putK(kvs:List (κ×V))(k:κ)(v:V):List (κ×V):=
 if(kvs.any λkv=>decide (kv.1=k))=true then kvs.map (λkv=>if kv.1=k then(kv.1,v) else kv) else kvs++[(k,v)]
theorem kH{p:κ×V}{r:List (κ×V)}{k:κ}(e:p.1=k):gh (p::r) k=some p.2:=by simp[gh,Jo,e]
theorem iN{p:κ×V}{r:List (κ×V)}{k:κ}(e:¬p.1=k):gh (p::r) k=gh r k:=by simp[gh,Jo,e]
theorem pL(k:κ):∀kvs:List (κ×V),(kvs.any λkv=>decide (kv.1=k))=(gh kvs k).isSome
 | []=>rfl
 | p::r=>by
  rw[Jy]
  by_cases e:p.1=k
  ·simp only[kH e,IE e,Bool.true_or,Option.isSome_some]
  ·rw[iN e,IB e,Bool.false_or];exact pL k r
theorem gI(kvs:List (κ×V))(k:κ)(v:V):(putK kvs k v).length<=kvs.length+1:=by
 unfold putK
 split
 ·rw[HH];lia
 ·rw[HL,HP,Jg];lia
theorem jI.fg(r:jI o u):o.isSome=u.isSome:=by
 cases o with
 | none=>cases u with
  | none=>rfl
  | some _=>exact(show False from r).elim
 | some _=>cases u with
  | none=>exact(show False from r).elim
  | some _=>rfl
theorem jI.getD(r:jI o u)(rd:RelV d d'):RelV (o.getD d) (u.getD d'):=by
 cases o with
 | none=>cases u with
  | none=>exact rd
  | some _=>exact(show False from r).elim
 | some _=>cases u with
  | none=>exact(show False from r).elim
  | some _=>exact r
theorem KV.val{kvs:List (κ×V)}{vs:List (κ×Value)}(r:KV kvs vs)(k:κ):jI (gh kvs k) (valueAt vs k):=by
 unfold KV at r
 induction r with
 | nil=>exact True.intro
 | @cons p q ps qs h t ih=>
  obtain⟨h1,h2⟩:=h
  by_cases e:p.1=k
  ·have e':q.1=k:=h1.symm.trans e;have b:valueAt (q::qs) k=some q.2:=by simp[valueAt,Jo,e']
   rw[kH e,b];exact h2
  ·have e':¬q.1=k:=λz=>e (h1.trans z);have b:valueAt (q::qs) k=valueAt qs k:=by simp[valueAt,Jo,e']
   rw[iN e,b];exact ih
theorem KV.any(r:KV kvs vs)(k:κ):(kvs.any λkv=>decide (kv.1=k))=vs.any λkv=>decide (kv.1=k):=by
 unfold KV at r
 induction r with
 | nil=>rfl
 | cons h t ih=>rw[Jy,Jy,ih,h.1]
theorem KV.Be(r:KV kvs vs)(k:κ)(ry:RelV y u):
  KV (kvs.map λkv=>if kv.1=k then(kv.1,y) else kv) (vs.map λkv=>if kv.1=k then(kv.1,u) else kv):=by
 unfold KV at r ⊢
 induction r with
 | nil=>exact .nil
 | @cons p q ps qs h t ih=>
  rw[HX,HX];refine .cons ?_ ih;obtain⟨h1,h2⟩:=h
  by_cases e:p.1=k
  ·rw[HQ e,HQ (h1.symm.trans e)];exact⟨h1,ry⟩
  ·rw[HS e,HS (λz=>e (h1.trans z))];exact⟨h1,h2⟩
theorem KV.put(r:KV kvs vs)(k:κ)(ry:RelV y u):KV (putK kvs k y) (stored vs k u):=by
 unfold putK stored;rw[r.any k]
 by_cases e:(vs.any λkv=>decide (kv.1=k))=true
 ·rw[HQ e,HQ e];exact r.Be k ry
 ·rw[HS e,HS e];exact Paired.snoc r ⟨rfl,ry⟩
theorem KV.length(r:KV kvs vs):kvs.length=vs.length:=Paired.length r
end
theorem jV(r:RelV (kV k) u):(aQ P w).is k u=true:=by
 cases k with
 | inl i=>obtain⟨t,e⟩:=(show ∃t,u=Value.int i t from r);subst e;exact jS P w i t
 | inr x=>obtain⟨t,e⟩:=(show ∃t,u=Value.str x t from r);subst e;exact jR P w x t
theorem nI:∀{ks:List Key} {us:List Value},Vals (ks.map kV) us->ItemsAre (aQ P w) ks us
 | [],_,r=>by rw[LD] at r;cases r;exact .nil
 | k::ks,_,r=>by
  rw[HX] at r;cases r with
  | cons h t=>exact .cons (jV h) (nI t)
abbrev KT(H:Hp):List (List Key×V)->List (List Key×Addr×Value)->Prop:=Paired λp q=>p.1=q.1/\H q.2.1=some (.tup (p.1.map kV))/\RelV p.2 q.2.2
theorem KT.val{H:Hp}{kvs:List (List Key×V)}{xs:List (List Key×Addr×Value)}(r:KT H kvs xs)(k:List Key):jI (gh kvs k) ((atKey xs k).map (·.2)):=by
 induction r with
 | nil=>exact True.intro
 | @cons p q ps qs h t ih=>
  obtain⟨h1,_,h2⟩:=h
  by_cases e:p.1=k
  ·have e':q.1=k:=h1.symm.trans e;have b:atKey (q::qs) k=some q.2:=by simp[atKey,Jo,e']
   rw[kH e,b];exact h2
  ·have e':¬q.1=k:=λz=>e (h1.trans z);have b:atKey (q::qs) k=atKey qs k:=by simp[atKey,Jo,e']
   rw[iN e,b];exact ih
theorem KT.Be(r:KT H kvs xs)(k:List Key)(ry:RelV y u):
  KT H (kvs.map λkv=>if kv.1=k then(kv.1,y) else kv) (xs.map (putAt k u)):=by
 induction r with
 | nil=>exact .nil
 | @cons p q ps qs h t ih=>
  rw[HX,HX];refine .cons ?_ ih;obtain⟨h1,h2,h3⟩:=h;unfold putAt
  by_cases e:p.1=k
  ·rw[HQ e,HQ (h1.symm.trans e)];exact⟨h1,h2,ry⟩
  ·rw[HS e,HS (λz=>e (h1.trans z))];exact⟨h1,h2,h3⟩
theorem KT.put(r:KT H kvs xs)(k:List Key)(hb:H b=some (.tup (k.map kV)))(ry:RelV y u):
  KT H (putK kvs k y) (storedH xs k b u):=by
 have e:(kvs.any λkv=>decide (kv.1=k))=(atKey xs k).isSome:=by
  rw[pL,(r.val k).fg,K0]
 unfold putK storedH;rw[e]
 by_cases q:(atKey xs k).isSome=true
 ·rw[HQ q,HQ q];exact r.Be k ry
 ·rw[HS q,HS q];exact Paired.snoc r ⟨rfl,hb,ry⟩
theorem KT.keeps(r:KT H kvs xs)(ht:∀b ys,H b=some (.tup ys)->H' b=some (.tup ys)):KT H' kvs xs:=
 Paired.Ck r λ_ _ z=>⟨z.1,ht _ _ z.2.1,z.2.2⟩
theorem z7(ok:hV P w H h)(e:Rd H a u):bE P w H h a u:=e.ok ok
theorem jW(ok:hV P w H h)(e:Rd H a (.dK kvs)):kvs.length<=sizeLine/\(a==sysModules)=false/\∃vs,KV kvs vs/\h.DictOf (aQ P w) a vs:=
 show bE P w H h a (.dK kvs) from z7 ok e
theorem td(ok:hV P w H h)(e:H a=some (.dK kvs)):kvs.length<=sizeLine/\(a==sysModules)=false/\∃vs,KV kvs vs/\h.DictOf (aQ P w) a vs:=jW ok (.inl e)
theorem iG(ok:hV P w H h)(e:H a=some (.tup (ks.map kV))):(tupleKind (aQ P w)).is h ks a:=by
 obtain⟨_,its,r,o,h1,h2,⟨n,h3⟩,_⟩:=(show bE P w H h a (.tup (ks.map kV)) from ok a _ e);exact⟨o,its.toArray,n,h1,h2,h3,by simpa using nI r⟩
theorem lI(ok:hV P w H h)(e:Rd H a (.dT kvs)):kvs.length<=sizeLine/\(a==sysModules)=false/\
  ∃xs,KT H kvs xs/\h.DictOfH (tupleKind (aQ P w)) a xs:=by
 obtain⟨z,y,xs,r,o,es,ep,h1,h2,h3,h4,h5⟩:=(show bE P w H h a (.dT kvs) from z7 ok e);refine⟨z,y,xs,r,o,es,ep,h1,h2,h3,h4,λx hx=>?_,h5⟩;have all:∀{l:List (List Key×V)} {m:List (List Key×Addr×Value)},KT H l m->∀x∈m,(tupleKind (aQ P w)).is h x.1 x.2.1:=by
  intro l m q
  induction q with
  | nil=>intro x hx;exact nomatch hx
  | @cons p q ps qs hq t ih=>
   intro x hx;rcases HR.mp hx with e | hx
   ·subst e;exact iG ok (by rw[<-hq.1];exact hq.2.1)
   ·exact ih x hx
 exact all r x hx
theorem EZ(ok:hV P w H h)(e:H a=some (.dT kvs)):kvs.length<=sizeLine/\(a==sysModules)=false/\
  ∃xs,KT H kvs xs/\h.DictOfH (tupleKind (aQ P w)) a xs:=lI ok (.inl e)
def jm(H:Hp)(a:Addr)(y:V)(r:Option V):Prop:=
 (∃kvs k,Rd H a (.dK kvs)/\y=kV k/\r=gh kvs k)\/∃kvs k b,Rd H a (.dT kvs)/\y=.ref b/\H b=some (.tup (k.map kV))/\r=gh kvs k
def zT(H:Hp)(a:Addr)(y v:V)(H':Hp):Prop:=
 (∃kvs k,H a=some (.dK kvs)/\y=kV k/\kvs.length < sizeLine/\H'=upd H a (.dK (putK kvs k v)))\/
 ∃kvs k b,H a=some (.dT kvs)/\y=.ref b/\H b=some (.tup (k.map kV))/\kvs.length < sizeLine/\H'=upd H a (.dT (putK kvs k v))
theorem jm.k{H:Hp}{a:Addr}{kvs:List (Key×V)}{k:Key}(e:H a=some (.dK kvs)):jm H a (kV k) (gh kvs k):=.inl ⟨kvs,k,.inl e,rfl,rfl⟩
theorem zT.k{H:Hp}{a:Addr}{kvs:List (Key×V)}{k:Key}{v:V}(e:H a=some (.dK kvs))(hl:kvs.length < sizeLine):zT H a (kV k) v (upd H a (.dK (putK kvs k v))):=.inl ⟨kvs,k,e,rfl,hl,rfl⟩
theorem Inv.big(I:Inv X pins σ H s):sysModules < s.heap.objs.size:=by
 have h:mainGlobals < s.heap.objs.size:=(I.mod.glob.keeps I.bk).lt;exact Nat.lt_trans (by decide) h
theorem uA(hu:A.units+1 < cLine)(I:Inv X pins σ H s)(g:jm H a y (some v))(ry:RelV y u)(h:∀w' s',Inv X pins σ H s'->RelV v w'->Q w' s'):
  wpAny (model X.prog X.w) A (getItem (.ref a) u) Q E s:=by
 rcases g with⟨kvs,k,e,ey,l⟩ |⟨kvs,k,b,e,ey,eb,l⟩
 ·subst ey;obtain⟨z,hd,vs,rel,dd⟩:=jW I.aZ e;obtain⟨w',hw,rw'⟩:=jI.some_of (v:=v) (o:=valueAt vs k) (by rw[l];exact rel.val k);exact wpAny_getItem_of (jV ry) dd.mapOf hw (h w' _ (I.tok _) rw')
 ·subst ey;cases(show u=Value.ref b from ry);obtain⟨z,hd,xs,rel,dd⟩:=lI I.aZ e;obtain⟨w',hw,rw'⟩:=jI.some_of (v:=v) (o:=(atKey xs k).map (·.2)) (by rw[l];exact rel.val k);obtain⟨p,hp,hp2⟩:=Ij.mp hw;refine wpAny_getItem_heap (JE hu) (iG I.aZ eb) dd hp ?_;rw[hp2];exact h w' _ (I.tok _) rw'
theorem GQ(hu:A.units+1 < cLine)(I:Inv X pins σ H s)(g:jm H a y o)(ry:RelV y u)(h:∀s',Inv X pins σ H s'->Q (.bool o.isSome) s'):
  wpAny (model X.prog X.w) A (compareOp .In u (.ref a)) Q E s:=by
 rcases g with⟨kvs,k,e,ey,l⟩ |⟨kvs,k,b,e,ey,eb,l⟩
 ·subst ey;obtain⟨z,hd,vs,rel,dd⟩:=jW I.aZ e;refine wpAny_in_of (jV ry) hd dd.mapOf ?_;rw[<-(rel.val k).fg,<-l];exact h _ (I.tok _)
 ·subst ey;cases(show u=Value.ref b from ry);obtain⟨z,hd,xs,rel,dd⟩:=lI I.aZ e;refine wpAny_in_heap (JE hu) (iG I.aZ eb) hd dd ?_;have q:=(rel.val k).fg;rw[K0] at q;rw[<-q,<-l];exact h _ (I.tok _)
theorem zA(hu:A.units+1 < cLine)(I:Inv X pins σ H s)(g:jm H a y o)(ry:RelV y u)(h:∀s',Inv X pins σ H s'->Q (.bool (!o.isSome)) s'):
  wpAny (model X.prog X.w) A (compareOp .NotIn u (.ref a)) Q E s:=by
 rcases g with⟨kvs,k,e,ey,l⟩ |⟨kvs,k,b,e,ey,eb,l⟩
 ·subst ey;obtain⟨z,hd,vs,rel,dd⟩:=jW I.aZ e;refine wpAny_notIn_of (jV ry) hd dd.mapOf ?_;rw[<-(rel.val k).fg,<-l];exact h _ (I.tok _)
 ·subst ey;cases(show u=Value.ref b from ry);obtain⟨z,hd,xs,rel,dd⟩:=lI I.aZ e;refine wpAny_notIn_heap (JE hu) (iG I.aZ eb) hd dd ?_;have q:=(rel.val k).fg;rw[K0] at q;rw[<-q,<-l];exact h _ (I.tok _)
theorem kB(I:Inv X pins σ H s)(mu:FD (H a))(hs:Heap.SameBut a s.heap h')(he:∃q,h'.get? a=some q)(new:bE X.prog X.w (upd H a ob) h' a ob):
  Inv X pins σ (upd H a ob) {s with heap:=h',toks:=t'}:=
 I.write (x:=a) (e:=a) mu (.inl rfl) (λb q hb z=>(hs.2 b hb).trans z) he new
theorem xh(z:kvs.length<=sizeLine)(hd:(a==sysModules)=false)(rel:KV kvs vs)(dd:h'.DictOf (aQ P w) a vs):
  bE P w H' h' a (.dK kvs):=⟨z,hd,vs,rel,dd⟩
theorem uz(hu:A.units+1 < cLine)(I:Inv X pins σ H s)(g:zT H a y v H')(ry:RelV y u)(rv:RelV v r)(h:∀s',Inv X pins σ H' s'->Q () s'):
  wpAny (model X.prog X.w) A (setItem (.ref a) u r) Q E s:=by
 rcases g with⟨kvs,k,e,ey,l,eH⟩ |⟨kvs,k,b,e,ey,eb,l,eH⟩
 ·subst ey eH;obtain⟨z,hd,vs,rel,dd⟩:=td I.aZ e;have hz:vs.length<=sizeLine:=by rw[<-rel.length];exact z
  have hl:(putK kvs k v).length<=sizeLine:=by have:=gI kvs k v;lia
  refine wpAny_setItem_pairs (hsz:=hz) (jV ry) dd λh' dd' hs=>h _ ?_;have he:∃q,h'.get? a=some q:=let⟨q,_,_,hq,_⟩:=dd';⟨q,hq⟩;exact kB I (by rw[e];exact True.intro) hs he (xh hl hd (rel.put k rv) dd')
 ·subst ey eH;cases(show u=Value.ref b from ry);obtain⟨z,hd,xs,rel,dd⟩:=EZ I.aZ e;have hz:xs.length<=sizeLine:=by rw[<-Paired.length rel];exact z
  have hl:(putK kvs k v).length<=sizeLine:=by have:=gI kvs k v;lia
  refine wpAny_setItem_heap (hsz:=hz) (JE hu) (iG I.aZ eb) dd λh' dd' hs=>h _ ?_;obtain⟨q,es,ep,hq,h2,h3,h4,_,h5⟩:=dd';refine kB I (by rw[e];exact True.intro) hs ⟨q,hq⟩ ⟨hl,hd,_,(rel.put k eb rv).keeps λc ys ec=>?_,q,es,ep,hq,h2,h3,h4,h5⟩;rw[ao (EE ec e (λz=>nomatch z))];exact ec
theorem E2(I:Inv X pins σ H s)(e:Rd H a (.dK kvs))(h:∀t s',Inv X pins σ H s'->Q (.int kvs.length t) s'):wpAny (model X.prog X.w) A (call (.builtin "len") [.ref a]) Q E s:=by
 obtain⟨z,hd,vs,rel,dd⟩:=jW I.aZ e;refine call_len_dict hd dd (by rw[<-rel.length];rw[Kd] at z;lia) ?_;rw[<-rel.length];exact h _ _ (I.tok _)
def zQ(i:Expr):Prop:=∀ov iv,subscripted i false ov iv=operate [ov,iv] (getItem ov iv)
theorem xZ{prog:Program}{w:World}{A:Around}{E:Value->Shared->Prop}{s:Shared}{env:Env}{value slice:Expr}{pos:Pos}{T id:String}{Q:Value->Shared->Prop}
  (hl:typeLookup (.type T) "__getitem__"=pure (some (.builtin id))) (hs:zQ slice)
  (h:wpAny (model prog w) A (eval value env) (λo s₁=>wpAny (model prog w) A (eval slice env) (λi s₂=>s₂.TypeIs o T/\wpAny (model prog w) A (getItem o i) Q E s₂) E s₁) E s):
  wpAny (model prog w) A (eval (.Subscript value slice pos) env) Q E s:=by
 refine Subscript_ (I0 h (λo s₁ h₁=>I0 h₁ (λi s₂ h₂=>?_) λ_ _ x=>x) λ_ _ x=>x);obtain⟨hT,h₂⟩:=h₂;unfold subscriptTail;refine HG ?_;rw[getitemInPython_of_ne hT.not_modules];refine HG (KJ hT hl ?_);have fin:wpAny (model prog w) A (subscripted slice false o i) (λr s₃=>wpAny (model prog w) A (letTemporaryGo value o r >>=λ_=>pure r) Q E s₃) E s₂:=by
  rw[hs o i];exact wpAny_operating (I0 h₂ (λr s₃ h₃=>HG (wpAny_letTemporaryGo (HK h₃))) λ_ _ x=>x)
 first
  | exact HK (HG fin)
  | exact HG (HK (HG fin))
  | exact HG fin
theorem qm(I:Inv X pins σ H s)(g:jm H a y o):s.TypeIs (.ref a) "dict":=by
 rcases g with⟨kvs,k,e,_,_⟩ |⟨kvs,k,b,e,_,_,_⟩
 ·obtain⟨_,_,vs,_,dd⟩:=jW I.aZ e;exact dd.typeIs
 ·obtain⟨_,_,xs,_,dd⟩:=lI I.aZ e;exact dd.typeIs
theorem qk(h:Heap)(hb:sysModules < h.objs.size):bE P w H (h.push {cls:=.type "dict",data:=.dict #[]}) h.objs.size (.dK []):=
 ⟨Jq _,KD.mpr (Jl (Iv hb)),[],.nil,Heap.DictOf.new h⟩
def AJ:TE:=λ_ H Q=>∀p,H p=none->Q (.ref p) (upd H p (.dK []))
theorem we:PE X (.Dict [] [] pos) AJ:=λpins s σ H Q I h=>
 wpAny_Dict_empty ⟨.ref s.heap.objs.size,_,I.laid (a:=s.heap.objs.size) (o:=.dK []) (t':=s.toks) (λ_ _ q=>HI _ q) (HN _) (qk s.heap I.big),rfl,h _ (I.aZ.fresh (HN _))⟩
def oa:List (TE×TE)->St->Hp->(List (V×V)->Hp->Prop)->Prop
 | [],_,H,Q=>Q [] H
 |(tk,tv)::r,σ,H,Q=>tk σ H λx H1=>tv σ H1 λy H2=>oa r σ H2 λps H3=>Q ((x,y)::ps) H3
abbrev VV:List (V×V)->List (Value×Value)->Prop:=Paired λp q=>RelV p.1 q.1/\RelV p.2 q.2
def Dn(X:Cx)(pos:Pos)(keys:List (Option Expr))(values:List Expr)(trs:List (TE×TE)):Prop:=
 ∀(pins:List (Addr×Obj)) (s:Shared) (σ:St) (H:Hp) (Q:List (V×V)->Hp->Prop),Inv X pins σ H s->oa trs σ H Q->
  wpAny (model X.prog X.w) X.A (evalPairs (pairTrees keys values X.env pos)) (λvs s'=>∃ps H',Inv X pins σ H' s'/\VV ps vs/\Q ps H') X.xe s
theorem yK:Dn X pos [] [] []:=λpins s σ H Q I h=>pairTrees_nil_walk ⟨[],H,I,.nil,h⟩
theorem vT(hk:PE X k tk)(hv:PE X v tv)(hr:Dn X pos ks vs trs):
  Dn X pos (some k::ks) (v::vs) ((tk,tv)::trs):=λpins s σ H Q I h=>
 pairTrees_cons_walk (bT (hk pins s σ H _ I h) λu s1 ⟨x,H1,I1,rx,q1⟩=>bT (hv pins s1 σ H1 _ I1 q1) λw2 s2 ⟨y,H2,I2,ry,q2⟩=>
  bT (hr pins s2 σ H2 _ I2 q2) λws s3 ⟨ps,H3,I3,rel,q3⟩=>⟨(x,y)::ps,H3,I3,.cons ⟨rx,ry⟩ rel,q3⟩)
noncomputable def dO(kvs more:List (Key×V)):List (Key×V):=more.foldl (λacc kv=>putK acc kv.1 kv.2) kvs
theorem KV.merge:∀{more:List (Key×V)} {rs:List (Key×Value)} {kvs:List (Key×V)} {vs:List (Key×Value)},KV more rs->KV kvs vs->KV (dO kvs more) (merged vs rs):=by
 intro more rs kvs vs r;unfold KV at r
 induction r generalizing kvs vs with
 | nil=>intro q;exact q
 | @cons p q ps qs h t ih=>
  intro r0;have e:KV (putK kvs p.1 p.2) (stored vs q.1 q.2):=by
   have:=r0.put p.1 h.2;rw[<-h.1];exact this
  exact ih e
theorem ic:∀(more kvs:List (Key×V)),(dO kvs more).length<=kvs.length+more.length
 | [],kvs=>by show kvs.length<=kvs.length+0;lia
 | p::r,kvs=>by
  have h1:=ic r (putK kvs p.1 p.2);have h2:=gI kvs p.1 p.2;show(dO (putK kvs p.1 p.2) r).length<=_;rw[HP];lia
theorem lR:∀{kvs:List (Key×V)} {ws:List (Value×Value)},VV (kvs.map λkv=>(kV kv.1,kv.2)) ws->∃rs,Carries (aQ P w) ws rs/\KV kvs rs
 | [],_,r=>by rw[LD] at r;cases r;exact⟨[],True.intro,.nil⟩
 | p::kvs,_,r=>by
  rw[HX] at r;cases r with
  | @cons a b as bs h t=>
   obtain⟨rs,c,q⟩:=lR (P:=P) (w:=w) t;obtain⟨b1,b2⟩:=b;exact⟨(p.1,b2)::rs,⟨jV h.1,rfl,c⟩,.cons ⟨rfl,h.2⟩ q⟩
def u5(trs:List (TE×TE)):TE:=λσ H Q=>∀p,H p=none->oa trs σ (upd H p (.dK [])) λps H2=>H2 p=some (.dK [])/\∃kvs:List (Key×V),ps=kvs.map (λkv=>(kV kv.1,kv.2))/\kvs.length<=15/\Q (.ref p) (upd H2 p (.dK (dO [] kvs)))
theorem sF(h:Dn X pos keys values trs)(hall:keys.all (·.isSome)=true)(hl:keys.length=values.length)(h0:keys≠[])(h15:keys.length<=15):PE X (.Dict keys values pos) (u5 trs):=by
 intro pins s σ H Q I q;have hn:=I.aZ.fresh (HN s.heap.objs.size);have I1:=I.laid (a:=s.heap.objs.size) (o:=.dK []) (h':=s.heap.push {cls:=.type "dict",data:=.dict #[]}) (t':=s.toks) (λ_ _ q=>HI _ q) (HN _) (qk s.heap I.big);refine wpAny_Dict_walk (knd:=aQ X.prog X.w) hall hl h0 h15 (bT (h pins _ σ _ _ I1 (q _ hn)) λws s2 ⟨ps,H2,I2,rel,e,kvs,ep,lk,q2⟩=>?_);subst ep;obtain⟨rs,c,rk⟩:=lR (P:=X.prog) (w:=X.w) rel;obtain⟨z,hd,vs0,r0,dd⟩:=td I2.aZ e;cases r0;refine⟨rs,c,dd,λh' dd' hs=>⟨.ref s.heap.objs.size,_,?_,rfl,q2⟩⟩;have hz:(dO [] kvs).length<=sizeLine:=by
  have h1:=ic kvs [];rw[Jg] at h1;rw[Kd];lia
 have he:∃q,h'.get? s.heap.objs.size=some q:=let⟨q,_,_,hq,_⟩:=dd';⟨q,hq⟩;exact kB I2 (by rw[e];exact True.intro) hs he (xh hz hd (rk.merge .nil) dd')
theorem CN(hu:A.units+1 < cLine)(I:Inv X pins σ H s)(g:jm H a y o)(ry:RelV y u)(h:∀w' s',Inv X pins σ H s'->RelV (o.getD .ck) w'->Q w' s'):
  wpAny (model X.prog X.w) A (call (.builtin "dict.get") [.ref a,u]) Q E s:=by
 rcases g with⟨kvs,k,e,ey,l⟩ |⟨kvs,k,b,e,ey,eb,l⟩
 ·subst ey;obtain⟨z,hd,vs,rel,dd⟩:=jW I.aZ e;refine Le Jz dd.typeIs JP (Ls _ _) (meets_dict_get (aQ X.prog X.w) a (jV ry) hd) ⟨_,dd.mapOf,h _ _ (I.tok _) ?_⟩;rw[l];exact(rel.val k).getD rfl
 ·subst ey;cases(show u=Value.ref b from ry);obtain⟨z,hd,xs,rel,dd⟩:=lI I.aZ e;refine Le Jz dd.typeIs JP (Ls _ _) (meetsH_dict_get (tupleKind (aQ X.prog X.w)) a b hd) ⟨JE hu,k,xs,iG I.aZ eb,dd,h _ _ (I.tok _) ?_⟩;rw[l];exact(rel.val k).getD rfl
theorem CM(hu:A.units+1 < cLine)(I:Inv X pins σ H s)(g:jm H a y o)(ry:RelV y u)(rd:RelV d r)(h:∀w' s',Inv X pins σ H s'->RelV (o.getD d) w'->Q w' s'):
  wpAny (model X.prog X.w) A (call (.builtin "dict.get") [.ref a,u,r]) Q E s:=by
 rcases g with⟨kvs,k,e,ey,l⟩ |⟨kvs,k,b,e,ey,eb,l⟩
 ·subst ey;obtain⟨z,hd,vs,rel,dd⟩:=jW I.aZ e;refine Le Jz dd.typeIs JP (Lr _ _ _) (meets_dict_get_default (aQ X.prog X.w) a (jV ry) hd r) ⟨_,dd.mapOf,h _ _ (I.tok _) ?_⟩;rw[l];exact(rel.val k).getD rd
 ·subst ey;cases(show u=Value.ref b from ry);obtain⟨z,hd,xs,rel,dd⟩:=lI I.aZ e;refine Le Jz dd.typeIs JP (Lr _ _ _) (meetsH_dict_get_default (tupleKind (aQ X.prog X.w)) a b hd r) ⟨JE hu,k,xs,iG I.aZ eb,dd,h _ _ (I.tok _) ?_⟩;rw[l];exact(rel.val k).getD rd
end L2
namespace Att
open PySem PySem.W PySem.Calls PyProof.Rows
theorem kh:∀(ns:List Int)(vs:List Value),WellAll P h vs (ns.map WData.int)->IntsAre vs ns:=by
 intro ns
 induction ns with
 | nil=>
  intro vs w;rw[LD] at w;cases w;exact .nil
 | cons n ns ih=>
  intro vs w;rw[HX] at w;cases w with
  | cons a b=>
   cases a;exact .cons _ _ (ih _ b)
theorem tW{l:OpenLaw}{n:Nat}(hn:l.most=some n){P:Params}{h:Heap}{args:List WData}{vals:List Value}
  (hpre:l.row.toRowW.claim.pre args=true) (hwl:WellAll P h vals args):
  ∃a vs ns,vals=[Value.ref a]/\args=[WData.list (ns.map WData.int)]/\h.get? a=some {cls:=.type "list",data:=.seq vs.toArray}/\IntsAre vs ns/\ns.length<=n:=by
 have hsh:WShape.hasAll [] args [.list .int]=true:=(pre_splitW hpre).1;have hc:l.pre.holds [] {args:=args}=true:=(pre_splitW hpre).2;obtain⟨d,r,rfl,h1,h2⟩:=hasAllW_cons hsh;obtain rfl:=hasAllW_nil h2;obtain⟨xs,rfl,h3⟩:=hasW_list h1;obtain⟨ns,rfl⟩:=items_int h3;have hlen:ns.length<=n:=by
  unfold OpenLaw.pre at hc;have h4:(WTm.not (.lt (.lit (.int (n:Int))) (.len (.arg 0)))).holds [] {args:=[.list (ns.map .int)]}=true:=by
   have h4:=(holds_andW hc).1;rw[hn] at h4;exact h4
  have h5:=condW_of h4 (w_not (w_lt w_lit (w_len_list (w_arg rfl))));rw[HH] at h5;refine Nat.le_of_not_lt λq=>?_;have q':(n:Int) < ((ns.length:Nat):Int):=by lia
  first
   |(rw[IE q'] at h5;exact absurd h5 (by decide))
   |(simp at h5;lia)
 cases hwl with
 | cons w1 w2=>
  cases w2;cases w1 with
  | list ho hall=>exact⟨_,_,ns,rfl,rfl,ho,kh ns _ hall,hlen⟩
theorem t5(l:OpenLaw)(args:List WData):l.row.toRowW.claim.post args (.bool true) args=true:=
 postW_of (r:=l.row.toRowW) (X:=(true==true))
  (show WShape.has [] (.bool true) .bool=true by first | rfl | decide | simp[WShape.has,WShape.arms,WShape.armsAll])
  (show(WTm.eq .res (.lit (.bool true))).value [] {args:=args,res:=some (.bool true),after:=args}=some (.bool (true==true)) from w_eq_bool (w_res rfl) w_lit) rfl
theorem qA{l:OpenLaw}{n:Nat}{q:Program}{loose:List Str}{XP:(Str->Option Value)->Heap->Prop}{YP:World->Heap->Prop}{d:DefRec}
  (hn:l.most=some n) (hdf:d.params.defaults=[])
  (call:∀(w:World)(s₀ s₁:Shared)(mg mb:Str->Option Value)(fa:Addr)(o:Obj)(pm cd doc:Value)(a:Addr)(vs:List Value)(ns:List Int),
   Ground q loose [] XP w s₀ mg mb s₁.heap->YP w s₁.heap->
   s₁.heap.get? fa=some o->o.data=.func (docDef d.name d.params d.body d.scope pm cd doc)->s₁.heap.CodeRec cd d.name->mg d.name=some (.ref fa)->
   s₁.heap.get? a=some {cls:=.type "list",data:=.seq vs.toArray}->IntsAre vs ns->ns.length<=n->s₁.gens=#[]->
   codeAny (model l.prog w) callerA (.call (.ref fa) ⟨[.ref a],[]⟩) (λr s'=>r=.ok (.ret (.bool true))/\OldK s₁.heap s'.heap/\s'.os=s₁.os/\AllBare s'.gens) s₁):
  WalkO q loose XP YP l.row.toRowW d [] (λf vs=>PySem.call f vs):=by
 intro w s₀ s₁ mg mb G Y fa o pm cd doc dV kV ho hd hcd hD hmg hg args vals as hpre hlay hrd hwl hlo;obtain rfl:dV=.none:=Dflts.none hD hdf;obtain rfl:kV=.none:=Dflts.noKw hD;obtain⟨a,vs,ns,rfl,rfl,hobj,hints,hlen⟩:=tW hn hpre hwl;refine enter_call (Kl (call w s₀ s₁ mg mb fa o pm cd doc a vs ns G Y ho (fd_plain hd) hcd hmg hobj hints hlen hg) λr s' hq=>?_);obtain⟨rfl,h2,h3,h4⟩:=hq;exact⟨.inl ⟨.bool true,.bool true,[],rfl,λ_=>rfl,.bool true,t5 l _,λ_=>⟨List.Pairwise.nil,λ_ hm=>(nomatch hm)⟩⟩,h2,h3,h4⟩
section
variable {prog:Program} {w:World} {A:Around} {E:Value->Shared->Prop} {s:Shared} {K:Frag}
end
end Att
namespace L2
open PySem PySem.Spec PyProof.Rows
theorem jn:∀{vs:List Value} {ns:List Int},IntsAre vs ns->Vals (ns.map V.int) vs
 | _,_,.nil=>.nil
 | _,_,.cons n t h=>.cons ⟨t,rfl⟩ (jn h)
def FC(H:Hp):Prop:=∀b,H b=none\/∃o xs,H b=some (.sU o (.lst xs))
theorem wH{P:Program}{w:World}{K:FR}{mg mb:Str->Option Value}{CX:zU}{k:Nat}{fa a:Addr}{fd:FuncData}{x:Str}{sp:Sp}{s₁:Shared}{vs:List Value}{ns:List Int}
  (KX:K.In s₁.heap) (hns:s₁.heap.Ns mainGlobals mg) (hb:s₁.heap.Ns builtinsNs mb) (hbb:∀x:Str,x≠"__name__"->mb x=bootBuiltins x) (hlim:s₁.heap.NoLimit) (hg:s₁.gens=#[])
  (ha:s₁.heap.get? a=some {cls:=.type "list",data:=.seq vs.toArray}) (hi:IntsAre vs ns) (hl:ns.length<=sizeLine) (hr:df k callerA)
  (F:∀base:Heap,K.In base->base.Ns mainGlobals mg->bx P w K mg base CX k fa fd [x] sp) (hbind:∀(s:Shared)(u:Value),BindsTo s fd ⟨[u],[]⟩ [(x,u)])
  (hsp:∀H:Hp,FC H->fu K H a (ns.map V.int)->sp [.ref a] H (λv _=>v=.bl true) λ_ _ _=>False)
  (hCX:∀H e s',CX [] H s₁ (λ_ _ _=>False) e s'->False):
  codeAny (model P w) callerA (.call (.ref fa) ⟨[.ref a],[]⟩) (λr s'=>r=.ok (.ret (.bool true))/\OldK s₁.heap s'.heap/\s'.os=s₁.os/\AllBare s'.gens) s₁:=by
 have rv:=jn hi;have lenV:=hi.length;have core:∀H:Hp,FC H->fu K H a (ns.map V.int)->hV P w H s₁.heap->(∀b,H b≠none->b=a)->(H a≠none->K.lookup a=none)->
   codeAny (model P w) callerA (.call (.ref fa) ⟨[.ref a],[]⟩) (λr s'=>r=.ok (.ret (.bool true))/\OldK s₁.heap s'.heap/\s'.os=s₁.os/\AllBare s'.gens) s₁:=by
  intro H hO hS aZ hA hK;have base_of:∀{b:Addr} {o:Obj},s₁.heap.get? b=some o->H b=none->(oV s₁.heap H).get? b=some o:=λe n=>wM e n;have noA:∀{b:Addr} {o:Obj} {es:Array DictEntry} {ep:Nat},s₁.heap.get? b=some o->o.data=.dict es ep->H b=none:=λ{b o es ep} e d=>by
   cases q:H b with
   | none=>rfl
   | some u=>
    have e':b=a:=hA b (by rw[q];simp);subst e';rw[ha] at e;cases e;have d':Data.seq vs.toArray _=Data.dict es ep:=d;cases d'
  have nsK:∀{b:Addr} {m:Str->Option Value},s₁.heap.Ns b m->(oV s₁.heap H).Ns b m:=λ{b m} ⟨o,es,ep,e,d,r⟩=>⟨o,es,ep,base_of e (noA e d),d,r⟩;have hKb:K.In (oV s₁.heap H):=λb o e=>base_of (KX b o e) (by
   cases q:H b with
   | none=>rfl
   | some u=>
    have e':b=a:=hA b (by rw[q];simp);subst e';rw[hK (by rw[q];simp)] at e;cases e)
  have hM:Mod K mg (oV s₁.heap H):=⟨hKb,nsK hns,⟨mb,nsK hb,hbb⟩,let⟨mc,h1,h2⟩:=hlim;⟨mc,nsK h1,h2⟩⟩;have e0:zS P w K mg (oV s₁.heap H) callerA [] s₁ H:=⟨rfl,hM,λb o e=>y8 e,Nat.le_of_eq (uo _ _),trivial,λb hb=>absurd (show b∈([]:List Addr) from hb) (by simp),aZ,.of_eq hg⟩;refine Kl ((F _ hKb (nsK hns)).run callerA [] s₁ H ⟨[.ref a],[]⟩ [.ref a] [.ref a] _ _ hr e0 (hbind s₁ (.ref a)) (.cons rfl .nil) (hsp H hO hS)) λr s' h=>?_;cases r with
  | error e=>exact(hCX H e s' h).elim
  | ok fl=>
   cases fl with
   | next=>exact False.elim h
   | brk=>exact False.elim h
   | cont=>exact False.elim h
   | ret u=>
    obtain⟨v,H',os,bare,un,hok',r',q⟩:=h;have q':v=.bl true:=q;subst q';obtain rfl:u=Value.bool true:=r';refine⟨rfl,OldK.of_keep λb o e=>?_,os,bare⟩;cases q:H b with
    | none=>exact un.keep b o e q (by intro z;exact absurd (show b∈([]:List Addr) from z) (by simp)) (by simp)
    | some u=>
     rcases hO b with z |⟨ob,xs,z⟩
     ·rw[q] at z;cases z
     ·have z2:=un.mL b ob _ z;obtain⟨e1,_⟩:=aZ b _ z;obtain⟨e2,_⟩:=hok' b _ z2;rw[e] at e1;cases e1;exact e2
 cases hk:K.lookup a with
 | some o=>
  have e:=KX a o hk;rw[ha] at e;cases e;refine core (λ_=>none) (λ_=>.inl rfl) (.inr ⟨_,vs.toArray,_,hk,rfl,rfl,rfl,by rw[HW,lenV];exact hl,by simpa using rv⟩) (λb u z=>by have z':(none:Option HO)=some u:=z;cases z') (λb z=>absurd rfl z) λz=>absurd rfl z
 | none=>
  refine core (λb=>if b=a then some (.sU {cls:=.type "list",data:=.seq vs.toArray} (.lst (ns.map V.int))) else none) (λb=>?_) (.inl (.inr ⟨{cls:=.type "list",data:=.seq vs.toArray},HQ rfl⟩)) (λb u z=>?_) (λb z=>?_) λ_=>hk
  ·by_cases hb:b=a
   ·exact .inr ⟨_,_,HQ hb⟩
   ·exact .inl (HS hb)
  ·by_cases hb:b=a
   ·have z':=(HQ hb).symm.trans z;cases z';subst hb;exact⟨ha,by rw[HH];exact hl,vs,_,rv,ha⟩
   ·have z':=(HS hb).symm.trans z;cases z'
  ·by_cases hb:b=a
   ·exact hb
   ·exact absurd (HS hb) z
noncomputable def i9(s:Stmt):Arguments:=match s with
 | .FunctionDef _ a _ _ _ _ _ _ _ _=>a
 | _=>{posonlyargs:=[],args:=[],vararg:=none,kwonlyargs:=[],kw_defaults:=[],kwarg:=none,defaults:=[]}
noncomputable def eC(s:Stmt):List Stmt:=match s with
 | .FunctionDef _ _ b _ _ _ _ _ _ _=>b
 | _=>[]
noncomputable def ag(s:Stmt):Scope:=match s with
 | .FunctionDef _ _ _ _ _ _ sc _ _ _=>sc
 | _=>{kind:=.function,names:=[],isGenerator:=false,isCoroutine:=false}
abbrev eW:zU:=λ_ _ _ _ _ _=>False
abbrev E0:XK:=λ_ _ _=>False
theorem Eu:Passes eW X E0:=λ_ _ _ _ _ _ _ h=>h.elim
structure gj(K:FR)(x qual:Str)(st:Stmt)(f:Addr)(fd:FuncData):Prop where
 ex:∃(oc:Value)(od:Option Addr)(kV doc pm:Value)(an:Option Addr)(cdv ct:Value)(osl:Array (Option Value)),
  fd=PySem.W.fnOf x qual (i9 st) (eC st) (ag st) .none kV doc pm an cdv ct/\K.lookup f=some ⟨oc,od,.func fd,osl⟩/\PySem.W.codeIn K cdv qual=true
 kp:PySem.W.keepIn K (.ref f)=true
section
variable {P:Program} {w:World} {K:FR} {mg:Str->Option Value} {base:Heap}
theorem gj.ok{x qual:Str}{st:Stmt}{f:Addr}{fd:FuncData}{N ps:List Str}{k:Nat}{sp:Sp}(F:gj K x qual st f fd)(S:au N ps (ag st))(len:∀vs H Q E,sp vs H Q E->vs.length=ps.length)
  (hbody:∀(cdv:Value)(A:Around)(outer:List Env)(s:Shared)(H:Hp)(vs:List V)(Q:VK)(E:XK),df k (A.deeper (envOfC qual (ag st) s.heap.objs.size f cdv))->sp vs H Q E->
   ∃t,qB (qq eW P w K mg base N qual (ag st) f cdv A outer s H E).Dw (eC st) t/\t {nx:=λ_ H'=>Q .ck H',rt:=Q} (start N vs) H):bx P w K mg base eW (k+1) f fd ps sp:=by
 obtain⟨oc,od,kV,doc,pm,an,cdv,ct,osl,rfl,lk,hcd⟩:=F.ex;refine EU lk hcd S len λA outer s H vs Q E hr hsp=>?_;obtain⟨t,h,q⟩:=hbody cdv A outer s H vs Q E hr hsp;exact⟨t,h.Dw,q⟩
theorem gj.binds{x qual:Str}{st:Stmt}{f:Addr}{fd:FuncData}{ps:List Str}(F:gj K x qual st f fd)
  (h:∀(kV doc pm:Value)(an:Option Addr)(cdv ct:Value)(us:List Value),us.length=ps.length->bindArgs (PySem.W.fnOf x qual (i9 st) (eC st) (ag st) .none kV doc pm an cdv ct) ⟨us,[]⟩=pure (ps.zip us)):Binds K fd ps []:=by
 obtain⟨oc,od,kV,doc,pm,an,cdv,ct,osl,rfl,lk,hcd⟩:=F.ex;exact .all (h kV doc pm an cdv ct)
end
theorem EO(hr:df k A):A.units+1 < cLine:=KQ (Nat.add_le_add_left (by decide:1<=64) _) hr.units
theorem uE:fy X (.builtin "len") (λxs H Q=>∃a kvs,xs=[V.ref a]/\H a=some (.dK kvs)/\Q (.int kvs.length) H):=by
 intro pins s σ H xs us Q I r h;obtain⟨a,kvs,rfl,ha,q⟩:=h;obtain⟨u,rfl,ru⟩:=vals1 r;cases ru;exact E2 I (.inl ha) λt s' I'=>⟨.int kvs.length,H,I',⟨t,rfl⟩,q⟩
theorem GI{A B:Prop}(h:B):if false=true then A else B:=by
 rw[HS IG];exact h
theorem GH{A B:Prop}(h:A):if true=true then A else B:=by
 rw[HQ rfl];exact h
section
variable {κ:Type} [DecidableEq κ]
end
theorem hV.off(ok:hV P w H h)(hC:H C=none)(k:∀b u,b≠C->h.get? b=some u->h'.get? b=some u):hV P w H h':=by
 intro a o e;have ne:a≠C:=by rintro rfl;rw[hC] at e;cases e
 refine(ok a o e).pP (λb u hb q=>k b u ?_ q) (λ_ x=>x) (λ_ _ x=>x);rcases hb with rfl | hb
 ·exact ne
 ·rintro rfl;rw[hC] at hb;cases hb
noncomputable def fk(env:Env):List (Str×NameKind)->List (Str×Addr)->List (Str×Addr)
 | [],acc=>acc
 |(n,k)::r,acc=>if(k==NameKind.free)=true then fk env r ((n,(env.cells.lookup n).getD 0)::acc) else fk env r acc
theorem lP(h:∀y∈scope.names,y.2=.free->∃c,env.cells.lookup y.1=some c):closureFor scope env=pure (fk env scope.names []):=by
 have key:∀(names:List (Str×NameKind)) (acc:List (Str×Addr)),(∀y∈names,y.2=.free->∃c,env.cells.lookup y.1=some c)->
   (forIn names acc (λ(x:Str×NameKind)(r:List (Str×Addr))=>match x with
    |(name,kind)=>if(kind==NameKind.free)=true then do let a<-cellOf env name;pure (ForInStep.yield ((name,a)::r)) else pure (ForInStep.yield r)):Sem (List (Str×Addr)))=pure (fk env names acc):=by
  intro names
  induction names with
  | nil=>intro acc _;rfl
  | cons y r ih=>
   intro acc hy;obtain⟨n,k⟩:=y;have hr:=λa=>ih a λz hz=>hy z (Ib _ hz);rw[K7];unfold fk
   by_cases hk:(k==NameKind.free)=true
   ·have hk':k=.free:=by simpa using hk
    obtain⟨c,hc⟩:=hy (n,k) HY hk';have e:cellOf env n=pure c:=by unfold cellOf;rw[hc]
    simp only[hk,Kg,e,hc,Option.getD_some];exact hr _
   ·simp only[hk,J1];exact hr _
 have k:=key scope.names [] h;unfold closureFor;dsimp only;rw[k];rfl
theorem jF:∀(names:List (Str×NameKind)) (acc:List (Str×Addr)),(∀y∈names,y.2=.free->∃c,env.cells.lookup y.1=some c)->
  (∀d,acc.lookup x=some d->env.cells.lookup x=some d)->(fk env names acc).lookup x=some c->env.cells.lookup x=some c
 | [],acc,_,ha,h=>ha c h
 |(n,k)::r,acc,hy,ha,h=>by
  unfold fk at h;have hr:=λz hz=>hy z (Ib _ hz)
  by_cases hk:(k==NameKind.free)=true
  ·rw[HQ hk] at h;refine jF r _ hr (λd hd=>?_) h;have hk':k=.free:=by simpa using hk
   obtain⟨c',hc⟩:=hy (n,k) HY hk';rw[ID] at hd;cases hx:x==n with
   | true=>
    rw[hx] at hd;have e:x=n:=by simpa using hx
    rw[e,hc];rw[hc] at hd;exact hd
   | false=>
    rw[hx] at hd;exact ha d hd
  ·rw[HS hk] at h;exact jF r _ hr ha h
theorem lQ:∀(names:List (Str×NameKind)) (acc:List (Str×Addr)),(∃c,acc.lookup x=some c)->∃c,(fk env names acc).lookup x=some c
 | [],_,h=>h
 |(n,k)::r,acc,h=>by
  unfold fk
  by_cases hk:(k==NameKind.free)=true
  ·rw[HQ hk];refine lQ r _ ?_;rw[ID];cases hx:x==n with
   | true=>exact⟨_,rfl⟩
   | false=>exact h
  ·rw[HS hk];exact lQ r _ h
theorem jc:∀(names:List (Str×NameKind)) (acc:List (Str×Addr)),(x,NameKind.free)∈names->∃c,(fk env names acc).lookup x=some c
 | [],_,h=>by cases h
 |(n,k)::r,acc,h=>by
  unfold fk;rcases HR.mp h with e | h'
  ·injection e with e1 e2
   subst e1 e2;rw[HQ (by rfl)];refine lQ r _ ⟨(env.cells.lookup x).getD 0,?_⟩;rw[ID,IU]
  ·by_cases hk:(k==NameKind.free)=true
   ·rw[HQ hk];exact jc r _ h'
   ·rw[HS hk];exact jc r _ h'
theorem fK{env:Env}:∀{names:List (Str×NameKind)} {x:Str} {j:NameKind},
  (names.map λ(n,k)=>if(k==NameKind.free&&env.scope.kind==.function&&env.kindOf n==some .cell) then(n,NameKind.cell) else(n,k)).lookup x=some j->
  ∃k,names.lookup x=some k/\(j=k\/(k=.free/\j=.cell))
 | [],_,_,h=>by simp at h
 |(n,k)::r,x,j,h=>by
  have h':List.lookup x ((if(k==NameKind.free&&env.scope.kind==.function&&env.kindOf n==some .cell)=true then(n,NameKind.cell) else(n,k))::_)=some j:=h;rw[ID];cases hx:x==n with
  | true=>
   refine⟨k,rfl,?_⟩
   by_cases hc:(k==NameKind.free&&env.scope.kind==.function&&env.kindOf n==some .cell)=true
   ·rw[HQ hc,ID,hx] at h';simp only[Ii,beq_iff_eq] at hc;exact .inr ⟨hc.1.1,(Option.some.inj h').symm⟩
   ·rw[HS hc,ID,hx] at h';exact .inl (Option.some.inj h').symm
  | false=>
   by_cases hc:(k==NameKind.free&&env.scope.kind==.function&&env.kindOf n==some .cell)=true
   ·rw[HQ hc,ID,hx] at h';exact fK h'
   ·rw[HS hc,ID,hx] at h';exact fK h'
theorem fL{env:Env}:∀{names:List (Str×NameKind)} {x:Str},names.lookup x=some .free->
  (names.map λ(n,k)=>if(k==NameKind.free&&env.scope.kind==.function&&env.kindOf n==some .cell) then(n,NameKind.cell) else(n,k)).lookup x=some .cell\/
  (names.map λ(n,k)=>if(k==NameKind.free&&env.scope.kind==.function&&env.kindOf n==some .cell) then(n,NameKind.cell) else(n,k)).lookup x=some .free
 | [],_,h=>by simp at h
 |(n,k)::r,x,h=>by
  rw[HX];show List.lookup x ((if(k==NameKind.free&&env.scope.kind==.function&&env.kindOf n==some .cell)=true then(n,NameKind.cell) else(n,k))::_)=_\/List.lookup x ((if(k==NameKind.free&&env.scope.kind==.function&&env.kindOf n==some .cell)=true then(n,NameKind.cell) else(n,k))::_)=_;rw[ID] at h;cases hx:x==n with
  | true=>
   rw[hx] at h;have hk:k=.free:=Option.some.inj h
   by_cases hc:(k==NameKind.free&&env.scope.kind==.function&&env.kindOf n==some .cell)=true
   ·rw[HQ hc,ID,hx];exact .inl rfl
   ·rw[HS hc,ID,hx,hk];exact .inr rfl
  | false=>
   rw[hx] at h
   by_cases hc:(k==NameKind.free&&env.scope.kind==.function&&env.kindOf n==some .cell)=true
   ·rw[HQ hc,ID,hx];exact fL h
   ·rw[HS hc,ID,hx];exact fL h
abbrev je(X:Cx)(N':List Str)(scope:Scope)(C:Addr)(s₃:Shared)(H₃:Hp)(fp:List Addr)(pl:List (Addr×Obj)):Cx:=
 {X with N:=N',s₀:=s₃,H₀:=H₃,env:=compEnvC scope (fk X.env scope.names []) C X.env,outer:=X.stack,ex:=fp,fn:=λ_=>false,calm:=true,pn:=X.pn++pl,xe:=λ_ _=>False}
structure bp(X:Cx)(N':List Str)(caps:List (Option Nat))(scope:Scope):Prop where
 kind:scope.kind=.function
 wy:∀y∈scope.names,y.2≠.cell
 names:∀y∈scope.names,y.2=.local->scope.names.lookup y.1=some .local
 xn:∀y∈scope.names,y.2=.free->X.env.kindOf y.1=some .cell\/X.env.kindOf y.1=some .free
 len:caps.length=N'.length
 HC:∀(j i:Nat)(x:Str),caps[j]?=some (some i)->N'[j]?=some x->X.N[i]?=some x/\scope.names.lookup x=some .free
 nd:N'.Nodup
noncomputable def mO(caps:List (Option Nat))(σ:St):St:=caps.map λo=>o.bind λi=>(σ[i]?).join
theorem bp.has(S:bp X N' caps scope)(ok:X.Ok):∀y∈scope.names,y.2=.free->∃c,X.env.cells.lookup y.1=some c:=λy hy e=>ok.has y.1 (S.xn y hy e)
theorem bp.look(S:bp X N' caps scope)(ok:X.Ok)(h:(fk X.env scope.names []).lookup x=some c):X.env.cells.lookup x=some c:=
 jF scope.names [] (S.has ok) (λ_ z=>by simp at z) h
theorem Inv.block(S:bp X N' caps scope)(I:Inv X pins σ H s₃)(hc:X.calm=true)(hf:∀b∈fp,fv X pins H b)(hlt:∀b∈fp,b < s₃.heap.objs.size){h₄:Heap}{t₄:Nat}{m₄:Str->Option Value}
  (hn:h₄.Ns s₃.heap.objs.size m₄) (hk:∀b o,s₃.heap.get? b=some o->h₄.get? b=some o):
  Inv (je X N' scope s₃.heap.objs.size s₃ H fp pins) [] (mO caps σ) H {s₃ with heap:=h₄,toks:=t₄}:=by
 have ok:=I.ok;have fresh:∀b o,s₃.heap.get? b=some o->b≠s₃.heap.objs.size:=λb o e=>Iv (HV e);have cellOk:∀x c,(fk X.env scope.names []).lookup x=some c->∃v,s₃.heap.IsCell c v:=λx c e=>I.cell x c (S.look ok e);refine⟨⟨ok.mod,?_,ok.glob,ok.blt,HN _,?_,?_,?_,λ_=>ok.hd hc,ok.frames,.inl rfl,?_,I.bs,?_,?_,?_,I.stack,I.sf⟩,rfl,I.bare,Un.kept hk,?_,?_,I.aZ.fresh (HN _),?_,?_,I.aZ.kept hk,?_⟩
 ·show(relabel scope X.env).kind=.function;exact S.kind
 ·intro x y c h1 h2;exact ok.inj x y c (S.look ok h1) (S.look ok h2)
 ·intro x hx;have hx':(relabel scope X.env).names.lookup x=some .cell\/(relabel scope X.env).names.lookup x=some .free:=hx;have key:∀j,(relabel scope X.env).names.lookup x=some j->j=.cell\/j=.free->∃c,(fk X.env scope.names []).lookup x=some c:=by
   intro j hj hjk;obtain⟨k,hk1,hk2⟩:=fK hj;have hm:=Jb hk1;have hkf:k=.free:=by
    rcases hk2 with rfl |⟨e,_⟩
    ·rcases hjk with rfl | e
     ·exact absurd rfl (S.wy _ hm)
     ·exact e
    ·exact e
   subst hkf;exact jc scope.names [] hm
  rcases hx' with h | h
  ·exact key _ h (.inl rfl)
  ·exact key _ h (.inr rfl)
 ·intro x c h _;exact absurd (show false=true from h) (by decide)
 ·intro b hb;refine⟨Iv (hlt b hb),λx c h=>(hf b hb).2.2.2.2.1 x c (S.look ok h)⟩
 ·exact Ie ok.Ao I.sz
 ·intro b o e hb;rcases(hf b hb).2.2.2.1 with z | z
  ·exact ok.wx b o e z
  ·exact absurd (Ir (HV e) ok.Ao) (Nat.not_lt.mpr z)
 ·intro b hb z;rcases HR.mp (I.kL b z) with e | e
  ·exact(hf b hb).2.1 e
  ·exact(hf b hb).2.2.1 e
 ·refine⟨m₄,hn,λj x v e1 e2 e3=>?_⟩;have e2':(caps.map λo=>o.bind λi=>(σ[i]?).join)[j]?=some (some v):=e2;rw[Io] at e2';cases hcj:caps[j]? with
  | none=>rw[hcj] at e2';cases e2'
  | some oi=>
   rw[hcj] at e2';have e2'':(oi.bind λi=>(σ[i]?).join)=some v:=Option.some.inj e2';cases oi with
   | none=>cases e2''
   | some i=>
    have hσ:(σ[i]?).join=some v:=e2'';have hσ':σ[i]?=some (some v):=by
     cases hs:σ[i]? with
     | none=>rw[hs] at hσ;cases hσ
     | some w=>rw[hs] at hσ;rw[show w=some v from hσ]
    obtain⟨hX,hfr⟩:=S.HC j i x hcj e1;obtain⟨m,_,hl⟩:=I.loc;have hcgt:=S.xn _ (Jb hfr) rfl;have hvis:Fi X.env.scope x:=by
     rcases hcgt with z | z
     ·exact .inr (.inl z)
     ·exact .inr (.inr z)
    obtain⟨u,ru,lk⟩:=hl i x v hX hσ' hvis;refine⟨u,ru,.inr ⟨?_,?_⟩⟩
    ·exact fL hfr
    ·obtain⟨c,hcc⟩:=jc (env:=X.env) scope.names [] (Jb hfr);refine⟨c,hcc,?_⟩;rcases lk with⟨z,_⟩ |⟨_,c',hc',hcell⟩
     ·have z':X.env.kindOf x=some .local:=z;rcases hcgt with q | q
      ·rw[z'] at q;cases q
      ·rw[z'] at q;cases q
     ·have:=S.look I.ok hcc;rw[this] at hc';cases hc';obtain⟨o,ho,hd⟩:=hcell;exact⟨o,hk _ _ ho,hd⟩
 ·intro x c h;obtain⟨v,o,ho,hd⟩:=cellOk x c h;exact⟨v,o,hk _ _ ho,hd⟩
 ·intro x c h;exact I.ie x c (S.look ok h)
 ·intro p hp;have hp':p∈X.pn++pins:=by
   rcases Il.mp hp with z | z
   ·exact z
   ·cases z
  obtain⟨e,n,ne,nf,d⟩:=I.pin p hp';refine⟨hk _ _ e,n,fresh _ _ e,λz=>?_,d⟩;rcases HR.mp (I.kL p.1 z) with q | q
  ·exact ne q
  ·exact nf q
 ·show(caps.map _).length=N'.length;rw[HH];exact S.len
theorem Inv.rV(S:bp X N' caps scope)(I:Inv X pins σ H s₃)(hf:∀b∈fp,fv X pins H b)(J:Inv (je X N' scope s₃.heap.objs.size s₃ H fp pins) [] τ H' s')(hs:∀b u,b≠s₃.heap.objs.size->s'.heap.get? b=some u->h''.get? b=some u):Inv X pins σ H' {s' with heap:=h''}:=by
 have hC:H' s₃.heap.objs.size=none:=J.free;have u:Un (uP X.stack) fp H H' s₃.heap h'':=by
  have b:=J.base;have ne:∀x o,s₃.heap.get? x=some o->x≠s₃.heap.objs.size:=λx o e=>Iv (HV e);refine⟨λx o e n hx hb=>hs _ _ (ne x o e) (b.keep x o e n hx hb),λx o e n hx hb=>?_,b.free,λx o e hb=>?_,b.n4,b.mL,b.n5⟩
  ·obtain⟨sl,q⟩:=b.slot x o e n hx hb;exact⟨sl,hs _ _ (ne x o e) q⟩
  ·obtain⟨o',q⟩:=b.there x o e hb;exact⟨o',hs _ _ (ne x o e) q⟩
 exact I.call' (s':={s' with heap:=h''}) (ch:=fp) J.os u (J.aZ.off hC hs) J.bare λb hb=>⟨(hf b hb).2.2.2.1,(hf b hb).2.1,(hf b hb).2.2.2.2.1,(hf b hb).2.2.2.2.2⟩
def DC(X:Cx)(ifs:List Expr)(t:TT):Prop:=
 ∀(pins:List (Addr×Obj)) (s:Shared) (σ:St) (H:Hp) (Q:Bool->Hp->Prop),Inv X pins σ H s->t σ H Q->
  wpAny (model X.prog X.w) X.A (forIn ifs true λc r=>if r=true then do let ok<-isTrue c X.env (eval c X.env);pure (ForInStep.yield ok) else pure (ForInStep.yield r)) (TP X pins σ Q) X.xe s
def dh:TT:=λ_ H Q=>Q true H
theorem yP:DC X [] dh:=λpins s σ H Q I h=>wpAny_tests_nil ⟨H,I,h⟩
def FH(J:It)(g:TG)(tc:TT)(te:TE)(l:Addr)(Q:VK)(τ0:St)(H0:Hp):Prop:=
 ∃W:Nat->Nat->St->Hp->Prop,(∃m,W 0 m τ0 H0)/\∀i m τ H2,W i m τ H2->
  (J.stop i H2/\Q (.ref l) H2)\/(J.go i H2/\∃N:St->Hp->Prop,(∀τ' H',N τ' H'->∃m',m' < m/\W (i+1) m' τ' H')/\∀x H',J.Av i H2 x H'->g x τ H' λτ2 H3=>
   tc τ2 H3 λb H4=>if b=true then te τ2 H4 λy H5=>∃xs,H5 l=some (.lst xs)/\xs.length < sizeLine/\N τ2 (upd H5 l (.lst (xs++[y]))) else N τ2 H4)
def u6(caps:List (Option Nat))(wi:TI)(g:TG)(tc:TT)(te:TE):TE:=λσ H Q=>wi σ H λJ H1=>∀l,H1 l=none->FH J g tc te l Q (mO caps σ) (upd H1 l (.lst []))
theorem FK(h:wpAny M A t Q (λ_ _=>False) s):wpAny M A t Q E s:=I0 h (λ_ _ q=>q) λ_ _ f=>f.elim
theorem uC(S:bp X N' caps scope)(hc:X.calm=true)(hg:∀C s₃ H₃ fp pl,PG (je X N' scope C s₃ H₃ fp pl) tg g)(hif:∀C s₃ H₃ fp pl,DC (je X N' scope C s₃ H₃ fp pl) ifs tc)
  (he:∀C s₃ H₃ fp pl,PE (je X N' scope C s₃ H₃ fp pl) elt te) {pins:List (Addr×Obj)} {σ:St} {H3:Hp} {s3:Shared} {h₁:Heap} {t₁:Nat} {m₁:Str->Option Value} {it l:Addr} {fp:List Addr} {tn:Nat->Heap->Prop} {J:It}
  (I3:Inv X pins σ H3 s3) (T:Turn X.prog X.w X.K tg J fp it tn) (st3:tn 0 h₁) (hf3:∀b∈fp,fv X pins H3 b) (hlt3:∀b∈fp,b < s3.heap.objs.size) (hns₁:h₁.Ns s3.heap.objs.size m₁) (keep3:∀b o,s3.heap.get? b=some o->h₁.get? b=some o)
  {Q:VK} {RR:Value->Addr->Result->Shared->Prop} {W:Nat->Nat->St->Hp->Prop} {m0:Nat} (w0:W 0 m0 (mO caps σ) H3) (turn:∀i m τ H2,W i m τ H2->
   (J.stop i H2/\Q (.ref l) H2)\/(J.go i H2/\∃N:St->Hp->Prop,(∀τ' H',N τ' H'->∃m',m' < m/\W (i+1) m' τ' H')/\∀x H',J.Av i H2 x H'->g x τ H' λτ2 H3=>
    tc τ2 H3 λb H4=>if b=true then te τ2 H4 λy H5=>∃xs,H5 l=some (.lst xs)/\xs.length < sizeLine/\N τ2 (upd H5 l (.lst (xs++[y]))) else N τ2 H4))
  (hRR:∀(l C:Addr)(H':Hp)(s':Shared),H' C=none->C≠X.env.locals->X.s₀.heap.objs.size<=C->(∀x c,X.env.cells.lookup x=some c->c≠C)->(∀p∈X.pn++pins,p.1≠C)->(∃m,s'.heap.Ns C m)->Inv X pins σ H' s'->
   (∀h'':Heap,(∀b u,b≠C->s'.heap.get? b=some u->h''.get? b=some u)->Inv X pins σ H' {s' with heap:=h''})->Q (.ref l) H'->RR (.ref l) C (.ok .next) s'):
  codeAny (model X.prog X.w) X.A (.compStart (.ListComp elt [⟨tg,iter,ifs,0⟩] scope pos) 0 (.ref it) (.ref l) (compEnvC scope (fk X.env scope.names []) s3.heap.objs.size X.env))
   (RR (.ref l) s3.heap.objs.size) {s3 with heap:=h₁,toks:=t₁}:=by
 have J0:Inv (je X N' scope s3.heap.objs.size s3 H3 fp pins) [] (mO caps σ) H3 {s3 with heap:=h₁,toks:=t₁}:=Inv.block S I3 hc hf3 hlt3 hns₁ keep3;have fpB:∀{H':Hp},(∀b∈fp,H' b=none)->∀b∈fp,fv (je X N' scope s3.heap.objs.size s3 H3 fp pins) [] H' b:=λ{H'} hn b hb=>by
  obtain⟨f0,f1,f2,f3,f4,f5⟩:=hf3 b hb;refine⟨hn b hb,Iv (hlt3 b hb),λz=>?_,.inl hb,λx c e=>f4 x c (S.look I3.ok e),λp hp=>?_⟩
  ·rcases HR.mp (I3.kL b z) with q | q
   ·exact f1 q
   ·exact f2 q
  ·rcases Il.mp hp with q | q
   ·exact f5 p q
   ·cases q
 have fin:∀{τ:St} {H':Hp} {s':Shared},Inv (je X N' scope s3.heap.objs.size s3 H3 fp pins) [] τ H' s'->Q (.ref l) H'->RR (.ref l) s3.heap.objs.size (.ok .next) s':=λ{τ H' s'} J q=>by
  refine hRR _ _ H' s' J.free ?_ ?_ ?_ ?_ ?_ ?_ ?_ q
  ·exact(Iv I3.lt).symm
  ·exact I3.sz
  ·intro x c e z;obtain⟨v,o,ho,_⟩:=I3.cell x c e;exact Iv (HV ho) z
  ·intro p hp z;obtain⟨e,_⟩:=I3.pin p hp;exact Iv (HV e) z
  ·obtain⟨m,hm,_⟩:=J.loc;exact⟨m,hm⟩
  ·have:=Inv.rV S I3 hf3 J (h'':=s'.heap) λb u _ e=>e;exact this
  ·exactλh'' hs=>Inv.rV S I3 hf3 J hs
 have loop:codeAny (model X.prog X.w) X.A (.compLoop (.ListComp elt [⟨tg,iter,ifs,0⟩] scope pos) 0 (.ref it) (.ref l) (compEnvC scope (fk X.env scope.names []) s3.heap.objs.size X.env))
   (RR (.ref l) s3.heap.objs.size) {s3 with heap:=h₁,toks:=t₁}:=by
  refine codeAny_loop rfl (λn s'=>∃i τ H',Inv (je X N' scope s3.heap.objs.size s3 H3 fp pins) [] τ H' s'/\tn i s'.heap/\(∀b∈fp,H' b=none)/\W i n τ H') ?_ m0 ⟨0,_,_,J0,st3,λb hb=>(hf3 b hb).1,w0⟩;rintro n s4 ⟨i,τ,H4,J4,st4,fr4,w4⟩;show wpAny _ X.A ((compTurn (.ListComp elt [⟨tg,iter,ifs,0⟩] scope pos) 0 (.ref it) (.ref l) (compEnvC scope (fk X.env scope.names []) s3.heap.objs.size X.env)).onRaise (λx=>do noteFrame x (compEnvC scope (fk X.env scope.names []) s3.heap.objs.size X.env);theTreesLotGoes x)) _ _ s4;refine wpAny_noted ?_;rw[compTurn_list];rcases turn i n τ H4 w4 with⟨stop,qn⟩ |⟨go,N,hN,step⟩
  ·refine HG (JO (HG (I0 (T.done (je X N' scope s3.heap.objs.size s3 H3 fp pins) rfl rfl rfl rfl i [] s4 τ H4 _ J4 (fpB fr4) st4 stop) (λr s5 h5=>?_) λ_ _ e=>e)));obtain⟨hr,J5⟩:=h5;subst hr;exact HK (fin J5 qn)
  ·refine HG (JO (HG (I0 (T.item (je X N' scope s3.heap.objs.size s3 H3 fp pins) rfl rfl rfl rfl i [] s4 τ H4 _ J4 (fpB fr4) st4 go) (λr s5 h5=>?_) λ_ _ e=>e)));obtain⟨u,hr,h5⟩:=h5;subst hr;refine HG (I0 h5 (λ_ s6 h6=>?_) λ_ _ e=>e);obtain⟨x,H6,J6,r6,y6,st6,fr6⟩:=h6;have J6':=J6.pinned (fpB fr6) (T.obj _ _ st6);refine HG (I0 (FK (hg _ _ _ _ _ _ s6 τ H6 x u _ J6' r6 (step x H6 y6))) (λ_ s7 h7=>?_) λ_ _ e=>e);obtain⟨τ7,H7,J7,q7⟩:=h7;have again:∀{τ8:St} {H8:Hp} {s8:Shared},Inv (je X N' scope s3.heap.objs.size s3 H3 fp pins) ([]++k5 fp s6.heap) τ8 H8 s8->N τ8 H8->
     ∃m,m < n/\∃i τ' H',Inv (je X N' scope s3.heap.objs.size s3 H3 fp pins) [] τ' H' s8/\tn i s8.heap/\(∀b∈fp,H' b=none)/\W i m τ' H':=λ{τ8 H8 s8} J8 n8=>by
    obtain⟨m',hm,w8⟩:=hN τ8 H8 n8;refine⟨m',hm,i+1,τ8,H8,J8.iO,T.keep _ _ _ st6 λb hb o e=>(J8.pin (b,o) (IJ _ (IJ _ (fQ hb e)))).1,λb hb=>?_,w8⟩;obtain⟨o,e,d⟩:=T.obj _ _ st6 b hb;exact(J8.pin (b,o) (IJ _ (IJ _ (fQ hb e)))).2.1
   refine HG (I0 (FK (hif _ _ _ _ _ _ s7 τ7 H7 _ J7 q7)) (λok s8 h8=>?_) λ_ _ e=>e);obtain⟨H8,J8,q8⟩:=h8;cases ok with
   | false=>exact HK ⟨rfl,again J8 (by simpa using q8)⟩
   | true=>
    have q8':te τ7 H8 λy H5=>∃xs,H5 l=some (.lst xs)/\xs.length < sizeLine/\N τ7 (upd H5 l (.lst (xs++[y]))):=by simpa using q8
    refine HG (HG (I0 (FK (he _ _ _ _ _ _ s8 τ7 H8 _ J8 q8')) (λy s9 h9=>?_) λ_ _ e=>e));obtain⟨yv,H9,J9,r9,xs,hx,hz,n9⟩:=h9;refine HG (I0 (FK (nz (X:=je X N' scope s3.heap.objs.size s3 H3 fp pins) _ s9 τ7 H9 (.ref l) [yv] (.ref l) [y] (λ_ H'=>N τ7 H') J9 rfl (.cons r9 .nil) ⟨_,xs,yv,rfl,rfl,hx,hz,n9⟩)) (λ_ s10 h10=>?_) λ_ _ e=>e);obtain⟨_,H10,J10,_,n10⟩:=h10;exact HK (HK ⟨rfl,again J10 n10⟩)
 exact codeAny_compStart_list loop (T.self X.A 0 _ _ _ st3 loop)
theorem lL(S:bp X N' caps scope)(hc:X.calm=true)(hg:∀C s₃ H₃ fp pl,PG (je X N' scope C s₃ H₃ fp pl) tg g)(hif:∀C s₃ H₃ fp pl,DC (je X N' scope C s₃ H₃ fp pl) ifs tc)
  (he:∀C s₃ H₃ fp pl,PE (je X N' scope C s₃ H₃ fp pl) elt te) {pins:List (Addr×Obj)} {σ:St} {H:Hp} {s:Shared} {it:Addr} {fp:List Addr} {tn:Nat->Heap->Prop} {J:It}
  (I:Inv X pins σ H s) (T:Turn X.prog X.w X.K tg J fp it tn) (st:tn 0 s.heap) (hf:∀b∈fp,fv X pins H b) {Q:VK} {RR:Value->Addr->Result->Shared->Prop} {E:Value->Shared->Prop}
  (h:∀l,H l=none->∃W:Nat->Nat->St->Hp->Prop,(∃m,W 0 m (mO caps σ) (upd H l (.lst [])))/\∀i m τ H2,W i m τ H2->
   (J.stop i H2/\Q (.ref l) H2)\/(J.go i H2/\∃N:St->Hp->Prop,(∀τ' H',N τ' H'->∃m',m' < m/\W (i+1) m' τ' H')/\∀x H',J.Av i H2 x H'->g x τ H' λτ2 H3=>
    tc τ2 H3 λb H4=>if b=true then te τ2 H4 λy H5=>∃xs,H5 l=some (.lst xs)/\xs.length < sizeLine/\N τ2 (upd H5 l (.lst (xs++[y]))) else N τ2 H4))
  (hRR:∀(l C:Addr)(H':Hp)(s':Shared),H' C=none->C≠X.env.locals->X.s₀.heap.objs.size<=C->(∀x c,X.env.cells.lookup x=some c->c≠C)->(∀p∈X.pn++pins,p.1≠C)->(∃m,s'.heap.Ns C m)->Inv X pins σ H' s'->
   (∀h'':Heap,(∀b u,b≠C->s'.heap.get? b=some u->h''.get? b=some u)->Inv X pins σ H' {s' with heap:=h''})->Q (.ref l) H'->RR (.ref l) C (.ok .next) s'):
  wpAny (model X.prog X.w) X.A (newList []) (λacc s₃=>wpAny (model X.prog X.w) X.A (newFunctionEnv scope X.env.globals (fk X.env scope.names []) [] X.env.qual none .none (some X.env)) (λcenv s₄=>
   codeAny (model X.prog X.w) X.A (.compStart (.ListComp elt [⟨tg,iter,ifs,0⟩] scope pos) 0 (.ref it) acc {cenv with scope:=relabel scope X.env}) (RR acc cenv.locals) s₄) E s₃) E s:=by
 obtain⟨W,⟨m0,w0⟩,turn⟩:=h s.heap.objs.size I.fresh;refine IC (wpAny_newFunctionEnv S.wy (by intro y hy;simp at hy) (λh₁ hns₁ hsb₁=>?_) S.kind);have I3:Inv X pins σ (upd H s.heap.objs.size (.lst [])) {s with heap:=s.heap.push {cls:=.type "list",data:=.seq ([]:List Value).toArray}}:=I.Cq (t':=s.toks) (its:=[]) (ys:=[]) .nil (Jq _);have hltf:∀b∈fp,b < s.heap.objs.size:=λb hb=>by
  obtain⟨o,e,_⟩:=T.obj 0 _ st b hb;exact HV e
 have hf3:∀b∈fp,fv X pins (upd H s.heap.objs.size (.lst [])) b:=λb hb=>⟨by rw[ao (Iv (hltf b hb))];exact(hf b hb).1,(hf b hb).2⟩;have keep3:∀b o,(s.heap.push {cls:=.type "list",data:=.seq ([]:List Value).toArray}).get? b=some o->h₁.get? b=some o:=λb o e=>hsb₁.extBut b o (Iv (HV e)) (HI _ e);have st3:tn 0 h₁:=T.keep 0 _ _ st λb hb o e=>keep3 b o (HI _ e);have hlt3:∀b∈fp,b < (s.heap.push {cls:=.type "list",data:=.seq ([]:List Value).toArray}).objs.size:=λb hb=>by
  have:=hltf b hb;rw[IW];exact Nat.lt_succ_of_lt this
 exact uC (s3:={s with heap:=s.heap.push {cls:=.type "list",data:=.seq ([]:List Value).toArray}}) S hc hg hif he I3 T st3 hf3 hlt3 hns₁ keep3 w0 turn hRR
theorem vZ(S:bp X N' caps scope)(hc:X.calm=true)(hi:PI X tg iter wi)(hg:∀C s₃ H₃ fp pl,PG (je X N' scope C s₃ H₃ fp pl) tg g)(hif:∀C s₃ H₃ fp pl,DC (je X N' scope C s₃ H₃ fp pl) ifs tc)
  (he:∀C s₃ H₃ fp pl,PE (je X N' scope C s₃ H₃ fp pl) elt te) (hs:∀x,foldedSetIterable iter X.env x=pure x:=by intro _;rfl):PE X (.ListComp elt [⟨tg,iter,ifs,0⟩] scope pos) (u6 caps wi g tc te):=by
 intro pins s σ H Q I h;rw[eval_ListComp];refine LU (use:=none) rfl hs (lP (S.has I.ok)) S.kind S.names (bT (hi pins s σ H _ I h) λv s1 h1=>bT h1 λitv s2 h2=>?_);obtain⟨it,fp,tn,J,H2,e,I2,T,st2,f2,hQ⟩:=h2;subst e;refine lL (RR:=λacc C=>compPost (model X.prog X.w) X.A X.xe none (EP X pins σ Q) acc C) S hc hg hif he I2 T st2 f2 hQ ?_;intro l C H' s' _ _ _ _ _ hm _ hI q;obtain⟨m,hm⟩:=hm;exact⟨m,hm,λh'' hs''=>⟨.ref l,H',hI h'' λb u hb e=>hs''.extBut b u hb e,rfl,q⟩⟩
theorem vS(hN:X.N.Nodup)(hi':X.N[i]?=some y)(hy:X.env.scope.names.lookup y=some .local)(S:bp X N' caps scope)(hc:X.calm=true)(hi:PI X tg iter wi)(hg:∀C s₃ H₃ fp pl,PG (je X N' scope C s₃ H₃ fp pl) tg g)(hif:∀C s₃ H₃ fp pl,DC (je X N' scope C s₃ H₃ fp pl) ifs tc)(he:∀C s₃ H₃ fp pl,PE (je X N' scope C s₃ H₃ fp pl) elt te)(hsw:swapsWith (.ListComp elt [⟨tg,iter,ifs,0⟩] scope pos) (some (.Name y py)) spos.line X.env=pure true:=by rfl)(hs:∀x,foldedSetIterable iter X.env x=pure x:=by intro _;rfl):
  PS X (.Assign [.Name y py] (.ListComp elt [⟨tg,iter,ifs,0⟩] scope pos) spos) (xY (u6 caps wi g tc te) (qg i)):=by
 intro pins s σ H D I h;rw[exec_Assign_Name_used _ _ _ _ hsw];refine HG (JO (HG ?_));show wpAny _ X.A (do let _<-comprehension (.ListComp elt [⟨tg,iter,ifs,0⟩] scope pos) scope X.env _ (newList []) false (eval iter X.env) (some (assign (.Name y py) X.env))) _ _ s;refine HG (I0 (LU (use:=some (assign (.Name y py) X.env)) (Q:=λ_ s'=>SP X pins D .next s') rfl hs (lP (S.has I.ok)) S.kind S.names
  (bT (hi pins s σ H _ I h) λv s1 h1=>bT h1 λitv s2 h2=>?_)) (λ_ s' hq=>HK (HK hq)) λ_ _ e=>e)
 obtain⟨it,fp,tn,J,H2,e,I2,T,st2,f2,hQ⟩:=h2;subst e;refine lL (Q:=λx H1=>qg i x σ H1 D.nx) (RR:=λacc C=>compPost (model X.prog X.w) X.A X.xe (some (assign (.Name y py) X.env)) (λ_ s'=>SP X pins D .next s') acc C) S hc hg hif he I2 T st2 f2 hQ ?_;intro l C H' s' hC hCL hC0 hCc hCp hm hI0 hI q;obtain⟨m,hm⟩:=hm;show wpAny _ X.A (assign (.Name y py) X.env (.ref l)) _ _ s';refine wpAny_assign_Name (mY (v:=.ref l) hI0 hN hi' (.inl hy) rfl (λs5 I5 hch=>?_) (.inr hy));obtain⟨a,hsa,ha⟩:=hch;have hCa:C≠a:=by
  rcases ha with z | z
  ·rw[z];exact hCL
  ·exact(hCc _ _ z).symm
 refine⟨m,hm.sameBut hsa hCa,λh'' hs''=>?_⟩;have I6:=I5.turned (t':=s5.toks) (h':=h'') (it:=C) (λb o hb e=>hs''.extBut b o hb e) hC hCL (.inr hC0) hCc hCp;exact⟨_,H',I6,q⟩
def FI(_ j:Int):Prop:=0 < j/\j<=10^40
theorem log2_small(h:n<=10^40):n.log2 < 9000:=by
 by_cases h0:n=0
 ·rw[h0];decide
 ·refine(Nat.log2_lt h0).mpr (KQ h ?_);exact Ir (show 10^40 < 2^200 by decide) (LN (by decide) (by decide))
theorem wo:lZ X (binaryOp .FloorDiv) (rI FI λi j=>.int (i / j)):=FP λi j _ _ _ _ _ hc q=>by
 have h1:(0:Int) < j:=hc.1;have h2:j<=10^40:=hc.2;exact floordiv_int (by lia) (by rw[Lh i (by lia)];exact q) (.inl (PyProof.noPylong_of_log2 (log2_small (by lia))))
mutual
inductive tK(K:FR)(H:Hp):V->PyData->Prop where
 | ck:tK K H .ck .none
 | bl (b:Bool):tK K H (.bl b) (.bool b)
 | int (i:Int):tK K H (.int i) (.int i)
 | str (x:Str):tK K H (.str x) (.str x)
 | tup {a:Addr} {xs:List V} {ds:List PyData}:g8 K H a xs->lY K H xs ds->tK K H (.ref a) (.tuple ds)
 | lst {a:Addr} {xs:List V} {ds:List PyData}:fu K H a xs->lY K H xs ds->tK K H (.ref a) (.list ds)
inductive lY(K:FR)(H:Hp):List V->List PyData->Prop where
 | nil:lY K H [] []
 | cons {x:V} {xs:List V} {d:PyData} {ds:List PyData}:tK K H x d->lY K H xs ds->lY K H (x::xs) (d::ds)
end
mutual
theorem tK.reads(I:Inv X pins σ H s){x:V}{u:Value}{d:PyData}(z:tK X.K H x d)(r:RelV x u):∃as,Reads s.heap u d as:=by
 cases z with
 | ck=>cases(show _=Value.none from r);exact⟨_,.none⟩
 | bl b=>cases(show _=Value.bool b from r);exact⟨_,.bool b⟩
 | int i=>obtain⟨t,e⟩:=(show ∃t,_=Value.int i t from r);cases e;exact⟨_,.int i t⟩
 | str x=>obtain⟨t,e⟩:=(show ∃t,_=Value.str x t from r);cases e;exact⟨_,.str x t⟩
 | tup hq hl=>
  cases(show _=Value.ref _ from r);obtain⟨its,rv,⟨o,h1,h2,n,h3⟩,_⟩:=I.tuple hq;obtain⟨as,q⟩:=lY.reads I hl rv;exact⟨_,.tuple h1 h2 h3 (by simpa using q)⟩
 | lst hq hl=>
  cases(show _=Value.ref _ from r);obtain⟨its,rv,pl,_⟩:=I.list hq;obtain⟨o,h1,h2,n,h3⟩:=pl.isList;obtain⟨as,q⟩:=lY.reads I hl rv;exact⟨_,.list h1 h2 h3 (by simpa using q)⟩
theorem lY.reads(I:Inv X pins σ H s){xs:List V}{us:List Value}{ds:List PyData}(z:lY X.K H xs ds)(v:Vals xs us):∃as,ReadsAll s.heap us ds as:=by
 cases z with
 | nil=>cases v;exact⟨_,.nil⟩
 | cons h t=>
  cases v with
  | cons r q=>
   obtain⟨as,p⟩:=tK.reads I h r;obtain⟨bs,p'⟩:=lY.reads I t q;exact⟨_,.cons p p'⟩
end
def Gq:V->Option Int->Option Int->Hp->VK->Prop:=λx lo hi H Q=>∃z,x=.str z/\z.length<=sizeLine/\Q (.str (Txt.slice z lo hi)) H
theorem AO:Dj X Gq:=by
 intro pins s σ H x v vl vu lo hi sl Q I rx hs pl pu h;obtain⟨z,rfl,hz,q⟩:=h;obtain⟨t,rfl⟩:=(show ∃t,v=Value.str z t from rx);refine⟨"str",_,F.slot_str_getitem.lookup,typeIs_str _ _ _,?_⟩;obtain⟨o,h1,h2,h3⟩:=hs;have fin:(Txt.slice z lo hi).length<=sizeLine/\∀t' k,EP X pins σ Q (.str (Txt.slice z lo hi) t') {s with toks:=k}:=⟨Ie (Txt.slice_le z _ _) hz,λt' k=>⟨.str _,H,I.tok k,⟨t',rfl⟩,q⟩⟩;cases pl with
 | none=>
  cases pu with
  | none=>exact JV (l:=none) (u:=none) (st:=none) ⟨o,h1,h2,h3⟩ rfl (KN fin)
  | int j uj=>exact JV (l:=none) (u:=some (j,uj)) (st:=none) ⟨o,h1,h2,h3⟩ rfl (KN fin)
 | int i ui=>
  cases pu with
  | none=>exact JV (l:=some (i,ui)) (u:=none) (st:=none) ⟨o,h1,h2,h3⟩ rfl (KN fin)
  | int j uj=>exact JV (l:=some (i,ui)) (u:=some (j,uj)) (st:=none) ⟨o,h1,h2,h3⟩ rfl (KN fin)
theorem xp:fy X (.builtin "isinstance") (λxs H Q=>∃x n t b,xs=[x,.ty n]/\jg X.K H x t/\PySem.W.kitOne X.K t (.type n)=some b/\Q (.bl b) H):=by
 intro pins s σ H xs us Q I r h;obtain⟨x,n,t,b,rfl,ty,e,q⟩:=h;obtain⟨u,w',rfl,ru,rw'⟩:=vals2 r;cases(show w'=Value.type n from rw');exact uk I ru ty e λtk=>⟨.bl b,H,I.tok tk,rfl,q⟩
noncomputable def p9(out:List (Str×NameKind))(N N':List Str)(caps:List (Option Nat))(scope:Scope):Bool:=
 decide (scope.kind=.function)&&scope.names.all (λy=>decide (y.2≠.cell))&&scope.names.all (λy=>!decide (y.2=.local)||decide (scope.names.lookup y.1=some .local))&&
 scope.names.all (λy=>!decide (y.2=.free)||decide (out.lookup y.1=some .cell)||decide (out.lookup y.1=some .free))&&decide (caps.length=N'.length)&&
 (List.range caps.length).all (λj=>match caps[j]?,N'[j]? with
  | some (some i),some x=>decide (N[i]?=some x)&&decide (scope.names.lookup x=some .free)
  | _,_=>true)&&decide N'.Nodup
theorem cu(h:p9 X.env.scope.names X.N N' caps scope=true):bp X N' caps scope:=by
 unfold p9 at h;simp only[Ii,JA,JH,Jx,Mb,Lp] at h;obtain⟨⟨⟨⟨⟨⟨h1,h2⟩,h3⟩,h4⟩,h5⟩,h6⟩,h7⟩:=h;refine⟨h1,h2,λy hy e=>?_,λy hy e=>?_,h5,λj i x hj hx=>?_,h7⟩
 ·rcases h3 y hy with z | z
  ·exact absurd e z
  ·exact z
 ·rcases h4 y hy with(z | z) | z
  ·exact absurd e z
  ·exact .inl z
  ·exact .inr z
 ·have hlt:j < caps.length:=(HJ.mp hj).1;have:=h6 j (Ke.mpr hlt);rw[hj,hx] at this;simp only[Ii,JA] at this;exact this
end L2
namespace L2
end L2
namespace L2
open PySem PySem.Spec PyProof.Rows
theorem jo:PyData.strOk x=true↔∀c∈x.cps,c < 0x110000:=by
 unfold PyData.strOk;rw[Array.all_eq_true_iff_forall_mem];simp
theorem dw(ha:PyData.strOk a=true)(hb:PyData.strOk b=true):PyData.strOk (a++b)=true:=by
 rw[jo] at*;intro c hc;have hc':c∈a.cps++b.cps:=hc;rcases Array.mem_append.mp hc' with z | z
 ·exact ha c z
 ·exact hb c z
theorem pO(l u:Option Int)(h:PyData.strOk x=true):PyData.strOk (Txt.slice x l u)=true:=by
 unfold Txt.slice
 split
 ·exact h
 ·rw[jo] at*;intro c hc;have hc':c∈(List.filterMap (x.cps[·]?) (Builtin.Str.strSliceIndices l u 1 x.length)).toArray:=hc;rw[List.mem_toArray] at hc';obtain⟨i,_,e⟩:=KR.mp hc';exact h c (Array.mem_of_getElem? e)
theorem tT(h:PyData.strOk z=true)(hc:gb z.cps.toList i=some c):PyData.strOk (⟨#[c]⟩:Str)=true:=by
 rw[jo] at*;intro d hd;have e:d=c:=by simpa using hd
 subst e;obtain⟨j,_,hj,_⟩:=kC hc;exact h d (by have:=HM hj;simpa using this)
end L2
namespace L2
open PySem PySem.Spec PyProof.Rows PySem.SeqAt
noncomputable def cz:Nat->PyData->Bool
 | _,.int _=>true
 | _,.str x=>PyData.strOk x
 | n+1,.tuple xs=>xs.all (cz n)
 | _,_=>false
noncomputable def lE(w:World):Nat->PyData->Int
 | _,.int i=>Cw w (.inl i)
 | _,.str x=>Cw w (.inr x)
 | n+1,.tuple xs=>reduceHash (Builtin.Tuple.tupleHashOf (xs.map (lE w n)))
 | _,_=>0
def jJ(a:Addr)(us:List (Addr×V))(ps:List PyData):World->Heap->Prop:=λw h=>us.length<=sizeLine/\(a==sysModules)=false/\ps.all (cz 8)=true/\ps.Nodup/\
 ∃ys:List (PyData×Addr×Value),Paired (λ(u:Addr×V)(y:PyData×Addr×Value)=>u.1=y.2.1/\RelV u.2 y.2.2) us ys/\ys.map (·.1)=ps/\
 ∃o es ep,h.get? a=some o/\o.ExactDict/\o.data=.dict es ep/\es.toList=ys.map λy=>⟨lE w 8 y.1,.ref y.2.1,y.2.2⟩
end L2
namespace Sm
open PySem L2
inductive D where
 | ck | bl (b:Bool) | int (i:Int) | str (x:Str) | ty (n:String)
 | tup (xs:List D) | lv (xs:List D) | ro (xs:List D) | dv (kvs:List (Key×D)) | ob (n:Nat)
inductive MO where
 | lst (xs:List D) | dct (kvs:List (Key×D)) | dcH (kvs:List (D×D))
abbrev MH:=List MO
mutual
noncomputable def sC:D->Option PyData
 | .ck=>some .none
 | .bl b=>some (.bool b)
 | .int i=>some (.int i)
 | .str x=>some (.str x)
 | .tup xs=>(nj xs).map .tuple
 | .lv xs=>(nj xs).map .list
 | .ro xs=>(nj xs).map .list
 | _=>none
noncomputable def nj:List D->Option (List PyData)
 | []=>some []
 | x::r=>(sC x).bind λa=>(nj r).map λb=>a::b
end
abbrev DS:=List (Option D)
abbrev G8:Hp:=λ_=>none
structure Ad where
 ob:List Addr
 rs:List Addr
def Ad.has(ρ:Ad)(a:Addr):Prop:=a∈ρ.ob\/a∈ρ.rs
def TupAt(K:FR)(ρ:Ad)(H:Hp)(a:Addr)(vs:List V):Prop:=(Rd H a (.tup vs)/\¬ρ.has a)\/g8 K G8 a vs
def Dm(K:FR)(ρ:Ad)(H:Hp)(a:Addr)(vs:List V):Prop:=(Rd H a (.lst vs)/\¬ρ.has a)\/fu K G8 a vs
mutual
inductive Rep(K:FR)(ρ:Ad)(H:Hp):V->D->Prop where
 | ck:Rep K ρ H .ck .ck
 | bl (b:Bool):Rep K ρ H (.bl b) (.bl b)
 | int (i:Int):Rep K ρ H (.int i) (.int i)
 | str {x:Str} (h:PyData.strOk x=true):Rep K ρ H (.str x) (.str x)
 | ty (n:String):Rep K ρ H (.ty n) (.ty n)
 | tup {a:Addr} {vs:List V} {ds:List D}:TupAt K ρ H a vs->ah K ρ H vs ds->Rep K ρ H (.ref a) (.tup ds)
 | lv {a:Addr} {vs:List V} {ds:List D}:H a=some (.lst vs)->¬ρ.has a->ah K ρ H vs ds->Rep K ρ H (.ref a) (.lv ds)
 | ro {a:Addr} {vs:List V} {ds:List D}:Dm K ρ H a vs->ah K ρ H vs ds->Rep K ρ H (.ref a) (.ro ds)
 | dv {a:Addr} {us:List (Key×V)} {kvs:List (Key×D)}:H a=some (.dK us)->¬ρ.has a->aI K ρ H us kvs->Rep K ρ H (.ref a) (.dv kvs)
 | ob {a:Addr} {n:Nat}:ρ.ob[n]?=some a->Rep K ρ H (.ref a) (.ob n)
inductive ah(K:FR)(ρ:Ad)(H:Hp):List V->List D->Prop where
 | nil:ah K ρ H [] []
 | cons {v:V} {vs:List V} {d:D} {ds:List D}:Rep K ρ H v d->ah K ρ H vs ds->ah K ρ H (v::vs) (d::ds)
inductive aI(K:FR)(ρ:Ad)(H:Hp):List (Key×V)->List (Key×D)->Prop where
 | nil:aI K ρ H [] []
 | cons {k:Key} {v:V} {vs:List (Key×V)} {d:D} {ds:List (Key×D)}:Rep K ρ H v d->aI K ρ H vs ds->aI K ρ H ((k,v)::vs) ((k,d)::ds)
end
structure Ch(ρ:Ad)(H:Hp)(ρ':Ad)(H':Hp):Prop where
 pre:∀(n:Nat) a,ρ.ob[n]?=some a->ρ'.ob[n]?=some a
 old:∀b o,¬ρ.has b->H b=some o->¬ρ'.has b/\H' b=some o
theorem Ch.refl(ρ:Ad)(H:Hp):Ch ρ H ρ H:=⟨λ_ _ e=>e,λ_ _ n e=>⟨n,e⟩⟩
theorem Ch.trans(a:Ch ρ H ρ1 H1)(b:Ch ρ1 H1 ρ2 H2):Ch ρ H ρ2 H2:=
 ⟨λn x e=>b.pre n x (a.pre n x e),λx o n e=>let⟨n',e'⟩:=a.old x o n e;b.old x o n' e'⟩
structure bX(ρ:Ad)(H:Hp)(ρ':Ad)(H':Hp):Prop extends Ch ρ H ρ' H' where
 rs:ρ'.rs=ρ.rs
 res:∀b∈ρ.rs,H' b=H b
theorem bX.refl(ρ:Ad)(H:Hp):bX ρ H ρ H:=⟨.refl _ _,rfl,λ_ _=>rfl⟩
theorem bX.trans(a:bX ρ H ρ1 H1)(b:bX ρ1 H1 ρ2 H2):bX ρ H ρ2 H2:=
 ⟨a.toCh.trans b.toCh,b.rs.trans a.rs,λx hx=>(b.res x (by rw[a.rs];exact hx)).trans (a.res x hx)⟩
instance {ρ ρ':Ad} {H H':Hp}:CoeOut (bX ρ H ρ' H') (Ch ρ H ρ' H'):=⟨bX.toCh⟩
theorem Ch.rd(S:Ch ρ H ρ' H')(h:Rd H a u)(n:¬ρ.has a):Rd H' a u/\¬ρ'.has a:=by
 rcases h with h |⟨o,h⟩
 ·obtain⟨q,e⟩:=S.old a _ n h;exact⟨.inl e,q⟩
 ·obtain⟨q,e⟩:=S.old a _ n h;exact⟨.inr ⟨o,e⟩,q⟩
mutual
theorem Rep.mono(S:Ch ρ H ρ' H'){v:V}{d:D}(r:Rep K ρ H v d):Rep K ρ' H' v d:=by
 cases r with
 | ck=>exact .ck
 | bl b=>exact .bl b
 | int i=>exact .int i
 | str x=>exact .str x
 | ty n=>exact .ty n
 | tup h l=>exact .tup (h.elim (λ⟨a,n⟩=>.inl (S.rd a n)) .inr) (ah.mono S l)
 | lv h n l=>have ⟨n',h'⟩:=S.old _ _ n h;exact .lv h' n' (ah.mono S l)
 | ro h l=>exact .ro (h.elim (λ⟨a,n⟩=>.inl (S.rd a n)) .inr) (ah.mono S l)
 | dv h n l=>have ⟨n',h'⟩:=S.old _ _ n h;exact .dv h' n' (aI.mono S l)
 | ob e=>exact .ob (S.pre _ _ e)
theorem ah.mono(S:Ch ρ H ρ' H'){vs:List V}{ds:List D}(r:ah K ρ H vs ds):ah K ρ' H' vs ds:=by
 cases r with
 | nil=>exact .nil
 | cons h t=>exact .cons (Rep.mono S h) (ah.mono S t)
theorem aI.mono(S:Ch ρ H ρ' H'){vs:List (Key×V)}{ds:List (Key×D)}(r:aI K ρ H vs ds):aI K ρ' H' vs ds:=by
 cases r with
 | nil=>exact .nil
 | cons h t=>exact .cons (Rep.mono S h) (aI.mono S t)
end
theorem ah.length:∀{vs:List V} {ds:List D},ah K ρ H vs ds->vs.length=ds.length
 | _,_,.nil=>rfl
 | _,_,.cons _ t=>by rw[HP,HP,ah.length t]
theorem ah.got:∀{vs:List V} {ds:List D} {i:Nat} {d:D},ah K ρ H vs ds->ds[i]?=some d->∃v,vs[i]?=some v/\Rep K ρ H v d
 | _,_,_,_,.nil,e=>by simp at e
 | _,_,0,_,.cons r _,e=>by simp at e;subst e;exact⟨_,rfl,r⟩
 | _,_,i+1,d,.cons _ t,e=>by
  obtain⟨u,h1,h2⟩:=ah.got (i:=i) (d:=d) t (by simpa using e);exact⟨u,by simpa using h1,h2⟩
theorem ah.append:∀{vs ws:List V} {ds es:List D},ah K ρ H vs ds->ah K ρ H ws es->ah K ρ H (vs++ws) (ds++es)
 | _,_,_,_,.nil,s=>s
 | _,_,_,_,.cons r t,s=>.cons r (ah.append t s)
theorem ah.take:∀{vs:List V} {ds:List D} (n:Nat),ah K ρ H vs ds->ah K ρ H (vs.take n) (ds.take n)
 | _,_,0,_=>.nil
 | _,_,_+1,.nil=>.nil
 | _,_,n+1,.cons r t=>.cons r (ah.take n t)
theorem ah.drop:∀{vs:List V} {ds:List D} (n:Nat),ah K ρ H vs ds->ah K ρ H (vs.drop n) (ds.drop n)
 | _,_,0,r=>r
 | _,_,_+1,.nil=>.nil
 | _,_,n+1,.cons _ t=>ah.drop n t
theorem ah.set(r:Rep K ρ H v d):∀{vs:List V} {ds:List D} (i:Nat),ah K ρ H vs ds->ah K ρ H (vs.set i v) (ds.set i d)
 | _,_,_,.nil=>.nil
 | _,_,0,.cons _ t=>.cons r t
 | _,_,i+1,.cons q t=>.cons q (ah.set r i t)
theorem ah.snoc(t:ah K ρ H vs ds)(r:Rep K ρ H v d):ah K ρ H (vs++[v]) (ds++[d]):=t.append (.cons r .nil)
theorem ah.isEmpty(t:ah K ρ H vs ds):vs.isEmpty=ds.isEmpty:=by cases t <;> rfl
theorem TupAt.sq(h:TupAt K ρ H a vs):g8 K H a vs:=by
 rcases h with⟨h,_⟩ | h
 ·exact .inl h
 ·rcases h with(h |⟨o,h⟩) | h
  ·cases h
  ·cases h
  ·exact .inr h
theorem Dm.sq(h:Dm K ρ H a vs):fu K H a vs:=by
 rcases h with⟨h,_⟩ | h
 ·exact .inl h
 ·rcases h with(h |⟨o,h⟩) | h
  ·cases h
  ·cases h
  ·exact .inr h
def qE(K:FR)(ρ:Ad)(H:Hp)(a:Addr):MO->Prop
 | .lst ds=>∃vs,H a=some (.lst vs)/\ah K ρ H vs ds
 | .dct kvs=>∃us,H a=some (.dK us)/\aI K ρ H us kvs
 | .dcH kvs=>∃us ps,H a=some (.xM (jJ a us ps))/\ah K ρ H (us.map λu=>V.ref u.1) (kvs.map (·.1))/\ah K ρ H (us.map (·.2)) (kvs.map (·.2))/\nj (kvs.map (·.1))=some ps
structure bh(K:FR)(ρ:Ad)(h:MH)(H:Hp):Prop where
 len:ρ.ob.length=h.length
 nd:ρ.ob.Nodup
 at_:∀(n:Nat) a o,ρ.ob[n]?=some a->h[n]?=some o->qE K ρ H a o
 mZ:∀b∈ρ.rs,(∃o,H b=some o)/\b∉ρ.ob
theorem qE.has(x:qE K ρ H a o):∃u,H a=some u:=by
 cases o with
 | lst ds=>obtain⟨vs,e,_⟩:=x;exact⟨_,e⟩
 | dct ds=>obtain⟨vs,e,_⟩:=x;exact⟨_,e⟩
 | dcH ds=>obtain⟨vs,_,e,_⟩:=x;exact⟨_,e⟩
theorem qE.mono(x:qE K ρ H a o)(T:Ch ρ H ρ' H')(e:H' a=H a):qE K ρ' H' a o:=by
 cases o with
 | lst ds=>obtain⟨vs,x,r⟩:=x;exact⟨vs,e.trans x,r.mono T⟩
 | dct ds=>obtain⟨vs,x,r⟩:=x;exact⟨vs,e.trans x,r.mono T⟩
 | dcH ds=>obtain⟨us,ps,x,r,r2,p⟩:=x;exact⟨us,ps,e.trans x,r.mono T,r2.mono T,p⟩
theorem bh.mem(S:bh K ρ h H)(ha:a∈ρ.ob):∃(n:Nat)(o:MO),ρ.ob[n]?=some a/\h[n]?=some o/\qE K ρ H a o:=by
 obtain⟨n,hn,e⟩:=List.mem_iff_getElem.mp ha;have hn':n < h.length:=by rw[<-S.len];exact hn
 have e1:ρ.ob[n]?=some a:=by rw[Iz hn,e]
 exact⟨n,h[n],e1,Iz hn',S.at_ n a _ e1 (Iz hn')⟩
theorem bh.has(S:bh K ρ h H)(ha:ρ.has a):∃u,H a=some u:=by
 rcases ha with ha | ha
 ·obtain⟨_,_,_,_,x⟩:=S.mem ha;exact x.has
 ·exact(S.mZ a ha).1
theorem bh.fresh(S:bh K ρ h H)(hp:H p=none):¬ρ.has p:=λm=>by
 obtain⟨u,e⟩:=S.has m;rw[hp] at e;cases e
theorem bX.laid(S:bh K ρ h H)(hp:H p=none):bX ρ H ρ (upd H p o):=
 ⟨⟨λ_ _ e=>e,λb u n e=>⟨n,by rw[ao (aA e hp)];exact e⟩⟩,rfl,λb hb=>by
  obtain⟨u,e⟩:=(S.mZ b hb).1;rw[ao (aA e hp)]⟩
theorem bh.same(S:bh K ρ h H)(T:bX ρ H ρ H')(k:∀a∈ρ.ob,H' a=H a):bh K ρ h H':=
 ⟨S.len,S.nd,λn a o e1 e2=>(S.at_ n a o e1 e2).mono T.toCh (k a (HM e1)),λb hb=>⟨by rw[T.res b hb];exact(S.mZ b hb).1,(S.mZ b hb).2⟩⟩
theorem bh.laid(S:bh K ρ h H)(hp:H p=none):bh K ρ h (upd H p o):=
 S.same (bX.laid S hp) λa ha=>by
  obtain⟨u,e⟩:=S.has (.inl ha);rw[ao (aA e hp)]
abbrev Ad.more(ρ:Ad)(p:Addr):Ad:=⟨ρ.ob++[p],ρ.rs⟩
theorem bX.made(S:bh K ρ h H)(hp:H p=none):bX ρ H (ρ.more p) (upd H p o):=by
 refine⟨⟨λn a e=>?_,λb u n e=>?_⟩,rfl,(bX.laid S hp).res⟩
 ·show(ρ.ob++[p])[n]?=_;rw[HU (HJ.mp e).1];exact e
 ·refine⟨λm=>?_,by rw[ao (aA e hp)];exact e⟩;rcases m with m | m
  ·rcases Il.mp m with m | m
   ·exact n (.inl m)
   ·exact aA e hp (Ia.mp m)
  ·exact n (.inr m)
theorem bh.made(S:bh K ρ h H)(hp:H p=none)(ho:qE K (ρ.more p) (upd H p u) p o):bh K (ρ.more p) (h++[o]) (upd H p u):=by
 refine⟨by simp[S.len],?_,λn a x e1 e2=>?_,λb hb=>?_⟩
 ·show(ρ.ob++[p]).Nodup;rw[L9];refine⟨S.nd,by simp,λa ha b hb z=>?_⟩;rw[Ia.mp hb] at z;exact S.fresh hp (.inl (z ▸ ha))
 ·by_cases hn:n < ρ.ob.length
  ·have e1:(ρ.ob++[p])[n]?=some a:=e1;rw[HU hn] at e1;rw[HU (by rw[<-S.len];exact hn)] at e2;have q:=S.at_ n a x e1 e2;obtain⟨w,ew⟩:=q.has;exact q.mono (bX.made S hp).toCh (ao (aA ew hp))
  ·have l1:=(HJ.mp e1).1;simp at l1;have hn':n=ρ.ob.length:=by lia
   subst hn';have e1:(ρ.ob++[p])[ρ.ob.length]?=some a:=e1;rw[Ik (HN _)] at e1;rw[Ik (by rw[S.len];exact HN _)] at e2;simp at e1;rw[S.len] at e2;simp at e2;subst e1;subst e2;exact ho
 ·obtain⟨⟨v,e⟩,n⟩:=S.mZ b hb;have z:=aA e hp;refine⟨⟨v,by rw[ao z];exact e⟩,λm=>?_⟩;rcases Il.mp m with m | m
  ·exact n m
  ·exact z (Ia.mp m)
theorem bX.wrote(S:bh K ρ h H)(ha:a∈ρ.ob):bX ρ H ρ (upd H a o):=
 ⟨⟨λ_ _ e=>e,λb u n e=>⟨n,by rw[ao (λ(z:b=a)=>n (.inl (by rw[z];exact ha)))];exact e⟩⟩,rfl,λb hb=>ao λ(z:b=a)=>(S.mZ b hb).2 (by rw[z];exact ha)⟩
theorem bh.wrote(S:bh K ρ h H)(e:ρ.ob[n]?=some a)(ho:qE K ρ (upd H a u) a o):bh K ρ (h.set n o) (upd H a u):=by
 have ha:=HM e;have T:bX ρ H ρ (upd H a u):=bX.wrote S ha;refine⟨by rw[Jn];exact S.len,S.nd,λm b x e1 e2=>?_,λb hb=>⟨by rw[T.res b hb];exact(S.mZ b hb).1,(S.mZ b hb).2⟩⟩
 by_cases hm:n=m
 ·subst hm;have l2:n < h.length:=by rw[<-S.len];exact(HJ.mp e).1
  rw[e] at e1;cases e1;rw[IT l2] at e2;cases e2;exact ho
 ·rw[IS hm] at e2;have q:=S.at_ m b x e1 e2;have hb:b≠a:=by
   intro z;subst z;exact hm ((Ma (HJ.mp e).1 S.nd).mp (e.trans e1.symm))
  exact q.mono T.toCh (ao hb)
abbrev Ad.keep(ρ:Ad)(l:Addr):Ad:=⟨ρ.ob,l::ρ.rs⟩
theorem Ch.keep(hl:H l=none):Ch ρ H (ρ.keep l) (upd H l o):=by
 refine⟨λn a e=>e,λb u n e=>⟨λm=>?_,by rw[ao (aA e hl)];exact e⟩⟩;rcases m with m | m
 ·exact n (.inl m)
 ·rcases HR.mp m with m | m
  ·exact aA e hl m
  ·exact n (.inr m)
theorem bh.keep(S:bh K ρ h H)(hl:H l=none):bh K (ρ.keep l) h (upd H l o):=by
 refine⟨S.len,S.nd,λn a x e1 e2=>?_,λb hb=>?_⟩
 ·have q:=S.at_ n a x e1 e2;obtain⟨w,ew⟩:=q.has;exact q.mono (Ch.keep hl) (ao (aA ew hl))
 ·rcases HR.mp hb with rfl | hb
  ·exact⟨⟨_,ax⟩,λm=>S.fresh hl (.inl m)⟩
  ·obtain⟨⟨v,e⟩,n⟩:=S.mZ b hb;exact⟨⟨v,by rw[ao (aA e hl)];exact e⟩,n⟩
theorem Ch.put(hl:l∈ρ.rs):Ch ρ H ρ (upd H l o):=⟨λn a e=>e,λb u n e=>⟨n,by rw[ao (λ(z:b=l)=>n (.inr (by rw[z];exact hl)))];exact e⟩⟩
theorem bh.put(S:bh K ρ h H)(hl:l∈ρ.rs):bh K ρ h (upd H l o):=by
 refine⟨S.len,S.nd,λn a x e1 e2=>(S.at_ n a x e1 e2).mono (Ch.put hl) (ao λ(z:a=l)=>(S.mZ l hl).2 (by rw[<-z];exact HM e1)),λb hb=>⟨?_,(S.mZ b hb).2⟩⟩
 by_cases z:b=l
 ·subst z;exact⟨_,ax⟩
 ·rw[ao z];exact(S.mZ b hb).1
theorem Ch.free{os rs rs':List Addr}{H:Hp}(hs:∀b∈rs',b∈rs):Ch ⟨os,rs⟩ H ⟨os,rs'⟩ H:=⟨λn a e=>e,λb u n e=>⟨λm=>n (m.elim .inl λm=>.inr (hs b m)),e⟩⟩
theorem bh.free{os rs rs':List Addr}{H:Hp}(S:bh K ⟨os,rs⟩ h H)(hs:∀b∈rs',b∈rs):bh K ⟨os,rs'⟩ h H:=
 ⟨S.len,S.nd,λn a x e1 e2=>(S.at_ n a x e1 e2).mono (Ch.free hs) rfl,λb hb=>S.mZ b (hs b hb)⟩
structure bS(K:FR)(ρ:Ad)(H:Hp)(σ:St)(δ:DS):Prop where
 len:σ.length=δ.length
 at_:∀(i:Nat) d,δ[i]?=some (some d)->∃v,σ[i]?=some (some v)/\Rep K ρ H v d
theorem bS.mono(R:bS K ρ H σ δ)(S:Ch ρ H ρ' H'):bS K ρ' H' σ δ:=⟨R.len,λi d e=>let⟨v,a,b⟩:=R.at_ i d e;⟨v,a,b.mono S⟩⟩
theorem bS.set(R:bS K ρ H σ δ)(r:Rep K ρ H v d)(i:Nat):bS K ρ H (σ.set i (some v)) (δ.set i (some d)):=by
 refine⟨by rw[Jn,Jn];exact R.len,λj e he=>?_⟩
 by_cases hij:i=j
 ·subst hij;have hl:i < δ.length:=by
   have:=(HJ.mp he).1;rw[Jn] at this;exact this
  rw[IT hl] at he;cases he;exact⟨v,by rw[IT (by rw[R.len];exact hl)],r⟩
 ·rw[IS hij] at he ⊢;exact R.at_ j e he
abbrev EM:=DS->MH->Option (D×MH)
abbrev TM:=DS->MH->Option (Bool×MH)
abbrev AM:=DS->MH->Option (List D×MH)
inductive Fl where
 | nx | bk | ct | rt (d:D)
abbrev SM:=DS->MH->Option (Fl×DS×MH)
abbrev GM:=D->DS->MH->Option (DS×MH)
abbrev Fn:=List D->MH->Option (D×MH)
inductive As(K:FR)(ρ:Ad)(H:Hp)(h':MH)(d:D)(v:V)(H':Hp):Prop where
 | mk (ρ'):bX ρ H ρ' H'->bh K ρ' h' H'->Rep K ρ' H' v d->As K ρ H h' d v H'
noncomputable def cF(K:FR)(ρ:Ad)(H:Hp)(h':MH)(d:D):VK:=λv H'=>As K ρ H h' d v H'
inductive He(K:FR)(m:EM)(σ:L2.St)(H:Hp)(Q:VK):Prop where
 | mk (ρ δ h d h'):bS K ρ H σ δ->bh K ρ h H->(m δ h=some (d,h'))->(∀v H',cF K ρ H h' d v H'->Q v H')->He K m σ H Q
def tM(K:FR)(m:EM):TE:=λσ H Q=>He K m σ H Q
inductive Fp(K:FR)(m:TM)(σ:L2.St)(H:Hp)(Q:Bool->Hp->Prop):Prop where
 | mk (ρ δ h b h'):bS K ρ H σ δ->bh K ρ h H->(m δ h=some (b,h'))->(∀ρ' H',bX ρ H ρ' H'->bh K ρ' h' H'->Q b H')->Fp K m σ H Q
def AI(K:FR)(m:TM):TT:=λσ H Q=>Fp K m σ H Q
inductive Fw(K:FR)(m:AM)(σ:L2.St)(H:Hp)(Q:List V->Hp->Prop):Prop where
 | mk (ρ δ h ds h'):bS K ρ H σ δ->bh K ρ h H->(m δ h=some (ds,h'))->(∀vs ρ' H',bX ρ H ρ' H'->bh K ρ' h' H'->ah K ρ' H' vs ds->Q vs H')->Fw K m σ H Q
def G6(K:FR)(m:AM):TA:=λσ H Q=>Fw K m σ H Q
inductive Fq(K:FR)(m:SM)(E:Ends)(σ:L2.St)(H:Hp):Prop where
 | mk (ρ δ h fl δ' h'):bS K ρ H σ δ->bh K ρ h H->(m δ h=some (fl,δ',h'))->(∀ρ' H',bX ρ H ρ' H'->bh K ρ' h' H'->
 match fl with
 | .nx=>∀σ',bS K ρ' H' σ' δ'->E.nx σ' H'
 | .bk=>∀σ',bS K ρ' H' σ' δ'->E.bk σ' H'
 | .ct=>∀σ',bS K ρ' H' σ' δ'->E.ct σ' H'
 | .rt d=>∀v,Rep K ρ' H' v d->E.rt v H')->Fq K m E σ H
def xH(K:FR)(m:SM):TS:=λE σ H=>Fq K m E σ H
inductive Fv(K:FR)(m:GM)(v:V)(σ:L2.St)(H:Hp)(Q:L2.St->Hp->Prop):Prop where
 | mk (ρ δ h d δ' h'):bS K ρ H σ δ->bh K ρ h H->Rep K ρ H v d->(m d δ h=some (δ',h'))->(∀ρ' H' σ',bX ρ H ρ' H'->bh K ρ' h' H'->bS K ρ' H' σ' δ'->Q σ' H')->Fv K m v σ H Q
def DW(K:FR)(m:GM):TG:=λv σ H Q=>Fv K m v σ H Q
def SE(X:Cx)(e:Expr)(m:EM):Prop:=PE X e (tM X.K m)
def ST(X:Cx)(e:Expr)(m:TM):Prop:=PT X e (AI X.K m)
def SW(X:Cx)(e:Expr)(m:TM):Prop:=PW X e (AI X.K m)
def SA(X:Cx)(es:List Expr)(m:AM):Prop:=PA X es (G6 X.K m)
def SS(X:Cx)(s:Stmt)(m:SM):Prop:=PS X s (xH X.K m)
def xO(X:Cx)(s:List Stmt)(m:SM):Prop:=qB X s (xH X.K m)
def SG(X:Cx)(e:Expr)(m:GM):Prop:=PG X e (DW X.K m)
theorem _root_.L2.PE.imp(h:PE X e t)(i:∀σ H Q,t' σ H Q->t σ H Q):PE X e t':=λpins s σ H Q I q=>h pins s σ H Q I (i σ H Q q)
theorem _root_.L2.PT.imp(h:PT X e t)(i:∀σ H Q,t' σ H Q->t σ H Q):PT X e t':=λpins s σ H Q I q=>h pins s σ H Q I (i σ H Q q)
theorem _root_.L2.PW.imp(h:PW X e t)(i:∀σ H Q,t' σ H Q->t σ H Q):PW X e t':=λwh pins s σ H Q I q=>h wh pins s σ H Q I (i σ H Q q)
theorem _root_.L2.PA.imp(h:PA X e t)(i:∀σ H Q,t' σ H Q->t σ H Q):PA X e t':=λpos pins s σ H Q I q=>h pos pins s σ H Q I (i σ H Q q)
theorem _root_.L2.PS.imp(h:PS X e t)(i:∀E σ H,t' E σ H->t E σ H):PS X e t':=λpins s σ H E I q=>h pins s σ H E I (i E σ H q)
theorem _root_.L2.qB.imp(h:qB X e t)(i:∀E σ H,t' E σ H->t E σ H):qB X e t':=λpins s σ H E I q=>h pins s σ H E I (i E σ H q)
theorem _root_.L2.PG.imp(h:PG X e t)(i:∀v σ H Q,t' v σ H Q->t v σ H Q):PG X e t':=λpins s σ H v u Q I r q=>h pins s σ H v u Q I r (i v σ H Q q)
theorem bg(h:o.bind f=some b):∃a,o=some a/\f a=some b:=JN.mp h
theorem dY(h:o.map f=some b):∃a,o=some a/\f a=b:=Ij.mp h
theorem Fc{x:D}{α:Type}{g:Bool->Option α}{z:α}(e:(match x with | .bl c=>g c | _=>none)=some z):∃c,x=.bl c/\g c=some z:=by
 cases x <;> first | exact absurd e (by intro z;cases z) | exact⟨_,rfl,e⟩
theorem cF.here(S:bh K ρ h H)(r:Rep K ρ H v d):cF K ρ H h d v H:=⟨ρ,.refl _ _,S,r⟩
theorem cF.step(T:bX ρ H ρ1 H1)(p:cF K ρ1 H1 h' d v H'):cF K ρ H h' d v H':=let⟨ρ2,T2,S2,r2⟩:=p;⟨ρ2,T.trans T2,S2,r2⟩
theorem cF.tup(S:bh K ρ h H)(r:ah K ρ H vs ds)(hp:H p=none):cF K ρ H h (.tup ds) (.ref p) (upd H p (.tup vs)):=
 ⟨ρ,bX.laid S hp,S.laid hp,.tup (.inl ⟨.inl ax,S.fresh hp⟩) (r.mono (bX.laid S hp).toCh)⟩
theorem cF.lv(S:bh K ρ h H)(r:ah K ρ H vs ds)(hp:H p=none):cF K ρ H h (.lv ds) (.ref p) (upd H p (.lst vs)):=
 ⟨ρ,bX.laid S hp,S.laid hp,.lv ax (S.fresh hp) (r.mono (bX.laid S hp).toCh)⟩
theorem cF.dv(S:bh K ρ h H)(r:aI K ρ H us ds)(hp:H p=none):cF K ρ H h (.dv ds) (.ref p) (upd H p (.dK us)):=
 ⟨ρ,bX.laid S hp,S.laid hp,.dv ax (S.fresh hp) (r.mono (bX.laid S hp).toCh)⟩
noncomputable def cC(i:Nat):EM:=λδ h=>(δ[i]?).join.map λd=>(d,h)
noncomputable def eK(d:D):EM:=λ_ h=>some (d,h)
noncomputable def ai(f:D->D->MH->Option (D×MH))(a b:EM):EM:=λδ h=>(a δ h).bind λp=>(b δ p.2).bind λq=>f p.1 q.1 q.2
noncomputable def qD(f:D->MH->Option (D×MH))(a:EM):EM:=λδ h=>(a δ h).bind λp=>f p.1 p.2
noncomputable def bQ:AM:=λ_ h=>some ([],h)
noncomputable def aq(a:EM)(r:AM):AM:=λδ h=>(a δ h).bind λp=>(r δ p.2).bind λq=>some (p.1::q.1,q.2)
noncomputable def az(f:Fn)(a:AM):EM:=λδ h=>(a δ h).bind λp=>f p.1 p.2
noncomputable def EX(t:TM)(a b:EM):EM:=λδ h=>(t δ h).bind λp=>if p.1 then a δ p.2 else b δ p.2
noncomputable def aE(a:EM):TM:=λδ h=>(a δ h).bind λp=>match p.1 with
 | .bl b=>some (b,p.2)
 | _=>none
noncomputable def tS(t:TM):TM:=λδ h=>(t δ h).map λp=>(!p.1,p.2)
noncomputable def qL(a b:TM):TM:=λδ h=>(a δ h).bind λp=>if p.1 then b δ p.2 else some (false,p.2)
noncomputable def xG(a b:TM):TM:=λδ h=>(a δ h).bind λp=>if p.1 then some (true,p.2) else b δ p.2
noncomputable def bK:Fn:=λds h=>some (.tup ds,h)
inductive Hg(K:FR)(f:D->D->MH->Option (D×MH))(x y:V)(H:Hp)(Q:VK):Prop where
 | mk (ρ h d e z h'):bh K ρ h H->Rep K ρ H x d->Rep K ρ H y e->(f d e h=some (z,h'))->(∀v H',cF K ρ H h' z v H'->Q v H')->Hg K f x y H Q
def rS(K:FR)(f:D->D->MH->Option (D×MH)):R2:=λx y H Q=>Hg K f x y H Q
def l8(X:Cx)(g:Value->Value->Sem Value)(f:D->D->MH->Option (D×MH)):Prop:=lZ X g (rS X.K f)
inductive Hf(K:FR)(f:D->MH->Option (D×MH))(x:V)(H:Hp)(Q:VK):Prop where
 | mk (ρ h d z h'):bh K ρ h H->Rep K ρ H x d->(f d h=some (z,h'))->(∀v H',cF K ρ H h' z v H'->Q v H')->Hf K f x H Q
def rU(K:FR)(f:D->MH->Option (D×MH)):V->Hp->VK->Prop:=λx H Q=>Hf K f x H Q
inductive Hi(K:FR)(f:Fn)(vs:List V)(H:Hp)(Q:VK):Prop where
 | mk (ρ h ds z h'):bh K ρ h H->ah K ρ H vs ds->(f ds h=some (z,h'))->(∀v H',cF K ρ H h' z v H'->Q v H')->Hi K f vs H Q
def rF(K:FR)(f:Fn):List V->Hp->VK->Prop:=λvs H Q=>Hi K f vs H Q
def fx(X:Cx)(g:Value)(f:Fn):Prop:=fy X g (rF X.K f)
section
variable {X:Cx} {a b c e:Expr} {es:List Expr} {pos:Pos} {ma mb mc:EM} {mt mu:TM} {m:AM} {f:D->D->MH->Option (D×MH)}
theorem AS(hN:X.N[i]?=some x)(hv:Fi X.env.scope x)(hd:(x==("__debug__":Str))=false:=by ac_nf)(hcd:(x==("__classdict__":Str))=false:=by ac_nf):SE X (.Name x pos) (cC i):=
 (BH hN hv hd hcd).imp λσ H Q ⟨ρ,δ,h,d,h',R,S,e,k⟩=>by
  obtain⟨d',e1,e2⟩:=dY e;cases e2;obtain⟨v,ev,r⟩:=R.at_ i _ (Lv.mp e1);exact⟨v,ev,k v H (.here S r)⟩
theorem tV(hp:PE X e (tC v))(hr:∀ρ H,Rep X.K ρ H v d):SE X e (eK d):=hp.imp λσ H Q ⟨ρ,δ,h,d',h',R,S,ee,k⟩=>by
 cases ee;exact k v H (.here S (hr _ _))
theorem aH{i j}:SE X (.Constant (.int i) j pos) (eK (.int i)):=tV wa λ_ _=>.int i
theorem vA{b j}:SE X (.Constant (.bool b) j pos) (eK (.bl b)):=tV Et λ_ _=>.bl b
theorem vt{j}:SE X (.Constant .none j pos) (eK .ck):=tV BN λ_ _=>.ck
theorem aS{x j}(h:PyData.strOk x=true:=by decide+kernel):SE X (.Constant (.str x) j pos) (eK (.str x)):=tV BK λ_ _=>.str h
theorem D3(hg:Gl X x)(hm:X.mg x=none)(hv:bootBuiltins x=some (.type n))(hn:x≠"__name__":=by decide)(hd:(x==("__debug__":Str))=false:=by ac_nf):SE X (.Name x pos) (eK (.ty n)):=
 tV (yY (v:=.ty n) hg hm hv rfl hn hd) λ_ _=>.ty n
theorem yf(hg:Gl X x)(hm:X.mg x=some u)(r:RelV v u)(hr:∀ρ H,Rep X.K ρ H v d)(hd:(x==("__debug__":Str))=false:=by ac_nf):SE X (.Name x pos) (eK d):=
 tV (yU hg hm r hd) hr
theorem sx(h:tM X.K (ai f ma mb) σ H Q):DT (rS X.K f) (tM X.K ma) (tM X.K mb) σ H Q:=by
 obtain⟨ρ,δ,h,d,h',R,S,e,k⟩:=h;obtain⟨⟨x,h1⟩,e1,e⟩:=bg e;obtain⟨⟨y,h2⟩,e2,e3⟩:=bg e;refine⟨ρ,δ,h,x,h1,R,S,e1,λv H1 ⟨ρ1,T1,S1,r1⟩=>?_⟩;refine⟨ρ1,δ,h1,y,h2,R.mono T1,S1,e2,λu H2 ⟨ρ2,T2,S2,r2⟩=>?_⟩;exact⟨ρ2,h2,x,y,d,h',S2,r1.mono T2,r2,e3,λw H3 p=>k w H3 (p.step (T1.trans T2))⟩
theorem aR(ho:l8 X (binaryOp op) f)(ha:SE X a ma)(hb:SE X b mb):SE X (.BinOp a op b pos) (ai f ma mb):=(Ab ho ha hb).imp λ_ _ _=>sx
theorem AZ(ho:l8 X (compareOp op) f)(ha:SE X a ma)(hb:SE X b mb)(hm:behindInMarks op b=false):SE X (.Compare a [op] [b] pos) (ai f ma mb):=(yW ho ha hb hm).imp λ_ _ _=>sx
theorem qM{op:CmpOp}(ho:l8 X (compareOp op) f)(ha:SE X a ma)(hb:SE X b mb)(hm:behindInMarks op b=false):ST X (.Compare a [op] [b] pos) (aE (ai f ma mb)):=
 (yE ho ha hb hm).imp λσ H Q ⟨ρ,δ,h,c,h',R,S,e,k⟩=>by
  obtain⟨⟨x,h1⟩,e1,e2⟩:=bg e;obtain⟨c',rfl,e2⟩:=Fc e2;cases e2;refine sx ⟨ρ,δ,h,.bl c,h1,R,S,e1,λv H' ⟨ρ',T,S',r⟩=>?_⟩;cases r;exact⟨c,rfl,k ρ' H' T S'⟩
theorem vp{op:UnaryOp}{f:D->MH->Option (D×MH)}(ho:Fj X (unaryOp op) (rU X.K f))(ha:SE X a ma):SE X (.UnaryOp op a pos) (qD f ma):=(Ep ho ha).imp λσ H Q ⟨ρ,δ,h,d,h',R,S,e,k⟩=>by
 obtain⟨⟨x,h1⟩,e1,e⟩:=bg e;exact⟨ρ,δ,h,x,h1,R,S,e1,λv H1 ⟨ρ1,T1,S1,r1⟩=>⟨ρ1,h1,x,d,h',S1,r1,e,λw H3 p=>k w H3 (p.step T1)⟩⟩
theorem aC:SA X [] bQ:=BQ.imp λσ H Q ⟨ρ,δ,h,d,h',R,S,e,k⟩=>by
 cases e;exact k [] ρ H (.refl _ _) S .nil
theorem af(ha:SE X e ma)(hr:SA X es m)(hs:starEach (e::es) X.env=(false,eval e X.env)::starEach es X.env:=by ac_nf):SA X (e::es) (aq ma m):=
 (yZ ha hr hs).imp λσ H Q ⟨ρ,δ,h,d,h',R,S,e,k⟩=>by
  obtain⟨⟨x,h1⟩,e1,e⟩:=bg e;obtain⟨⟨ys,h2⟩,e2,e3⟩:=bg e;cases e3;refine⟨ρ,δ,h,x,h1,R,S,e1,λv H1 ⟨ρ1,T1,S1,r1⟩=>?_⟩;exact⟨ρ1,δ,h1,ys,h2,R.mono T1,S1,e2,λvs ρ2 H2 T2 S2 rs=>k _ ρ2 H2 (T1.trans T2) S2 (.cons (r1.mono T2) rs)⟩
def iL(m:AM)(n:Nat):Prop:=∀δ h ds h',m δ h=some (ds,h')->ds.length=n
theorem ay:iL bQ 0:=λδ h ds h' e=>by cases e;rfl
theorem ae(hr:iL m n):iL (aq ma m) (n+1):=λδ h ds h' e=>by
 obtain⟨⟨x,h1⟩,e1,e⟩:=bg e;obtain⟨⟨ys,h2⟩,e2,e3⟩:=bg e;cases e3;rw[HP,hr _ _ _ _ e2]
theorem dc{x1}(h:SA X es m)(hl:iL m n)(hn:n<=sizeLine:=by decide):SE X (.Tuple es x1 pos) (az bK m):=(BI h).imp λσ H Q ⟨ρ,δ,h,d,h',R,S,e,k⟩=>by
 obtain⟨⟨x,h1⟩,e1,e⟩:=bg e;cases e;refine⟨ρ,δ,h,x,h1,R,S,e1,λvs ρ1 H1 T1 S1 r1=>⟨by rw[r1.length,hl _ _ _ _ e1];exact hn,λp hp=>k _ _ (cF.step T1 (.tup S1 r1 hp))⟩⟩
inductive Fy(K:FR)(m:AM)(σ:L2.St)(H:Hp)(Q:VK):Prop where
 | mk (ρ δ h ds h'):bS K ρ H σ δ->bh K ρ h H->(m δ h=some (ds,h'))->(∀ρ1 H1 p vs,bX ρ H ρ1 H1->bh K ρ1 h' H1->H1 p=none->ah K ρ1 H1 vs ds->Q (.ref p) (upd H1 p (.lst vs)))->Fy K m σ H Q
def Hx(K:FR)(m:AM):TE:=λσ H Q=>Fy K m σ H Q
def kl(X:Cx)(e:Expr)(m:AM):Prop:=PE X e (Hx X.K m)
noncomputable def iM(m:AM):EM:=λδ h=>(m δ h).map λp=>(.lv p.1,p.2)
noncomputable def sZ(m:AM):EM:=λδ h=>(m δ h).map λp=>(.ob p.2.length,p.2++[.lst p.1])
theorem cF.ob(S:bh K ρ h H)(r:ah K ρ H vs ds)(hp:H p=none):cF K ρ H (h++[.lst ds]) (.ob h.length) (.ref p) (upd H p (.lst vs)):=
 ⟨ρ.more p,bX.made S hp,S.made hp ⟨vs,ax,r.mono (bX.made S hp).toCh⟩,.ob (show(ρ.ob++[p])[h.length]?=_ by rw[<-S.len,Ik (HN _)];simp)⟩
theorem kl.lv(h:kl X e m):SE X e (iM m):=h.imp λσ H Q ⟨ρ,δ,h,d,h',R,S,e,k⟩=>by
 obtain⟨⟨ds,h1⟩,e1,e2⟩:=dY e;cases e2;exact⟨ρ,δ,h,ds,h1,R,S,e1,λρ1 H1 p vs T S1 hp r=>k _ _ (cF.step T (.lv S1 r hp))⟩
theorem kl.ob(h:kl X e m):SE X e (sZ m):=h.imp λσ H Q ⟨ρ,δ,h,d,h',R,S,e,k⟩=>by
 obtain⟨⟨ds,h1⟩,e1,e2⟩:=dY e;cases e2;exact⟨ρ,δ,h,ds,h1,R,S,e1,λρ1 H1 p vs T S1 hp r=>k _ _ (cF.step T (.ob S1 r hp))⟩
theorem dD(h:SA X es m)(hl:iL m n)(hn:n<=sizeLine:=by decide):kl X (.List es pos) m:=(BO h).imp λσ H Q ⟨ρ,δ,h,ds,h',R,S,e,k⟩=>
 ⟨ρ,δ,h,ds,h',R,S,e,λvs ρ1 H1 T1 S1 r1=>⟨by rw[r1.length,hl _ _ _ _ e];exact hn,λp hp=>k ρ1 H1 p vs T1 S1 hp r1⟩⟩
noncomputable def HB:EM:=λ_ h=>some (.dv [],h)
theorem D6:SE X (.Dict [] [] pos) HB:=we.imp λσ H Q ⟨ρ,δ,h,d,h',R,S,e,k⟩ p hp=>by
 cases e;exact k _ _ (.dv S .nil hp)
theorem vd(h:ST X a mt):ST X (.UnaryOp .Not a pos) (tS mt):=(Bx h).imp λσ H Q ⟨ρ,δ,h,c,h',R,S,e,k⟩=>by
 obtain⟨⟨x,h1⟩,e1,e2⟩:=dY e;cases e2;exact⟨ρ,δ,h,x,h1,R,S,e1,λρ' H' T S'=>k ρ' H' T S'⟩
theorem rZ(h:ST X a mt):SW X (.BoolOp .And [a] pos) mt:=yD h
theorem u7(h:ST X a mt):SW X (.BoolOp .Or [a] pos) mt:=Bu h
theorem u9{rest:List Expr}(ha:ST X a mt)(hb:SW X (.BoolOp .And (b::rest) pos) mu):SW X (.BoolOp .And (a::b::rest) pos) (qL mt mu):=(Bv ha hb).imp λσ H Q ⟨ρ,δ,h,c,h',R,S,e,k⟩=>by
 obtain⟨⟨x,h1⟩,e1,e2⟩:=bg e;refine⟨ρ,δ,h,x,h1,R,S,e1,λρ' H' T S'=>?_⟩;cases x with
 | true=>rw[HQ rfl] at e2 ⊢;exact⟨ρ',δ,h1,c,h',R.mono T,S',e2,λρ2 H2 T2 S2=>k ρ2 H2 (T.trans T2) S2⟩
 | false=>rw[HS (by simp)] at e2 ⊢;cases e2;exact k ρ' H' T S'
theorem zX{rest:List Expr}(ha:ST X a mt)(hb:SW X (.BoolOp .Or (b::rest) pos) mu):SW X (.BoolOp .Or (a::b::rest) pos) (xG mt mu):=(Em ha hb).imp λσ H Q ⟨ρ,δ,h,c,h',R,S,e,k⟩=>by
 obtain⟨⟨x,h1⟩,e1,e2⟩:=bg e;refine⟨ρ,δ,h,x,h1,R,S,e1,λρ' H' T S'=>?_⟩;cases x with
 | false=>rw[HS (by simp)] at e2 ⊢;exact⟨ρ',δ,h1,c,h',R.mono T,S',e2,λρ2 H2 T2 S2=>k ρ2 H2 (T.trans T2) S2⟩
 | true=>rw[HQ rfl] at e2 ⊢;cases e2;exact k ρ' H' T S'
theorem SW.st(h:SW X a mt):ST X a mt:=PW.pt h
theorem AW{op}(h:SE X a ma):SE X (.BoolOp op [a] pos) ma:=BM h
theorem D5(hc:ST X c mt)(ha:SE X a ma)(hb:SE X b mb):SE X (.IfExp c a b pos) (EX mt ma mb):=(wb hc ha hb).imp λσ H Q ⟨ρ,δ,h,d,h',R,S,e,k⟩=>by
 obtain⟨⟨x,h1⟩,e1,e2⟩:=bg e;refine⟨ρ,δ,h,x,h1,R,S,e1,λρ' H' T S'=>?_⟩;cases x with
 | true=>rw[HQ rfl] at e2 ⊢;exact⟨ρ',δ,h1,d,h',R.mono T,S',e2,λv H2 p=>k v H2 (p.step T)⟩
 | false=>rw[HS (by simp)] at e2 ⊢;exact⟨ρ',δ,h1,d,h',R.mono T,S',e2,λv H2 p=>k v H2 (p.step T)⟩
noncomputable def pM(d:D)(h:MH):Option Bool:=match d with
 | .ck=>some false
 | .bl b=>some b
 | .int i=>some (i !=0)
 | .str x=>if x.length<=sizeLine then some ((x.length:Int) !=0) else none
 | .tup xs=>some (!xs.isEmpty)
 | .dv kvs=>some (!kvs.isEmpty)
 | .ob n=>match h[n]? with
  | some (.lst xs)=>some (!xs.isEmpty)
  | some (.dct kvs)=>some (!kvs.isEmpty)
  | _=>none
 | .lv xs=>some (!xs.isEmpty)
 | .ro xs=>some (!xs.isEmpty)
 | .ty _=>none
noncomputable def xV(a:EM):TM:=λδ h=>(a δ h).bind λp=>(pM p.1 p.2).map λc=>(c,p.2)
theorem aI.isEmpty(t:aI K ρ H us ds):us.isEmpty=ds.isEmpty:=by cases t <;> rfl
theorem rX{K:FR}{ρ:Ad}{H:Hp}{h:MH}{v:V}{d:D}{c:Bool}(S:bh K ρ h H)(r:Rep K ρ H v d)(e:pM d h=some c):zN K v H c:=by
 cases r with
 | ck=>cases e;exact rfl
 | bl b=>cases e;exact rfl
 | int i=>cases e;exact rfl
 | str hs=>
  unfold pM at e
  by_cases z:‹Str›.length<=sizeLine
  ·simp only[HQ z] at e;cases e;exact⟨z,rfl⟩
  ·simp only[HS z] at e;cases e
 | ty n=>exact bN e
 | tup ht l=>cases e;exact .inr (.inl ⟨_,ht.sq,by rw[l.isEmpty]⟩)
 | lv ht n l=>cases e;exact .inl ⟨_,fu.of ht,by rw[l.isEmpty]⟩
 | ro ht l=>cases e;exact .inl ⟨_,ht.sq,by rw[l.isEmpty]⟩
 | dv ht n l=>cases e;exact .inr (.inr ⟨_,ht,by rw[l.isEmpty]⟩)
 | ob hn=>
  unfold pM at e;rename_i a n;cases q:h[n]? with
  | none=>simp only[q] at e;cases e
  | some o=>
   have x:=S.at_ n a o hn q;cases o with
   | lst ds=>simp only[q] at e;cases e;obtain⟨vs,e1,l⟩:=x;exact .inl ⟨_,fu.of e1,by rw[l.isEmpty]⟩
   | dct ds=>simp only[q] at e;cases e;obtain⟨vs,e1,l⟩:=x;exact .inr (.inr ⟨_,e1,by rw[l.isEmpty]⟩)
   | dcH ds=>simp only[q] at e;cases e
theorem vc(ha:SE X a ma)(he:∀whole,isTrue a X.env whole=(do let v<-whole;standAt a.pos;holding [v] (truthy v)):=by intro _;ac_nf):ST X a (xV ma):=(vO ha he).imp λσ H Q ⟨ρ,δ,h,c,h',R,S,e,k⟩=>by
 obtain⟨⟨x,h1⟩,e1,e2⟩:=bg e;obtain⟨c',e3,e4⟩:=dY e2;cases e4;exact⟨ρ,δ,h,x,h1,R,S,e1,λv H' ⟨ρ',T,S',r⟩=>⟨c,rX S' r e3,k ρ' H' T S'⟩⟩
end
mutual
noncomputable def zL:D->D->Bool
 | .ck,.ck=>true
 | .bl a,.bl b=>a==b
 | .int a,.int b=>a==b
 | .str a,.str b=>decide (a=b)
 | .ty a,.ty b=>a==b
 | .tup a,.tup b=>pC a b
 | .lv a,.lv b=>pC a b
 | .ro a,.ro b=>pC a b
 | .dv a,.dv b=>xt a b
 | .ob a,.ob b=>a==b
 | _,_=>false
noncomputable def pC:List D->List D->Bool
 | [],[]=>true
 | a::r,b::s=>zL a b&&pC r s
 | _,_=>false
noncomputable def xt:List (Key×D)->List (Key×D)->Bool
 | [],[]=>true
 |(k,a)::r,(j,b)::s=>decide (k=j)&&zL a b&&xt r s
 | _,_=>false
end
mutual
theorem tH:∀(a b:D),zL a b=true->a=b
 | .ck,b,h=>by cases b <;> first | rfl |(cases h;done)
 | .bl x,b,h=>by cases b <;> first | exact congrArg _ (eq_of_beq h) |(cases h;done)
 | .int x,b,h=>by cases b <;> first | exact congrArg _ (eq_of_beq h) |(cases h;done)
 | .str x,b,h=>by cases b <;> first | exact congrArg _ (IZ h) |(cases h;done)
 | .ty x,b,h=>by cases b <;> first | exact congrArg _ (eq_of_beq h) |(cases h;done)
 | .ob x,b,h=>by cases b <;> first | exact congrArg _ (eq_of_beq h) |(cases h;done)
 | .tup x,b,h=>by cases b <;> first | exact congrArg _ (f6 _ _ h) |(cases h;done)
 | .lv x,b,h=>by cases b <;> first | exact congrArg _ (f6 _ _ h) |(cases h;done)
 | .ro x,b,h=>by cases b <;> first | exact congrArg _ (f6 _ _ h) |(cases h;done)
 | .dv x,b,h=>by cases b <;> first | exact congrArg _ (pD _ _ h) |(cases h;done)
theorem f6:∀(a b:List D),pC a b=true->a=b
 | [],b,h=>by cases b <;> first | rfl |(cases h;done)
 | x::r,b,h=>by
  cases b with
  | nil=>cases h
  | cons y s=>have h:=Ig.mp h;rw[tH _ _ h.1,f6 _ _ h.2]
theorem pD:∀(a b:List (Key×D)),xt a b=true->a=b
 | [],b,h=>by cases b <;> first | rfl |(cases h;done)
 |(k,x)::r,b,h=>by
  cases b with
  | nil=>cases h
  | cons y s=>
   obtain⟨j,y⟩:=y;have h:=Ig.mp h;have g:=Ig.mp h.1;rw[IZ g.1,tH _ _ g.2,pD _ _ h.2]
end
mutual
theorem nW:∀(a:D),zL a a=true
 | .ck=>rfl
 | .bl x=>IU x
 | .int x=>IU x
 | .str x=>IE rfl
 | .ty x=>IU x
 | .ob x=>IU x
 | .tup x=>cT x
 | .lv x=>cT x
 | .ro x=>cT x
 | .dv x=>jG x
theorem cT:∀(a:List D),pC a a=true
 | []=>rfl
 | x::r=>Ig.mpr ⟨nW x,cT r⟩
theorem jG:∀(a:List (Key×D)),xt a a=true
 | []=>rfl
 |(k,x)::r=>Ig.mpr ⟨Ig.mpr ⟨IE rfl,nW x⟩,jG r⟩
end
noncomputable def xr:MO->MO->Bool
 | .lst a,.lst b=>pC a b
 | .dct a,.dct b=>xt a b
 | .dcH a,.dcH b=>pC (a.map (·.1)) (b.map (·.1))&&pC (a.map (·.2)) (b.map (·.2))
 | _,_=>false
theorem p3:∀{a b:List (D×D)},a.map (·.1)=b.map (·.1)->a.map (·.2)=b.map (·.2)->a=b
 | [],[],_,_=>rfl
 | [],_::_,h,_=>by cases h
 | _::_,[],h,_=>by cases h
 |(x,y)::a,(u,v)::b,h,g=>by
  obtain⟨h1,h2⟩:=List.cons.inj h;obtain⟨g1,g2⟩:=List.cons.inj g;dsimp only at h1 g1;rw[h1,g1,p3 h2 g2]
theorem tF(h:xr a b=true):a=b:=by
 cases a <;> cases b <;> first |(cases h;done) | skip
 ·rw[f6 _ _ h]
 ·rw[pD _ _ h]
 ·have h:=Ig.mp h;rw[p3 (f6 _ _ h.1) (f6 _ _ h.2)]
theorem nU(a:MO):xr a a=true:=by
 cases a with
 | lst x=>exact cT x
 | dct x=>exact jG x
 | dcH x=>exact Ig.mpr ⟨cT _,cT _⟩
noncomputable def pE:MH->MH->Bool
 | [],[]=>true
 | a::r,b::s=>xr a b&&pE r s
 | _,_=>false
theorem tG:∀{a b:MH},pE a b=true->a=b
 | [],b,h=>by cases b <;> first | rfl | simp[pE] at h
 | x::r,b,h=>by
  cases b with
  | nil=>simp[pE] at h
  | cons y s=>simp[pE] at h;rw[tF h.1,tG h.2]
noncomputable def b7:SM:=λδ h=>some (.nx,δ,h)
noncomputable def aj(a b:SM):SM:=λδ h=>(a δ h).bind λr=>match r.1 with
 | .nx=>b r.2.1 r.2.2
 | _=>some r
noncomputable def bu(i:Nat)(e:EM):SM:=λδ h=>(e δ h).bind λp=>some (.nx,δ.set i (some p.1),p.2)
noncomputable def hG(e:EM)(g:GM):SM:=λδ h=>(e δ h).bind λp=>(g p.1 δ p.2).bind λq=>some (.nx,q.1,q.2)
noncomputable def cY(e:EM):SM:=λδ h=>(e δ h).bind λp=>some (.nx,δ,p.2)
noncomputable def aY(e:EM):SM:=λδ h=>(e δ h).bind λp=>some (.rt p.1,δ,p.2)
noncomputable def gV(t:TM)(a b:SM):SM:=λδ h=>(t δ h).bind λp=>if p.1 then a δ p.2 else b δ p.2
noncomputable def gN(i:Nat):GM:=λd δ h=>some (δ.set i (some d),h)
abbrev xP:=List D->DS->MH->Option (DS×MH)
noncomputable def cK:xP:=λds δ h=>match ds with
 | []=>some (δ,h)
 | _=>none
noncomputable def aw(g:GM)(u:xP):xP:=λds δ h=>match ds with
 | []=>none
 | d::r=>(g d δ h).bind λp=>u r p.1 p.2
noncomputable def gT(n:Nat)(u:xP):GM:=λd δ h=>match d with
 | .tup xs=>if xs.length=n then u xs δ h else none
 | _=>none
abbrev W:=List (Nat×MO)
abbrev IM:=DS->MH->Option (List D×W×MH)
noncomputable def kj:W->MH->Bool
 | [],_=>true
 |(n,o)::r,h=>(match h[n]? with | some u=>xr u o | none=>false)&&kj r h
noncomputable def i6(ws:W)(g:GM)(b:SM):List D->SM
 | [],δ,h=>if kj ws h then some (.nx,δ,h) else none
 | x::r,δ,h=>if kj ws h then(g x δ h).bind λq=>(b q.1 q.2).bind λz=>match z.1 with
  | .nx=>i6 ws g b r z.2.1 z.2.2
  | .ct=>i6 ws g b r z.2.1 z.2.2
  | .bk=>some (.nx,z.2.1,z.2.2)
  | .rt d=>some (.rt d,z.2.1,z.2.2)
  else none
noncomputable def iu(i:IM)(g:GM)(b:SM):SM:=λδ h=>(i δ h).bind λp=>i6 p.2.1 g b p.1 δ p.2.2
noncomputable def fz(c:TM)(b:SM):Nat->SM
 | 0,_,_=>none
 | n+1,δ,h=>(c δ h).bind λp=>if p.1 then(b δ p.2).bind λz=>match z.1 with
   | .nx=>fz c b n z.2.1 z.2.2
   | .ct=>fz c b n z.2.1 z.2.2
   | .bk=>some (.nx,z.2.1,z.2.2)
   | .rt d=>some (.rt d,z.2.1,z.2.2)
  else some (.nx,δ,p.2)
section
variable {X:Cx} {a b c e tg iter:Expr} {es:List Expr} {st:Stmt} {sts rest:List Stmt} {pos:Pos} {ma mb:EM} {mt:TM} {ms mu:SM} {m:AM} {g:GM} {gs:xP}
theorem dC:xO X [] b7:=yG.imp λE σ H ⟨ρ,δ,h,fl,δ',h',R,S,e,k⟩=>by
 cases e;exact k ρ H (.refl _ _) S σ R
theorem Bf(hh:xH X.K (aj ms mu) E σ H):DO (xH X.K ms) (xH X.K mu) E σ H:=by
 obtain⟨ρ,δ,h,fl,δ',h',R,S,e,k⟩:=hh;obtain⟨⟨f1,δ1,h1⟩,e1,e2⟩:=bg e;cases f1 with
 | nx=>exact⟨ρ,δ,h,.nx,δ1,h1,R,S,e1,λρ1 H1 T1 S1 σ' R'=>⟨ρ1,δ1,h1,fl,δ',h',R',S1,e2,λρ2 H2 T2 S2=>k ρ2 H2 (T1.trans T2) S2⟩⟩
 | bk=>cases e2;exact⟨ρ,δ,h,.bk,_,_,R,S,e1,λρ1 H1 T1 S1=>k ρ1 H1 T1 S1⟩
 | ct=>cases e2;exact⟨ρ,δ,h,.ct,_,_,R,S,e1,λρ1 H1 T1 S1=>k ρ1 H1 T1 S1⟩
 | rt d=>cases e2;exact⟨ρ,δ,h,.rt d,_,_,R,S,e1,λρ1 H1 T1 S1=>k ρ1 H1 T1 S1⟩
theorem aa(h1:SS X st ms)(h2:xO X rest mu):xO X (st::rest) (aj ms mu):=(vP h1 h2).imp λ_ _ _=>Bf
theorem aJ(h1:SS X st ms):xO X [st] ms:=yF h1
theorem vE(hh:xH X.K (bu i ma) E σ H):xY (tM X.K ma) (qg i) E σ H:=by
 obtain⟨ρ,δ,h,fl,δ',h',R,S,e,k⟩:=hh;obtain⟨⟨x,h1⟩,e1,e2⟩:=bg e;cases e2;exact⟨ρ,δ,h,x,h1,R,S,e1,λv H1 ⟨ρ1,T1,S1,r1⟩=>k ρ1 H1 T1 S1 _ ((R.mono T1).set r1 i)⟩
theorem AL(hN:X.N.Nodup)(hi:X.N[i]?=some x)(hx:Loc X.env.scope x)(he:SE X e ma)(hs:swapsWith e (some (.Name x pos')) pos.line X.env=pure false:=by ac_nf)(hf:X.fn x=true\/X.env.scope.names.lookup x=some .local:=by first | exact .inl rfl | exact .inr rfl | assumption):SS X (.Assign [.Name x pos'] e pos) (bu i ma):=(By hN hi hx he hs hf).imp λ_ _ _=>vE
theorem yc(hN:X.N.Nodup)(hi:X.N[i]?=some x)(hx:Loc X.env.scope x)(hf:X.fn x=true\/X.env.scope.names.lookup x=some .local:=by first | exact .inl rfl | exact .inr rfl | assumption):SG X (.Name x pos) (gN i):=
 (yS hN hi hx hf).imp λv σ H Q ⟨ρ,δ,h,d,δ',h',R,S,r,e,k⟩=>by
  cases e;exact k ρ H _ (.refl _ _) S (R.set r i)
inductive Ap(K:FR)(m:xP)(vs:List V)(σ:L2.St)(H:Hp)(Q:L2.St->Hp->Prop):Prop where
 | mk (ρ δ h ds δ' h'):bS K ρ H σ δ->bh K ρ h H->ah K ρ H vs ds->(m ds δ h=some (δ',h'))->(∀ρ' H' σ',bX ρ H ρ' H'->bh K ρ' h' H'->bS K ρ' H' σ' δ'->Q σ' H')->Ap K m vs σ H Q
noncomputable def F3(K:FR)(m:xP):Di:=λvs σ H Q=>Ap K m vs σ H Q
def FU(X:Cx)(es:List Expr)(m:xP):Prop:=Au X es (F3 X.K m)
theorem _root_.L2.Au.imp{X:Cx}{e:List Expr}{t t':Di}(h:Au X e t)(i:∀v σ H Q,t' v σ H Q->t v σ H Q):Au X e t':=λpins s σ H v u Q I r q=>h pins s σ H v u Q I r (i v σ H Q q)
theorem sk:FU X [] cK:=yR.imp λv σ H Q ⟨ρ,δ,h,d,δ',h',R,S,r,e,k⟩=>by
 cases r with
 | nil=>cases e;exact⟨rfl,k ρ H σ (.refl _ _) S R⟩
 | cons _ _=>cases e
theorem kO(h1:SG X e g)(h2:FU X es gs)(hs:(assignEach (e::es) X.env).map (·.2)=assign e X.env::(assignEach es X.env).map (·.2):=by ac_nf):FU X (e::es) (aw g gs):=(vW h1 h2 hs).imp λv σ H Q ⟨ρ,δ,h,d,δ',h',R,S,r,e,k⟩=>by
 cases r with
 | nil=>cases e
 | cons r rs=>
  obtain⟨⟨δ1,h1⟩,e1,e2⟩:=bg e;exact⟨_,_,rfl,ρ,δ,h,_,δ1,h1,R,S,r,e1,λρ1 H1 σ1 T1 S1 R1=>⟨ρ1,δ1,h1,_,δ',h',R1,S1,rs.mono T1,e2,λρ2 H2 σ2 T2 S2 R2=>k ρ2 H2 σ2 (T1.trans T2) S2 R2⟩⟩
theorem vm(hc:X.calm=true)(h:FU X es gs)(hn:(assignEach es X.env).length=n:=by ac_nf)(hst:(assignEach es X.env).findIdx? (·.1)=none:=by ac_nf):SG X (.Tuple es k0 pos) (gT n gs):=
 (BG hc h hn hst).imp λv σ H Q ⟨ρ,δ,h,d,δ',h',R,S,r,e,k⟩=>by
  cases r <;> first |(exact absurd e (by intro z;cases z)) | skip
  rename_i a vs ds ht l _;unfold gT at e;dsimp only at e
  by_cases z:ds.length=n
  ·rw[HQ z] at e;exact⟨a,vs,rfl,ht.sq,by rw[l.length];exact z,ρ,δ,h,ds,δ',h',R,S,l,e,k⟩
  ·rw[HS z] at e;cases e
theorem fB(he:SE X e ma)(hg:SG X tg g)(hs:swapsWithSole [tg] e pos.line X.env=pure false:=by ac_nf)(hw:swappedStores [tg] e X.env=pure none:=by ac_nf)
  (h1:(assignEach [tg] X.env).map (·.2)=[assign tg X.env]:=by ac_nf):SS X (.Assign [tg] e pos) (hG ma g):=(BB he hg hs hw h1).imp λE σ H ⟨ρ,δ,h,fl,δ',h',R,S,e,k⟩=>by
 obtain⟨⟨x,h1⟩,e1,e2⟩:=bg e;obtain⟨⟨δ2,h2⟩,e4,e3⟩:=bg e2;cases e3;exact⟨ρ,δ,h,x,h1,R,S,e1,λv H1 ⟨ρ1,T1,S1,r1⟩=>⟨ρ1,δ,h1,x,_,_,R.mono T1,S1,r1,e4,λρ2 H2 σ2 T2 S2 R2=>k ρ2 H2 (T1.trans T2) S2 σ2 R2⟩⟩
theorem dZ(he:SE X e ma)(hs:swapsWith e none pos.line X.env=pure false:=by ac_nf):SS X (.Expr e pos) (cY ma):=(yJ he hs).imp λE σ H ⟨ρ,δ,h,fl,δ',h',R,S,e,k⟩=>by
 obtain⟨⟨x,h1⟩,e1,e2⟩:=bg e;cases e2;exact⟨ρ,δ,h,x,h1,R,S,e1,λv H1 ⟨ρ1,T1,S1,r1⟩=>k ρ1 H1 T1 S1 σ (R.mono T1)⟩
theorem b6(he:SE X e ma):SS X (.Return (some e) pos) (aY ma):=(Bz he).imp λE σ H ⟨ρ,δ,h,fl,δ',h',R,S,e,k⟩=>by
 obtain⟨⟨x,h1⟩,e1,e2⟩:=bg e;cases e2;exact⟨ρ,δ,h,x,h1,R,S,e1,λv H1 ⟨ρ1,T1,S1,r1⟩=>k ρ1 H1 T1 S1 v r1⟩
theorem gc(hc:ST X c mt)(ha:xO X sa ms)(hb:xO X sb mu):SS X (.If c sa sb pos) (gV mt ms mu):=(Eo hc ha hb).imp λE σ H ⟨ρ,δ,h,fl,δ',h',R,S,e,k⟩=>by
 obtain⟨⟨x,h1⟩,e1,e2⟩:=bg e;refine⟨ρ,δ,h,x,h1,R,S,e1,λρ1 H1 T1 S1=>?_⟩;cases x with
 | true=>rw[HQ rfl] at e2 ⊢;exact⟨ρ1,δ,h1,fl,δ',h',R.mono T1,S1,e2,λρ2 H2 T2 S2=>k ρ2 H2 (T1.trans T2) S2⟩
 | false=>rw[HS (by simp)] at e2 ⊢;exact⟨ρ1,δ,h1,fl,δ',h',R.mono T1,S1,e2,λρ2 H2 T2 S2=>k ρ2 H2 (T1.trans T2) S2⟩
structure FG(K:FR)(J:It)(ρ:Ad)(H:Hp)(ws:W)(xs:List D):Prop where
 run:∀ρ1 H1 h1,Ch ρ H ρ1 H1->bh K ρ1 h1 H1->kj ws h1=true->∀i:Nat,(xs.length<=i->J.stop i H1)/\∀x,xs[i]?=some x->J.go i H1/\∀v H2,J.Av i H1 v H2->bX ρ1 H1 ρ1 H2/\bh K ρ1 h1 H2/\Rep K ρ1 H2 v x
inductive Fu(K:FR)(m:IM)(σ:L2.St)(H:Hp)(R:It->Hp->Prop):Prop where
 | mk (ρ δ h xs ws h'):bS K ρ H σ δ->bh K ρ h H->(m δ h=some (xs,ws,h'))->(∀J ρ1 H1,bX ρ H ρ1 H1->bh K ρ1 h' H1->FG K J ρ1 H1 ws xs->R J H1)->Fu K m σ H R
def F0(K:FR)(m:IM):TI:=λσ H R=>Fu K m σ H R
def SI(X:Cx)(tg iter:Expr)(m:IM):Prop:=PI X tg iter (F0 X.K m)
theorem _root_.L2.PI.imp(h:PI X tg e t)(i:∀σ H Q,t' σ H Q->t σ H Q):PI X tg e t':=λpins s σ H R I q=>h pins s σ H R I (i σ H R q)
theorem Bg(hh:xH X.K (iu mi g ms) E σ H):DX (F0 X.K mi) (DW X.K g) (xH X.K ms) E σ H:=by
 obtain⟨ρ,δ,h,fl,δ',h',R,S,e,k⟩:=hh;obtain⟨⟨xs,ws,h1⟩,e1,e2⟩:=bg e;refine⟨ρ,δ,h,xs,ws,h1,R,S,e1,λJ ρ1 H1 T1 S1 It=>?_⟩;refine⟨λi m σ2 H2=>∃ρ2 δ2 h2,m=xs.length-i/\i<=xs.length/\bX ρ1 H1 ρ2 H2/\bS X.K ρ2 H2 σ2 δ2/\bh X.K ρ2 h2 H2/\i6 ws g ms (xs.drop i) δ2 h2=some (fl,δ',h'),⟨_,ρ1,δ,h1,rfl,Jq _,.refl _ _,R.mono T1,S1,e2⟩,?_⟩;rintro i m σ2 H2 ⟨ρ2,δ2,h2,rfl,hi,T2,R2,S2,e3⟩;cases q:xs.drop i with
 | nil=>
  rw[q] at e3;unfold i6 at e3
  by_cases hc:kj ws h2=true
  ·rw[HQ hc] at e3;cases e3;have hl:xs.length<=i:=by have:=congrArg List.length q;rw[Kt,Jg] at this;lia
   exact .inl ⟨(It.run ρ2 H2 _ T2 S2 hc i).1 hl,k ρ2 H2 (T1.trans T2) S2 σ2 R2⟩
  ·rw[HS hc] at e3;cases e3
 | cons x r=>
  rw[q] at e3;unfold i6 at e3
  by_cases hc:kj ws h2=true
  ·rw[HQ hc] at e3;have hx:xs[i]?=some x:=by
    have:=congrArg (λl=>l[0]?) q
    simpa using this
   have hlt:i < xs.length:=(HJ.mp hx).1;have hr:xs.drop (i+1)=r:=by
    have:=congrArg List.tail q
    simpa using this
   obtain⟨⟨δ3,h3⟩,e4,e5⟩:=bg e3;obtain⟨⟨f4,δ4,h4⟩,e6,e7⟩:=bg e5;obtain⟨hgo,hy⟩:=(It.run ρ2 H2 h2 T2 S2 hc i).2 x hx;have NN:∀ρ5 H5 σ5,bX ρ2 H2 ρ5 H5->bh X.K ρ5 h4 H5->bS X.K ρ5 H5 σ5 δ4->i6 ws g ms r δ4 h4=some (fl,δ',h')->
     ∃m',m' < xs.length-i/\(∃ρ2 δ2 h2,m'=xs.length-(i+1)/\i+1<=xs.length/\bX ρ1 H1 ρ2 H5/\bS X.K ρ2 H5 σ5 δ2/\bh X.K ρ2 h2 H5/\i6 ws g ms (xs.drop (i+1)) δ2 h2=some (fl,δ',h')):=
    λρ5 H5 σ5 T5 S5 R5 e8=>⟨xs.length-(i+1),by lia,ρ5,δ4,h4,rfl,hlt,T2.trans T5,R5,S5,by rw[hr];exact e8⟩
   refine .inr ⟨hgo,λσ5 H5=>∃ρ5,bX ρ2 H2 ρ5 H5/\bh X.K ρ5 h4 H5/\bS X.K ρ5 H5 σ5 δ4/\i6 ws g ms r δ4 h4=some (fl,δ',h'),λσ5 H5 ⟨ρ5,T5,S5,R5,e8⟩=>NN ρ5 H5 σ5 T5 S5 R5 e8,λv H3 y3=>?_⟩;obtain⟨T3,S3,r3⟩:=hy v H3 y3;refine⟨ρ2,δ2,h2,x,δ3,h3,R2.mono T3,S3,r3,e4,λρ4 H4 σ4 T4 S4 R4=>?_⟩;refine⟨ρ4,δ3,h3,f4,δ4,h4,R4,S4,e6,λρ5 H5 T5 S5=>?_⟩;have T25:bX ρ2 H2 ρ5 H5:=T3.trans (T4.trans T5);cases f4 with
   | nx=>exactλσ' R'=>⟨ρ5,T25,S5,R',e7⟩
   | ct=>exactλσ' R'=>⟨ρ5,T25,S5,R',e7⟩
   | bk=>cases e7;exactλσ' R'=>k ρ5 H5 (T1.trans (T2.trans T25)) S5 σ' R'
   | rt d=>cases e7;exactλv r=>k ρ5 H5 (T1.trans (T2.trans T25)) S5 v r
  ·rw[HS hc] at e3;cases e3
theorem cL(hp:PassesOwn (model X.prog X.w) X.A X.env X.xe)(hc:X.calm=true)(hi:SI X tg iter mi)(hg:SG X tg g)(hb:xO X body ms)(hs:∀x,foldedSetIterable iter X.env x=pure x:=by intro _;ac_nf):SS X (.For tg iter body [] pos) (iu mi g ms):=
 (BA hp hc hi hg hb hs).imp λ_ _ _=>Bg
theorem vD(hh:xH X.K (fz mt ms n) E σ H):uY (AI X.K mt) (xH X.K ms) E σ H:=by
 obtain⟨ρ,δ,h,fl,δ',h',R,S,e,k⟩:=hh;refine⟨λm σ2 H2=>∃ρ2 δ2 h2,bX ρ H ρ2 H2/\bS X.K ρ2 H2 σ2 δ2/\bh X.K ρ2 h2 H2/\fz mt ms m δ2 h2=some (fl,δ',h'),⟨n,ρ,δ,h,.refl _ _,R,S,e⟩,?_⟩;rintro m σ2 H2 ⟨ρ2,δ2,h2,T2,R2,S2,e2⟩;cases m with
 | zero=>cases e2
 | succ m=>
  obtain⟨⟨x,h3⟩,e3,e4⟩:=bg e2;refine⟨ρ2,δ2,h2,x,h3,R2,S2,e3,λρ3 H3 T3 S3=>?_⟩;cases x with
  | false=>rw[HS (by simp)] at e4 ⊢;cases e4;exact k ρ3 H3 (T2.trans T3) S3 σ2 (R2.mono T3)
  | true=>
   rw[HQ rfl] at e4 ⊢;obtain⟨⟨f4,δ4,h4⟩,e5,e6⟩:=bg e4;refine⟨λσ5 H5=>∃ρ5,bX ρ3 H3 ρ5 H5/\bh X.K ρ5 h4 H5/\bS X.K ρ5 H5 σ5 δ4/\fz mt ms m δ4 h4=some (fl,δ',h'),λσ5 H5 ⟨ρ5,T5,S5,R5,e8⟩=>⟨m,Nat.lt_succ_self m,ρ5,δ4,h4,T2.trans (T3.trans T5),R5,S5,e8⟩,?_⟩;refine⟨ρ3,δ2,h3,f4,δ4,h4,R2.mono T3,S3,e5,λρ5 H5 T5 S5=>?_⟩;cases f4 with
   | nx=>exactλσ' R'=>⟨ρ5,T5,S5,R',e6⟩
   | ct=>exactλσ' R'=>⟨ρ5,T5,S5,R',e6⟩
   | bk=>cases e6;exactλσ' R'=>k ρ5 H5 (T2.trans (T3.trans T5)) S5 σ' R'
   | rt d=>cases e6;exactλv r=>k ρ5 H5 (T2.trans (T3.trans T5)) S5 v r
theorem ve(hp:PassesOwn (model X.prog X.w) X.A X.env X.xe)(hc:ST X c mt)(hb:xO X body ms):SS X (.While c body [] pos) (fz mt ms n):=(vQ hp hc hb).imp λ_ _ _=>vD
end
end Sm
namespace L2
open PySem PySem.Spec PyProof.Rows
theorem BF(hl:PE X l tl):PI X tg l (λσ H R=>tl σ H λx H1=>∃a,x=.ref a/\(((∃xs,fu X.K H1 a xs)/\R (G1 X.K a) H1)\/((∃xs,g8 X.K H1 a xs)/\R (G0 X.K a) H1))):=by
 intro pins s σ H R I h;refine bT (hl pins s σ H _ I h) λv s1 ⟨x,H1,I1,r1,q1⟩=>?_;obtain⟨a,e,q1⟩:=q1;subst e;cases r1;rcases q1 with⟨⟨xs,hq⟩,q⟩ |⟨⟨xs,hq⟩,q⟩
 ·obtain⟨its,rv,p,hz⟩:=I1.list hq;refine wpAny_pyIter_list p.isList ?_;refine⟨s1.heap.objs.size,[s1.heap.objs.size],_,_,H1,rfl,I1.kept (t':=s1.toks) λb o e=>HI _ e,tO a _,⟨_,HZ _ rfl,rfl,rfl⟩,λb hb=>?_,q⟩;have e:b=s1.heap.objs.size:=by simpa using hb
  subst e;exact I1.qh (HN _) (I1.aZ.fresh (HN _))
 ·obtain⟨its,rv,p,hz⟩:=I1.tuple hq;refine JU (show s1.heap.IsTuple a its.toArray from p) ?_;refine⟨s1.heap.objs.size,[s1.heap.objs.size],_,_,H1,rfl,I1.kept (t':=s1.toks) λb o e=>HI _ e,qG a _,⟨_,HZ _ rfl,rfl,rfl⟩,λb hb=>?_,q⟩;have e:b=s1.heap.objs.size:=by simpa using hb
  subst e;exact I1.qh (HN _) (I1.aZ.fresh (HN _))
end L2
namespace Sm
open PySem L2
noncomputable def bM(d:D)(h:MH):Option (List D×W):=match d with
 | .lv xs=>some (xs,[])
 | .ro xs=>some (xs,[])
 | .tup xs=>some (xs,[])
 | .ob n=>match h[n]? with
  | some (.lst xs)=>some (xs,[(n,.lst xs)])
  | _=>none
 | _=>none
noncomputable def fU(e:EM):IM:=λδ h=>(e δ h).bind λp=>(bM p.1 p.2).map λq=>(q.1,q.2,p.2)
noncomputable def oU(m:AM):IM:=λδ h=>(m δ h).bind λp=>match p.1 with
 | [.int j]=>if -(2^62)<=j/\j < 2^62 then some ((List.range j.toNat).map λ(k:Nat)=>D.int (k:Int),[],p.2) else none
 | [.int i,.int j]=>if -(2^62)<=i/\i < 2^62/\-(2^62)<=j/\j < 2^62 then some ((List.range (j-i).toNat).map λ(k:Nat)=>D.int (i+(k:Int)),[],p.2) else none
 | _=>none
theorem rj(hl:∀ρ1 H1 h1,Ch ρ H ρ1 H1->bh K ρ1 h1 H1->kj ws h1=true->∃vs,ah K ρ1 H1 vs xs/\(∀i:Nat,vs.length<=i->J.stop i H1)/\∀(i:Nat) v,vs[i]?=some v->J.go i H1/\∀u H2,J.Av i H1 u H2->H2=H1/\u=v):FG K J ρ H ws xs:=by
 refine⟨λρ1 H1 h1 T S hc i=>?_⟩;obtain⟨vs,l,s1,s2⟩:=hl ρ1 H1 h1 T S hc;refine⟨λhi=>s1 i (by rw[l.length];exact hi),λx hx=>?_⟩;obtain⟨v,hv,r⟩:=l.got hx;obtain⟨g,y⟩:=s2 i v hv;refine⟨g,λu H2 yy=>?_⟩;obtain⟨rfl,rfl⟩:=y u H2 yy;exact⟨.refl _ _,S,r⟩
theorem CC(hl:∀ρ1 H1 h1,Ch ρ H ρ1 H1->bh K ρ1 h1 H1->kj ws h1=true->∃vs,ah K ρ1 H1 vs xs/\fu K H1 a vs):FG K (G1 K a) ρ H ws xs:=
 rj λρ1 H1 h1 T S hc=>by
  obtain⟨vs,l,q⟩:=hl ρ1 H1 h1 T S hc;refine⟨vs,l,λi hi=>⟨vs,q,hi⟩,λi v hv=>⟨⟨vs,v,q,hv⟩,λu H2 ⟨e,y⟩=>⟨e,?_⟩⟩⟩;have:=y vs q;rw[hv] at this;exact(Option.some.inj this).symm
theorem CA(hl:∀ρ1 H1 h1,Ch ρ H ρ1 H1->bh K ρ1 h1 H1->kj ws h1=true->∃vs,ah K ρ1 H1 vs xs/\g8 K H1 a vs):FG K (G0 K a) ρ H ws xs:=
 rj λρ1 H1 h1 T S hc=>by
  obtain⟨vs,l,q⟩:=hl ρ1 H1 h1 T S hc;refine⟨vs,l,λi hi=>⟨vs,q,hi⟩,λi v hv=>⟨⟨vs,v,q,hv⟩,λu H2 ⟨e,y⟩=>⟨e,?_⟩⟩⟩;have:=y vs q;rw[hv] at this;exact(Option.some.inj this).symm
theorem zH(hc:kj [(n,o)] h=true):h[n]?=some o:=by
 unfold kj at hc;cases q:h[n]? with
 | none=>rw[q] at hc;cases hc
 | some u=>
  rw[q] at hc;simp[kj] at hc;rw[tF hc]
inductive SeqAt(K:FR)(H:Hp)(a:Addr)(vs:List V):Bool->Prop where
 | l:fu K H a vs->SeqAt K H a vs true
 | t:g8 K H a vs->SeqAt K H a vs false
noncomputable def i4:D->Bool
 | .tup _=>false
 | _=>true
theorem fD(S:bh K ρ h H)(r:Rep K ρ H v d)(e:bM d h=some (xs,ws)):∃a,v=.ref a/\(∃vs,SeqAt K H a vs (i4 d)/\ah K ρ H vs xs)/\
  ∀ρ1 H1 h1,Ch ρ H ρ1 H1->bh K ρ1 h1 H1->kj ws h1=true->∃vs,ah K ρ1 H1 vs xs/\SeqAt K H1 a vs (i4 d):=by
 cases r with
 | tup ht l=>
  cases e;refine⟨_,rfl,⟨_,.t ht.sq,l⟩,λρ1 H1 h1 T S1 _=>?_⟩;cases(Rep.tup ht l).mono T with
  | tup h1 l1=>exact⟨_,l1,.t h1.sq⟩
 | lv ht n l=>
  cases e;refine⟨_,rfl,⟨_,.l (fu.of ht),l⟩,λρ1 H1 h1 T S1 _=>?_⟩;cases(Rep.lv ht n l).mono T with
  | lv h1 _ l1=>exact⟨_,l1,.l (fu.of h1)⟩
 | ro ht l=>
  cases e;refine⟨_,rfl,⟨_,.l ht.sq,l⟩,λρ1 H1 h1 T S1 _=>?_⟩;cases(Rep.ro ht l).mono T with
  | ro h1 l1=>exact⟨_,l1,.l h1.sq⟩
 | @ob a n hn=>
  unfold bM at e;dsimp only at e;cases q:h[n]? with
  | none=>rw[q] at e;cases e
  | some o=>
   rw[q] at e;cases o with
   | dct _=>exact bN e
   | dcH _=>exact bN e
   | lst ys=>
    cases e;obtain⟨vs,e1,l⟩:=S.at_ n a _ hn q;refine⟨a,rfl,⟨vs,.l (fu.of e1),l⟩,λρ1 H1 h1 T S1 hc=>?_⟩;obtain⟨us,e2,l2⟩:=S1.at_ n a _ (T.pre n a hn) (zH hc);exact⟨us,l2,.l (fu.of e2)⟩
 | ck=>exact bN e
 | bl b=>exact bN e
 | int i=>exact bN e
 | str x=>exact bN e
 | ty x=>exact bN e
 | dv _ _ _=>exact bN e
section
variable {X:Cx} {a b c e tg iter:Expr} {es:List Expr} {pos:Pos} {ma mb:EM} {mt:TM} {ms mu:SM} {m:AM} {g:GM} {gs:xP}
theorem jq(h:SE X e ma):SI X tg e (fU ma):=(BF h).imp λσ H Q ⟨ρ,δ,h,xs,ws,h',R,S,e,k⟩=>by
 obtain⟨⟨x,h1⟩,e1,e2⟩:=bg e;obtain⟨⟨ys,w⟩,e3,e4⟩:=dY e2;cases e4;refine⟨ρ,δ,h,x,h1,R,S,e1,λv H1 ⟨ρ1,T1,S1,r1⟩=>?_⟩;obtain⟨a,rfl,⟨vs,q,l⟩,st⟩:=fD S1 r1 e3;refine⟨a,rfl,?_⟩;generalize i4 x=b at q st;cases q with
 | l q=>exact .inl ⟨⟨vs,q⟩,k _ ρ1 H1 T1 S1 (CC λρ2 H2 h2 T2 S2 hc=>by obtain⟨us,l2,q2⟩:=st ρ2 H2 h2 T2 S2 hc;cases q2 with | l q2=>exact⟨us,l2,q2⟩)⟩
 | t q=>exact .inr ⟨⟨vs,q⟩,k _ ρ1 H1 T1 S1 (CA λρ2 H2 h2 T2 S2 hc=>by obtain⟨us,l2,q2⟩:=st ρ2 H2 h2 T2 S2 hc;cases q2 with | t q2=>exact⟨us,l2,q2⟩)⟩
theorem jv:∀(ns:List Int),ah K ρ H (ns.map V.int) (ns.map D.int)
 | []=>.nil
 | _::r=>.cons (.int _) (jv r)
theorem CB(lo:Int)(n:Nat):FG K (FV lo n) ρ H [] ((List.range n).map λ(k:Nat)=>D.int (lo+(k:Int))):=by
 refine rj λρ1 H1 h1 T S hc=>⟨(List.range n).map λ(k:Nat)=>V.int (lo+(k:Int)),?_,λi hi=>?_,λi v hv=>?_⟩
 ·have:=jv (K:=K) (ρ:=ρ1) (H:=H1) ((List.range n).map λ(k:Nat)=>lo+(k:Int));rw[Jd,Jd] at this;exact this
 ·rw[HH,IP] at hi;exact hi
 ·rw[Io] at hv;obtain⟨j,e1,e2⟩:=dY hv;obtain⟨hlt,e3⟩:=HJ.mp e1;rw[IP] at hlt;rw[List.getElem_range] at e3;subst e3;subst e2;exact⟨hlt,λu H2 ⟨p,q⟩=>⟨p,q⟩⟩
theorem tY(l:ah K ρ H vs [.int j]):vs=[.int j]:=by
 cases l with
 | cons r l=>cases l;cases r;rfl
theorem cM(hg:Gl X "range")(hm:X.mg "range"=none)(ha:SA X [a] m)(hs:starEach [a] X.env=[(false,eval a X.env)]:=by ac_nf)(hl:iL m 1):SI X tg (.Call (.Name "range" p) [a] [] pos) (oU m):=
 (t6 hg hm ha hs).imp λσ H Q ⟨ρ,δ,h,xs,ws,h',R,S,e,k⟩=>by
  obtain⟨⟨x,h1⟩,e1,e2⟩:=bg e;refine⟨ρ,δ,h,x,h1,R,S,e1,λvs ρ1 H1 T1 S1 r1=>?_⟩
  match x,hl _ _ _ _ e1,e2,r1 with
  | [d],hl1,e2,r1=>
   cases d <;> first | exact absurd e2 (by intro z;cases z) | skip
   rename_i j;dsimp only at e2
   by_cases z:-(2^62)<=j/\j < 2^62
   ·rw[HQ z] at e2;cases e2;refine⟨j,tY r1,z.1,z.2,k _ ρ1 H1 T1 S1 ?_⟩;have:=CB (K:=X.K) (ρ:=ρ1) (H:=H1) 0 j.toNat
    simpa using this
   ·rw[HS z] at e2;cases e2
noncomputable def jY(caps:List (Option Nat))(δ:DS):DS:=caps.map λo=>o.bind λi=>(δ[i]?).join
noncomputable def dh:TM:=λ_ h=>some (true,h)
noncomputable def c7(ws:W)(g:GM)(c:TM)(e:EM):List D->DS->MH->Option (List D×MH)
 | [],_,h=>if kj ws h then some ([],h) else none
 | x::r,δ,h=>if kj ws h then(g x δ h).bind λq=>(c q.1 q.2).bind λt=>if t.1 then(e q.1 t.2).bind λy=>(c7 ws g c e r q.1 y.2).map λz=>(y.1::z.1,z.2) else c7 ws g c e r q.1 t.2 else none
noncomputable def cE(caps:List (Option Nat))(i:IM)(g:GM)(c:TM)(e:EM):AM:=λδ h=>(i δ h).bind λp=>(c7 p.2.1 g c e p.1 (jY caps δ) p.2.2).bind λq=>if q.1.length<=sizeLine then some q else none
theorem bS.mO(R:bS K ρ H σ δ)(caps:List (Option Nat)):bS K ρ H (mO caps σ) (jY caps δ):=by
 refine⟨by simp[L2.mO,jY],λi d hd=>?_⟩;unfold jY at hd;rw[Io] at hd;obtain⟨o,e1,e2⟩:=dY hd;cases o with
 | none=>exact bN e2
 | some j=>
  have e3:δ[j]?=some (some d):=Lv.mp e2;obtain⟨v,ev,r⟩:=R.at_ j d e3;refine⟨v,?_,r⟩;unfold L2.mO;rw[Io,e1];simp[ev]
def GZ(X:Cx)(ifs:List Expr)(m:TM):Prop:=DC X ifs (AI X.K m)
theorem ef:GZ X [] dh:=λpins s σ H Q I hh=>by
 obtain⟨ρ,δ,h,b,h',R,S,e,k⟩:=hh;cases e;exact yP pins s σ H Q I (k ρ H (.refl _ _) S)
theorem sy(hh:tM X.K (iM (cE caps mi g mt ma)) σ H Q):u6 caps (F0 X.K mi) (DW X.K g) (AI X.K mt) (tM X.K ma) σ H Q:=by
 obtain⟨ρ,δ,h,d,h',R,S,ee,k⟩:=hh;obtain⟨⟨out,h0⟩,ea,e0⟩:=dY ee;cases e0;obtain⟨⟨xs,ws,h1⟩,e1,eb⟩:=bg ea;obtain⟨⟨ys,h2⟩,e2,e3⟩:=bg eb;dsimp only at e2 e3
 by_cases hz:ys.length<=sizeLine
 ·rw[HQ hz] at e3;cases e3;refine⟨ρ,δ,h,xs,ws,h1,R,S,e1,λJ ρ1 H1 T1 S1 It l hl=>?_⟩;have nl:¬ρ1.has l:=S1.fresh hl;have Tl:Ch ρ1 H1 (ρ1.keep l) (upd H1 l (.lst [])):=Ch.keep hl;refine⟨λi m τ2 H2=>∃(ob2:List Addr)(δ2:DS)(h2:MH)(vs:List V)(as bs:List D),m=xs.length-i/\i<=xs.length/\Ch ρ1 H1 ⟨ob2,l::ρ1.rs⟩ H2/\(∀b∈ρ1.rs,H2 b=H1 b)/\bS X.K ⟨ob2,l::ρ1.rs⟩ H2 τ2 δ2/\bh X.K ⟨ob2,l::ρ1.rs⟩ h2 H2/\
    H2 l=some (.lst vs)/\ah X.K ⟨ob2,l::ρ1.rs⟩ H2 vs as/\out=as++bs/\c7 ws g mt ma (xs.drop i) δ2 h2=some (bs,h0),
   ⟨_,ρ1.ob,jY caps δ,h1,[],[],out,rfl,Jq _,Tl,λb hb=>ao λz=>nl (.inr (z ▸ hb)),((R.mono T1).mO caps).mono Tl,S1.keep hl,ax,.nil,rfl,e2⟩,?_⟩
  rintro i m τ2 H2 ⟨ob2,δ2,h2,vs,as,bs,rfl,hi,T2,rs2,R2,S2,hl2,l2,eo,e3⟩;have hsub:∀b∈ρ1.rs,b∈l::ρ1.rs:=λb hb=>Ib _ hb;have C2:Ch ⟨ob2,l::ρ1.rs⟩ H2 ⟨ob2,ρ1.rs⟩ H2:=Ch.free hsub;have T2':bX ρ1 H1 ⟨ob2,ρ1.rs⟩ H2:=⟨T2.trans C2,rfl,rs2⟩;have S2':bh X.K ⟨ob2,ρ1.rs⟩ h2 H2:=S2.free hsub;cases q:xs.drop i with
  | nil=>
   rw[q] at e3;unfold c7 at e3
   by_cases hc:kj ws h2=true
   ·rw[HQ hc] at e3;cases e3;rw[Jh] at eo;subst eo;have hle:xs.length<=i:=by have:=congrArg List.length q;rw[Kt,Jg] at this;lia
    refine .inl ⟨(It.run _ H2 _ T2 S2 hc i).1 hle,k _ _ ⟨_,T1.trans T2',S2',.lv hl2 (λz=>?_) (l2.mono C2)⟩⟩;rcases z with z | z
    ·exact(S2.mZ l HY).2 z
    ·exact nl (.inr z)
   ·rw[HS hc] at e3;cases e3
  | cons x r=>
   rw[q] at e3;unfold c7 at e3
   by_cases hc:kj ws h2=true
   ·rw[HQ hc] at e3;have hx:xs[i]?=some x:=by
     have:=congrArg (λl=>l[0]?) q
     simpa using this
    have hlt:i < xs.length:=(HJ.mp hx).1;have hr:xs.drop (i+1)=r:=by
     have:=congrArg List.tail q
     simpa using this
    obtain⟨⟨δ3,h3⟩,e4,e5⟩:=bg e3;obtain⟨⟨t,h4⟩,e6,e7⟩:=bg e5;dsimp only at e4 e5 e6 e7;obtain⟨hgo,hy⟩:=(It.run _ H2 h2 T2 S2 hc i).2 x hx;refine .inr ⟨hgo,λτ5 H5=>∃(ob5:List Addr)(h5:MH)(vs:List V)(as bs:List D),Ch ρ1 H1 ⟨ob5,l::ρ1.rs⟩ H5/\(∀b∈ρ1.rs,H5 b=H1 b)/\bS X.K ⟨ob5,l::ρ1.rs⟩ H5 τ5 δ3/\bh X.K ⟨ob5,l::ρ1.rs⟩ h5 H5/\
     H5 l=some (.lst vs)/\ah X.K ⟨ob5,l::ρ1.rs⟩ H5 vs as/\out=as++bs/\c7 ws g mt ma r δ3 h5=some (bs,h0),?_,?_⟩
    ·rintro τ5 H5 ⟨ob5,h5,vs5,as5,bs5,T5,rs5,R5,S5,hl5,l5,eo5,e5⟩;exact⟨xs.length-(i+1),by lia,ob5,δ3,h5,vs5,as5,bs5,rfl,hlt,T5,rs5,R5,S5,hl5,l5,eo5,by rw[hr];exact e5⟩
    ·intro v H3 y3;obtain⟨T3,S3,r3⟩:=hy v H3 y3;refine⟨⟨ob2,l::ρ1.rs⟩,δ2,h2,x,δ3,h3,R2.mono T3,S3,r3,e4,λρ4 H4 τ4 T4 S4 R4=>?_⟩;refine⟨ρ4,δ3,h3,t,h4,R4,S4,e6,λρ5 H5 T5 S5=>?_⟩;have T25:bX ⟨ob2,l::ρ1.rs⟩ H2 ρ5 H5:=T3.trans (T4.trans T5);obtain⟨ob5,rs5⟩:=ρ5;have ers:rs5=l::ρ1.rs:=T25.rs;subst ers;cases t with
     | false=>
      rw[HS (by simp)] at e7;refine GI ?_;exact⟨ob5,h4,vs,as,bs,T2.trans T25.toCh,λb hb=>(T25.res b (hsub b hb)).trans (rs2 b hb),R4.mono T5,S5,(T25.res l HY).trans hl2,l2.mono T25.toCh,eo,e7⟩
     | true=>
      rw[HQ rfl] at e7;refine GH ?_;obtain⟨⟨y,h6⟩,e8,e9⟩:=bg e7;obtain⟨⟨zs,h7⟩,e10,e11⟩:=dY e9;cases e11;refine⟨⟨ob5,l::ρ1.rs⟩,δ3,h4,y,h6,R4.mono T5,S5,e8,λu H6 ⟨ρ6,T6,S6,r6⟩=>?_⟩;have T26:bX ⟨ob2,l::ρ1.rs⟩ H2 ρ6 H6:=T25.trans T6;obtain⟨ob6,rs6⟩:=ρ6;have ers:rs6=l::ρ1.rs:=T26.rs;subst ers;have hl6:H6 l=some (.lst vs):=(T26.res l HY).trans hl2;have hml:l∈(⟨ob6,l::ρ1.rs⟩:Ad).rs:=HY;have hlen:vs.length < sizeLine:=by
       have h1:=l2.length;have h2:=congrArg List.length eo;rw[HL,HP] at h2
       lia
      have Cp:Ch ⟨ob6,l::ρ1.rs⟩ H6 ⟨ob6,l::ρ1.rs⟩ (upd H6 l (.lst (vs++[u]))):=Ch.put hml;refine⟨vs,hl6,hlen,ob6,h6,vs++[u],as++[y],zs,(T2.trans T26.toCh).trans Cp,λb hb=>?_,((R4.mono T5.toCh).mono T6.toCh).mono Cp,S6.put hml,ax,((l2.mono T26.toCh).snoc r6).mono Cp,by rw[eo];simp,e10⟩;rw[ao (λ(z:b=l)=>nl (.inr (z ▸ hb)))];exact(T26.res b (hsub b hb)).trans (rs2 b hb)
   ·rw[HS hc] at e3;cases e3
 ·rw[HS hz] at e3;cases e3
end
end Sm
namespace Sm
open PySem L2 PySem.Spec PyProof.Rows
section
variable {X:Cx} {a b c e tg iter elt:Expr} {es:List Expr} {pos:Pos} {ma mb:EM} {mt:TM} {ms mu:SM} {m:AM} {g:GM} {gs:xP}
theorem iU(C:bp X N' caps scope)(hc:X.calm=true)(hi:SI X tg iter mi)(hg:∀C s₃ H₃ fp pl,SG (je X N' scope C s₃ H₃ fp pl) tg g)(hif:∀C s₃ H₃ fp pl,GZ (je X N' scope C s₃ H₃ fp pl) ifs mt)(he:∀C s₃ H₃ fp pl,SE (je X N' scope C s₃ H₃ fp pl) elt ma)(hs:∀x,foldedSetIterable iter X.env x=pure x:=by intro _;ac_nf):
  SE X (.ListComp elt [⟨tg,iter,ifs,0⟩] scope pos) (iM (cE caps mi g mt ma)):=(vZ (g:=DW X.K g) (tc:=AI X.K mt) (te:=tM X.K ma) C hc hi hg hif he hs).imp λ_ _ _=>sy
theorem og(hN:X.N.Nodup)(hi':X.N[i]?=some y)(hy:X.env.scope.names.lookup y=some .local)(C:bp X N' caps scope)(hc:X.calm=true)(hi:SI X tg iter mi)(hg:∀C s₃ H₃ fp pl,SG (je X N' scope C s₃ H₃ fp pl) tg g)(hif:∀C s₃ H₃ fp pl,GZ (je X N' scope C s₃ H₃ fp pl) ifs mt)(he:∀C s₃ H₃ fp pl,SE (je X N' scope C s₃ H₃ fp pl) elt ma)(hsw:swapsWith (.ListComp elt [⟨tg,iter,ifs,0⟩] scope pos) (some (.Name y py)) spos.line X.env=pure true:=by ac_nf)(hs:∀x,foldedSetIterable iter X.env x=pure x:=by intro _;ac_nf):
  SS X (.Assign [.Name y py] (.ListComp elt [⟨tg,iter,ifs,0⟩] scope pos) spos) (bu i (iM (cE caps mi g mt ma))):=
 (vS (g:=DW X.K g) (tc:=AI X.K mt) (te:=tM X.K ma) hN hi' hy C hc hi hg hif he hsw hs).imp λE σ H hh=>by
  have q:=vE hh;exact sy q
end
inductive Fz(K:FR)(n:Nat)(F:Fn)(vs:List V)(H:Hp)(Q:VK):Prop where
 | mk (ρ h ds d h'):bh K ρ h H->ah K ρ H vs ds->(ds.length=n)->(F ds h=some (d,h'))->(∀v H',cF K ρ H h' d v H'->Q v H')->Fz K n F vs H Q
def gn(K:FR)(n:Nat)(F:Fn):Sp:=λvs H Q _=>Fz K n F vs H Q
theorem yi(G:bx X.prog X.w X.K X.mg X.base eW k f fd ps (gn X.K n F))(hr:df k X.A)(hg:Gl X x)(hm:X.mg x=some (.ref f))(hk:PySem.W.keepIn X.K (.ref f)=true)(hb:Binds X.K fd ps [])
  (ha:SA X (e::es) m) (hl:iL m n) (hdb:(x==("__debug__":Str))=false:=by ac_nf) (he:starEach (e::es) X.env=(false,eval e X.env)::starEach es X.env:=by ac_nf) (hpl:(backTo pos (starEach es X.env)).any (·.1)=false:=by ac_nf):
  SE X (.Call (.Name x p) (e::es) [] pos) (az F m):=(yX (E:=E0) G hr hg hm hk hb .nil Eu ha hdb he hpl).imp λσ H Q ⟨ρ,δ,h,d,h',R,S,e,q⟩=>by
 obtain⟨⟨ds,h1⟩,e1,e2⟩:=bg e;refine⟨ρ,δ,h,ds,h1,R,S,e1,λvs ρ1 H1 T1 S1 r1=>?_⟩;show gn X.K n F (vs++[]) H1 Q E0;rw[Jh];exact⟨ρ1,h1,ds,d,h',S1,r1,hl _ _ _ _ e1,e2,λv H' P=>q v H' (P.step T1)⟩
noncomputable def yn(r:Fl×DS×MH):Option (D×MH):=match r.1 with
 | .rt d=>some (d,r.2.2)
 | .nx=>some (.ck,r.2.2)
 | _=>none
noncomputable def entry(len:Nat)(ds:List D):DS:=ds.map some++List.replicate (len-ds.length) none
noncomputable def mJ(len:Nat)(body:SM):Fn:=λds h=>(body (entry len ds) h).bind yn
theorem bS.entry{K:FR}{ρ:Ad}{H:Hp}{vs:List V}{ds:List D}(N:List Str)(l:ah K ρ H vs ds):bS K ρ H (L2.start N vs) (Sm.entry N.length ds):=by
 refine⟨by simp[L2.start,Sm.entry,l.length],λi d hd=>?_⟩;unfold Sm.entry at hd;unfold L2.start
 by_cases hi:i < ds.length
 ·rw[HU (by simpa using hi),Io] at hd;obtain⟨d',e1,e2⟩:=dY hd;cases e2;obtain⟨v,ev,r⟩:=l.got e1;refine⟨v,?_,r⟩;rw[HU (by rw[HH,l.length];exact hi),Io,ev];rfl
 ·rw[Ik (by simpa using hi),Lw] at hd
  split at hd <;> cases hd
section
variable {P:Program} {w:World} {K:FR} {mg:Str->Option Value} {base:Heap} {x qual:Str} {st:Stmt} {f:Addr} {fd:FuncData} {N ps:List Str} {k:Nat}
theorem CG(F:gj K x qual st f fd)(Sc:au N ps (ag st))(hb:∀(cdv:Value)(A:Around)(outer:List Env)(s:Shared)(H:Hp)(E:XK),df k (A.deeper (envOfC qual (ag st) s.heap.objs.size f cdv))->xO (qq eW P w K mg base N qual (ag st) f cdv A outer s H E).Dw (eC st) body):
  bx P w K mg base eW (k+1) f fd ps (gn K ps.length (mJ N.length body)):=by
 refine F.ok Sc (λvs H Q E h=>?_) (λcdv A outer s H vs Q E hr h=>?_)
 ·obtain⟨ρ,h,ds,d,h',S,r,hl,_⟩:=h;rw[r.length];exact hl
 ·obtain⟨ρ,h,ds,d,h',S,r,hl,e,q⟩:=h;refine⟨_,hb cdv A outer s H E hr,?_⟩;obtain⟨⟨fl,δ1,h1⟩,e1,e2⟩:=bg e;refine⟨ρ,entry N.length ds,h,fl,δ1,h1,bS.entry N r,S,e1,λρ1 H1 T1 S1=>?_⟩;cases fl with
  | nx=>cases e2;exactλσ' R'=>q _ _ ⟨ρ1,T1,S1,.ck⟩
  | rt d=>cases e2;exactλv r=>q _ _ ⟨ρ1,T1,S1,r⟩
  | bk=>cases e2
  | ct=>cases e2
end
mutual
noncomputable def fY(n:Nat):D->Bool
 | .tup xs=>dA n xs
 | .lv xs=>dA n xs
 | .ro xs=>dA n xs
 | .dv kvs=>zG n kvs
 | .ob m=>decide (m < n)
 | _=>true
noncomputable def dA(n:Nat):List D->Bool
 | []=>true
 | x::r=>fY n x&&dA n r
noncomputable def zG(n:Nat):List (Key×D)->Bool
 | []=>true
 |(_,x)::r=>fY n x&&zG n r
end
noncomputable def ph(n:Nat):MO->Bool
 | .lst xs=>dA n xs
 | .dct kvs=>zG n kvs
 | .dcH kvs=>dA n (kvs.map (·.1))&&dA n (kvs.map (·.2))
abbrev Ad.cut(ρ:Ad)(n:Nat):Ad:=⟨ρ.ob.take n,ρ.rs⟩
theorem Ad.ja{ρ:Ad}{n:Nat}{a:Addr}(h:(ρ.cut n).has a):ρ.has a:=h.elim (λm=>.inl (KA m)) .inr
mutual
theorem Rep.cut{K:FR}{ρ:Ad}{H:Hp}{n:Nat}{v:V}{d:D}(r:Rep K ρ H v d)(c:fY n d=true):Rep K (ρ.cut n) H v d:=by
 cases r with
 | ck=>exact .ck
 | bl b=>exact .bl b
 | int i=>exact .int i
 | str x=>exact .str x
 | ty n=>exact .ty n
 | tup h l=>exact .tup (h.elim (λ⟨a,n⟩=>.inl ⟨a,λm=>n (Ad.ja m)⟩) .inr) (ah.cut l c)
 | lv h n l=>exact .lv h (λm=>n (Ad.ja m)) (ah.cut l c)
 | ro h l=>exact .ro (h.elim (λ⟨a,n⟩=>.inl ⟨a,λm=>n (Ad.ja m)⟩) .inr) (ah.cut l c)
 | dv h n l=>exact .dv h (λm=>n (Ad.ja m)) (aI.cut l c)
 | ob e=>exact .ob ((Iq (IZ c)).trans e)
theorem ah.cut{K:FR}{ρ:Ad}{H:Hp}{n:Nat}{v:List V}{d:List D}(r:ah K ρ H v d)(c:dA n d=true):ah K (ρ.cut n) H v d:=by
 cases r with
 | nil=>exact .nil
 | cons r l=>have c:=Ig.mp c;exact .cons (Rep.cut r c.1) (ah.cut l c.2)
theorem aI.cut{K:FR}{ρ:Ad}{H:Hp}{n:Nat}{v:List (Key×V)}{d:List (Key×D)}(r:aI K ρ H v d)(c:zG n d=true):aI K (ρ.cut n) H v d:=by
 cases r with
 | nil=>exact .nil
 | cons r l=>have c:=Ig.mp c;exact .cons (Rep.cut r c.1) (aI.cut l c.2)
end
mutual
theorem Rep.clean{K:FR}{ρ:Ad}{H:Hp}{v:V}{d:D}(r:Rep K ρ H v d):fY ρ.ob.length d=true:=by
 cases r with
 | tup h l=>exact ah.clean l
 | lv h n l=>exact ah.clean l
 | ro h l=>exact ah.clean l
 | dv h n l=>exact aI.clean l
 | ob e=>exact IE (HJ.mp e).1
 | _=>rfl
theorem ah.clean{K:FR}{ρ:Ad}{H:Hp}{v:List V}{d:List D}(r:ah K ρ H v d):dA ρ.ob.length d=true:=by
 cases r with
 | nil=>rfl
 | cons r l=>exact Ig.mpr ⟨Rep.clean r,ah.clean l⟩
theorem aI.clean{K:FR}{ρ:Ad}{H:Hp}{v:List (Key×V)}{d:List (Key×D)}(r:aI K ρ H v d):zG ρ.ob.length d=true:=by
 cases r with
 | nil=>rfl
 | cons r l=>exact Ig.mpr ⟨Rep.clean r,aI.clean l⟩
end
theorem qE.cut{K:FR}{ρ:Ad}{H:Hp}{n:Nat}{a:Addr}{o:MO}(x:qE K ρ H a o)(c:ph n o=true):qE K (ρ.cut n) H a o:=by
 cases o with
 | lst ds=>obtain⟨vs,e,l⟩:=x;exact⟨vs,e,l.cut c⟩
 | dct ds=>obtain⟨vs,e,l⟩:=x;exact⟨vs,e,l.cut c⟩
 | dcH ds=>obtain⟨us,ps,e,l,l2,p⟩:=x;have c:=Ig.mp c;exact⟨us,ps,e,l.cut c.1,l2.cut c.2,p⟩
theorem qE.clean{K:FR}{ρ:Ad}{H:Hp}{a:Addr}{o:MO}(x:qE K ρ H a o):ph ρ.ob.length o=true:=by
 cases o with
 | lst ds=>obtain⟨vs,e,l⟩:=x;exact l.clean
 | dct ds=>obtain⟨vs,e,l⟩:=x;exact l.clean
 | dcH ds=>obtain⟨us,ps,e,l,l2,p⟩:=x;exact Ig.mpr ⟨l.clean,l2.clean⟩
noncomputable def mh(n:Nat)(h:MH)(d:D):D:=match d with
 | .ob m=>if m < n then .ob m else match h[m]? with
  | some (.lst xs)=>.lv xs
  | some (.dct kvs)=>.dv kvs
  | _=>.ob m
 | d=>d
noncomputable def leave(h:MH)(d:D)(h':MH):Option (D×MH):=
 if fY h.length (mh h.length h' d)&&(pE (h'.take h.length) h||(h'.take h.length).all (ph h.length)) then some (mh h.length h' d,h'.take h.length) else none
noncomputable def xK(len:Nat)(body:SM):Fn:=λds h=>((body (entry len ds) h).bind yn).bind λp=>leave h p.1 p.2
theorem cF.leave{K:FR}{ρ:Ad}{H H':Hp}{h h1 h':MH}{d d':D}{v:V}(S:bh K ρ h H)(p:cF K ρ H h1 d v H')(e:Sm.leave h d h1=some (d',h')):cF K ρ H h' d' v H':=by
 obtain⟨ρ1,T,S1,r⟩:=p;unfold Sm.leave at e
 by_cases hc:(fY h.length (mh h.length h1 d)&&(pE (h1.take h.length) h||(h1.take h.length).all (ph h.length)))=true
 ·rw[HQ hc] at e;cases e;rw[Ii] at hc;obtain⟨c1,c2⟩:=hc;have hle:h.length<=h1.length:=by
   rw[<-S.len,<-S1.len];refine Nat.le_of_not_lt λhlt=>?_;have e1:ρ.ob[ρ1.ob.length]?=some ρ.ob[ρ1.ob.length]:=Iz hlt;have:=(HJ.mp (T.pre _ _ e1)).1
   lia
  have hall:∀(m:Nat) o,m < h.length->h1[m]?=some o->ph h.length o=true:=by
   intro m o hm ho;rw[Jx] at c2;rcases c2 with c2 | c2
   ·have e1:=tG c2;have e2:h[m]?=some o:=by rw[<-e1,Iq hm];exact ho
    have hm':m < ρ.ob.length:=by rw[S.len];exact hm
    have:=(S.at_ m _ o (Iz hm') e2).clean;rw[S.len] at this;exact this
   ·rw[JH] at c2;exact c2 o (HM (show(h1.take h.length)[m]?=some o by rw[Iq hm];exact ho))
  have Sc:bh K (ρ1.cut h.length) (h1.take h.length) H':=by
   refine⟨by simp[S1.len],S1.nd.sublist (L8 _ _),λn a o e1 e2=>?_,λb hb=>⟨(S1.mZ b hb).1,λm=>(S1.mZ b hb).2 (KA m)⟩⟩;have hn:n < h.length:=by
    have:=(HJ.mp e2).1;rw[Ih] at this
    lia
   have e1:(ρ1.ob.take h.length)[n]?=some a:=e1;rw[Iq hn] at e1 e2;exact(S1.at_ n a o e1 e2).cut (hall n o hn e2)
  refine⟨ρ1.cut h.length,⟨⟨λn a e=>?_,λb o n e=>?_⟩,T.rs,T.res⟩,Sc,?_⟩
  ·have hn:n < h.length:=by rw[<-S.len];exact(HJ.mp e).1
   show(ρ1.ob.take h.length)[n]?=some a;rw[Iq hn];exact T.pre n a e
  ·obtain⟨n1,e1⟩:=T.old b o n e;exact⟨λm=>n1 (Ad.ja m),e1⟩
  ·cases d with
   | ob m=>
    unfold mh at c1 ⊢;dsimp only at c1 ⊢
    by_cases hm:m < h.length
    ·rw[HQ hm] at c1 ⊢;exact r.cut c1
    ·rw[HS hm] at c1 ⊢;cases r with
     | ob hn=>
      rename_i a;have na:¬(ρ1.cut h.length).has a:=by
       intro z;rcases z with z | z
       ·obtain⟨j,hj⟩:=List.getElem?_of_mem z;have hj1:j < h.length:=by
         have:=(HJ.mp hj).1;rw[Ih] at this
         lia
        rw[Iq hj1] at hj;have:=(Ma (HJ.mp hj).1 S1.nd).mp (hj.trans hn.symm)
        lia
       ·exact(S1.mZ a z).2 (HM hn)
      cases q:h1[m]? with
      | none=>rw[q] at c1;exact absurd c1 (by simp[fY];lia)
      | some o=>
       have x:=S1.at_ m a o hn q;cases o with
       | lst xs=>
        rw[q] at c1;obtain⟨vs,e1,l⟩:=x;exact .lv e1 na (l.cut (by simpa [fY] using c1))
       | dct xs=>
        rw[q] at c1;obtain⟨vs,e1,l⟩:=x;exact .dv e1 na (l.cut (by simpa [fY] using c1))
       | dcH xs=>rw[q] at c1;exact absurd c1 (by simp[fY];lia)
   | _=>exact r.cut c1
 ·rw[HS hc] at e;cases e
section
variable {P:Program} {w:World} {K:FR} {mg:Str->Option Value} {base:Heap} {x qual:Str} {st:Stmt} {f:Addr} {fd:FuncData} {N ps:List Str} {k:Nat}
theorem c6(G:bx P w K mg base eW k f fd ps (gn K ps.length (mJ N.length body))):bx P w K mg base eW k f fd ps (gn K ps.length (xK N.length body)):=by
 refine G.imp λvs H Q E hh=>?_;obtain⟨ρ,h,ds,d,h',S,r,hl,e,q⟩:=hh;obtain⟨⟨d1,h1⟩,e1,e2⟩:=bg e;exact⟨ρ,h,ds,d1,h1,S,r,hl,e1,λv H' p=>q v H' (p.leave S e2)⟩
end
def spT(K:FR):Sp:=λvs H Q _=>∃(a:Addr)(ns:List Int),vs=[.ref a]/\fu K H a (ns.map V.int)/\ns.length<=63/\∀H',Q (.bl true) H'
theorem zg{P:Program}{w:World}{K:FR}{mg:Str->Option Value}{base:Heap}{k:Nat}{f:Addr}{fd:FuncData}{ps:List Str}{F:Fn}(G:bx P w K mg base eW k f fd ps (gn K 1 F))
  (hF:∀ns:List Int,ns.length<=63->∃h',F [.ro (ns.map D.int)] []=some (.bl true,h')):bx P w K mg base eW k f fd ps (spT K):=by
 refine G.imp λvs H Q E hh=>?_;obtain⟨a,ns,rfl,ha,hl,q⟩:=hh;obtain⟨h',e⟩:=hF ns hl;refine⟨⟨[],[]⟩,[],[.ro (ns.map D.int)],.bl true,h',⟨rfl,List.nodup_nil,λn a o e=>by simp at e,λb hb=>absurd hb (by simp)⟩,.cons (.ro ?_ (jv ns)) .nil,rfl,e,λv H' ⟨ρ',T,S,r⟩=>?_⟩
 ·rcases ha with ha | ha
  ·exact .inl ⟨ha,λz=>z.elim (λz=>absurd z (by simp)) λz=>absurd z (by simp)⟩
  ·exact .inr (.inr ha)
 ·cases r;exact q H'
noncomputable def z8(h:MH)(d:D):Option PyData:=match d with
 | .ob n=>match h[n]? with
  | some (.lst xs)=>(nj xs).map .list
  | _=>none
 | d=>sC d
mutual
theorem Rep.mD{K:FR}{ρ:Ad}{H:Hp}{v:V}{d:D}{p:PyData}(r:Rep K ρ H v d)(e:sC d=some p):tK K H v p/\p.canLay0=true:=by
 cases r with
 | ck=>cases e;exact⟨.ck,rfl⟩
 | bl b=>cases e;exact⟨.bl b,rfl⟩
 | int i=>cases e;exact⟨.int i,rfl⟩
 | str hs=>cases e;exact⟨.str _,by simpa [PyData.canLay0] using hs⟩
 | tup h l=>obtain⟨q,e1,rfl⟩:=dY e;obtain⟨a,b⟩:=ah.mD l e1;exact⟨.tup h.sq a,by simpa [PyData.canLay0] using b⟩
 | lv h n l=>obtain⟨q,e1,rfl⟩:=dY e;obtain⟨a,b⟩:=ah.mD l e1;exact⟨.lst (fu.of h) a,by simpa [PyData.canLay0] using b⟩
 | ro h l=>obtain⟨q,e1,rfl⟩:=dY e;obtain⟨a,b⟩:=ah.mD l e1;exact⟨.lst h.sq a,by simpa [PyData.canLay0] using b⟩
 | _=>exact bN e
theorem ah.mD{K:FR}{ρ:Ad}{H:Hp}{v:List V}{d:List D}{p:List PyData}(r:ah K ρ H v d)(e:nj d=some p):lY K H v p/\PyData.canLayAll0 p=true:=by
 cases r with
 | nil=>cases e;exact⟨.nil,rfl⟩
 | cons r l=>
  obtain⟨a,e1,e2⟩:=bg e;obtain⟨b,e3,rfl⟩:=dY e2;obtain⟨a1,a2⟩:=Rep.mD r e1;obtain⟨b1,b2⟩:=ah.mD l e3;exact⟨.cons a1 b1,by simp[PyData.canLayAll0,a2,b2]⟩
end
section
variable {K:FR} {ρ:Ad} {H:Hp} {h:MH} {v:V} {d:D}
theorem oB(S:bh K ρ h H)(r:Rep K ρ H v d)(e:z8 h d=some p):tK K H v p/\p.canLay0=true:=by
 cases r with
 | @ob a n hn=>
  unfold z8 at e;dsimp only at e;cases q:h[n]? with
  | none=>rw[q] at e;cases e
  | some o=>
   rw[q] at e;cases o with
   | dct _=>exact bN e
   | dcH _=>exact bN e
   | lst xs=>
    obtain⟨vs,e1,l⟩:=S.at_ n a _ hn q;obtain⟨b,e3,e4⟩:=dY e;subst e4;obtain⟨b1,b2⟩:=l.mD e3;exact⟨.lst (fu.of e1) b1,by simpa [PyData.canLay0] using b2⟩
 | ck=>exact Rep.mD (Rep.ck (ρ:=ρ)) e
 | bl b=>exact Rep.mD (Rep.bl (ρ:=ρ) b) e
 | int i=>exact Rep.mD (Rep.int (ρ:=ρ) i) e
 | str x=>exact Rep.mD (Rep.str (ρ:=ρ) x) e
 | ty n=>exact Rep.mD (Rep.ty (ρ:=ρ) n) e
 | tup h l=>exact Rep.mD (.tup h l) e
 | lv h n l=>exact Rep.mD (.lv h n l) e
 | ro h l=>exact Rep.mD (.ro h l) e
 | dv h n l=>exact Rep.mD (.dv h n l) e
noncomputable def cZ(d:D)(h:MH):Option (List D):=match d with
 | .lv xs=>some xs
 | .ob n=>match h[n]? with
  | some (.lst xs)=>some xs
  | _=>none
 | _=>none
theorem eu(S:bh K ρ h H)(r:Rep K ρ H v d)(e:cZ d h=some xs):∃a vs,v=.ref a/\H a=some (.lst vs)/\ah K ρ H vs xs:=by
 cases r with
 | @ob a n hn=>
  unfold cZ at e;dsimp only at e;cases q:h[n]? with
  | none=>rw[q] at e;cases e
  | some o=>
   rw[q] at e;cases o with
   | dct _=>exact bN e
   | dcH _=>exact bN e
   | lst ys=>
    cases e;obtain⟨vs,e1,l⟩:=S.at_ n a _ hn q;exact⟨a,vs,rfl,e1,l⟩
 | lv h n l=>cases e;exact⟨_,_,rfl,h,l⟩
 | _=>exact bN e
noncomputable def de(d:D)(h:MH):Option (List (Key×D)):=match d with
 | .dv kvs=>some kvs
 | .ob n=>match h[n]? with
  | some (.dct kvs)=>some kvs
  | _=>none
 | _=>none
theorem fX(S:bh K ρ h H)(r:Rep K ρ H v d)(e:de d h=some xs):∃a vs,v=.ref a/\H a=some (.dK vs)/\aI K ρ H vs xs:=by
 cases r with
 | @ob a n hn=>
  unfold de at e;dsimp only at e;cases q:h[n]? with
  | none=>rw[q] at e;cases e
  | some o=>
   rw[q] at e;cases o with
   | lst _=>exact bN e
   | dcH _=>exact bN e
   | dct ys=>
    cases e;obtain⟨vs,e1,l⟩:=S.at_ n a _ hn q;exact⟨a,vs,rfl,e1,l⟩
 | dv h n l=>cases e;exact⟨_,_,rfl,h,l⟩
 | _=>exact bN e
theorem iS(S:bh K ρ h H)(r:Rep K ρ H v d)(e:bM d h=some (xs,ws)):∃a vs,v=.ref a/\(fu K H a vs\/g8 K H a vs)/\ah K ρ H vs xs:=by
 obtain⟨a,e1,⟨vs,q,l⟩,_⟩:=fD S r e;refine⟨a,vs,e1,?_,l⟩;generalize i4 d=b at q;cases q with
 | l q=>exact .inl q
 | t q=>exact .inr q
noncomputable def oS:D->Option Key
 | .int i=>some (.inl i)
 | .str x=>some (.inr x)
 | _=>none
noncomputable def j4(kvs:List (Key×D))(k:Key):Option D:=(kvs.find? λkv=>decide (kv.1=k)).map (·.2)
noncomputable def putD(kvs:List (Key×D))(k:Key)(v:D):List (Key×D):=
 if(kvs.any λkv=>decide (kv.1=k))=true then kvs.map (λkv=>if kv.1=k then(kv.1,v) else kv) else kvs++[(k,v)]
theorem gX(r:Rep K ρ H v d)(e:oS d=some k):v=kV k:=by
 cases r with
 | int i=>cases e;rfl
 | str x=>cases e;rfl
 | _=>exact bN e
theorem aI.val:∀{us:List (Key×V)} {kvs:List (Key×D)} (k:Key),aI K ρ H us kvs->(j4 kvs k=none/\gh us k=none)\/∃d v,j4 kvs k=some d/\gh us k=some v/\Rep K ρ H v d
 | _,_,k,.nil=>.inl ⟨rfl,rfl⟩
 | _,_,k,.cons (k:=j) (v:=v) (vs:=vs) (d:=d) (ds:=ds) r l=>by
  by_cases z:j=k
  ·exact .inr ⟨d,v,by simp[j4,z],by simp[gh,z],r⟩
  ·have h1:j4 ((j,d)::ds) k=j4 ds k:=by simp only[j4,Jo,z,decide_false]
   have h2:gh ((j,v)::vs) k=gh vs k:=iN z;rw[h1,h2];exact aI.val k l
theorem aI.length:∀{us:List (Key×V)} {kvs:List (Key×D)},aI K ρ H us kvs->us.length=kvs.length
 | _,_,.nil=>rfl
 | _,_,.cons _ l=>by rw[HP,HP,aI.length l]
theorem aI.any(k:Key):∀{us:List (Key×V)} {kvs:List (Key×D)},aI K ρ H us kvs->(us.any λkv=>decide (kv.1=k))=(kvs.any λkv=>decide (kv.1=k))
 | _,_,.nil=>rfl
 | _,_,.cons _ l=>by rw[Jy,Jy,aI.any k l]
theorem aI.map(r:Rep K ρ H v d):∀{us:List (Key×V)} {kvs:List (Key×D)},aI K ρ H us kvs->aI K ρ H (us.map λkv=>if kv.1=k then(kv.1,v) else kv) (kvs.map λkv=>if kv.1=k then(kv.1,d) else kv)
 | _,_,.nil=>.nil
 | _,_,.cons (k:=j) q l=>by
  rw[HX,HX]
  by_cases z:j=k
  ·rw[HQ z,HQ z];exact .cons r (aI.map r l)
  ·rw[HS z,HS z];exact .cons q (aI.map r l)
theorem aI.append:∀{us vs:List (Key×V)} {ks ls:List (Key×D)},aI K ρ H us ks->aI K ρ H vs ls->aI K ρ H (us++vs) (ks++ls)
 | _,_,_,_,.nil,t=>t
 | _,_,_,_,.cons r l,t=>.cons r (aI.append l t)
theorem aI.put(l:aI K ρ H us kvs)(r:Rep K ρ H v d):aI K ρ H (putK us k v) (putD kvs k d):=by
 unfold putK putD;rw[l.any k]
 by_cases z:(kvs.any λkv=>decide (kv.1=k))=true
 ·rw[HQ z,HQ z];exact l.map r
 ·rw[HS z,HS z];exact l.append (.cons r .nil)
end
noncomputable def oZ(d e:D)(h:MH):Option (D×MH):=match d,e with
 | .int i,.int j=>some (.int (i+j),h)
 | .str a,.str b=>if a.length+b.length<=sizeLine then some (.str (a++b),h) else none
 | .tup [],.tup _=>none
 | .tup (x::xs),.tup ys=>if xs.length+1+ys.length<=sizeLine then some (.tup (x::xs++ys),h) else none
 | d,e=>(cZ d h).bind λxs=>(cZ e h).bind λys=>if xs.length+ys.length<=sizeLine then some (.lv (xs++ys),h) else none
noncomputable def zq(d e:D)(h:MH):Option (D×MH):=match d,e with
 | .int i,.int j=>some (.int (i-j),h)
 | _,_=>none
noncomputable def i0(i j:Int):Bool:=(decide (-(2^64) < i)&&decide (i < 2^64))||(decide (-(2^64) < j)&&decide (j < 2^64))
noncomputable def CJ(d e:D)(h:MH):Option (D×MH):=match d,e with
 | .int i,.int j=>if i0 i j then some (.int (i*j),h) else none
 | _,_=>none
noncomputable def mN(d e:D)(h:MH):Option (D×MH):=match d,e with
 | .int i,.int j=>if 0 < j then some (.int (i % j),h) else none
 | _,_=>none
noncomputable def wZ(d e:D)(h:MH):Option (D×MH):=match d,e with
 | .int i,.int j=>if 0 < j/\j<=10^40 then some (.int (i / j),h) else none
 | _,_=>none
noncomputable def zr(d e:D)(h:MH):Option (D×MH):=match d,e with
 | .int i,.int j=>if 0<=j/\j<=1000000/\i.natAbs < 2^64 then some (.int (i^j.toNat),h) else none
 | _,_=>none
noncomputable def zE(f:Int->Int->Bool)(d e:D)(h:MH):Option (D×MH):=match d,e with
 | .int i,.int j=>some (.bl (f i j),h)
 | _,_=>none
noncomputable def Dz:=zE λi j=>decide (i < j)
noncomputable def wX:=zE λi j=>decide (j < i)
noncomputable def Ha:=zE λi j=>decide (j<=i)
noncomputable def GN(d e:D)(h:MH):Option Bool:=(z8 h d).bind λa=>(z8 h e).bind λb=>if a.depth<=64/\b.depth<=64 then some (PyData.eqv a b) else none
noncomputable def kI(d:D)(h:MH):Option (D×MH):=match d with
 | .int i=>some (.int (-i),h)
 | _=>none
noncomputable def inD(d e:D)(h:MH):Option Bool:=match de e h with
 | some kvs=>(oS d).map λk=>(j4 kvs k).isSome
 | none=>match d,e with
  | .str x,.str y=>some (!(Builtin.Str.occurrences y x 0 y.length 1).isEmpty)
  | d,e=>(bM e h).bind λp=>(z8 h d).bind λa=>(nj p.1).bind λbs=>if a.depth<=60/\PyData.depthAll bs<=60 then some (bs.any λb=>PyData.eqv b a) else none
noncomputable def DA(d e:D)(h:MH):Option (D×MH):=(inD d e h).map λc=>(.bl c,h)
noncomputable def bt(d e:D)(h:MH):Option (D×MH):=match de d h with
 | some kvs=>(oS e).bind λk=>(j4 kvs k).map λz=>(z,h)
 | none=>match d,e with
  | .str z,.int i=>if z.length<=sizeLine then(gb z.cps.toList i).map λc=>(.str ⟨#[c]⟩,h) else none
  | d,.int i=>(bM d h).bind λp=>(gb p.1 i).map λz=>(z,h)
  | _,_=>none
theorem gx{K:FR}{ρ:Ad}{H:Hp}{x:V}{i:Int}(r:Rep K ρ H x (.int i)):x=.int i:=by cases r;rfl
theorem qS{K:FR}{ρ:Ad}{H:Hp}{x:V}{i:Str}(r:Rep K ρ H x (.str i)):x=.str i/\PyData.strOk i=true:=by cases r with | str h=>exact⟨rfl,h⟩
theorem vC{K:FR}{ρ:Ad}{H:Hp}{x:V}{ds:List D}(r:Rep K ρ H x (.tup ds)):∃a vs,x=.ref a/\TupAt K ρ H a vs/\ah K ρ H vs ds:=by cases r with | tup h l=>exact⟨_,_,rfl,h,l⟩
theorem oH(ho:lZ X g (rI C q))(hf:∀d e h z h',f d e h=some (z,h')->∃i j,d=.int i/\e=.int j/\C i j/\h'=h/\∀ρ H,Rep X.K ρ H (q i j) z):l8 X g f:=by
 intro pins s σ H x y v u Q I rx ry hh;obtain⟨ρ,h,d,e,z,h',S,rd,re,ee,k⟩:=hh;obtain⟨i,j,rfl,rfl,c,rfl,rz⟩:=hf _ _ _ _ _ ee;obtain rfl:=gx rd;obtain rfl:=gx re;exact ho pins s σ H _ _ v u Q I rx ry ⟨i,j,rfl,rfl,c,k _ _ (.here S (rz _ _))⟩
theorem kr(ho:lZ X g (Aa q))(hf:∀d e h z h',f d e h=some (z,h')->∃i j,d=.int i/\e=.int j/\h'=h/\∀ρ H,Rep X.K ρ H (q i j) z):l8 X g f:=by
 intro pins s σ H x y v u Q I rx ry hh;obtain⟨ρ,h,d,e,z,h',S,rd,re,ee,k⟩:=hh;obtain⟨i,j,rfl,rfl,rfl,rz⟩:=hf _ _ _ _ _ ee;obtain rfl:=gx rd;obtain rfl:=gx re;exact ho pins s σ H _ _ v u Q I rx ry ⟨i,j,rfl,rfl,k _ _ (.here S (rz _ _))⟩
theorem BU:l8 X (binaryOp .Sub) zq:=kr BZ λd e h z h' ee=>by
 cases d <;> first |(exact bN ee) | skip
 cases e <;> first |(exact bN ee) | skip
 cases ee;exact⟨_,_,rfl,rfl,rfl,λ_ _=>.int _⟩
theorem BV:l8 X (binaryOp .Mult) CJ:=oH Cc λd e h z h' ee=>by
 cases d <;> first |(exact bN ee) | skip
 cases e <;> first |(exact bN ee) | skip
 rename_i i j;unfold CJ at ee;dsimp only at ee
 by_cases c:i0 i j=true
 ·rw[HQ c] at ee;cases ee;refine⟨i,j,rfl,rfl,?_,rfl,λ_ _=>.int _⟩;unfold i0 at c;simp only[Jx,Ii,JA] at c;exact c
 ·rw[HS c] at ee;cases ee
theorem oG:l8 X (binaryOp .Mod) mN:=oH Cd λd e h z h' ee=>by
 cases d <;> first |(exact bN ee) | skip
 cases e <;> first |(exact bN ee) | skip
 rename_i i j;unfold mN at ee;dsimp only at ee
 by_cases c:0 < j
 ·rw[HQ c] at ee;cases ee;exact⟨i,j,rfl,rfl,c,rfl,λ_ _=>.int _⟩
 ·rw[HS c] at ee;cases ee
theorem BX:l8 X (binaryOp .FloorDiv) wZ:=oH wo λd e h z h' ee=>by
 cases d <;> first |(exact bN ee) | skip
 cases e <;> first |(exact bN ee) | skip
 rename_i i j;unfold wZ at ee;dsimp only at ee
 by_cases c:0 < j/\j<=10^40
 ·rw[HQ c] at ee;cases ee;exact⟨i,j,rfl,rfl,c,rfl,λ_ _=>.int _⟩
 ·rw[HS c] at ee;cases ee
theorem wk:l8 X (binaryOp .Pow) zr:=oH Ca λd e h z h' ee=>by
 cases d <;> first |(exact bN ee) | skip
 cases e <;> first |(exact bN ee) | skip
 rename_i i j;unfold zr at ee;dsimp only at ee
 by_cases c:0<=j/\j<=1000000/\i.natAbs < 2^64
 ·rw[HQ c] at ee;cases ee;exact⟨i,j,rfl,rfl,c,rfl,λ_ _=>.int _⟩
 ·rw[HS c] at ee;cases ee
theorem xl(ee:zE f d e h=some (z,h')):∃i j,d=.int i/\e=.int j/\h'=h/\z=.bl (f i j):=by
 cases d <;> first |(exact bN ee) | skip
 cases e <;> first |(exact bN ee) | skip
 cases ee;exact⟨_,_,rfl,rfl,rfl,rfl⟩
theorem Ew:l8 X (compareOp .Lt) Dz:=kr EA λd e h z h' ee=>by
 obtain⟨i,j,rfl,rfl,rfl,rfl⟩:=xl ee;exact⟨i,j,rfl,rfl,rfl,λ_ _=>.bl _⟩
theorem Ey:l8 X (compareOp .Gt) wX:=kr EB λd e h z h' ee=>by
 obtain⟨i,j,rfl,rfl,rfl,rfl⟩:=xl ee;exact⟨i,j,rfl,rfl,rfl,λ_ _=>.bl _⟩
theorem Af:l8 X (compareOp .GtE) Ha:=kr EC λd e h z h' ee=>by
 obtain⟨i,j,rfl,rfl,rfl,rfl⟩:=xl ee;exact⟨i,j,rfl,rfl,rfl,λ_ _=>.bl _⟩
theorem qF:Fj X (unaryOp .USub) (rU X.K kI):=by
 intro pins s σ H x v Q I rx hh;obtain⟨ρ,h,d,z,h',S,rd,ee,k⟩:=hh;cases rd <;> first |(exact bN ee) | skip
 cases ee;exact AD pins s σ H _ v Q I rx ⟨_,rfl,k _ _ (.here S (.int _))⟩
noncomputable def CY(d e:D)(h:MH):Option (D×MH):=(cZ d h).bind λxs=>(cZ e h).bind λys=>if xs.length+ys.length<=sizeLine then some (D.lv (xs++ys),h) else none
def FJ(d e:D)(h:MH)(p:D×MH):Prop:=(∃i j,d=.int i/\e=.int j)\/(∃a b,d=.str a/\e=.str b)\/(∃x xs ys,d=.tup (x::xs)/\e=.tup ys)\/CY d e h=some p
theorem pI{d e:D}{h:MH}{p:D×MH}(z:CY d e h=some p):FJ d e h p:=.inr (.inr (.inr z))
theorem w5{d e:D}{h:MH}{p:D×MH}(ee:oZ d e h=some p):FJ d e h p:=by
 cases d with
 | int i=>cases e with
  | int j=>exact .inl ⟨i,j,rfl,rfl⟩
  | _=>exact pI ee
 | str a=>cases e with
  | str b=>exact .inr (.inl ⟨a,b,rfl,rfl⟩)
  | _=>exact pI ee
 | tup xs=>cases e with
  | tup ys=>cases xs with
   | nil=>exact bN ee
   | cons x xs=>exact .inr (.inr (.inl ⟨x,xs,ys,rfl,rfl⟩))
  | _=>cases xs <;> exact pI ee
 | _=>exact pI ee
theorem BY:l8 X (binaryOp .Add) oZ:=by
 intro pins s σ H x y v u Q I rx ry hh;obtain⟨ρ,h,d,e,z,h',S,rd,re,ee,k⟩:=hh;have lists:((cZ d h).bind λxs=>(cZ e h).bind λys=>if xs.length+ys.length<=sizeLine then some (D.lv (xs++ys),h) else none)=some (z,h')->wpAny (model X.prog X.w) X.A (binaryOp .Add v u) (EP X pins σ Q) X.xe s:=by
  intro ee;obtain⟨xs,e1,e4⟩:=bg ee;obtain⟨ys,e2,e3⟩:=bg e4
  by_cases c:xs.length+ys.length<=sizeLine
  ·rw[HQ c] at e3;cases e3;obtain⟨a,vs,rfl,ha,la⟩:=eu S rd e1;obtain⟨b,us,rfl,hb,lb⟩:=eu S re e2;exact wt pins s σ H _ _ v u Q I rx ry ⟨a,b,vs,us,rfl,rfl,ha,hb,by rw[la.length,lb.length];exact c,λp hp=>k _ _ (.lv S (la.append lb) hp)⟩
  ·rw[HS c] at e3;cases e3
 rcases(w5 ee:(∃i j,d=.int i/\e=.int j)\/(∃a b,d=.str a/\e=.str b)\/(∃x xs ys,d=.tup (x::xs)/\e=.tup ys)\/CY d e h=some (z,h')) with⟨i,j,rfl,rfl⟩ |⟨a,b,rfl,rfl⟩ |⟨x0,xs,ys,rfl,rfl⟩ | z
 ·cases ee;obtain rfl:=gx rd;obtain rfl:=gx re;exact Ce pins s σ H _ _ v u Q I rx ry ⟨_,_,rfl,rfl,k _ _ (.here S (.int _))⟩
 ·unfold oZ at ee;dsimp only at ee
  by_cases c:a.length+b.length<=sizeLine
  ·rw[HQ c] at ee;cases ee;obtain⟨rfl,h1⟩:=qS rd;obtain⟨rfl,h2⟩:=qS re;exact q0 pins s σ H _ _ v u Q I rx ry ⟨a,b,rfl,rfl,c,k _ _ (.here S (.str (dw h1 h2)))⟩
  ·rw[HS c] at ee;cases ee
 ·unfold oZ at ee;dsimp only at ee
  by_cases c:xs.length+1+ys.length<=sizeLine
  ·rw[HQ c] at ee;cases ee;obtain⟨a,vs,rfl,h1,l1⟩:=vC rd;obtain⟨b,us,rfl,h2,l2⟩:=vC re;refine y7 pins s σ H _ _ v u Q I rx ry ⟨a,b,vs,us,rfl,rfl,h1.sq,h2.sq,?_,?_,λz=>?_,λ_ p hp=>k _ _ (.tup S (l1.append l2) hp)⟩
   ·intro z;rw[z] at l1;cases l1
   ·rw[l1.length,l2.length];exact c
   ·rw[z] at l2;cases l2;rw[Jh] at k;exact k _ _ (.here S (.tup h1 l1))
  ·rw[HS c] at ee;cases ee
 ·exact lists z
theorem g0(h1:p.canLay0=true)(h2:p.depth<=64):SeqAt.shaped p=true:=by
 unfold PySem.SeqAt.shaped;rw[h1,IE h2];rfl
theorem nX{us:List Value}{ds:List PyData}{as:List Addr}(H:ReadsAll h us ds as)(hf:∀u d as,u∈us->Reads h u d as->d∈ds->f u=PyData.eqv d p):us.any f=ds.any λb=>PyData.eqv b p:=by
 cases H with
 | nil=>rfl
 | cons r l=>rw[Jy,Jy,hf _ _ _ HY r HY,nX l λu d as hu hr hd=>hf u d as (Ib _ hu) hr (Ib _ hd)]
open Classical in
noncomputable def Ak(h:Heap)(p:PyData)(u:Value):Bool:=if q:∃d as,Reads h u d as/\d.canLay0=true then PyData.eqv q.choose p else false
theorem w9(r:Reads h u d as)(c:d.canLay0=true):Ak h p u=PyData.eqv d p:=by
 have q:∃d as,Reads h u d as/\d.canLay0=true:=⟨d,as,r,c⟩;unfold Ak;rw[dif_pos q];obtain⟨as',r',c'⟩:=q.choose_spec;rw[PySem.SeqAt.Reads.unique _ _ _ _ _ c' r' r]
theorem fZ:∀{ds:List PyData} {d:PyData},PyData.canLayAll0 ds=true->d∈ds->d.canLay0=true
 | x::r,d,c,m=>by
  simp only[PyData.canLayAll0,Ii] at c;rcases HR.mp m with rfl | m
  ·exact c.1
  ·exact fZ c.2 m
theorem nM:∀{ds:List PyData} {d:PyData},d∈ds->d.depth<=PyData.depthAll ds
 | x::r,d,m=>by
  simp only[PyData.depthAll];rcases HR.mp m with rfl | m
  ·lia
  ·have:=nM m;lia
theorem ni{us:List Value}{ds:List PyData}{as:List Addr}(H:ReadsAll h us ds as)(y:Value)(hy:y∈us):∃d as,Reads h y d as/\d∈ds:=by
 cases H with
 | nil=>cases hy
 | cons r l=>
  rcases HR.mp hy with rfl | hy
  ·exact⟨_,_,r,HY⟩
  ·obtain⟨d,as,a1,a2⟩:=ni l y hy;exact⟨d,as,a1,Ib _ a2⟩
theorem in_of(hu:X.A.units+64 < cLine)(I:L2.Inv X pins σ H s)(rx:L2.RelV x v)(ry:L2.RelV y u)(S:bh X.K ρ h H)(rd:Rep X.K ρ H x d)(re:Rep X.K ρ H y e){c:Bool}(ee:inD d e h=some c){Q:Bool->Shared->Prop}(hq:∀s',L2.Inv X pins σ H s'->Q c s'):
  wpAny (model X.prog X.w) X.A (compareOp .In v u) (λr s'=>∃c,r=.bool c/\Q c s') X.xe s/\wpAny (model X.prog X.w) X.A (compareOp .NotIn v u) (λr s'=>∃c,r=.bool (!c)/\Q c s') X.xe s:=by
 unfold inD at ee;cases qd:de e h with
 | some kvs=>
  rw[qd] at ee;obtain⟨k,e1,e2⟩:=dY ee;obtain⟨a,us,rfl,ha,l⟩:=fX S re qd;obtain rfl:u=Value.ref a:=ry;have ek:=gX rd e1;subst ek;have g:jm H a (kV k) (gh us k):=jm.k ha;have ec:(gh us k).isSome=c:=by
   rw[<-e2];rcases l.val k with⟨h1,h2⟩ |⟨d,v,h1,h2,_⟩
   ·rw[h1,h2];rfl
   ·rw[h1,h2];rfl
  refine⟨GQ (by lia) I g rx λs' I'=>⟨c,by rw[ec],hq s' I'⟩,zA (by lia) I g rx λs' I'=>⟨c,by rw[ec],hq s' I'⟩⟩
 | none=>
  rw[qd] at ee;dsimp only at ee;have seqs:((bM e h).bind λp=>(z8 h d).bind λa=>(nj p.1).bind λbs=>if a.depth<=60/\PyData.depthAll bs<=60 then some (bs.any λb=>PyData.eqv b a) else none)=some c->
    wpAny (model X.prog X.w) X.A (compareOp .In v u) (λr s'=>∃c,r=.bool c/\Q c s') X.xe s/\wpAny (model X.prog X.w) X.A (compareOp .NotIn v u) (λr s'=>∃c,r=.bool (!c)/\Q c s') X.xe s:=by
   intro ee;obtain⟨⟨xs,ws⟩,e1,e2⟩:=bg ee;obtain⟨p,e3,e4⟩:=bg e2;obtain⟨bs,e5,e6⟩:=bg e4
   by_cases w:p.depth<=60/\PyData.depthAll bs<=60
   ·rw[HQ w] at e6;cases e6;obtain⟨a,vs,rfl,hq',l⟩:=iS S re e1;obtain rfl:u=Value.ref a:=ry;obtain⟨r1,c1⟩:=oB S rd e3;obtain⟨r2,c2⟩:=l.mD e5;obtain⟨as,ra⟩:=r1.reads I rx;have key:∀its:List Value,Vals vs its->(∀y,y∈its->PySem.SeqAt.EqAt X.A.in1 s y v (Ak s.heap p y))/\its.any (Ak s.heap p)=bs.any λb=>PyData.eqv b p:=by
     intro its rv;obtain⟨bs',rb⟩:=r2.reads I rv;refine⟨λy hy=>?_,nX rb λu d as _ hr hd=>w9 hr (fZ c2 hd)⟩;obtain⟨d,as',hr,hd⟩:=ni rb y hy;rw[w9 hr (fZ c2 hd)];refine LA d p _ s y v as' as hr ra (fZ c2 hd) c1 ?_;have h1:=nM hd;have h2:min d.depth p.depth<=d.depth:=K5 _ _;show X.A.units+1+min d.depth p.depth < cLine;have h3:=w.2
     lia
    rcases hq' with hq' | hq'
    ·obtain⟨its,rv,pl,_⟩:=I.list hq';obtain⟨k1,k2⟩:=key its rv;have k1':∀y,y∈its.toArray->PySem.SeqAt.EqAt X.A.in1 s y v (Ak s.heap p y):=λy hy=>k1 y (by simpa using hy);have k2':its.toArray.any (Ak s.heap p)=bs.any λb=>PyData.eqv b p:=by rw[<-k2];simp
     exact⟨PySem.SeqAt.in_listAt _ pl.isList k1' ⟨_,rfl,by rw[k2'];exact hq s I⟩,PySem.SeqAt.notIn_listAt _ pl.isList k1' ⟨_,rfl,by rw[k2'];exact hq s I⟩⟩
    ·obtain⟨its,rv,pl,_⟩:=I.tuple hq';obtain⟨k1,k2⟩:=key its rv;have k1':∀y,y∈its.toArray->PySem.SeqAt.EqAt X.A.in1 s y v (Ak s.heap p y):=λy hy=>k1 y (by simpa using hy);have k2':its.toArray.any (Ak s.heap p)=bs.any λb=>PyData.eqv b p:=by rw[<-k2];simp
     exact⟨PySem.SeqAt.in_tupleAt _ pl k1' ⟨_,rfl,by rw[k2'];exact hq s I⟩,PySem.SeqAt.notIn_tupleAt _ pl k1' ⟨_,rfl,by rw[k2'];exact hq s I⟩⟩
   ·rw[HS w] at e6;cases e6
  split at ee
  ·cases ee;cases rd;cases re;obtain⟨t,rfl⟩:=rx;obtain⟨t',rfl⟩:=ry;exact⟨in_str ⟨_,rfl,hq s I⟩,notIn_str ⟨_,rfl,hq s I⟩⟩
  ·exact seqs ee
theorem Ex(hu:X.A.units+64 < cLine):l8 X (compareOp .In) DA:=by
 intro pins s σ H x y v u Q I rx ry hh;obtain⟨ρ,h,d,e,z,h',S,rd,re,ee,k⟩:=hh;obtain⟨c,e1,e2⟩:=dY ee;cases e2;refine bT (in_of hu I rx ry S rd re e1 (Q:=λc' s'=>c'=c/\L2.Inv X pins σ H s') λs' I'=>⟨rfl,I'⟩).1 λr s' ⟨c',hr,hc,I'⟩=>?_;subst hr;subst hc;exact⟨.bl _,H,I',rfl,k _ _ (.here S (.bl _))⟩
theorem zM{K:FR}{ρ:Ad}{H:Hp}{vs:List V}{ds:List D}{i:Int}{d:D}(l:ah K ρ H vs ds)(e:gb ds i=some d):∃v,gb vs i=some v/\Rep K ρ H v d:=by
 unfold gb at e;obtain⟨j,e1,e2⟩:=bg e;obtain⟨v,e3,r⟩:=l.got e2;exact⟨v,by unfold gb;rw[l.length,e1];exact e3,r⟩
theorem uu{d e z:D}{h h':MH}(ee:bt d e h=some (z,h')):h'=h/\((∃kvs k,de d h=some kvs/\oS e=some k/\j4 kvs k=some z)\/(∃x i c,d=.str x/\e=.int i/\x.length<=sizeLine/\gb x.cps.toList i=some c/\z=.str ⟨#[c]⟩)\/∃i xs ws,e=.int i/\bM d h=some (xs,ws)/\gb xs i=some z):=by
 unfold bt at ee
 split at ee
 ·obtain⟨ky,e1,e2⟩:=bg ee;obtain⟨z',e3,e4⟩:=dY e2;cases e4;exact⟨rfl,.inl ⟨_,ky,‹_›,e1,e3⟩⟩
 ·split at ee
  ·split at ee
   ·obtain⟨c,e3,e4⟩:=dY ee;cases e4;exact⟨rfl,.inr (.inl ⟨_,_,c,rfl,rfl,‹_›,e3,rfl⟩)⟩
   ·cases ee
  ·obtain⟨⟨xs,ws⟩,e1,e2⟩:=bg ee;obtain⟨z',e3,e4⟩:=dY e2;cases e4;exact⟨rfl,.inr (.inr ⟨_,xs,ws,rfl,e1,e3⟩)⟩
  ·cases ee
theorem EK(hu:X.A.units+64 < cLine):FE X (rS X.K bt):=by
 intro value slice pins s σ H x y v u Q I rx ry hh hs;obtain⟨ρ,h,d,e,z,h',S,rd,re,ee,k⟩:=hh;obtain⟨rfl,hc⟩:=uu ee;rcases hc with⟨kvs,ky,qd,e1,e3⟩ |⟨x0,i,ch,rfl,rfl,c,e3,rfl⟩ |⟨i,xs,ws,rfl,e1,e3⟩
 ·obtain⟨a,us,rfl,ha,l⟩:=fX S rd qd;obtain rfl:v=Value.ref a:=rx;have ek:=gX re e1;subst ek;rcases l.val ky with⟨h1,h2⟩ |⟨d',w,h1,h2,r⟩
  ·rw[h1] at e3;cases e3
  ·rw[h1] at e3;cases e3;have g:jm H a (kV ky) (some w):=by rw[<-h2];exact jm.k ha
   exact tail_any (qm I g) Li.lookup (uA (by lia) I g ry λw' s3 I3 rw'=>⟨w,H,I3,rw',k _ _ (.here S r)⟩) hs
 ·obtain⟨rfl,hs0⟩:=qS rd;obtain rfl:=gx re;exact Cz value slice pins s σ H _ _ v u Q I rx ry ⟨x0,i,ch,rfl,rfl,c,e3,k _ _ (.here S (.str (tT hs0 e3)))⟩ hs
 ·obtain⟨a,vs,rfl,hq',l⟩:=iS S rd e1;obtain⟨w,e5,r⟩:=zM l e3;obtain rfl:=gx re;rcases hq' with hq' | hq'
  ·exact zj value slice pins s σ H _ _ v u Q I rx ry ⟨a,vs,i,w,rfl,rfl,hq',e5,k _ _ (.here S r)⟩ hs
  ·exact Cy value slice pins s σ H _ _ v u Q I rx ry ⟨a,vs,i,w,rfl,rfl,hq',e5,k _ _ (.here S r)⟩ hs
theorem D4(hu:X.A.units+64 < cLine)(ha:SE X a ma)(hb:SE X b mb)(hs:jl b:=by unfold jl;intro _ _;ac_nf):SE X (.Subscript a b pos) (ai bt ma mb):=(Er (EK hu) ha hb hs).imp λ_ _ _=>sx
abbrev PM:=DS->MH->Option (Option Int×MH)
noncomputable def BR:PM:=λ_ h=>some (none,h)
noncomputable def BS(e:EM):PM:=λδ h=>(e δ h).bind λp=>match p.1 with
 | .int i=>some (some i,p.2)
 | _=>none
inductive Fs(K:FR)(m:PM)(σ:L2.St)(H:Hp)(Q:Option Int->Hp->Prop):Prop where
 | mk (ρ δ h b h'):bS K ρ H σ δ->bh K ρ h H->(m δ h=some (b,h'))->(∀ρ' H',bX ρ H ρ' H'->bh K ρ' h' H'->Q b H')->Fs K m σ H Q
noncomputable def Hv(K:FR)(m:PM):TO:=λσ H Q=>Fs K m σ H Q
def SP'(X:Cx)(e:Option Expr)(m:PM):Prop:=PO X e (Hv X.K m)
theorem sj:SP' X none BR:=λpins s σ H Q I hh=>by
 obtain⟨ρ,δ,h,b,h',R,S,e,k⟩:=hh;cases e;exact yM pins s σ H Q I (k ρ H (.refl _ _) S)
theorem si(he:SE X e ma):SP' X (some e) (BS ma):=λpins s σ H Q I hh=>by
 obtain⟨ρ,δ,h,b,h',R,S,e,k⟩:=hh;obtain⟨⟨x,h1⟩,e1,e2⟩:=bg e;cases x <;> first |(cases e2;done) | skip
 cases e2;refine yL he pins s σ H Q I ⟨ρ,δ,h,_,_,R,S,e1,λv H' ⟨ρ',T,S',r⟩=>?_⟩;cases r;exact⟨_,rfl,k ρ' H' T S'⟩
noncomputable def cutD(xs:List D)(lo hi:Option Int):List D:=(xs.drop (HT.bP xs.length 0 lo)).take (HT.bP xs.length xs.length hi-HT.bP xs.length 0 lo)
noncomputable def EV(d:D)(lo hi:Option Int)(h:MH):Option (D×MH):=match d with
 | .str z=>if z.length<=sizeLine then some (.str (Txt.slice z lo hi),h) else none
 | .tup xs=>if HT.bP xs.length 0 lo=0/\HT.bP xs.length xs.length hi=xs.length then none else some (.tup (cutD xs lo hi),h)
 | d=>(bM d h).map λp=>(.lv (cutD p.1 lo hi),h)
inductive FA(K:FR)(x:V)(lo hi:Option Int)(H:Hp)(Q:VK):Prop where
 | mk (ρ h d z h'):bh K ρ h H->Rep K ρ H x d->(EV d lo hi h=some (z,h'))->(∀v H',cF K ρ H h' z v H'->Q v H')->FA K x lo hi H Q
def HA(K:FR):V->Option Int->Option Int->Hp->VK->Prop:=λx lo hi H Q=>FA K x lo hi H Q
theorem ah.lK{K:FR}{ρ:Ad}{H:Hp}{vs:List V}{ds:List D}(l:ah K ρ H vs ds)(lo hi:Option Int):ah K ρ H (L2.lK vs lo hi) (cutD ds lo hi):=by
 unfold L2.lK cutD;rw[l.length];exact(l.drop _).take _
theorem zY:Dj X (HA X.K):=by
 intro pins s σ H x v vl vu lo hi sl Q I rx hs pl pu hh;obtain⟨ρ,h,d,z,h',S,rd,ee,k⟩:=hh;have lists:i4 d=true->((bM d h).map λp=>(D.lv (cutD p.1 lo hi),h))=some (z,h')->∃T id,typeLookup (.type T) "__getitem__"=pure (some (.builtin id))/\s.TypeIs v T/\wpAny (model X.prog X.w) X.A (getItem v (.ref sl)) (EP X pins σ Q) X.xe s:=by
  intro nt e2;obtain⟨⟨xs,ws⟩,e1,e2⟩:=dY e2;cases e2;obtain⟨a,rfl,⟨vs,q,l⟩,_⟩:=fD S rd e1;rw[nt] at q;cases q with
  | l q=>exact x4 pins s σ H _ v vl vu lo hi sl Q I rx hs pl pu ⟨a,vs,rfl,q,λp hp=>k _ _ (.lv S (l.lK lo hi) hp)⟩
 cases d with
 | str x0=>
  unfold EV at ee;dsimp only at ee
  by_cases c:x0.length<=sizeLine
  ·rw[HQ c] at ee;cases ee;cases rd with | str hs0=>
   exact AO pins s σ H _ v vl vu lo hi sl Q I rx hs pl pu ⟨x0,rfl,c,k _ _ (.here S (.str (pO _ _ hs0)))⟩
  ·rw[HS c] at ee;cases ee
 | tup xs=>
  unfold EV at ee;dsimp only at ee
  by_cases c:HT.bP xs.length 0 lo=0/\HT.bP xs.length xs.length hi=xs.length
  ·rw[HQ c] at ee;cases ee
  ·rw[HS c] at ee;cases ee;cases rd with | tup h0 l0=>
   exact AN pins s σ H _ v vl vu lo hi sl Q I rx hs pl pu ⟨_,_,rfl,h0.sq,by rw[l0.length];exact c,λp hp=>k _ _ (.tup S (l0.lK lo hi) hp)⟩
 | _=>exact lists rfl ee
theorem vz{x:Str}{id:String}{p pos:Pos}{e:Expr}{es:List Expr}{f:Fn}{m:AM}(hc:fx X (.builtin id) f)(hg:Gl X x)(hm:X.mg x=none)(hv:bootBuiltins x=some (.builtin id))(ha:SA X (e::es) m)(hn:x≠"__name__":=by decide)(hdb:(x==("__debug__":Str))=false:=by ac_nf)
  (he:starEach (e::es) X.env=(false,eval e X.env)::starEach es X.env:=by ac_nf) (hpl:(backTo pos (starEach es X.env)).any (·.1)=false:=by ac_nf):SE X (.Call (.Name x p) (e::es) [] pos) (az f m):=
 (wg hc hg hm hv ha hn hdb he hpl).imp λσ H Q ⟨ρ,δ,h,d,h',R,S,e,k⟩=>by
  obtain⟨⟨ds,h1⟩,e1,e2⟩:=bg e;exact⟨ρ,δ,h,ds,h1,R,S,e1,λvs ρ1 H1 T1 S1 r1=>⟨ρ1,h1,ds,d,h',S1,r1,e2,λv H' P=>k v H' (P.step T1)⟩⟩
theorem vy{x:Str}{id:String}{p pos:Pos}{e:Expr}{es:List Expr}{f:Fn}{m:AM}(hc:fx X (.type id) f)(hg:Gl X x)(hm:X.mg x=none)(hv:bootBuiltins x=some (.type id))(ha:SA X (e::es) m)(hn:x≠"__name__":=by decide)(hdb:(x==("__debug__":Str))=false:=by ac_nf)
  (he:starEach (e::es) X.env=(false,eval e X.env)::starEach es X.env:=by ac_nf) (hpl:(backTo pos (starEach es X.env)).any (·.1)=false:=by ac_nf):SE X (.Call (.Name x p) (e::es) [] pos) (az f m):=
 (nr hc hg hm hv ha hn hdb he hpl).imp λσ H Q ⟨ρ,δ,h,d,h',R,S,e,k⟩=>by
  obtain⟨⟨ds,h1⟩,e1,e2⟩:=bg e;exact⟨ρ,δ,h,ds,h1,R,S,e1,λvs ρ1 H1 T1 S1 r1=>⟨ρ1,h1,ds,d,h',S1,r1,e2,λv H' P=>k v H' (P.step T1)⟩⟩
noncomputable def gJ:Fn:=λds h=>match ds with
 | [.str z]=>if z.length<=sizeLine then some (.int z.length,h) else none
 | [d]=>match de d h with
  | some kvs=>some (.int kvs.length,h)
  | none=>(bM d h).map λp=>(.int p.1.length,h)
 | _=>none
noncomputable def zv:Fn:=λds h=>match ds with
 | [.int i]=>some (.int (if i < 0 then -i else i),h)
 | _=>none
noncomputable def FL(d:D)(h:MH):Option String:=match d with
 | .ck=>some "NoneType"
 | .bl _=>some "bool"
 | .int _=>some "int"
 | .str _=>some "str"
 | .tup _=>some "tuple"
 | .lv _=>some "list"
 | .dv _=>some "dict"
 | .ob n=>match h[n]? with
  | some (.lst _)=>some "list"
  | some (.dct _)=>some "dict"
  | _=>none
 | _=>none
noncomputable def sd(t n:String):Bool:=t==n||(t=="bool"&&n=="int")
noncomputable def zu:Fn:=λds h=>match ds with
 | [d,.ty n]=>if n∈["int","str","bool","tuple","list","dict"] then(FL d h).map λt=>(.bl (sd t n),h) else none
 | _=>none
noncomputable def dQ:Fn:=λds h=>match ds with
 | [d]=>(bM d h).map λp=>(.tup p.1,h)
 | _=>none
theorem rep1{K:FR}{ρ:Ad}{H:Hp}{vs:List V}{d:D}(l:ah K ρ H vs [d]):∃v,vs=[v]/\Rep K ρ H v d:=by
 cases l with
 | cons r l=>cases l;exact⟨_,rfl,r⟩
theorem rep2{K:FR}{ρ:Ad}{H:Hp}{vs:List V}{d e:D}(l:ah K ρ H vs [d,e]):∃v u,vs=[v,u]/\Rep K ρ H v d/\Rep K ρ H u e:=by
 cases l with
 | cons r l=>cases l with
  | cons r' l=>cases l;exact⟨_,_,rfl,r,r'⟩
theorem CO:fx X (.builtin "len") gJ:=by
 intro pins s σ H xs us Q I r hh;obtain⟨ρ,h,ds,z,h',S,l,ee,k⟩:=hh
 match ds,l,ee with
 | [],_,ee=>cases ee
 | _::_::_,_,ee=>exact absurd ee (by unfold gJ;split <;> simp_all)
 | [d],l,ee=>
  obtain⟨v,rfl,rd⟩:=rep1 l;have oth:(match de d h with | some kvs=>some (D.int kvs.length,h) | none=>(bM d h).map λp=>(D.int p.1.length,h))=some (z,h')->wpAny (model X.prog X.w) X.A (call (.builtin "len") us) (EP X pins σ Q) X.xe s:=by
   intro ee;cases q:de d h with
   | some kvs=>
    rw[q] at ee;cases ee;obtain⟨a,ws,rfl,ha,lk⟩:=fX S rd q;refine uE pins s σ H _ us Q I r ⟨a,ws,rfl,ha,k _ _ ?_⟩;rw[lk.length];exact .here S (.int _)
   | none=>
    rw[q] at ee;obtain⟨⟨ys,w⟩,e1,e2⟩:=dY ee;cases e2;obtain⟨a,vs,rfl,hq,l2⟩:=iS S rd e1;refine pB pins s σ H _ us Q I r ⟨a,vs,rfl,hq,k _ _ ?_⟩;rw[l2.length];exact .here S (.int _)
  cases d with
  | str x0=>
   unfold gJ at ee;dsimp only at ee
   by_cases c:x0.length<=sizeLine
   ·rw[HQ c] at ee;cases ee;cases rd;exact pA pins s σ H _ us Q I r ⟨x0,rfl,c,k _ _ (.here S (.int _))⟩
   ·rw[HS c] at ee;cases ee
  | _=>exact oth ee
theorem CS:fx X (.builtin "abs") zv:=by
 intro pins s σ H xs us Q I r hh;obtain⟨ρ,h,ds,z,h',S,l,ee,k⟩:=hh
 match ds,l,ee with
 | [],_,ee=>cases ee
 | d::_::_,_,ee=>cases d <;> exact bN ee
 | [d],l,ee=>
  obtain⟨v,rfl,rd⟩:=rep1 l;cases rd <;> first |(exact bN ee) | skip
  cases ee;exact xq pins s σ H _ us Q I r ⟨_,rfl,k _ _ (.here S (.int _))⟩
theorem qr:fx X (.type "tuple") dQ:=by
 intro pins s σ H xs us Q I r hh;obtain⟨ρ,h,ds,z,h',S,l,ee,k⟩:=hh
 match ds,l,ee with
 | [],_,ee=>cases ee
 | _::_::_,_,ee=>cases ee
 | [d],l,ee=>
  obtain⟨v,rfl,rd⟩:=rep1 l;obtain⟨⟨ys,w⟩,e1,e2⟩:=dY ee;cases e2;obtain⟨a,rfl,⟨vs,q,l2⟩,_⟩:=fD S rd e1;refine mP pins s σ H _ us Q I r ⟨a,vs,rfl,?_⟩;generalize hb:i4 d=b at q;cases q with
  | l q=>exact .inl ⟨q,λp hp=>k _ _ (.tup S l2 hp)⟩
  | t q=>
   refine .inr ⟨q,k _ _ ?_⟩;cases rd <;> first |(cases hb;done) | skip
   cases e1;exact .here S (.tup ‹_› ‹_›)
theorem sO{K:FR}{t n:String}(ht:t∈["NoneType","bool","int","str","tuple","list","dict"])(hn:n∈["int","str","bool","tuple","list","dict"]):PySem.W.kitOne K (.type t) (.type n)=some (sd t n):=by
 simp only[HR,List.mem_nil_iff,K8] at ht hn;rcases ht with rfl | rfl | rfl | rfl | rfl | rfl | rfl <;> rcases hn with rfl | rfl | rfl | rfl | rfl | rfl <;> rfl
theorem rA{ds:List D}{z:D}{h h':MH}(ee:zu ds h=some (z,h')):∃d n t,ds=[d,.ty n]/\n∈["int","str","bool","tuple","list","dict"]/\FL d h=some t/\z=.bl (sd t n)/\h'=h:=by
 unfold zu at ee
 split at ee
 ·split at ee
  ·obtain⟨t,e1,e2⟩:=dY ee;cases e2;exact⟨_,_,t,rfl,‹_›,e1,rfl,rfl⟩
  ·cases ee
 ·cases ee
theorem AF{K:FR}{ρ:Ad}{H:Hp}{h:MH}{v:V}{d:D}{t:String}(S:bh K ρ h H)(rd:Rep K ρ H v d)(e1:FL d h=some t):t∈["NoneType","bool","int","str","tuple","list","dict"]/\(jg K H v (.type t)\/t="tuple"/\∃a vs,v=.ref a/\g8 K H a vs):=by
 cases rd with
 | ck=>cases e1;exact⟨by decide,.inl .ck⟩
 | bl b=>cases e1;exact⟨by decide,.inl (.bl b)⟩
 | int i=>cases e1;exact⟨by decide,.inl (.int i)⟩
 | str h0=>cases e1;exact⟨by decide,.inl (.str _)⟩
 | ty _=>exact bN e1
 | ro _ _=>exact bN e1
 | lv h0 _ _=>cases e1;exact⟨by decide,.inl (.lst h0)⟩
 | dv h0 _ _=>cases e1;exact⟨by decide,.inl (.dK h0)⟩
 | tup h0 l0=>cases e1;exact⟨by decide,.inr ⟨rfl,_,_,rfl,h0.sq⟩⟩
 | @ob a m hm=>
  unfold FL at e1;dsimp only at e1;cases q:h[m]? with
  | none=>rw[q] at e1;cases e1
  | some o=>
   rw[q] at e1;have x:=S.at_ m a o hm q;cases o with
   | lst _=>cases e1;obtain⟨vs,e3,_⟩:=x;exact⟨by decide,.inl (.lst e3)⟩
   | dct _=>cases e1;obtain⟨vs,e3,_⟩:=x;exact⟨by decide,.inl (.dK e3)⟩
   | dcH _=>exact bN e1
theorem CP:fx X (.builtin "isinstance") zu:=by
 intro pins s σ H xs us Q I r hh;obtain⟨ρ,h,ds,z,h',S,l,ee,k⟩:=hh;obtain⟨d,n,t,rfl,hn,e1,rfl,rfl⟩:=rA ee;obtain⟨v,u,rfl,rd,ru⟩:=rep2 l;cases ru;have fin:=k (.bl (sd t n)) H (.here S (.bl _));obtain⟨hm,hty |⟨rfl,a,vs,rfl,hq⟩⟩:=AF S rd e1
 ·exact xp pins s σ H _ us Q I r ⟨v,n,_,_,rfl,hty,sO hm hn,fin⟩
 ·obtain⟨u1,u2,rfl,r1,r2⟩:=Vals.two r;obtain rfl:u1=Value.ref a:=r1;obtain rfl:u2=Value.type n:=r2;obtain⟨its,_,⟨o,h1,h2,_⟩,_⟩:=I.tuple hq;exact IY LX I.oT ⟨o,h1,h2⟩ (sO (t:="tuple") (by decide) hn) (λz=>nomatch z) λtk=>⟨.bl _,H,I.tok tk,rfl,fin⟩
noncomputable def tJ(m:AM):AM:=λδ h=>(m δ h).bind λp=>match p.1 with
 | [d]=>(bM d p.2).map λq=>(q.1,p.2)
 | _=>none
theorem sm(hg:Gl X x)(hm:X.mg x=none)(hv:bootBuiltins x=some (.type "list"))(ha:SA X [e] m)(hl:iL m 1)(hn:x≠"__name__":=by decide)(hdb:(x==("__debug__":Str))=false:=by ac_nf)(he:starEach [e] X.env=(false,eval e X.env)::starEach [] X.env:=by ac_nf)(hpl:(backTo pos (starEach [] X.env)).any (·.1)=false:=by ac_nf):kl X (.Call (.Name x p) [e] [] pos) (tJ m):=
 (nr pv hg hm hv ha hn hdb he hpl).imp λσ H Q ⟨ρ,δ,h,d,h',R,S,e,k⟩=>by
  obtain⟨⟨ds,h1⟩,e1,e2⟩:=bg e;refine⟨ρ,δ,h,ds,h1,R,S,e1,λvs ρ1 H1 T1 S1 r1=>?_⟩
  match ds,hl _ _ _ _ e1,e2,r1 with
  | [d],_,e2,r1=>
   obtain⟨⟨ys,w⟩,e3,e4⟩:=dY e2;cases e4;obtain⟨v,rfl,rd⟩:=rep1 r1;obtain⟨a,ws,rfl,hq,l2⟩:=iS S1 rd e3;exact⟨a,ws,rfl,hq,λl hl=>k ρ1 H1 l ws T1 S1 hl l2⟩
noncomputable def mM(o i v:D)(h:MH):Option MH:=match o with
 | .ob n=>match h[n]? with
  | some (.lst xs)=>match i with
   | .int j=>(qe xs.length j).map λp=>h.set n (.lst (xs.set p v))
   | _=>none
  | some (.dct kvs)=>(oS i).bind λk=>if kvs.length < sizeLine then some (h.set n (.dct (putD kvs k v))) else none
  | _=>none
 | _=>none
noncomputable def oW(o i:EM):GM:=λv δ h=>(o δ h).bind λp=>(i δ p.2).bind λq=>(mM p.1 q.1 v q.2).map λh'=>(δ,h')
inductive Ar(K:FR)(o i v:V)(H:Hp)(Q:Hp->Prop):Prop where
 | mk (ρ h a b c h'):bh K ρ h H->Rep K ρ H o a->Rep K ρ H i b->Rep K ρ H v c->(mM a b c h=some h')->(∀ρ' H',bX ρ H ρ' H'->bh K ρ' h' H'->Q H')->Ar K o i v H Q
def Gu(K:FR):V->V->V->Hp->(Hp->Prop)->Prop:=λo i v H Q=>Ar K o i v H Q
theorem yH(hu:X.A.units+64 < cLine):zP X (Gu X.K):=by
 intro pins s σ H o i v ov iv u Q I ro ri rv hh;obtain⟨ρ,h,a,b,c,h',S,ra,rb,rc,ee,k⟩:=hh;cases ra <;> first |(exact bN ee) | skip
 rename_i a n hn;unfold mM at ee;dsimp only at ee;cases q:h[n]? with
 | none=>rw[q] at ee;cases ee
 | some w=>
  rw[q] at ee;have x:=S.at_ n a w hn q;have ma:=HM hn;cases w with
  | lst xs=>
   dsimp only at ee;cases rb <;> first |(exact bN ee) | skip
   rename_i j;obtain⟨p,e1,e2⟩:=dY ee;cases e2;obtain⟨vs,e3,l⟩:=x;have T:bX ρ H ρ (upd H a (.lst (vs.set p v))):=bX.wrote S ma;exact set_list pins s σ H _ _ v ov iv u Q I ro ri rv ⟨a,vs,j,p,rfl,rfl,e3,by rw[l.length];exact e1,k ρ _ T (S.wrote hn ⟨_,ax,(l.set rc p).mono T.toCh⟩)⟩
  | dct kvs=>
   dsimp only at ee;obtain⟨ky,e1,e2⟩:=bg ee
   by_cases z:kvs.length < sizeLine
   ·rw[HQ z] at e2;cases e2;obtain⟨us,e3,l⟩:=x;have ek:=gX rb e1;subst ek;obtain rfl:ov=Value.ref a:=ro;have T:bX ρ H ρ (upd H a (.dK (putK us ky v))):=bX.wrote S ma;exact uz (by lia) I (zT.k e3 (by rw[l.length];exact z)) ri rv λs' I'=>⟨_,I',k ρ _ T (S.wrote hn ⟨_,ax,(l.put rc).mono T.toCh⟩)⟩
   ·rw[HS z] at e2;cases e2
  | dcH _=>exact bN ee
theorem kP (hu:X.A.units+64 < cLine) (ho:SE X o mo) (hi:SE X i mi) (ha:∀v,assign (.Subscript o i pos) X.env v=(do
   let ov<-holding [v] (eval o X.env);let iv<-holding [v,ov] (eval i X.env)
   standAt pos
   holding [v,ov,iv] (setItem ov iv v)
   release [v,ov,iv] []):=by intro _;ac_nf):SG X (.Subscript o i pos) (oW mo mi):=
 (vX ho hi (yH hu) ha).imp λv σ H Q ⟨ρ,δ,h,d,δ',h',R,S,r,e,k⟩=>by
  obtain⟨⟨x,h1⟩,e1,e2⟩:=bg e;obtain⟨⟨y,h2⟩,e3,e4⟩:=bg e2;obtain⟨h3,e5,e6⟩:=dY e4;cases e6;exact⟨ρ,δ,h,x,h1,R,S,e1,λov H1 ⟨ρ1,T1,S1,r1⟩=>⟨ρ1,δ,h1,y,h2,R.mono T1,S1,e3,λiv H2 ⟨ρ2,T2,S2,r2⟩=>
   ⟨ρ2,h2,x,y,d,_,S2,r1.mono T2,r2,r.mono (T1.trans T2).toCh,e5,λρ3 H3 T3 S3=>k ρ3 H3 σ (T1.trans (T2.trans T3)) S3 (R.mono (T1.trans (T2.trans T3)).toCh)⟩⟩⟩
abbrev zR:=D->List D->MH->Option (D×MH)
inductive Hh(K:FR)(f:zR)(x:V)(vs:List V)(H:Hp)(Q:VK):Prop where
 | mk (ρ h d ds z h'):bh K ρ h H->Rep K ρ H x d->ah K ρ H vs ds->(f d ds h=some (z,h'))->(∀v H',cF K ρ H h' z v H'->Q v H')->Hh K f x vs H Q
def rM(K:FR)(f:zR):V->List V->Hp->VK->Prop:=λx vs H Q=>Hh K f x vs H Q
noncomputable def eM(isT:D->MH->Bool)(f:zR)(o:EM)(m:AM):EM:=λδ h=>(o δ h).bind λp=>if isT p.1 p.2 then(m δ p.2).bind λq=>f p.1 q.1 q.2 else none
noncomputable def bW(d:D)(h:MH):Bool:=(cZ d h).isSome
noncomputable def wK(d:D)(h:MH):Bool:=(de d h).isSome
noncomputable def bL:zR:=λd ds h=>match d,ds with
 | .ob n,[y]=>match h[n]? with
  | some (.lst xs)=>if xs.length < sizeLine then some (.ck,h.set n (.lst (xs++[y]))) else none
  | _=>none
 | _,_=>none
noncomputable def gW:zR:=λd ds h=>match d,ds with
 | .ob n,[y]=>match h[n]? with
  | some (.lst xs)=>(cZ y h).bind λzs=>if xs.length+zs.length<=sizeLine then some (.ck,h.set n (.lst (xs++zs))) else none
  | _=>none
 | _,_=>none
theorem fA{K:FR}{ρ:Ad}{H:Hp}{h:MH}{v:V}{d:D}(S:bh K ρ h H)(r:Rep K ρ H v d)(e:bW d h=true):Du K "list" v H:=by
 obtain⟨xs,e1⟩:=Kn.mp e;obtain⟨a,vs,rfl,ha,_⟩:=eu S r e1;exact .inl ⟨rfl,vs,fu.of ha⟩
theorem AE{K:FR}{ρ:Ad}{H:Hp}{h:MH}{v:V}{d:D}(S:bh K ρ h H)(r:Rep K ρ H v d)(e:wK d h=true):Du K "dict" v H:=by
 obtain⟨xs,e1⟩:=Kn.mp e;obtain⟨a,vs,rfl,ha,_⟩:=fX S r e1;exact .inr (.inr (.inl ⟨rfl,.inl ⟨vs,ha⟩⟩))
theorem fE{T id:String}{name:Str}{o e:Expr}{es:List Expr}{apos cpos:Pos}{f:zR}{mo:EM}{m:AM}{isT:D->MH->Bool}(hT:∀{K:FR} {ρ:Ad} {H:Hp} {h:MH} {v:V} {d:D},bh K ρ h H->Rep K ρ H v d->isT d h=true->Du K T v H)
  (pa:PlainAttrs T) (slot:Slot T name id) (hty:typeOf (.builtin id)=pure (.type "method_descriptor")) (hm:Dq X id (rM X.K f)) (ho:SE X o mo) (ha:SA X (e::es) m)
  (hbase:attributeBase o name X.env (eval o X.env)=eval o X.env:=by ac_nf)
  (hfew:((backTo cpos (starEach (e::es) X.env)).all (λx=>!x.1)&&(backToKw cpos (keywordEach [] X.env)).all (λx=>x.1.isSome)
   &&decide ((e::es).length+([]:List Keyword).length+(if([]:List Keyword).isEmpty then 0 else 1) < 30))=true:=by ac_nf)
  (hline:(apos.endLine==cpos.line)=true:=by ac_nf) (hs:starEach (e::es) X.env=(false,eval e X.env)::starEach es X.env:=by ac_nf) (hplain:(backTo cpos (starEach es X.env)).any (·.1)=false:=by ac_nf):
  SE X (.Call (.Attribute o name apos) (e::es) [] cpos) (eM isT f mo m):=(Es pa slot hty hm ho ha hbase hfew hline hs hplain).imp λσ H Q ⟨ρ,δ,h,d,h',R,S,e,k⟩=>by
 obtain⟨⟨x,h1⟩,e1,e2⟩:=bg e;dsimp only at e2
 by_cases c:isT x h1=true
 ·rw[HQ c] at e2;obtain⟨⟨ds,h2⟩,e3,e4⟩:=bg e2;exact⟨ρ,δ,h,x,h1,R,S,e1,λv H1 ⟨ρ1,T1,S1,r1⟩=>⟨hT S1 r1 c,ρ1,δ,h1,ds,h2,R.mono T1,S1,e3,λvs ρ2 H2 T2 S2 r2=>⟨ρ2,h2,x,ds,d,h',S2,r1.mono T2,r2,e4,λw H3 p=>k w H3 (p.step (T1.trans T2))⟩⟩⟩
 ·rw[HS c] at e2;cases e2
theorem wu{K:FR}{ρ:Ad}{H:Hp}{h:MH}{n:Nat}{xs:List D}{v:V}(S:bh K ρ h H)(r:Rep K ρ H v (.ob n))(q:h[n]?=some (.lst xs)):∃a vs,v=.ref a/\ρ.ob[n]?=some a/\H a=some (.lst vs)/\ah K ρ H vs xs:=by
 cases r with
 | ob hn=>obtain⟨vs,e,l⟩:=S.at_ n _ _ hn q;exact⟨_,vs,rfl,hn,e,l⟩
theorem dy:Dq X "list.append" (rM X.K bL):=by
 intro pins s σ H x xs v us Q I rx rs hh;obtain⟨ρ,h,d,ds,z,h',S,rd,l,ee,k⟩:=hh;cases d <;> first |(exact bN ee) | skip
 rename_i n
 match ds,l,ee with
 | [],_,ee=>exact bN ee
 | _::_::_,_,ee=>exact bN ee
 | [y],l,ee=>
  unfold bL at ee;dsimp only at ee;cases q:h[n]? with
  | none=>rw[q] at ee;cases ee
  | some w=>
   rw[q] at ee;cases w with
   | dct _=>exact bN ee
   | dcH _=>exact bN ee
   | lst ys=>
    dsimp only at ee
    by_cases c:ys.length < sizeLine
    ·rw[HQ c] at ee;cases ee;obtain⟨a,vs,rfl,hn,e1,l1⟩:=wu S rd q;obtain⟨u,rfl,ru⟩:=rep1 l;have T:bX ρ H ρ (upd H a (.lst (vs++[u]))):=bX.wrote S (HM hn);exact nz pins s σ H _ _ v us Q I rx rs ⟨a,vs,u,rfl,rfl,e1,by rw[l1.length];exact c,k _ _ ⟨ρ,T,S.wrote hn ⟨_,ax,(l1.snoc ru).mono T.toCh⟩,.ck⟩⟩
    ·rw[HS c] at ee;cases ee
theorem nA:Dq X "list.extend" (rM X.K gW):=by
 intro pins s σ H x xs v us Q I rx rs hh;obtain⟨ρ,h,d,ds,z,h',S,rd,l,ee,k⟩:=hh;cases d <;> first |(exact bN ee) | skip
 rename_i n
 match ds,l,ee with
 | [],_,ee=>exact bN ee
 | _::_::_,_,ee=>exact bN ee
 | [y],l,ee=>
  unfold gW at ee;dsimp only at ee;cases q:h[n]? with
  | none=>rw[q] at ee;cases ee
  | some w=>
   rw[q] at ee;cases w with
   | dct _=>exact bN ee
   | dcH _=>exact bN ee
   | lst ys=>
    dsimp only at ee;obtain⟨zs,e2,e3⟩:=bg ee
    by_cases c:ys.length+zs.length<=sizeLine
    ·rw[HQ c] at e3;cases e3;obtain⟨a,vs,rfl,hn,e1,l1⟩:=wu S rd q;obtain⟨u,rfl,ru⟩:=rep1 l;obtain⟨b,ws,rfl,eb,l2⟩:=eu S ru e2;have T:bX ρ H ρ (upd H a (.lst (vs++ws))):=bX.wrote S (HM hn);exact t9 pins s σ H _ _ v us Q I rx rs ⟨a,b,vs,ws,rfl,rfl,e1,eb,by rw[l1.length,l2.length];exact c,k _ _ ⟨ρ,T,S.wrote hn ⟨_,ax,(l1.append l2).mono T.toCh⟩,.ck⟩⟩
    ·rw[HS c] at e3;cases e3
end Sm
namespace Sb
open PySem L2 PySem.Spec PyProof.Rows
open Builtin.SmallTypes (nextOf ownedTupleIsFree ownedTupleHandOut)
noncomputable def kn:Bool->String
 | true=>"list_iterator"
 | false=>"tuple_iterator"
def At(b:Bool)(h:Heap)(j l:Addr)(i:Nat):Prop:=∃o,h.get? j=some o/\o.cls=.type (kn b)/\o.data=.fields #[.ref l,.int i 0]
def Of(b:Bool)(h:Heap)(l:Addr)(items:Array Value):Prop:=match b with
 | true=>h.IsList l items
 | false=>h.IsTuple l items
theorem At.up(x:At b h j l i)(k:∀o,h.get? j=some o->h'.get? j=some o):At b h' j l i:=let⟨o,e,r⟩:=x;⟨o,k o e,r⟩
theorem At.lt(x:At b h j l i):j < h.objs.size:=let⟨_,e,_⟩:=x;HV e
theorem Of.data(x:Of b h l items):∃o n,h.get? l=some o/\o.data=.seq items n:=by
 cases b with
 | true=>obtain⟨o,e,_,n,d⟩:=(show h.IsList l items from x);exact⟨o,n,e,d⟩
 | false=>obtain⟨o,e,_,n,d⟩:=(show h.IsTuple l items from x);exact⟨o,n,e,d⟩
theorem Of.up(x:Of b h l items)(k:∀o,h.get? l=some o->h'.get? l=some o):Of b h' l items:=by
 cases b with
 | true=>obtain⟨o,e,r⟩:=(show h.IsList l items from x);exact⟨o,k o e,r⟩
 | false=>obtain⟨o,e,r⟩:=(show h.IsTuple l items from x);exact⟨o,k o e,r⟩
theorem p7(hj:At b s.heap j l i)(hl:Of b s.heap l items)(hx:items[i]?=some x)(k:∀h',At b h' j l (i+1)->Heap.SameBut j s.heap h'->Q x {s with heap:=h'}):wpAny (model P w) A (nextOf (.ref j)) Q E s:=by
 cases b with
 | true=>exact wpAny_nextOf_list_item (show s.heap.IsListIter j l i from hj) (show s.heap.IsList l items from hl) hx k
 | false=>
  have hj':s.heap.IsTupleIter j l i:=hj;obtain⟨o,eo,ec,ed⟩:=hj';obtain⟨ol,el,_,nl,edl⟩:=(show s.heap.IsTuple l items from hl);unfold nextOf;refine HG (Iy (name:=Str.ofString "__next__") (show s.TypeIs (.ref j) "tuple_iterator" from⟨o,eo,ec⟩) JI
   (IA JI (show s.TypeIs (.ref j) "tuple_iterator" from⟨o,eo,ec⟩) LF ?_ (LB _)))
  show wpAny _ _ (field (.ref j) 0 >>=_) _ _ s;refine HG (Iu eo ed (x:=.ref l) rfl ?_);show wpAny _ _ (if(Value.ref l==Value.none)=true then _ else _) _ _ s;rw[HS (show ¬((Value.ref l==Value.none)=true) by exact IG)];show wpAny _ _ (field (.ref j) 1 >>=_) _ _ s;refine HG (Iu eo ed (x:=.int i 0) rfl ?_);show wpAny _ _ (seqItems? (.ref l) >>=_) _ _ s;refine HG (Jp el edl ?_);simp only[Je,hx];refine HG (KY eo ed (by simp) (HK ⟨x,rfl,HK (k _ ?_ (Kh ..))⟩));exact⟨_,KP _ eo (Obj.isFreed_of_fields (Kp ed _)),(Obj.cls_mapFields ..).trans ec,by rw[Kp ed];simp[rawInt]⟩
theorem sH(hh:A.handled=none)(hj:At b s.heap j l i)(hl:Of b s.heap l items)(hx:items[i]?=none)(k:∀h' e,Heap.ExtBut j s.heap h'->(∃o,h'.get? e=some o/\o.cls=.type "StopIteration")->E (.ref e) {s with heap:=h'}):wpAny (model P w) A (nextOf (.ref j)) Q E s:=by
 cases b with
 | true=>exact wpAny_nextOf_list_end hh (show s.heap.IsListIter j l i from hj) (show s.heap.IsList l items from hl) hx k
 | false=>
  have hj':s.heap.IsTupleIter j l i:=hj;obtain⟨o,eo,ec,ed⟩:=hj';obtain⟨ol,el,_,nl,edl⟩:=(show s.heap.IsTuple l items from hl);unfold nextOf;refine HG (Iy (name:=Str.ofString "__next__") (show s.TypeIs (.ref j) "tuple_iterator" from⟨o,eo,ec⟩) JI
   (IA JI (show s.TypeIs (.ref j) "tuple_iterator" from⟨o,eo,ec⟩) LF ?_ (LB _)))
  show wpAny _ _ (field (.ref j) 0 >>=_) _ _ s;refine HG (Iu eo ed (x:=.ref l) rfl ?_);show wpAny _ _ (if(Value.ref l==Value.none)=true then _ else _) _ _ s;rw[HS (show ¬((Value.ref l==Value.none)=true) by exact IG)];show wpAny _ _ (field (.ref j) 1 >>=_) _ _ s;refine HG (Iu eo ed (x:=.int i 0) rfl ?_);show wpAny _ _ (seqItems? (.ref l) >>=_) _ _ s;refine HG (Jp el edl ?_);simp only[Je,hx];refine HG (JT (HG (KY eo ed (by simp) ?_)));show wpAny _ _ (newExc (.type "StopIteration") [] >>=_) _ _ _;refine HG ?_;simp only[newExc,newTuple];refine HG (IC ?_ (by size_fits));refine HG (m:=firstArgMember _ _) (wpAny_of_eq (a:=Value.none) (by first |(simp only[firstArgMember];rfl) | rfl) ?_);refine IC ?_ (by size_fits);simp only[raiseNew];refine HG (wpAny_handled ?_)
  first | rw[hh] | rw[show A.in1.handled=none from hh]
  refine HG (HK (wpAny_throw (k _ _ (((Kh ..).extBut.push _).push _) ⟨_,HZ _ rfl,rfl⟩)))
open Builtin.SmallTypes (nextOf ownedTupleIsFree ownedTupleHandOut)
variable {P:Program} {w:World} {A:Around} {E:Value->Shared->Prop} {s:Shared} {b c:Bool}
theorem rl(x:Of b s.heap l items)(k:Q (.ref s.heap.objs.size) {s with heap:=s.heap.push {cls:=.type (kn b),data:=.fields #[.ref l,.int 0 0]}}):wpAny (model P w) A (pyIter (.ref l)) Q E s:=by
 cases b with
 | true=>exact wpAny_pyIter_list (show s.heap.IsList l items from x) k
 | false=>exact JU (show s.heap.IsTuple l items from x) k
theorem ux{e j l:Addr}{i:Nat}{items:Array Value}{x old:Value}{Q:Option Value->Shared->Prop}(hE:IsEnum s.heap e j i old)(hj:At b s.heap j l i)(hl:Of b s.heap l items)(hx:items[i]?=some x)(ne:e≠j)
  (k:∀h',IsEnumOut h' e j ((i:Int)+1) x s.heap.objs.size->At b h' j l (i+1)->h'.get? s.heap.objs.size=some {cls:=.type "tuple",data:=.seq #[.int i s.toks,x]}->h'.objs.size=s.heap.objs.size+1->
   (∀a o,a≠e->a≠j->s.heap.get? a=some o->h'.get? a=some o)->Q (some (.ref s.heap.objs.size)) {s with heap:=h',toks:=s.toks+1}):wpAny (model P w) A (pyNext (.ref e)) Q E s:=by
 have hT:s.TypeIs (.ref e) "enumerate":=⟨_,hE,rfl⟩;unfold pyNext;refine HG (JG (Iy (name:=Str.ofString "__next__") hT IL (IA IL hT J3 ?_ (JW _))));obtain⟨hp,g,d,tk,os⟩:=s;show wpAny _ _ (field (.ref e) 2 >>=_) _ _ _;refine HG (Iu hE rfl (x:=.ref j) rfl (HG (p7 hj hl hx λk₁ j₁ t₁=>?_)));replace t₁:Heap.SameBut j hp k₁:=t₁;have E₁:IsEnum k₁ e j i old:=(t₁.2 e ne).trans hE;show wpAny _ _ (field (.ref e) 3 >>=_) _ _ ⟨k₁,g,d,tk,os⟩;refine HG (Iu E₁ rfl (x:=rawInt i) rfl ?_);show wpAny _ _ (field (.ref e) 4 >>=_) _ _ ⟨k₁,g,d,tk,os⟩;refine HG (Iu E₁ rfl (x:=.none) rfl ?_);show wpAny _ _ (mkInt i >>=_) _ _ ⟨k₁,g,d,tk,os⟩;refine HG (wpAny_mkInt ?_);show wpAny _ _ (setField (.ref e) 3 (rawInt ((i:Int)+1)) >>=_) _ _ ⟨k₁,g,d,tk+1,os⟩;refine HG (wpAny_setField_rec E₁ (by simp) λk₂ E₂ t₂=>?_);replace t₂:Heap.SameBut e k₁ k₂:=t₂;replace E₂:IsEnum k₂ e j ((i:Int)+1) old:=E₂;show wpAny _ _ (setField (.ref e) 4 .none >>=_) _ _ ⟨k₂,g,d,tk+1,os⟩;refine HG (wpAny_setField_rec E₂ (by simp) λk₃ E₃ t₃=>?_);replace t₃:Heap.SameBut e k₂ k₃:=t₃;replace E₃:IsEnum k₃ e j ((i:Int)+1) old:=E₃;show wpAny _ _ (newTuple [.int i tk,x] >>=_) _ _ ⟨k₃,g,d,tk+1,os⟩;refine HG (LJ ?_);have E₄:IsEnum (k₃.push {cls:=.type "tuple",data:=.seq #[.int i tk,x]}) e j ((i:Int)+1) old:=HI _ E₃;generalize eq₄:k₃.push {cls:=.type "tuple",data:=.seq #[.int i tk,x]}=k₄ at E₄;have sz:k₃.objs.size=hp.objs.size:=by rw[t₃.1,t₂.1,t₁.1]
 have lte:e < hp.objs.size:=HV hE;have tp:k₄.get? hp.objs.size=some {cls:=.type "tuple",data:=.seq #[.int i tk,x]}:=by rw[<-eq₄,<-sz];exact HZ _ rfl
 have sz₄:k₄.objs.size=hp.objs.size+1:=by rw[<-eq₄,IW,sz]
 have up₄:∀a o,a≠e->a≠j->hp.get? a=some o->k₄.get? a=some o:=λa o z1 z2 q=>by
  rw[<-eq₄];exact HI _ (t₃.extBut a o z1 (t₂.extBut a o z1 (t₁.extBut a o z2 q)))
 have j₄:At b k₄ j l (i+1):=j₁.up λo q=>by rw[<-eq₄];exact HI _ (t₃.extBut j o (Jl ne) (t₂.extBut j o (Jl ne) q))
 show wpAny _ _ (ownedTupleIsFree (.ref e) >>=_) _ _ ⟨k₄,g,d,tk+1,os⟩;rw[sz];clear eq₄ E₃ t₃ E₂ t₂ E₁ t₁ j₁ sz k₃ k₂ k₁;refine HG ?_;unfold ownedTupleIsFree;refine HG (Iu E₄ rfl (x:=.none) rfl (HK ?_));simp only[Kg];refine HG (JT (HG (Iu E₄ rfl (x:=old) rfl (HG (wpAny_setField_rec E₄ (by simp) λk₅ E₅ t₅=>?_)))));replace t₅:Heap.SameBut e k₄ k₅:=t₅;replace E₅:IsEnum k₅ e j ((i:Int)+1) x:=E₅;show wpAny _ _ (ownedTupleHandOut (.ref e) (.ref hp.objs.size) >>=_) _ _ ⟨k₅,g,d,tk+1,os⟩;refine HG ?_;unfold ownedTupleHandOut;refine HG (wpAny_setField_rec E₅ (by simp) λk₆ E₆ t₆=>?_);replace t₆:Heap.SameBut e k₅ k₆:=t₆;replace E₆:IsEnumOut k₆ e j ((i:Int)+1) x hp.objs.size:=E₆;refine wpAny_setField_rec E₆ (by simp) λk₇ E₇ t₇=>?_;replace t₇:Heap.SameBut e k₆ k₇:=t₇;replace E₇:IsEnumOut k₇ e j ((i:Int)+1) x hp.objs.size:=E₇;have up:∀a o,a≠e->k₄.get? a=some o->k₇.get? a=some o:=λa o z q=>t₇.extBut a o z (t₆.extBut a o z (t₅.extBut a o z q));refine HG (KZ (HK ⟨_,rfl,HK (k k₇ E₇ (j₄.up λo q=>up j o (Jl ne) q) (up _ _ (JQ lte) tp) ?_ λa o z1 z2 q=>up a o z1 (up₄ a o z1 z2 q))⟩));rw[t₇.1,t₆.1,t₅.1,sz₄]
theorem xb{e j l:Addr}{i:Nat}{items:Array Value}{old:Value}{Q:Option Value->Shared->Prop}(hh:A.handled=none)(hE:IsEnum s.heap e j i old)(hj:At b s.heap j l i)(hl:Of b s.heap l items)(hx:items[i]?=none)
  (k:∀h',Heap.ExtBut j s.heap h'->Q none {s with heap:=h'}):wpAny (model P w) A (pyNext (.ref e)) Q E s:=by
 have hT:s.TypeIs (.ref e) "enumerate":=⟨_,hE,rfl⟩;unfold pyNext;refine HG (JG (Iy (name:=Str.ofString "__next__") hT IL (IA IL hT J3 ?_ (JW _))));show wpAny _ _ (field (.ref e) 2 >>=_) _ _ _;refine HG (Iu hE rfl (x:=.ref j) rfl (HG (sH hh hj hl hx λh' y he' ⟨o,ho,hc⟩=>?_)));exact HG (Jw (T:="StopIteration") (b:=true) ⟨o,ho,hc⟩ J2 (HK (k _ he')))
theorem uw(x:Of b s.heap l items)(k:∀h',IsEnum h' (s.heap.objs.size+1) s.heap.objs.size 0 .none->At b h' s.heap.objs.size l 0->h'.objs.size=s.heap.objs.size+2->(∀a o,s.heap.get? a=some o->h'.get? a=some o)->Q (.ref (s.heap.objs.size+1)) {s with heap:=h'}):
  wpAny (model P w) A (call (.type "enumerate") [.ref l]) Q E s:=by
 cases b with
 | true=>exact call_enumerate_list (show s.heap.IsList l items from x) k
 | false=>
  have mt:PySem.Meets (Builtin.«enumerate.__new__» ⟨[.type "enumerate",.ref l],[]⟩) (λ_ R s=>s.heap.IsTuple l items/\
    R (.ok (.ret (.ref (s.heap.push {cls:=.type "tuple_iterator",data:=.fields #[.ref l,.int 0 0]}).objs.size)))
     {s with heap:=(s.heap.push {cls:=.type "tuple_iterator",data:=.fields #[.ref l,.int 0 0]}).push {cls:=.type "enumerate",data:=.fields #[.none,.bool false,.ref s.heap.objs.size,rawInt 0,.none,.none]}}):=
   .of_wp λprog w A R s h=>by
    obtain⟨hp,g,d,tk,os⟩:=s;obtain⟨hl,h⟩:=h;have sub:=sub_enumerate;have hL:Heap.IsTuple (Shared.heap ⟨hp,g,d,tk,os⟩) l items:=hl;obtain⟨o0,e0,c0,n0,d0⟩:=id hL
    wp_walk
    refine wpAny_stack_any λst=>HK ?_
    split
    ·rename_i c _ _ _ _ _;cases(c==Value.type "enumerate")
     ·wp_walk using JU hL
      exact⟨_,rfl,h⟩
     ·wp_walk using JU hL
      exact⟨_,rfl,h⟩
    ·wp_walk using JU hL
     exact⟨_,rfl,h⟩
  refine callType_new Kr (by decide) (F.typeCall_enumerate_1 _) (F.newCall_enumerate_1 _) (λobj=>F.args_object_init_2 obj _) F.entry_enumerate_new mt ⟨x,?_⟩;have z1:(s.heap.push {cls:=.type "tuple_iterator",data:=.fields #[.ref l,.int 0 0]}).objs.size=s.heap.objs.size+1:=IW ..;show _/\_;rw[z1];have eE:IsEnum ((s.heap.push {cls:=.type "tuple_iterator",data:=.fields #[.ref l,.int 0 0]}).push
    {cls:=.type "enumerate",data:=.fields #[.none,.bool false,.ref s.heap.objs.size,rawInt 0,.none,.none]}) (s.heap.objs.size+1) s.heap.objs.size 0 .none:=by
   have q:=HZ (s.heap.push {cls:=.type "tuple_iterator",data:=.fields #[.ref l,.int 0 0]}) (o:={cls:=.type "enumerate",data:=.fields #[.none,.bool false,.ref s.heap.objs.size,rawInt 0,.none,.none]}) rfl;rw[z1] at q;exact q
  refine⟨⟨_,eE,rfl⟩,k _ eE ⟨_,HI _ (HZ _ rfl),rfl,rfl⟩ (by rw[IW,z1]) λa o q=>HI _ (HI _ q)⟩
end Sb
namespace Sb
open PySem L2 PySem.Spec PyProof.Rows
open Builtin.SmallTypes (nextOf ownedTupleIsFree ownedTupleHandOut)
structure Zp(z T U p q l m:Addr):Prop where
 Tz:T≠z
 Uz:U≠z
 pz:p≠z
 qz:q≠z
 TU:T≠U
 Tp:T≠p
 Tq:T≠q
 Up:U≠p
 Uq:U≠q
 pq:p≠q
 lz:l≠z
 lU:l≠U
 lp:l≠p
 lq:l≠q
 mz:m≠z
 mU:m≠U
 mp:m≠p
 mq:m≠q
theorem uS (D:Zp z T U p q l m) (hz:IsZip s.heap z T U .none) (hT:IsPair s.heap T (.ref p) (.ref q)) (hU:IsPair s.heap U u v) (h1:At b s.heap p l i) (h2:At c s.heap q m i) (hl:Of b s.heap l xs) (hm:Of c s.heap m ys) (hx:xs[i]?=some x) (hy:ys[i]?=some y) (k:∀h',IsZip h' z T U (rawInt s.heap.objs.size)->IsPair h' U x y->At b h' p l (i+1)->At c h' q m (i+1)->IsPair h' s.heap.objs.size x y->h'.objs.size=s.heap.objs.size+1->
   (∀a o,a≠z->a≠U->a≠p->a≠q->s.heap.get? a=some o->h'.get? a=some o)->Q (some (.ref s.heap.objs.size)) {s with heap:=h'}):wpAny (model P w) A (pyNext (.ref z)) Q E s:=by
 have ty:s.TypeIs (.ref z) "zip":=⟨_,hz,rfl⟩;unfold pyNext;refine HG (JG (Iy (name:=Str.ofString "__next__") ty KO (IA KO ty F.entry_zip_next ?_ (F.args_zip_next_1 _))));show wpAny _ _ (field (.ref z) 2 >>=_) _ _ _;refine HG (Iu hz rfl (x:=.bool false) rfl ?_);show wpAny _ _ (field (.ref z) 3 >>=_) _ _ _;refine HG (Iu hz rfl (x:=.ref T) rfl (HG (Jp hT rfl ?_)));show wpAny _ _ (ownedTupleIsFree (.ref z) >>=_) _ _ _;refine HG ?_;unfold ownedTupleIsFree;refine HG (Iu hz rfl (x:=.none) rfl (HK ?_));simp only[Kg];refine HG (JT (HG (Iu hz rfl (x:=.ref U) rfl (HG (wpAny_setField_rec hz (by simp) λk₁ z₁ t₁=>?_)))));replace z₁:IsZip k₁ z T U .ellipsis:=z₁;refine HG ?_;simp only[List.zipIdx_cons,List.zipIdx_nil,K7,List.forIn_nil];refine HG (HG (K4 ?_));show wpAny _ _ (nextOf (.ref p) >>=_) _ _ _;refine HG (p7 (h1.up λo e=>t₁.extBut _ o D.pz e) (hl.up λo e=>t₁.extBut _ o D.lz e) hx λk₂ p₂ t₂=>HK ?_);have U₂:IsPair k₂ U u v:=t₂.extBut _ _ D.Up (t₁.extBut _ _ D.Uz hU);refine HG (Jp U₂ rfl (HG (KW U₂ λk₃ U₃ t₃=>HG (KZ (HK ?_)))));replace U₃:IsPair k₃ U x v:=U₃;refine HG (HG (K4 ?_));show wpAny _ _ (nextOf (.ref q) >>=_) _ _ _;refine HG (p7 (h2.up λo e=>t₃.extBut _ o D.Uq.symm (t₂.extBut _ o D.pq.symm (t₁.extBut _ o D.qz e))) (hm.up λo e=>t₃.extBut _ o D.mU (t₂.extBut _ o D.mp (t₁.extBut _ o D.mz e))) hy λk₄ q₄ t₄=>HK ?_);have U₄:IsPair k₄ U x v:=t₄.extBut _ _ D.Uq U₃;refine HG (Jp U₄ rfl (HG (KW U₄ λk₅ U₅ t₅=>HG (KZ (HK (HK ?_))))));replace U₅:IsPair k₅ U x y:=U₅;refine HG (Jp U₅ rfl (HG (LJ ?_)));have sz:k₅.objs.size=s.heap.objs.size:=by rw[t₅.1,t₄.1,t₃.1,t₂.1,t₁.1]
 have z₅:IsZip k₅ z T U .ellipsis:=t₅.extBut _ _ D.Uz.symm (t₄.extBut _ _ D.qz.symm (t₃.extBut _ _ D.Uz.symm (t₂.extBut _ _ D.pz.symm z₁)));have up₅:∀a o,a≠z->a≠U->a≠p->a≠q->s.heap.get? a=some o->k₅.get? a=some o:=λa o a1 a2 a3 a4 e=>t₅.extBut _ _ a2 (t₄.extBut _ _ a4 (t₃.extBut _ _ a2 (t₂.extBut _ _ a3 (t₁.extBut _ _ a1 e))));have p₅:At b k₅ p l (i+1):=p₂.up λo e=>t₅.extBut _ o D.Up.symm (t₄.extBut _ o D.pq (t₃.extBut _ o D.Up.symm e));have q₅:At c k₅ q m (i+1):=q₄.up λo e=>t₅.extBut _ o D.Uq.symm e;have zlt:z < k₅.objs.size:=HV z₅;show wpAny _ _ (ownedTupleHandOut (.ref z) (.ref k₅.objs.size) >>=_) _ _ _;refine HG ?_;unfold ownedTupleHandOut;have z₆:IsZip (k₅.push {cls:=.type "tuple",data:=.seq #[x,y]}) z T U .ellipsis:=HI _ z₅;refine HG (wpAny_setField_rec z₆ (by simp) λk₇ z₇ t₇=>?_);replace z₇:IsZip k₇ z T U (rawInt k₅.objs.size):=z₇;refine wpAny_setField_rec z₇ (by simp) λk₈ z₈ t₈=>?_;replace z₈:IsZip k₈ z T U (rawInt k₅.objs.size):=z₈;have up:∀a o,a≠z->k₅.get? a=some o->k₈.get? a=some o:=λa o a1 e=>t₈.extBut _ _ a1 (t₇.extBut _ _ a1 (HI _ e));have T₈:IsPair k₈ k₅.objs.size x y:=t₈.extBut _ _ (JQ zlt) (t₇.extBut _ _ (JQ zlt) (HZ _ rfl));have s8:k₈.objs.size=k₅.objs.size+1:=by rw[t₈.1,t₇.1,IW]
 rw[sz] at z₈ T₈ s8;refine HK ⟨_,rfl,HK ?_⟩;show Q (some (.ref k₅.objs.size)) _;rw[sz];exact k k₈ z₈ (up _ _ D.Uz U₅) (p₅.up λo e=>up _ o D.pz e) (q₅.up λo e=>up _ o D.qz e) T₈ s8 λa o a1 a2 a3 a4 e=>up a o a1 (up₅ a o a1 a2 a3 a4 e)
theorem xR(hh:A.handled=none)(D:Zp z T U p q l m)(hz:IsZip s.heap z T U .none)(hT:IsPair s.heap T (.ref p) (.ref q))(hU:IsPair s.heap U u v)(h1:At b s.heap p l i)(h2:At c s.heap q m i)(hl:Of b s.heap l xs)(hm:Of c s.heap m ys)(he:xs[i]?=none\/ys[i]?=none)(k:∀h',(∀a o,a≠z->a≠U->a≠p->a≠q->s.heap.get? a=some o->h'.get? a=some o)->Q none {s with heap:=h'}):wpAny (model P w) A (pyNext (.ref z)) Q E s:=by
 have ty:s.TypeIs (.ref z) "zip":=⟨_,hz,rfl⟩;unfold pyNext;refine HG (JG (Iy (name:=Str.ofString "__next__") ty KO (IA KO ty F.entry_zip_next ?_ (F.args_zip_next_1 _))));have fin:∀h' e,(∀a o,a≠z->a≠U->a≠p->a≠q->s.heap.get? a=some o->h'.get? a=some o)->(∃o,h'.get? e=some o/\o.cls=.type "StopIteration")->
   (λe s'=>wpAny (model P w) A (isInstance e (.type "StopIteration")) (λr s''=>(if r=true then Q none s'' else E e s'')) E s') (.ref e) {s with heap:=h'}:=λh' e up ⟨o,ho,hc⟩=>
  Jw (T:="StopIteration") (b:=true) ⟨o,ho,hc⟩ J2 (by rw[HQ rfl];exact k h' up)
 show wpAny _ _ (field (.ref z) 2 >>=_) _ _ _;refine HG (Iu hz rfl (x:=.bool false) rfl ?_);show wpAny _ _ (field (.ref z) 3 >>=_) _ _ _;refine HG (Iu hz rfl (x:=.ref T) rfl (HG (Jp hT rfl ?_)));show wpAny _ _ (ownedTupleIsFree (.ref z) >>=_) _ _ _;refine HG ?_;unfold ownedTupleIsFree;refine HG (Iu hz rfl (x:=.none) rfl (HK ?_));simp only[Kg];refine HG (JT (HG (Iu hz rfl (x:=.ref U) rfl (HG (wpAny_setField_rec hz (by simp) λk₁ z₁ t₁=>?_)))));replace z₁:IsZip k₁ z T U .ellipsis:=z₁;refine HG ?_;simp only[List.zipIdx_cons,List.zipIdx_nil,K7,List.forIn_nil];refine HG (HG (K4 ?_));show wpAny _ _ (nextOf (.ref p) >>=_) _ _ _;cases ex:xs[i]? with
 | none=>
  refine HG (sH hh (h1.up λo e=>t₁.extBut _ o D.pz e) (hl.up λo e=>t₁.extBut _ o D.lz e) ex λk₂ e t₂ ⟨oe,hoe,hce⟩=>?_);have z₂:IsZip k₂ z T U .ellipsis:=t₂ _ _ D.pz.symm z₁;have ez:e≠z:=λr=>by subst r;rw[z₂] at hoe;cases hoe;simp at hce
  refine wpAny_setField_rec z₂ (by simp) λk₃ _ t₃=>?_;refine HG (Jw (T:="StopIteration") (b:=true) ⟨oe,t₃.extBut _ _ ez hoe,hce⟩ J2 (HK (k _ λa o a1 _ a3 _ r=>t₃.extBut _ _ a1 (t₂ _ _ a3 (t₁.extBut _ _ a1 r)))))
 | some x=>
  have ey:ys[i]?=none:=by rcases he with r | r;rw[ex] at r;cases r;exact r
  refine HG (p7 (h1.up λo e=>t₁.extBut _ o D.pz e) (hl.up λo e=>t₁.extBut _ o D.lz e) ex λk₂ p₂ t₂=>HK ?_);have U₂:IsPair k₂ U u v:=t₂.extBut _ _ D.Up (t₁.extBut _ _ D.Uz hU);refine HG (Jp U₂ rfl (HG (KW U₂ λk₃ U₃ t₃=>HG (KZ (HK ?_)))));refine HG (HG (K4 ?_));show wpAny _ _ (nextOf (.ref q) >>=_) _ _ _;refine HG (sH hh (h2.up λo e=>t₃.extBut _ o D.Uq.symm (t₂.extBut _ o D.pq.symm (t₁.extBut _ o D.qz e))) (hm.up λo e=>t₃.extBut _ o D.mU (t₂.extBut _ o D.mp (t₁.extBut _ o D.mz e))) ey λk₄ e t₄ ⟨oe,hoe,hce⟩=>?_);have z₄:IsZip k₄ z T U .ellipsis:=t₄ _ _ D.qz.symm (t₃.extBut _ _ D.Uz.symm (t₂.extBut _ _ D.pz.symm z₁));have ez:e≠z:=λr=>by subst r;rw[z₄] at hoe;cases hoe;simp at hce
  refine wpAny_setField_rec z₄ (by simp) λk₅ _ t₅=>?_;refine HG (Jw (T:="StopIteration") (b:=true) ⟨oe,t₅.extBut _ _ ez hoe,hce⟩ J2 (HK (k _ λa o a1 a2 a3 a4 r=>t₅.extBut _ _ a1 (t₄ _ _ a4 (t₃.extBut _ _ a2 (t₂.extBut _ _ a3 (t₁.extBut _ _ a1 r)))))))
abbrev g1(b:Bool)(h:Heap)(l:Addr):Heap:=h.push {cls:=.type (kn b),data:=.fields #[.ref l,.int 0 0]}
abbrev g2(b c:Bool)(h:Heap)(l m:Addr):Heap:=(g1 b h l).push {cls:=.type (kn c),data:=.fields #[.ref m,.int 0 0]}
abbrev g3(b c:Bool)(h:Heap)(l m:Addr):Heap:=(g2 b c h l m).push {cls:=.type "tuple",data:=.seq #[.ref h.objs.size,.ref (g1 b h l).objs.size]}
abbrev g4(b c:Bool)(h:Heap)(l m:Addr):Heap:=(g3 b c h l m).push {cls:=.type "tuple",data:=.seq #[.none,.none]}
abbrev g5(b c:Bool)(h:Heap)(l m:Addr):Heap:=(g4 b c h l m).push {cls:=.type "zip",data:=.fields #[.none,.bool false,.bool false,.ref (g2 b c h l m).objs.size,.ref (g3 b c h l m).objs.size]}
theorem xQ(b c:Bool)(l m:Addr)(xs ys:Array Value):PySem.Meets (Builtin.«zip.__new__» ⟨[.type "zip",.ref l,.ref m],[]⟩) (λ_ R s=>Of b s.heap l xs/\Of c s.heap m ys/\R (.ok (.ret (.ref (g4 b c s.heap l m).objs.size))) {s with heap:=g5 b c s.heap l m}):=
 .of_wp λprog w A R s h=>by
  obtain⟨hp,g,d,tk,os⟩:=s;obtain⟨hl,hm,h⟩:=h;have sub:=sub_zip;have L1:Of b (Shared.heap ⟨hp,g,d,tk,os⟩) l xs:=hl;have L2:Of c (Shared.heap ⟨hp.push {cls:=.type (kn b),data:=.fields #[.ref l,.int 0 0]},g,d,tk,os⟩) m ys:=hm.up λo e=>HI _ e
  wp_walk using rl L1,rl L2
  exact⟨_,rfl,h⟩
theorem uR (hl:Of b s.heap l xs) (hm:Of c s.heap m ys) (k:∀h',IsZip h' (s.heap.objs.size+4) (s.heap.objs.size+2) (s.heap.objs.size+3) .none->IsPair h' (s.heap.objs.size+2) (.ref s.heap.objs.size) (.ref (s.heap.objs.size+1))->IsPair h' (s.heap.objs.size+3) .none .none->
   At b h' s.heap.objs.size l 0->At c h' (s.heap.objs.size+1) m 0->h'.objs.size=s.heap.objs.size+5->(∀a o,s.heap.get? a=some o->h'.get? a=some o)->Q (.ref (s.heap.objs.size+4)) {s with heap:=h'}):
  wpAny (model P w) A (call (.type "zip") [.ref l,.ref m]) Q E s:=by
 refine callType_new F.called_zip (by decide) (F.typeCall_zip_2 _ _) (F.newCall_zip_2 _ _) (λobj=>F.args_object_init_3 obj _ _) F.entry_zip_new (xQ b c l m xs ys) ⟨hl,hm,?_⟩;have z1:(g1 b s.heap l).objs.size=s.heap.objs.size+1:=IW ..;have z2:(g2 b c s.heap l m).objs.size=s.heap.objs.size+2:=by rw[IW,z1]
 have z3:(g3 b c s.heap l m).objs.size=s.heap.objs.size+3:=by rw[IW,z2]
 have z4:(g4 b c s.heap l m).objs.size=s.heap.objs.size+4:=by rw[IW,z3]
 have z5:(g5 b c s.heap l m).objs.size=s.heap.objs.size+5:=by rw[IW,z4]
 have e5:(g5 b c s.heap l m).get? (g4 b c s.heap l m).objs.size=some _:=HZ _ rfl;have e4:(g5 b c s.heap l m).get? (g3 b c s.heap l m).objs.size=some _:=HI _ (HZ _ rfl);have e3:(g5 b c s.heap l m).get? (g2 b c s.heap l m).objs.size=some _:=HI _ (HI _ (HZ _ rfl));have e2:(g5 b c s.heap l m).get? (g1 b s.heap l).objs.size=some _:=HI _ (HI _ (HI _ (HZ _ rfl)));have e1:(g5 b c s.heap l m).get? s.heap.objs.size=some _:=HI _ (HI _ (HI _ (HI _ (HZ _ rfl))));show _/\_;rw[z2,z3,z4] at e5;rw[z1,z2] at e3;rw[z3] at e4;rw[z1] at e2;rw[z4];exact⟨⟨_,e5,rfl⟩,k _ e5 e3 e4 ⟨_,e1,rfl,rfl⟩ ⟨_,e2,rfl,rfl⟩ z5 λa o x=>HI _ (HI _ (HI _ (HI _ (HI _ x))))⟩
section
variable {X:Cx} {pins:List (Addr×Obj)} {σ:L2.St} {H:Hp} {s:Shared} {h':Heap} {fp:List Addr}
theorem gQ(I:L2.Inv X pins σ H s)(k:∀b o,b∉fp->s.heap.get? b=some o->h'.get? b=some o)(hf:∀b∈fp,fv X pins H b):L2.Inv X pins σ H {s with heap:=h',toks:=t'}:=by
 have nit:∀b u,H b=some u->b∉fp:=λb u e z=>by rw[(hf b z).1] at e;cases e
 have nL:X.env.locals∉fp:=λz=>(hf _ z).2.1 rfl;refine I.step (g':=s.gens) (d':=s.drawn) (ch:=fp) (λb hb=>?_) (λb o _ _ hc e _=>k b o hc e) (λb o _ _ hc e _=>⟨o.slots,k b o hc e⟩) (λ_ _ _ _ n=>n)
  (λb o hc e=>⟨o,k b o hc e⟩) (λ_ _ e=>e) (λ_ _ _ e=>e) (λb ps e=>⟨#[],by rw[e];simp⟩) (λm hm=>?_) (λb u e=>?_) I.bare
 ·obtain⟨f0,f1,f2,f3,f4,f5⟩:=hf b hb;exact⟨f3,f1,f4,f5⟩
 ·obtain⟨o,es,ep,ho,r⟩:=hm;exact⟨o,es,ep,k _ o nL ho,r⟩
 ·refine(I.aZ b u e).pP (λc v hc q=>k c v ?_ q) (λ_ q=>q) λ_ _ q=>q;rcases hc with z | z
  ·rw[z];exact nit b u e
  ·exact nit c _ z
theorem nZ(I:L2.Inv X pins σ H s)(k:∀b o,b∉fp->s.heap.get? b=some o->h'.get? b=some o)(hf:∀b∈fp,fv X pins H b)(hlt:∀b∈fp,b < s.heap.objs.size)(ht:h'.get? s.heap.objs.size=some {cls:=.type "tuple",data:=.seq us.toArray n})(r:Vals vs us)(hz:vs.length<=sizeLine):L2.Inv X pins σ (upd H s.heap.objs.size (.tup vs)) {s with heap:=h',toks:=t'}:=by
 have nit:∀b u,H b=some u->b∉fp:=λb u e z=>by rw[(hf b z).1] at e;cases e
 have nL:X.env.locals∉fp:=λz=>(hf _ z).2.1 rfl;have hp:H s.heap.objs.size=none:=I.aZ.fresh (HN _);have np:∀b o,s.heap.get? b=some o->b≠s.heap.objs.size:=λb o e=>Iv (HV e);have nH:∀b u,H b=some u->b≠s.heap.objs.size:=λb u e=>aA e hp;refine I.step (g':=s.gens) (d':=s.drawn) (ch:=fp) (λb hb=>?_) (λb o _ _ hc e _=>k b o hc e) (λb o _ _ hc e _=>⟨o.slots,k b o hc e⟩) (λb o _ e n=>by rw[ao (np b o e)];exact n)
  (λb o hc e=>⟨o,k b o hc e⟩) (λb _ e=>by rw[ao (nH b _ e)];exact e) (λb _ _ e=>by rw[ao (nH b _ e)];exact e) (λb ps e=>⟨#[],by rw[ao (nH b _ e),e];simp⟩) (λm hm=>?_) (λb u e=>?_) I.bare
 ·obtain⟨f0,f1,f2,f3,f4,f5⟩:=hf b hb;exact⟨f3,f1,f4,f5⟩
 ·obtain⟨o,es,ep,ho,q⟩:=hm;exact⟨o,es,ep,k _ o nL ho,q⟩
 ·by_cases z:b=s.heap.objs.size
  ·subst z;rw[ax] at e;cases e;exact⟨hz,us,r,⟨_,ht,rfl,⟨n,rfl⟩,rfl⟩⟩
  ·rw[ao z] at e;refine(I.aZ b u e).pP (λc v hc q=>k c v ?_ q) (λc q=>?_) λc u q=>?_
   ·rcases hc with y | y
    ·rw[y];exact nit b u e
    ·exact nit c _ y
   ·rw[ao (nH _ _ q)];exact q
   ·rw[ao (nH _ _ q)];exact q
end
def l7(b:Bool)(K:FR)(H:Hp)(l:Addr)(xs:List V):Prop:=match b with
 | true=>fu K H l xs
 | false=>g8 K H l xs
theorem l7.of(I:L2.Inv X pins σ H s)(q:l7 b X.K H l xs):∃its:List Value,Vals xs its/\Of b s.heap l its.toArray:=by
 cases b with
 | true=>obtain⟨its,r,p,_⟩:=I.list (show fu X.K H l xs from q);exact⟨its,r,p.isList⟩
 | false=>obtain⟨its,r,p,_⟩:=I.tuple (show g8 X.K H l xs from q);exact⟨its,r,p⟩
theorem l7.inj(I:L2.Inv X pins σ H s)(q:l7 b X.K H l xs)(q':l7 b X.K H l ys):xs=ys:=by
 cases b with
 | true=>exact I.qa q q'
 | false=>exact I.mW q q'
noncomputable def Hm(b:Bool)(K:FR)(l:Addr):It:=
 ⟨λi H=>∃xs x,l7 b K H l xs/\xs[i]?=some x,λi H x H'=>∃p y,H p=none/\x=.ref p/\H'=upd H p (.tup [.int (i:Int),y])/\∀xs,l7 b K H l xs->xs[i]?=some y,λi H=>∃xs,l7 b K H l xs/\xs.length<=i⟩
noncomputable def Hl(b c:Bool)(K:FR)(l m:Addr):It:=
 ⟨λi H=>∃xs ys x y,l7 b K H l xs/\l7 c K H m ys/\xs[i]?=some x/\ys[i]?=some y,
  λi H x H'=>∃p u v,H p=none/\x=.ref p/\H'=upd H p (.tup [u,v])/\(∀xs,l7 b K H l xs->xs[i]?=some u)/\∀xs,l7 c K H m xs->xs[i]?=some v,
  λi H=>∃xs ys,l7 b K H l xs/\l7 c K H m ys/\(xs.length<=i\/ys.length<=i)⟩
theorem tP{P:Program}{w:World}{K:FR}{es:List Expr}{k0:Nat}{pos:Pos}(b:Bool)(l e j:Addr)(ne:e≠j):Turn P w K (.Tuple es k0 pos) (Hm b K l) [e,j] e (λi h=>(∃old,IsEnum h e j i old)/\At b h j l i) where
 mem:=by simp
 obj:=λi h st a ha=>by
  obtain⟨⟨old,h1⟩,o,h2,_,d2⟩:=st;simp at ha;rcases ha with rfl | rfl
  ·exact⟨_,h1,λv z=>by cases z⟩
  ·exact⟨o,h2,λv z=>by rw[d2] at z;cases z⟩
 keep:=λi h h' ⟨⟨old,h1⟩,h2⟩ k=>⟨⟨old,k e (by simp) _ h1⟩,h2.up λo q=>k j (by simp) o q⟩
 item:=by
  intro X hP hw hK hc i pins s σ H E I hf st hg;subst hP hw hK;obtain⟨xs,x,hq,hx⟩:=hg;obtain⟨⟨old,h1⟩,h2⟩:=st;obtain⟨its,rv,hO⟩:=hq.of I;obtain⟨u,hu,ru⟩:=rv.get hx;have hlt:∀a∈[e,j],a < s.heap.objs.size:=λa ha=>by
   simp at ha;rcases ha with rfl | rfl
   ·exact HV h1
   ·exact h2.lt
  refine ux h1 h2 hO (x:=u) (by simpa using hu) ne λh' a1 a2 a3 a4 a5=>⟨_,rfl,LK a1 λh'' b1 b2=>?_⟩;have hp:H s.heap.objs.size=none:=I.aZ.fresh (HN _);have I1:=nZ (t':=s.toks+1) (vs:=[.int (i:Int),x]) (us:=[.int i s.toks,u]) (n:=0) I (λa o ha q=>a5 a o (λz=>ha (by simp[z])) (λz=>ha (by simp[z])) q) hf hlt a3 (.cons ⟨_,rfl⟩ (.cons ru .nil)) (show 2<=sizeLine by decide);have hf1:∀a∈[e,j],fv X pins (upd H s.heap.objs.size (.tup [.int (i:Int),x])) a:=λa ha=>by
   obtain⟨f0,f⟩:=hf a ha;exact⟨by rw[ao (Iv (hlt a ha))];exact f0,f⟩
  have I2:=gQ (t':=s.toks+1) I1 (h':=h'') (λa o ha q=>b2.extBut a o (λz=>ha (by simp[z])) q) hf1;exact⟨.ref s.heap.objs.size,_,I2,rfl,⟨_,x,hp,rfl,rfl,λys hy=>by rw[hy.inj I hq];exact hx⟩,⟨⟨_,by simpa using b1⟩,a2.up λo q=>b2.extBut j o (Jl ne) q⟩,λa ha=>(hf1 a ha).1⟩
 done:=by
  intro X hP hw hK hc i pins s σ H E I hf st hg;subst hP hw hK;obtain⟨xs,hq,hx⟩:=hg;obtain⟨⟨old,h1⟩,h2⟩:=st;obtain⟨its,rv,hO⟩:=hq.of I;have hl:=rv.length;exact xb (I.ok.hd hc) h1 h2 hO (by simp;lia) λh' eb=>⟨rfl,gQ (t':=s.toks) I (λa o ha q=>eb a o (λz=>ha (by simp[z])) q) hf⟩
 self:=λA i s Q E ⟨⟨old,h1⟩,_⟩ q=>by
  have hT:s.TypeIs (.ref e) "enumerate":=⟨_,h1,rfl⟩;refine La hT Ka (IA Ka hT F.entry_enumerate_iter ?_ (L7 _));show wpAny _ _ (ret (.ref e)) _ _ s;exact HK ⟨_,rfl,"enumerate",_,hT,IL.lookup,q⟩
theorem uV{P:Program}{w:World}{K:FR}{es:List Expr}{k0:Nat}{pos:Pos}(b c:Bool)(z T U p q l m:Addr)(D:Zp z T U p q l m):
  Turn P w K (.Tuple es k0 pos) (Hl b c K l m) [z,T,U,p,q] z (λi h=>IsZip h z T U .none/\IsPair h T (.ref p) (.ref q)/\(∃u v,IsPair h U u v)/\At b h p l i/\At c h q m i) where
 mem:=by simp
 obj:=λi h st a ha=>by
  obtain⟨h1,h2,⟨u,v,h3⟩,⟨o4,h4,_,d4⟩,⟨o5,h5,_,d5⟩⟩:=st;simp at ha;rcases ha with rfl | rfl | rfl | rfl | rfl
  ·exact⟨_,h1,λv z=>by cases z⟩
  ·exact⟨_,h2,λv z=>by cases z⟩
  ·exact⟨_,h3,λv z=>by cases z⟩
  ·exact⟨o4,h4,λv z=>by rw[d4] at z;cases z⟩
  ·exact⟨o5,h5,λv z=>by rw[d5] at z;cases z⟩
 keep:=λi h h' ⟨h1,h2,⟨u,v,h3⟩,h4,h5⟩ k=>⟨k z (by simp) _ h1,k T (by simp) _ h2,⟨u,v,k U (by simp) _ h3⟩,h4.up λo e=>k p (by simp) o e,h5.up λo e=>k q (by simp) o e⟩
 item:=by
  intro X hP hw hK hc i pins s σ H E I hf st hg;subst hP hw hK;obtain⟨xs,ys,x,y,hq1,hq2,hx,hy⟩:=hg;obtain⟨h1,h2,⟨u,v,h3⟩,h4,h5⟩:=st;obtain⟨is1,rv1,hO1⟩:=hq1.of I;obtain⟨is2,rv2,hO2⟩:=hq2.of I;obtain⟨u1,hu1,ru1⟩:=rv1.get hx;obtain⟨u2,hu2,ru2⟩:=rv2.get hy;have hlt:∀a∈[z,T,U,p,q],a < s.heap.objs.size:=λa ha=>by
   simp at ha;rcases ha with rfl | rfl | rfl | rfl | rfl
   ·exact HV h1
   ·exact HV h2
   ·exact HV h3
   ·exact h4.lt
   ·exact h5.lt
  refine uS D h1 h2 h3 h4 h5 hO1 hO2 (x:=u1) (y:=u2) (by simpa using hu1) (by simpa using hu2) λh' a1 a2 a3 a4 a5 a6 a7=>⟨_,rfl,wpAny_letOwnedTupleGo_zip a1 λh'' b1 b2=>?_⟩;have hp:H s.heap.objs.size=none:=I.aZ.fresh (HN _);have I1:=nZ (t':=s.toks) (vs:=[x,y]) (us:=[u1,u2]) (n:=0) I (h':=h') (fp:=[z,T,U,p,q]) (λa o ha e=>a7 a o (λr=>ha (by simp[r])) (λr=>ha (by simp[r])) (λr=>ha (by simp[r])) (λr=>ha (by simp[r])) e) hf hlt a5 (.cons ru1 (.cons ru2 .nil)) (show 2<=sizeLine by decide);have hf1:∀a∈[z,T,U,p,q],fv X pins (upd H s.heap.objs.size (.tup [x,y])) a:=λa ha=>by
   obtain⟨f0,f⟩:=hf a ha;exact⟨by rw[ao (Iv (hlt a ha))];exact f0,f⟩
  have I2:=gQ (t':=s.toks) I1 (h':=h'') (fp:=[z,T,U,p,q]) (λa o ha e=>b2.extBut a o (λr=>ha (by simp[r])) e) hf1;have hT':=a7 T _ D.Tz D.TU D.Tp D.Tq h2;exact⟨.ref s.heap.objs.size,_,I2,rfl,⟨_,x,y,hp,rfl,rfl,λzs hz=>by rw[hz.inj I hq1];exact hx,λzs hz=>by rw[hz.inj I hq2];exact hy⟩,
   ⟨b1,b2.extBut T _ D.Tz hT',⟨_,_,b2.extBut U _ D.Uz a2⟩,a3.up λo e=>b2.extBut p o D.pz e,a4.up λo e=>b2.extBut q o D.qz e⟩,λa ha=>(hf1 a ha).1⟩
 done:=by
  intro X hP hw hK hc i pins s σ H E I hf st hg;subst hP hw hK;obtain⟨xs,ys,hq1,hq2,hx⟩:=hg;obtain⟨h1,h2,⟨u,v,h3⟩,h4,h5⟩:=st;obtain⟨is1,rv1,hO1⟩:=hq1.of I;obtain⟨is2,rv2,hO2⟩:=hq2.of I;have hl1:=rv1.length;have hl2:=rv2.length;exact xR (I.ok.hd hc) D h1 h2 h3 h4 h5 hO1 hO2 (by simp;lia) λh' eb=>⟨rfl,gQ (t':=s.toks) I (fp:=[z,T,U,p,q]) (λa o ha e=>eb a o (λr=>ha (by simp[r])) (λr=>ha (by simp[r])) (λr=>ha (by simp[r])) (λr=>ha (by simp[r])) e) hf⟩
 self:=λA i s Q E st h=>wpAny_pyIter_zip st.1 h
theorem boot_zip:bootBuiltins "zip"=some (.type "zip"):=by decide+kernel
theorem nP:bootBuiltins "enumerate"=some (.type "enumerate"):=by decide+kernel
theorem DD(n l m:Nat)(hl:l < n)(hm:m < n):Zp (n+4) (n+2) (n+3) n (n+1) l m:=by
 constructor <;> (intro h;have h:(_:Nat)=_:=h;lia)
theorem yQ(hg:Gl X "enumerate")(hm:X.mg "enumerate"=none)(ha:PA X [a] ta)(hs:starEach [a] X.env=[(false,eval a X.env)]:=by ac_nf):
  PI X (.Tuple es k0 tpos) (.Call (.Name "enumerate" p) [a] [] pos) (λσ H R=>ta σ H λvs H1=>∃l b,vs=[.ref l]/\(∃xs,l7 b X.K H1 l xs)/\R (Hm b X.K l) H1):=by
 intro pins s σ H R I h;refine Call_ (iF I hg hm nP (JC (bT (ha pos pins s σ H _ I h) λus s1 ⟨vs,H1,I1,r1,q1⟩=>?_) hs rfl));obtain⟨l,b,e,⟨xs,hq⟩,q⟩:=q1;subst e;obtain⟨u,rfl,ru⟩:=Vals.one r1;obtain rfl:u=Value.ref l:=ru;obtain⟨its,rv,hO⟩:=hq.of I1;refine uw hO λh' a1 a2 a3 a4=>?_;have I2:L2.Inv X pins σ H1 {s1 with heap:=h'}:=I1.kept (t':=s1.toks) a4;have hf:∀c∈[s1.heap.objs.size+1,s1.heap.objs.size],fv X pins H1 c:=λc hc=>by
  simp at hc;rcases hc with rfl | rfl
  ·exact I1.qh (Ki _) (I1.aZ.fresh (Ki _))
  ·exact I1.qh (HN _) (I1.aZ.fresh (HN _))
 have T:=tP (P:=X.prog) (w:=X.w) (K:=X.K) (es:=es) (k0:=k0) (pos:=tpos) b l (s1.heap.objs.size+1) s1.heap.objs.size (Nat.succ_ne_self _);refine T.self X.A 0 {s1 with heap:=h'} _ X.xe ⟨⟨_,a1⟩,a2⟩ ?_;exact⟨_,[s1.heap.objs.size+1,s1.heap.objs.size],_,_,H1,rfl,I2,T,⟨⟨_,a1⟩,a2⟩,hf,q⟩
theorem BE(hg:Gl X "zip")(hm:X.mg "zip"=none)(ha:PA X [a,a'] ta)(hs:starEach [a,a'] X.env=[(false,eval a X.env),(false,eval a' X.env)]:=by ac_nf)(hs2:starEach [a'] X.env=[(false,eval a' X.env)]:=by ac_nf):
  PI X (.Tuple es k0 tpos) (.Call (.Name "zip" p) [a,a'] [] pos) (λσ H R=>ta σ H λvs H1=>∃l m b c,vs=[.ref l,.ref m]/\(∃xs,l7 b X.K H1 l xs)/\(∃xs,l7 c X.K H1 m xs)/\R (Hl b c X.K l m) H1):=by
 intro pins s σ H R I h;refine Call_ (iF I hg hm boot_zip (JC (bT (ha pos pins s σ H _ I h) λus s1 ⟨vs,H1,I1,r1,q1⟩=>?_) (by rw[hs,hs2]) (by rw[hs2];rfl)));obtain⟨l,m,b,c,e,⟨xs,hq⟩,⟨ys,hq'⟩,q⟩:=q1;subst e;obtain⟨u,v,rfl,ru,rv'⟩:=Vals.two r1;obtain rfl:u=Value.ref l:=ru;obtain rfl:v=Value.ref m:=rv';obtain⟨its,rv,hO⟩:=hq.of I1;obtain⟨its',rv',hO'⟩:=hq'.of I1;refine uR hO hO' λh' a1 a2 a3 a4 a5 a6 a7=>?_;have I2:L2.Inv X pins σ H1 {s1 with heap:=h'}:=I1.kept (t':=s1.toks) a7;have hf:∀d∈[s1.heap.objs.size+4,s1.heap.objs.size+2,s1.heap.objs.size+3,s1.heap.objs.size,s1.heap.objs.size+1],fv X pins H1 d:=λd hd=>by
  simp at hd;have:s1.heap.objs.size<=d:=by lia
  exact I1.qh this (I1.aZ.fresh this)
 have ll:l < s1.heap.objs.size:=by obtain⟨o,n,e,_⟩:=hO.data;exact HV e
 have lm:m < s1.heap.objs.size:=by obtain⟨o,n,e,_⟩:=hO'.data;exact HV e
 have D:Zp (s1.heap.objs.size+4) (s1.heap.objs.size+2) (s1.heap.objs.size+3) s1.heap.objs.size (s1.heap.objs.size+1) l m:=DD _ _ _ ll lm;have T:=uV (P:=X.prog) (w:=X.w) (K:=X.K) (es:=es) (k0:=k0) (pos:=tpos) b c _ _ _ _ _ l m D;refine T.self X.A 0 {s1 with heap:=h'} _ X.xe ⟨a1,a2,⟨_,_,a3⟩,a4,a5⟩ ?_;exact⟨_,[s1.heap.objs.size+4,s1.heap.objs.size+2,s1.heap.objs.size+3,s1.heap.objs.size,s1.heap.objs.size+1],_,_,H1,rfl,I2,T,⟨a1,a2,⟨_,_,a3⟩,a4,a5⟩,hf,q⟩
end Sb
namespace Sm
open PySem L2 PySem.Spec PyProof.Rows
noncomputable def fj:Nat->List D->List D
 | _,[]=>[]
 | k,x::r=>.tup [.int (k:Int),x]::fj (k+1) r
noncomputable def j3:List D->List D->List D
 | x::r,y::s=>.tup [x,y]::j3 r s
 | _,_=>[]
theorem fi:∀(xs:List D)(k i:Nat),(fj k xs)[i]?=(xs[i]?).map λx=>.tup [.int ((k+i:Nat):Int),x]
 | [],k,i=>by simp[fj]
 | x::r,k,0=>by simp[fj]
 | x::r,k,i+1=>by
  show(fj (k+1) r)[i]?=_;rw[fi r (k+1) i];simp only[List.getElem?_cons_succ];congr 1
  funext y
  rw[show k+1+i=k+(i+1) by lia]
theorem cB:∀(xs:List D)(k:Nat),(fj k xs).length=xs.length
 | [],_=>rfl
 | _::r,k=>by simp[fj,cB r (k+1)]
theorem kE:∀(xs ys:List D)(i:Nat),(j3 xs ys)[i]?=(xs[i]?).bind λx=>(ys[i]?).map λy=>.tup [x,y]
 | [],_,i=>by simp[j3]
 | _::_,[],i=>by simp[j3]
 | x::r,y::s,0=>by simp[j3]
 | x::r,y::s,i+1=>by
  show(j3 r s)[i]?=_;rw[kE r s i];simp
theorem gk:∀(xs ys:List D),(j3 xs ys).length=min xs.length ys.length
 | [],_=>by simp[j3]
 | _::_,[]=>by simp[j3]
 | x::r,y::s=>by simp[j3,gk r s]
theorem SeqAt.qC{K:FR}{H:Hp}{a:Addr}{vs:List V}{b:Bool}(q:SeqAt K H a vs b):Sb.l7 b K H a vs:=by
 cases q with
 | l q=>exact q
 | t q=>exact q
theorem rN(hc:kj (ws++ws') h=true):kj ws h=true/\kj ws' h=true:=by
 induction ws with
 | nil=>exact⟨rfl,hc⟩
 | cons x r ih=>
  obtain⟨n,o⟩:=x;simp only[Jk,kj,Ii] at hc ⊢;obtain⟨h1,h2⟩:=ih hc.2;exact⟨⟨hc.1,h1⟩,h2⟩
noncomputable def wL(m:AM):IM:=λδ h=>(m δ h).bind λp=>match p.1 with
 | [d]=>(bM d p.2).map λq=>(fj 0 q.1,q.2,p.2)
 | _=>none
noncomputable def CD(m:AM):IM:=λδ h=>(m δ h).bind λp=>match p.1 with
 | [d,e]=>(bM d p.2).bind λq=>(bM e p.2).map λr=>(j3 q.1 r.1,q.2++r.2,p.2)
 | _=>none
theorem x5(hg:Gl X "enumerate")(hm:X.mg "enumerate"=none)(ha:SA X [a] m)(hl:iL m 1)(hs:starEach [a] X.env=[(false,eval a X.env)]:=by ac_nf):SI X (.Tuple es k0 tpos) (.Call (.Name "enumerate" p) [a] [] pos) (wL m):=
 (Sb.yQ hg hm ha hs).imp λσ H Q ⟨ρ,δ,h,xs,ws,h',R,S,e,k⟩=>by
  obtain⟨⟨ds,h1⟩,e1,e2⟩:=bg e;refine⟨ρ,δ,h,ds,h1,R,S,e1,λvs ρ1 H1 T1 S1 r1=>?_⟩
  match ds,hl _ _ _ _ e1,e2,r1 with
  | [d],_,e2,r1=>
   obtain⟨⟨ys,w⟩,e3,e4⟩:=dY e2;cases e4;obtain⟨v,rfl,rd⟩:=rep1 r1;obtain⟨a,rfl,⟨us,q,l⟩,st⟩:=fD S1 rd e3;refine⟨a,i4 d,rfl,⟨us,q.qC⟩,k _ ρ1 H1 T1 S1 ⟨λρ2 H2 h2 T2 S2 hc i=>?_⟩⟩;obtain⟨ws,l2,q2⟩:=st ρ2 H2 h2 T2 S2 hc;refine⟨λhi=>⟨ws,q2.qC,by rw[l2.length];rw[cB] at hi;exact hi⟩,λx hx=>?_⟩;rw[fi] at hx;obtain⟨y,ey,hx⟩:=dY hx;subst hx;obtain⟨v,ev,rv⟩:=l2.got ey;refine⟨⟨ws,v,q2.qC,ev⟩,λu H3 ⟨p,y',hp,hu,hH,hy⟩=>?_⟩;subst hu;subst hH;have hy':y'=v:=by have:=hy ws q2.qC;rw[ev] at this;exact(Option.some.inj this).symm
   subst hy';refine⟨bX.laid S2 hp,S2.laid hp,.tup (.inl ⟨.inl ax,S2.fresh hp⟩) (.cons ?_ (.cons (rv.mono (bX.laid S2 hp).toCh) .nil))⟩;rw[K1];exact .int _
theorem AR(hg:Gl X "zip")(hm:X.mg "zip"=none)(ha:SA X [a,b] m)(hl:iL m 2)(hs:starEach [a,b] X.env=[(false,eval a X.env),(false,eval b X.env)]:=by ac_nf)(hs2:starEach [b] X.env=[(false,eval b X.env)]:=by ac_nf):
  SI X (.Tuple es k0 tpos) (.Call (.Name "zip" p) [a,b] [] pos) (CD m):=
 (Sb.BE hg hm ha hs hs2).imp λσ H Q ⟨ρ,δ,h,xs,ws,h',R,S,e,k⟩=>by
  obtain⟨⟨ds,h1⟩,e1,e2⟩:=bg e;refine⟨ρ,δ,h,ds,h1,R,S,e1,λvs ρ1 H1 T1 S1 r1=>?_⟩
  match ds,hl _ _ _ _ e1,e2,r1 with
  | [d,d'],_,e2,r1=>
   obtain⟨⟨ys,w⟩,e3,e4⟩:=bg e2;obtain⟨⟨zs,w'⟩,e5,e6⟩:=dY e4;cases e6;obtain⟨v,v',rfl,rd,rd'⟩:=rep2 r1;obtain⟨a,rfl,⟨us,q,l⟩,st⟩:=fD S1 rd e3;obtain⟨a',rfl,⟨us',q',l'⟩,st'⟩:=fD S1 rd' e5;refine⟨a,a',i4 d,i4 d',rfl,⟨us,q.qC⟩,⟨us',q'.qC⟩,k _ ρ1 H1 T1 S1 ⟨λρ2 H2 h2 T2 S2 hc i=>?_⟩⟩;obtain⟨c1,c2⟩:=rN hc;obtain⟨ws,l2,q2⟩:=st ρ2 H2 h2 T2 S2 c1;obtain⟨ws',l2',q2'⟩:=st' ρ2 H2 h2 T2 S2 c2;refine⟨λhi=>⟨ws,ws',q2.qC,q2'.qC,by rw[l2.length,l2'.length];rw[gk] at hi;dsimp only at hi;lia⟩,λx hx=>?_⟩;rw[kE] at hx;obtain⟨y,ey,hx⟩:=bg hx;obtain⟨y',ey',hx⟩:=dY hx;subst hx;obtain⟨v,ev,rv⟩:=l2.got ey;obtain⟨v',ev',rv'⟩:=l2'.got ey';refine⟨⟨ws,ws',v,v',q2.qC,q2'.qC,ev,ev'⟩,λu H3 ⟨p,x1,x2,hp,hu,hH,hy1,hy2⟩=>?_⟩;subst hu;subst hH;have z1:x1=v:=by have:=hy1 ws q2.qC;rw[ev] at this;exact(Option.some.inj this).symm
   have z2:x2=v':=by have:=hy2 ws' q2'.qC;rw[ev'] at this;exact(Option.some.inj this).symm
   subst z1;subst z2;exact⟨bX.laid S2 hp,S2.laid hp,.tup (.inl ⟨.inl ax,S2.fresh hp⟩) (.cons (rv.mono (bX.laid S2 hp).toCh) (.cons (rv'.mono (bX.laid S2 hp).toCh) .nil))⟩
noncomputable def o1(ls:List (Key×D)):List (Key×D)->Option Bool
 | []=>some true
 |(k,v)::r=>match j4 ls k with
  | none=>some false
  | some u=>(sC v).bind λa=>(sC u).bind λb=>if a.depth<=60/\b.depth<=60 then(o1 ls r).map λc=>PyData.eqv a b&&c else none
noncomputable def xj(ks ls:List (Key×D)):Option Bool:=if ks.length=ls.length then o1 ls ks else some false
noncomputable def EW(d e:D)(h:MH):Option Bool:=match de d h,de e h with
 | some ks,some ls=>xj ks ls
 | _,_=>GN d e h
noncomputable def bZ(d e:D)(h:MH):Option (D×MH):=(EW d e h).map λc=>(.bl c,h)
noncomputable def ur(d e:D)(h:MH):Option (D×MH):=(EW d e h).map λc=>(.bl (!c),h)
theorem sT(hu:X.A.units+64 < cLine)(I:L2.Inv X pins σ H s)(lb:aI X.K ρ H vs ls)(rb:KV vs kb):
  ∀{us:List (Key×V)} {ks:List (Key×D)} {ka:List (Key×Value)} {c:Bool},aI X.K ρ H us ks->KV us ka->o1 ls ks=some c->PySem.W.KeqHits X.A.in1 s kb ka c
 | _,_,_,c,.nil,ra,e=>by
  cases ra;cases e;exact .nil
 | _,_,_,c,.cons (k:=k) (v:=v) (d:=d) r l,ra,e=>by
  cases ra with
  | cons ra rr=>
   rename_i p ka;obtain⟨k',y⟩:=p;obtain⟨ek,ry⟩:=ra;dsimp only at ek ry;subst ek;simp only[o1] at e;have rel:=rb.val k;rcases lb.val k with⟨h1,h2⟩ |⟨d',v',h1,h2,r'⟩
   ·rw[h1] at e;cases e;rw[h2] at rel;refine .miss ?_;cases q:valueAt kb k with
    | none=>rfl
    | some _=>rw[q] at rel;exact rel.elim
   ·rw[h1] at e;obtain⟨a,e1,e⟩:=bg e;obtain⟨b,e2,e⟩:=bg e
    by_cases z:a.depth<=60/\b.depth<=60
    ·rw[HQ z] at e;obtain⟨c',e3,e4⟩:=dY e;subst e4;rw[h2] at rel;cases q:valueAt kb k with
     | none=>rw[q] at rel;exact rel.elim
     | some y'=>
      rw[q] at rel;obtain⟨r1,c1⟩:=r.mD e1;obtain⟨r2,c2⟩:=r'.mD e2;obtain⟨as,ra1⟩:=r1.reads I ry;obtain⟨bs,ra2⟩:=r2.reads I rel;refine .hit q (LA a b _ s y y' as bs ra1 ra2 c1 c2 ?_) (sT hu I lb rb l rr e3);have:min a.depth b.depth<=a.depth:=K5 _ _;show X.A.units+1+min a.depth b.depth < cLine
      lia
    ·rw[HS z] at e;cases e
theorem xa(hu:X.A.units+64 < cLine)(I:L2.Inv X pins σ H s)(rx:L2.RelV x v)(ry:L2.RelV y u)(S:bh X.K ρ h H)(rd:Rep X.K ρ H x d)(re:Rep X.K ρ H y e)(ee:EW d e h=some c):
  (∀Q:Value->Shared->Prop,Q (.bool c) s->wpAny (model X.prog X.w) X.A (compareOp .Eq v u) Q X.xe s)/\∀Q:Value->Shared->Prop,Q (.bool (!c)) s->wpAny (model X.prog X.w) X.A (compareOp .NotEq v u) Q X.xe s:=by
 have data:GN d e h=some c->(∀Q:Value->Shared->Prop,Q (.bool c) s->wpAny (model X.prog X.w) X.A (compareOp .Eq v u) Q X.xe s)/\∀Q:Value->Shared->Prop,Q (.bool (!c)) s->wpAny (model X.prog X.w) X.A (compareOp .NotEq v u) Q X.xe s:=by
  intro ee;obtain⟨a,e3,e4⟩:=bg ee;obtain⟨b,e5,e6⟩:=bg e4
  by_cases w:a.depth<=64/\b.depth<=64
  ·rw[HQ w] at e6;cases e6;obtain⟨r1,c1⟩:=oB S rd e3;obtain⟨r2,c2⟩:=oB S re e5;obtain⟨as,ra⟩:=r1.reads I rx;obtain⟨bs,rb⟩:=r2.reads I ry;exact⟨λQ q=>eq_dataH ra rb (g0 c1 w.1) (g0 c2 w.2) hu q,λQ q=>ne_dataH ra rb (g0 c1 w.1) (g0 c2 w.2) hu q⟩
  ·rw[HS w] at e6;cases e6
 unfold EW at ee;cases q1:de d h with
 | none=>rw[q1] at ee;exact data ee
 | some ks=>
  cases q2:de e h with
  | none=>rw[q1,q2] at ee;exact data ee
  | some ls=>
   rw[q1,q2] at ee;obtain⟨a,us,rfl,ha,la⟩:=fX S rd q1;obtain⟨b,ws,rfl,hb,lb⟩:=fX S re q2;obtain rfl:v=Value.ref a:=rx;obtain rfl:u=Value.ref b:=ry;obtain⟨_,na,ka,ra,da⟩:=td I.aZ ha;obtain⟨_,nb,kb,rb,db⟩:=td I.aZ hb;have l1:ka.length=ks.length:=by rw[<-la.length];exact(Paired.length ra).symm
   have l2:kb.length=ls.length:=by rw[<-lb.length];exact(Paired.length rb).symm
   dsimp only[xj] at ee
   by_cases z:ks.length=ls.length
   ·rw[HQ z] at ee;have hits:=sT hu I lb rb la ra ee;have ez:(ka.length==kb.length&&c)=c:=by rw[l1,l2,z,IU,Bool.true_and]
    exact⟨λQ q=>PySem.W.keq_eq na nb da db (by lia) (λ_=>hits) (by rw[ez];exact q),λQ q=>PySem.W.keq_ne na nb da db (by lia) (λ_=>hits) (by rw[ez];exact q)⟩
   ·rw[HS z] at ee;cases ee;have ez:(ka.length==kb.length&&false)=false:=Bool.and_false _;have nh:ka.length=kb.length->PySem.W.KeqHits X.A.in1 s kb ka false:=λq=>absurd (by rw[<-l1,<-l2];exact q) z;exact⟨λQ q=>PySem.W.keq_eq na nb da db (by lia) nh (by rw[ez];exact q),λQ q=>PySem.W.keq_ne na nb da db (by lia) nh (by rw[ez];exact q)⟩
theorem BW(hu:X.A.units+64 < cLine):l8 X (compareOp .Eq) bZ:=by
 intro pins s σ H x y v u Q I rx ry hh;obtain⟨ρ,h,d,e,z,h',S,rd,re,ee,k⟩:=hh;obtain⟨c,e1,e2⟩:=dY ee;cases e2;exact(xa hu I rx ry S rd re e1).1 _ ⟨.bl _,H,I,rfl,k _ _ (.here S (.bl _))⟩
theorem wm(hu:X.A.units+64 < cLine):l8 X (compareOp .NotEq) ur:=by
 intro pins s σ H x y v u Q I rx ry hh;obtain⟨ρ,h,d,e,z,h',S,rd,re,ee,k⟩:=hh;obtain⟨c,e1,e2⟩:=dY ee;cases e2;exact(xa hu I rx ry S rd re e1).2 _ ⟨.bl _,H,I,rfl,k _ _ (.here S (.bl _))⟩
noncomputable def lh(acc:List (Key×D))(ps:List (Key×D)):List (Key×D):=ps.foldl (λa p=>putD a p.1 p.2) acc
theorem aI.merge{K:FR}{ρ:Ad}{H:Hp}:∀{kvs:List (Key×V)} {ps:List (Key×D)} {acc:List (Key×V)} {ac:List (Key×D)},aI K ρ H acc ac->aI K ρ H kvs ps->aI K ρ H (dO acc kvs) (lh ac ps)
 | _,_,_,_,a,.nil=>a
 | _,_,acc,ac,a,.cons (k:=k) (v:=v) (d:=d) r l=>aI.merge (acc:=putK acc k v) (ac:=putD ac k d) (a.put r) l
theorem tE:bootBuiltins "list"=some (.type "list"):=by decide+kernel
theorem lV:bootBuiltins "tuple"=some (.type "tuple"):=by decide+kernel
theorem Dd:bootBuiltins "int"=some (.type "int"):=by decide+kernel
theorem rP:bootBuiltins "str"=some (.type "str"):=by decide+kernel
theorem Dc:bootBuiltins "len"=some (.builtin "len"):=by decide+kernel
theorem De:bootBuiltins "abs"=some (.builtin "abs"):=by decide+kernel
theorem mQ:bootBuiltins "isinstance"=some (.builtin "isinstance"):=by decide+kernel
noncomputable def AB(sc:Scope)(x:Str):Bool:=match sc.names.lookup x with
 | some .local=>true
 | some .cell=>true
 | some .free=>true
 | _=>false
noncomputable def ze(sc:Scope)(x:Str):Bool:=match sc.names.lookup x with
 | some .local=>true
 | some .cell=>true
 | _=>false
noncomputable def FQ(X:Cx)(x:Str):Bool:=X.fn x||(match X.env.scope.names.lookup x with
 | some .local=>true
 | _=>false)
theorem AA(h:AB sc x=true):Fi sc x:=by
 unfold AB at h
 split at h <;> first |(cases h;done) | skip
 ·exact .inl ‹_›
 ·exact .inr (.inl ‹_›)
 ·exact .inr (.inr ‹_›)
theorem wC(h:ze sc x=true):Loc sc x:=by
 unfold ze at h
 split at h <;> first |(cases h;done) | skip
 ·exact .inl ‹_›
 ·exact .inr ‹_›
theorem wR(h:FQ X x=true):X.fn x=true\/X.env.scope.names.lookup x=some .local:=by
 unfold FQ at h;rw[Jx] at h;rcases h with h | h
 ·exact .inl h
 ·split at h
  ·exact .inr ‹_›
  ·cases h
theorem sv(i:Nat)(hN:X.N[i]?=some x:=by ac_nf)(hv:AB X.env.scope x=true:=by ac_nf)(hd:(x==("__debug__":Str))=false:=by ac_nf)(hcd:(x==("__classdict__":Str))=false:=by ac_nf):SE X (.Name x pos) (cC i):=AS hN (AA hv) hd hcd
theorem sset(i:Nat)(hN:X.N.Nodup)(he:SE X e ma)(hi:X.N[i]?=some x:=by ac_nf)(hx:ze X.env.scope x=true:=by ac_nf)(hs:swapsWith e (some (.Name x pos')) pos.line X.env=pure false:=by ac_nf)(hf:FQ X x=true:=by ac_nf):SS X (.Assign [.Name x pos'] e pos) (bu i ma):=AL hN hi (wC hx) he hs (wR hf)
theorem sgn(i:Nat)(hN:X.N.Nodup)(hi:X.N[i]?=some x:=by ac_nf)(hx:ze X.env.scope x=true:=by ac_nf)(hf:FQ X x=true:=by ac_nf):SG X (.Name x pos) (gN i):=yc hN hi (wC hx) (wR hf)
noncomputable def yk(i j:Nat)(m:AM):SM:=λδ h=>(m δ h).bind λp=>match p.1 with
 | [a,b]=>some (.nx,(δ.set i (some a)).set j (some b),p.2)
 | _=>none
theorem D1(i j:Nat){kt k2 pt2}(hN:X.N.Nodup)(hl:iL m 2)(hc:X.calm=true)(hij:i≠j)(P:PS X (.Assign [.Tuple [.Name x px,.Name y py] kt pt] (.Tuple [a,b] k2 pt2) pos) (DR i j (G6 X.K m))):
  SS X (.Assign [.Tuple [.Name x px,.Name y py] kt pt] (.Tuple [a,b] k2 pt2) pos) (yk i j m):=P.imp λE σ H ⟨ρ,δ,h,fl,δ',h',R,S,e,k⟩=>by
 obtain⟨⟨ds,h1⟩,e1,e2⟩:=bg e;refine⟨ρ,δ,h,ds,h1,R,S,e1,λvs ρ1 H1 T1 S1 r1=>?_⟩
 match ds,hl _ _ _ _ e1,e2,r1 with
 | [d,d'],_,e2,r1=>
  cases e2;obtain⟨v,u,rfl,rd,rd'⟩:=rep2 r1;exact⟨v,u,rfl,k ρ1 H1 T1 S1 _ (((R.mono T1.toCh).set rd i).set rd' j)⟩
structure Df(P:Program)(w:World)(K:FR)(mg:Str->Option Value)(base:Heap)(nm:Str)(k:Nat)(ps:List Str)(n:Nat)(F:Fn):Prop where
 ex:∃(f:Addr)(fd:FuncData),bx P w K mg base eW k f fd ps (gn K n F)/\PySem.W.keepIn K (.ref f)=true/\Binds K fd ps []/\mg nm=some (.ref f)
theorem D7(d:Df X.prog X.w X.K X.mg X.base nm k ps n F)(hr:df k' X.A)(hk:k<=k')(ha:SA X (e::es) m)(hl:iL m n)(hg:Gl X nm:=by unfold Gl;ac_nf)(hdb:(nm==("__debug__":Str))=false:=by ac_nf)(he:starEach (e::es) X.env=(false,eval e X.env)::starEach es X.env:=by ac_nf)(hpl:(backTo pos (starEach es X.env)).any (·.1)=false:=by ac_nf):SE X (.Call (.Name nm p) (e::es) [] pos) (az F m):=by
 obtain⟨f,fd,G,kf,bf,mf⟩:=d.ex;exact yi G (hr.mono hk) hg mf kf bf ha hl hdb he hpl
theorem ku{P:Program}{w:World}{K:FR}{mg:Str->Option Value}{base:Heap}{k n:Nat}{f:Addr}{fd:FuncData}{ps:List Str}:bx P w K mg base eW k f fd ps (gn K n λ_ _=>none):=
 ⟨λvs H Q E hh=>(by obtain⟨_,_,_,_,_,_,_,_,e,_⟩:=hh;cases e),λA outer s H args us vs Q E _ _ _ _ hh=>(by obtain⟨_,_,_,_,_,_,_,_,e,_⟩:=hh;cases e)⟩
end Sm
namespace L2
open PySem PySem.Spec PyProof.Rows
section
variable {X:Cx} {N':List Str} {caps:List (Option Nat)} {scope:Scope} {e tg iter:Expr} {ifs:List Expr} {p:Pos} {wi:TI} {g:TG} {tc:TT} {tm:Addr->TK} {o:Addr->HO} {na:Sem Value} {act:Addr->Env->Sem Unit}
end
end L2
namespace Sm
open PySem L2 PySem.Spec PyProof.Rows
structure Ac(α:Type)where
 at_:FR->Ad->Hp->Addr->α->Prop
 mono:∀{K:FR} {ρ ρ':Ad} {H H':Hp} {l:Addr} {a:α},at_ K ρ H l a->Ch ρ H ρ' H'->H' l=H l->at_ K ρ' H' l a
abbrev MK(α:Type):=DS->MH->α->Option (DS×MH×α)
section
variable {α:Type} {K:FR} {A:Ac α} {l:Addr} {g:GM} {mt:TM} {m:MK α}
end
section
variable {α:Type} {X:Cx} {A:Ac α} {g:GM} {mt:TM} {m:MK α} {mi:IM} {e tg iter:Expr} {ifs:List Expr} {d:Nat} {p:Pos} {act:Addr->Env->Sem Unit}
end
end Sm
namespace L2
open PySem PySem.Spec PyProof.Rows
theorem wpAny_of_eq'(e:m=m')(h:wpAny M A m' Q E s):wpAny M A m Q E s:=e ▸ h
section
variable {P:Program} {w:World} {A:Around} {E:Value->Shared->Prop} {s:Shared} {a:Addr} {ks:List Str}
end
noncomputable def uO(a b:Str):Bool:=!ltCps b.cps.toList a.cps.toList
theorem fT:uO a b=true↔strKind.kle a.cps.toList b.cps.toList:=by
 unfold uO KeyOrd.kle;rw[ltCps_eq];simp
theorem nE(a b c:Str)(h1:uO a b=true)(h2:uO b c=true):uO a c=true:=fT.mpr (KeyOrd.kle_trans (fT.mp h1) (fT.mp h2))
theorem uf(a b:Str):(uO a b||uO b a)=true:=by
 rw[Jx]
 by_cases z:strKind.klt b.cps.toList a.cps.toList
 ·exact .inr (fT.mpr (KeyOrd.kle_of_klt z))
 ·exact .inl (fT.mpr (KeyOrd.kle_of_not_klt z))
theorem wG(a b:Str)(h1:uO a b=true)(h2:uO b a=true):a=b:=by
 have:=KeyOrd.kle_antisymm (fT.mp h1) (fT.mp h2);cases a;cases b;congr 1;exact Array.toList_inj.mp this
noncomputable def gd(ks:List Str):List Str:=ks.mergeSort uO
theorem fC(ks:List Str):(gd ks).Perm ks:=List.mergeSort_perm _ _
theorem oh(ks:List Str):(gd ks).Pairwise λa b=>uO a b=true:=List.pairwise_mergeSort nE uf ks
theorem nq:∀(l:List Str)(p:Str),risingS p l=true->(p::l).Pairwise λa b=>uO a b=true
 | [],p,_=>by simp
 | x::r,p,h=>by
  have h':(!ltCps x.cps.toList p.cps.toList&&risingS x r)=true:=h;rw[Ii] at h';have ih:=nq r x h'.2;refine LY.mpr ⟨λy hy=>?_,ih⟩;rcases HR.mp hy with rfl | hy
  ·exact h'.1
  ·exact nE _ _ _ h'.1 ((LY.mp ih).1 y hy)
theorem vg(hp:ss.Perm ks)(h:sortedS ss=true):ss=gd ks:=by
 refine List.Perm.eq_of_pairwise (λa b _ _=>wG a b) ?_ (oh ks) (hp.trans (fC ks).symm)
 match ss,h with
 | [],_=>exact .nil
 | x::r,h=>exact nq r x h
end L2
namespace Sm
open PySem L2 PySem.Spec PyProof.Rows
theorem aI.len{K:FR}{ρ:Ad}{H:Hp}:∀{us:List (Key×V)} {ks:List (Key×D)},aI K ρ H us ks->us.length=ks.length
 | _,_,.nil=>rfl
 | _,_,.cons _ r=>by rw[HP,HP,r.len]
end Sm
namespace L2
open PySem PySem.Spec PyProof.Rows
theorem mT:∀{us:List Value} {ss:List Str},StrsAre us ss->Vals (ss.map V.str) us
 | _,_,.nil=>.nil
 | _,_,.cons x t r=>.cons ⟨t,rfl⟩ (mT r)
end L2
namespace Sm
open PySem L2 PySem.Spec PyProof.Rows
section
variable {α:Type} {K:FR} {A:Ac α} {g:GM} {mt:TM} {m:MK α}
end
section
variable {X:Cx} {k v tg iter elt tg2 iter2:Expr} {pos:Pos} {mk mv me:EM} {mt mt2:TM} {g g2:GM} {N':List Str} {caps:List (Option Nat)} {scope:Scope} {ifs ifs2:List Expr} {mi mi2:IM}
theorem nc{K:FR}{ρ:Ad}{H:Hp}:∀(ss:List Str),(∀k∈ss,PyData.strOk k=true)->ah K ρ H (ss.map V.str) (ss.map D.str)
 | [],_=>.nil
 | x::r,h=>.cons (.str (h x HY)) (nc r λk hk=>h k (Ib _ hk))
end
end Sm
namespace L2
open PySem PySem.Spec PyProof.Rows
theorem pZ(its:List Value):slicePick its.toArray none none (some (-1))=its.reverse.toArray:=by
 unfold slicePick;congr 1;have hb:sliceBounds none none (some (-1)) its.toArray.size=((its.length:Int)-1,-1,-1):=by
  unfold sliceBounds;simp
 rw[hb];dsimp only;have hr:sliceRange ((its.length:Int)-1) (-1) (-1)=(List.range its.length).map λk=>its.length-1-k:=by
  unfold sliceRange;dsimp only;rw[HS (by decide)];have hc:(if(its.length:Int)-1 > -1 then((its.length:Int)-1 - -1 - -1-1) / (- -1) else 0)=(its.length:Int):=by
   split
   ·simp
   ·lia
  rw[hc,Je];refine LP λk hk=>?_;have:=Ke.mp hk
  lia
 rw[hr];refine Kk λi=>?_;rw[KS];have hall:∀k∈List.range its.length,((λx=>its.toArray[x]?)∘λk=>its.length-1-k) k=some (its.getD (its.length-1-k) .none):=λk hk=>by
  have:=Ke.mp hk;show its.toArray[its.length-1-k]?=_;rw[List.getElem?_toArray,Lf,Iz (by lia)];rfl
 have hm:∀l:List Nat,(∀k∈l,((λx=>its.toArray[x]?)∘λk=>its.length-1-k) k=some (its.getD (its.length-1-k) .none))->l.filterMap ((λx=>its.toArray[x]?)∘λk=>its.length-1-k)=l.map λk=>its.getD (its.length-1-k) .none:=by
  intro l
  induction l with
  | nil=>intro _;rfl
  | cons k r ih=>intro h;rw[Js,h k HY,HX,ih λx hx=>h x (Ib _ hx)]
 rw[hm _ hall,Io]
 by_cases z:i < its.length
 ·rw[LQ z,List.getElem?_reverse z];simp only[Option.map];rw[Lf,Iz (by lia)];rfl
 ·rw[Ip (by simpa using z),Ip (by simpa using z)];rfl
theorem mV:∀{xs:List V} {us:List Value} {x:V} {u:Value},Vals xs us->RelV x u->Vals (xs++[x]) (us++[u])
 | _,_,_,_,.nil,r=>.cons r .nil
 | _,_,_,_,.cons r l,r'=>.cons r (mV l r')
theorem kG:∀{xs:List V} {us:List Value},Vals xs us->Vals xs.reverse us.reverse
 | _,_,.nil=>.nil
 | _,_,.cons r l=>by
  rw[JS,JS];exact mV (kG l) r
section
variable {X:Cx} {e st:Expr} {te ts:TE} {pos p2:Pos}
end
end L2
namespace Sm
open PySem L2 PySem.Spec PyProof.Rows
section
variable {X:Cx} {e st a b c:Expr} {ma ms mb mc:EM} {pos p2:Pos}
theorem ah.rev{K:FR}{ρ:Ad}{H:Hp}:∀{vs:List V} {ds:List D},ah K ρ H vs ds->ah K ρ H vs.reverse ds.reverse
 | _,_,.nil=>.nil
 | _,_,.cons r l=>by rw[JS,JS];exact(ah.rev l).snoc r
abbrev zO:=DS->MH->Option (List (Key×D)×MH)
noncomputable def y0:zO:=λ_ h=>some ([],h)
noncomputable def gG(k v:EM)(r:zO):zO:=λδ h=>(k δ h).bind λp=>(v δ p.2).bind λq=>(oS p.1).bind λkk=>(r δ q.2).map λz=>((kk,q.1)::z.1,z.2)
inductive Fo(K:FR)(m:zO)(σ:L2.St)(H:Hp)(Q:List (V×V)->Hp->Prop):Prop where
 | mk (ρ δ h kvs h'):bS K ρ H σ δ->bh K ρ h H->(m δ h=some (kvs,h'))->(∀us ρ' H',bX ρ H ρ' H'->bh K ρ' h' H'->aI K ρ' H' us kvs->Q (us.map λkv=>(kV kv.1,kv.2)) H')->Fo K m σ H Q
def Hu(K:FR)(m:zO):L2.St->Hp->(List (V×V)->Hp->Prop)->Prop:=λσ H Q=>Fo K m σ H Q
def SP(X:Cx)(pos:Pos)(keys:List (Option Expr))(vals:List Expr)(m:zO):Prop:=∃trs,Dn X pos keys vals trs/\∀σ H Q,Hu X.K m σ H Q->oa trs σ H Q
theorem vf:SP X pos [] [] y0:=⟨[],yK,λσ H Q ⟨ρ,δ,h,kvs,h',R,S,e,k⟩=>by
 cases e;exact k [] ρ H (.refl _ _) S .nil⟩
theorem di(hk:SE X kx mk)(hv:SE X vx mv)(hr:SP X pos ks vs m):SP X pos (some kx::ks) (vx::vs) (gG mk mv m):=by
 obtain⟨trs,h1,h2⟩:=hr;refine⟨_,vT hk hv h1,λσ H Q ⟨ρ,δ,h,kvs,h',R,S,ee,k⟩=>?_⟩;obtain⟨⟨x,ha⟩,e1,e2⟩:=bg ee;obtain⟨⟨y,hb⟩,e3,e4⟩:=bg e2;obtain⟨kk,e5,e6⟩:=bg e4;obtain⟨⟨zs,hz⟩,e7,e8⟩:=dY e6;cases e8;refine⟨ρ,δ,h,x,ha,R,S,e1,λv H1 ⟨ρ1,T1,S1,r1⟩=>⟨ρ1,δ,ha,y,hb,R.mono T1.toCh,S1,e3,λu H2 ⟨ρ2,T2,S2,r2⟩=>?_⟩⟩;refine h2 σ H2 _ ⟨ρ2,δ,hb,zs,_,(R.mono T1.toCh).mono T2.toCh,S2,e7,λus ρ3 H3 T3 S3 r3=>?_⟩;have ek:=gX r1 e5;subst ek;exact k ((kk,u)::us) ρ3 H3 ((T1.trans T2).trans T3) S3 (.cons (r2.mono T3.toCh) r3)
noncomputable def Al(m:zO):EM:=λδ h=>(m δ h).bind λp=>if p.1.length<=15 then some (.dv (lh [] p.1),p.2) else none
theorem yh(h:SP X pos keys vals m)(hall:keys.all (·.isSome)=true)(hl:keys.length=vals.length)(h0:keys≠[])(hp:∀trs,Dn X pos keys vals trs->PE X (.Dict keys vals pos) (u5 trs)):SE X (.Dict keys vals pos) (Al m):=by
 obtain⟨trs,h1,h2⟩:=h;refine(hp trs h1).imp λσ H Q ⟨ρ,δ,h,d,h',R,S,ee,k⟩ p hpn=>?_;obtain⟨⟨kvs,ha⟩,e1,e2⟩:=bg ee;dsimp only at e2
 by_cases z:kvs.length<=15
 ·rw[HQ z] at e2;cases e2;have Tl:Ch ρ H (ρ.keep p) (upd H p (.dK [])):=Ch.keep hpn;have nl:¬ρ.has p:=S.fresh hpn;refine h2 σ _ _ ⟨ρ.keep p,δ,h,kvs,_,R.mono Tl,S.keep hpn,e1,λus ρ2 H2 T2 S2 r2=>?_⟩;have hp2:H2 p=some (.dK []):=(T2.res p HY).trans ax;refine⟨hp2,us,rfl,by rw[r2.len];exact z,?_⟩;obtain⟨ob2,rs2⟩:=ρ2;have ers:rs2=p::ρ.rs:=T2.rs;subst ers;have hml:p∈(⟨ob2,p::ρ.rs⟩:Ad).rs:=HY;have hsub:∀b∈ρ.rs,b∈p::ρ.rs:=λb hb=>Ib _ hb;have hne:∀b∈ρ.rs,b≠p:=λb hb z=>nl (.inr (z ▸ hb));have Cp:Ch ⟨ob2,p::ρ.rs⟩ H2 ⟨ob2,p::ρ.rs⟩ (upd H2 p (.dK (dO [] us))):=Ch.put hml;have C2:Ch ⟨ob2,p::ρ.rs⟩ (upd H2 p (.dK (dO [] us))) ⟨ob2,ρ.rs⟩ (upd H2 p (.dK (dO [] us))):=Ch.free hsub;refine k _ _ ⟨⟨ob2,ρ.rs⟩,⟨((Tl.trans T2.toCh).trans Cp).trans C2,rfl,λb hb=>?_⟩,(S2.put hml).free hsub,.dv ax (λz=>?_) ((aI.merge .nil r2).mono (Cp.trans C2))⟩
  ·show upd H2 p _ b=H b;rw[ao (hne b hb),T2.res b (hsub b hb)];exact ao (hne b hb)
  ·rcases z with z | z
   ·exact(S2.mZ p HY).2 z
   ·exact nl (.inr z)
 ·rw[HS z] at e2;cases e2
end
end Sm
namespace L2
open PySem PySem.Spec PyProof.Rows
open HT in
theorem tQ{t sl:Addr}{items:Array Value}{vl vu:Value}{lo hi:Option Int}{Q:Value->Shared->Prop}(ht:IsTup s.heap t items)(hs:s.heap.IsSliceOf sl vl vu .none)(pl:IsPart vl lo)(pu:IsPart vu hi)
  (hw:bP items.size 0 lo=0/\bP items.size items.size hi=items.size) (h:Q (.ref t) s):wpAny (model prog w) A (getItem (.ref t) (.ref sl)) Q E s:=by
 obtain⟨os,hos,hcs,hds⟩:=id hs;have hTs:s.TypeIs (.ref sl) "slice":=⟨os,hos,hcs⟩;unfold getItem
 try with_reducible refine Ju ?_
 first | refine HG (HK ?_) | skip
 refine HG (K9 ht.typeIs (by decide) ?_);refine HG (Iy (name:=Str.ofString "__getitem__") ht.typeIs Iw (IA Iw ht.typeIs Lu ?_ (LH _ _)));show wpAny _ _ (Builtin.Tuple.tupleItemsOf (.ref t) >>=_) _ _ s;refine HG (tupleItemsOf_ ht (HG (KG hTs ?_)));rw[HQ (by decide)];refine HG (eY hs pl pu ?_);show wpAny _ _ (if(((bP items.size 0 lo:Nat):Int)==0&&(1:Int)==1&&(bP items.size items.size hi-bP items.size 0 lo)==items.size)=true then _ else _) _ _ s;rw[HQ (by rw[hw.1,hw.2];simp)];unfold Builtin.Tuple.tupleIsExact;simp only[bind_assoc,pure_bind];refine HG (KG ht.typeIs ?_);rw[HQ (by decide)]
 first
  | exact HG (JT (HK ⟨_,rfl,HK h⟩))
  | exact HG (JT (HG (HK (HK ⟨_,rfl,HK h⟩))))
def Gn(K:FR):V->Option Int->Option Int->Hp->VK->Prop:=λx lo hi H Q=>∃a xs,x=.ref a/\g8 K H a xs/\(HT.bP xs.length 0 lo=0/\HT.bP xs.length xs.length hi=xs.length)/\Q (.ref a) H
theorem vh:Dj X (Gn X.K):=by
 intro pins s σ H x v vl vu lo hi sl Q I rx hs pl pu h;obtain⟨a,xs,rfl,hx,hw,q⟩:=h;cases rx;obtain⟨its,r,ht,hz⟩:=I.tuple hx;have hlen:its.toArray.size=xs.length:=by rw[HW];exact r.length.symm
 exact⟨"tuple",_,Iw.lookup,ht.typeIs,tQ ht hs pl pu (by rw[hlen];exact hw) ⟨.ref a,H,I,rfl,q⟩⟩
end L2
namespace Sm
open PySem L2 PySem.Spec PyProof.Rows
section
variable {X:Cx}
noncomputable def wU(d:D)(lo hi:Option Int)(h:MH):Option (D×MH):=match d with
 | .tup xs=>if HT.bP xs.length 0 lo=0/\HT.bP xs.length xs.length hi=xs.length then some (.tup xs,h) else some (.tup (cutD xs lo hi),h)
 | d=>EV d lo hi h
noncomputable def rD(a:EM)(l u:PM):EM:=λδ h=>(a δ h).bind λp=>(l δ p.2).bind λq=>(u δ q.2).bind λr=>wU p.1 q.1 r.1 r.2
inductive Aq(K:FR)(x:V)(lo hi:Option Int)(H:Hp)(Q:VK):Prop where
 | mk (ρ h d z h'):bh K ρ h H->Rep K ρ H x d->(wU d lo hi h=some (z,h'))->(∀v H',cF K ρ H h' z v H'->Q v H')->Aq K x lo hi H Q
def Gs(K:FR):V->Option Int->Option Int->Hp->VK->Prop:=λx lo hi H Q=>Aq K x lo hi H Q
theorem AK:Dj X (Gs X.K):=by
 intro pins s σ H x v vl vu lo hi sl Q I rx hs pl pu hh;obtain⟨ρ,h,d,z,h',S,rd,ee,k⟩:=hh;cases d with
 | tup xs=>
  unfold wU at ee;dsimp only at ee
  by_cases c:HT.bP xs.length 0 lo=0/\HT.bP xs.length xs.length hi=xs.length
  ·rw[HQ c] at ee;cases ee;have rd0:=rd;cases rd with | tup h0 l0=>
   exact vh pins s σ H _ v vl vu lo hi sl Q I rx hs pl pu ⟨_,_,rfl,h0.sq,by rw[l0.length];exact c,k _ _ (.here S rd0)⟩
  ·rw[HS c] at ee;exact zY pins s σ H x v vl vu lo hi sl Q I rx hs pl pu ⟨ρ,h,_,z,h',S,rd,by unfold EV;dsimp only;rw[HS c];exact ee,k⟩
 | _=>exact zY pins s σ H x v vl vu lo hi sl Q I rx hs pl pu ⟨ρ,h,_,z,h',S,rd,ee,k⟩
theorem vq{a:Expr}{lo hi:Option Expr}{pos p2:Pos}{ma:EM}{ml mu:PM}(ha:SE X a ma)(hl:SP' X lo ml)(hu:SP' X hi mu):SE X (.Subscript a (.Slice lo hi none p2) pos) (rD ma ml mu):=
 (vY AK ha hl hu).imp λσ H Q ⟨ρ,δ,h,d,h',R,S,e,k⟩=>by
  obtain⟨⟨x,h1⟩,e1,e2⟩:=bg e;obtain⟨⟨l,h2⟩,e3,e4⟩:=bg e2;obtain⟨⟨u,h3⟩,e5,e6⟩:=bg e4;exact⟨ρ,δ,h,x,h1,R,S,e1,λv H1 ⟨ρ1,T1,S1,r1⟩=>⟨ρ1,δ,h1,l,h2,R.mono T1.toCh,S1,e3,λρ2 H2 T2 S2=>⟨ρ2,δ,h2,u,h3,(R.mono T1.toCh).mono T2.toCh,S2,e5,λρ3 H3 T3 S3=>
   ⟨ρ3,h3,x,d,h',S3,r1.mono (T2.trans T3).toCh,e6,λw H4 p=>k w H4 (p.step (T1.trans (T2.trans T3)))⟩⟩⟩⟩
noncomputable def lH:Fn:=λds h=>match ds with
 | [.bl b]=>some (.int (if b then 1 else 0),h)
 | _=>none
theorem CQ:fx X (.type "int") lH:=by
 intro pins s σ H xs us Q I r hh;obtain⟨ρ,h,ds,z,h',S,l,ee,k⟩:=hh
 match ds,l,ee with
 | [],_,ee=>exact bN ee
 | _::_::_,_,ee=>exact absurd ee (by unfold lH;split <;> simp_all)
 | [d],l,ee=>
  obtain⟨v,rfl,rd⟩:=rep1 l;cases rd <;> first |(exact bN ee) | skip
  cases ee;obtain⟨u,rfl,ru⟩:=Vals.one r;cases ru;exact call_int_bool ⟨.int _,H,I.kept (t':=s.toks+1) (h':=s.heap) λ_ _ e=>e,⟨_,rfl⟩,k _ _ (.here S (.int _))⟩
noncomputable def fh(d e:D)(h:MH):Option (D×MH):=match d,e with
 | .str x,.int n=>if x.length<=1000/\0<=n/\n<=1000/\PyData.strOk (Txt.mul x n)=true then some (.str (Txt.mul x n),h) else none
 | d,e=>CJ d e h
theorem eh:l8 X (binaryOp .Mult) fh:=by
 intro pins s σ H x y v u Q I rx ry hh;obtain⟨ρ,h,d,e,z,h',S,rd,re,ee,k⟩:=hh;unfold fh at ee
 split at ee
 ·rename_i x0 n
  by_cases c:x0.length<=1000/\0<=n/\n<=1000/\PyData.strOk (Txt.mul x0 n)=true
  ·rw[HQ c] at ee;cases ee;cases rd;cases re;obtain⟨t1,rfl⟩:=rx;obtain⟨t2,rfl⟩:=ry;obtain⟨c1,c2,c3,c4⟩:=c;refine SB.mul ⟨?_,λ_ _=>?_,λ_ _=>?_⟩ λt' k'=>⟨.str _,H,I.kept (t':=k') (h':=s.heap) λ_ _ e=>e,⟨t',rfl⟩,k _ _ (.here S (.str c4))⟩
   ·rw[IB (by lia),IB (by lia)];rfl
   ·have h1:(9007199254740991:Int)<=(2^63-1) / n:=by
     refine Int.le_ediv_of_mul_le (by lia) ?_;have:9007199254740991*n<=9007199254740991*1000:=Int.mul_le_mul_of_nonneg_left c3 (by decide)
     lia
    lia
   ·have h1:x0.length*n.toNat<=1000*1000:=Nat.mul_le_mul c1 (by lia);refine IB ?_;have:=Kd
    lia
  ·rw[HS c] at ee;cases ee
 ·exact BV pins s σ H x y v u Q I rx ry ⟨ρ,h,_,_,z,h',S,rd,re,ee,k⟩
end
end Sm
namespace L2
open PySem PySem.Spec PyProof.Rows
theorem vB(its:List Value):((List.range its.length).filterMap λ(k:Nat)=>its.toArray[(((its.length:Int)-1)+(k:Int)*(-1)).toNat]?).toArray=its.reverse.toArray:=by
 rw[<-pZ];unfold slicePick;have hb:sliceBounds none none (some (-1)) its.toArray.size=((its.length:Int)-1,-1,-1):=by
  unfold sliceBounds;simp
 rw[hb];dsimp only;unfold sliceRange;dsimp only;rw[HS (by decide)];have hc:(if(its.length:Int)-1 > -1 then((its.length:Int)-1 - -1 - -1-1) / (- -1) else 0)=(its.length:Int):=by
  split
  ·simp
  ·lia
 rw[hc,Je,KS];congr 2
 funext k
 show _=its.toArray[((its.length:Int)-1+-1*(k:Int)).toNat]?;rw[Int.mul_comm]
open HT in
theorem xU{t sl:Addr}{its:List Value}{tk:Tok}{Q:Value->Shared->Prop}(ht:IsTup s.heap t its.toArray)(hs:s.heap.IsSliceOf sl .none .none (.int (-1) tk))
  (h:Q (.ref s.heap.objs.size) {s with heap:=s.heap.push {cls:=.type "tuple",data:=.seq its.reverse.toArray}}) (hsz:its.length<=sizeLine):wpAny (model prog w) A (getItem (.ref t) (.ref sl)) Q E s:=by
 obtain⟨os,hos,hcs,hds⟩:=id hs;have hTs:s.TypeIs (.ref sl) "slice":=⟨os,hos,hcs⟩;unfold getItem
 try with_reducible refine Ju ?_
 first | refine HG (HK ?_) | skip
 refine HG (K9 ht.typeIs (by decide) ?_);refine HG (Iy (name:=Str.ofString "__getitem__") ht.typeIs Iw (IA Iw ht.typeIs Lu ?_ (LH _ _)));show wpAny _ _ (Builtin.Tuple.tupleItemsOf (.ref t) >>=_) _ _ s;refine HG (tupleItemsOf_ ht (HG (KG hTs ?_)));rw[HQ (by decide)];refine HG (m:=Builtin.Slice.sliceApplied _ _) ?_;unfold Builtin.Slice.sliceApplied Builtin.Slice.sliceFields;refine HG (HG (Iu hos hds (x:=.none) rfl (HG (Iu hos hds (x:=.none) rfl (HG (Iu hos hds (x:=.int (-1) tk) rfl (HK ?_)))))));refine HG (slicePart_int ?_);show wpAny _ _ (if((-1:Int)==0)=true then _ else _) _ _ s;rw[HS (by decide)];refine HG (Lj (HG (Lj (HG (HK ?_)))));have hadj:Builtin.Slice.sliceAdjust none none (-1) (its.toArray.size:Int)=((its.length:Int)-1,-1):=by
  unfold Builtin.Slice.sliceAdjust;simp
 have hpl:Builtin.Slice.slicePlaces ((its.length:Int)-1) (-1) (-1)=its.length:=by
  unfold Builtin.Slice.slicePlaces;rw[HS (by decide)]
  split
  ·simp
  ·lia
 show wpAny _ _ (match Builtin.Slice.sliceAdjust none none (-1) (its.toArray.size:Int) with |(lo,hi)=>pure (lo,(-1:Int),Builtin.Slice.slicePlaces lo hi (-1))) _ _ s;rw[hadj];show wpAny _ _ (pure ((its.length:Int)-1,(-1:Int),Builtin.Slice.slicePlaces ((its.length:Int)-1) (-1) (-1))) _ _ s;rw[hpl];refine HK ?_;show wpAny _ _ (if((its.length:Int)-1==0&&(-1:Int)==1&&its.length==its.toArray.size)=true then _ else _) _ _ s;rw[HS (by rw[show((-1:Int)==1)=false from rfl];simp),vB];have htake:sizeOk (.seq its.reverse.toArray):=by
  show its.reverse.toArray.size<=sizeLine;rw[HW,Kb];exact hsz
 first
  | exact HG (m:=Builtin.Tuple.tupleExact _) (IC (HK ⟨_,rfl,HK h⟩) htake)
  | exact HG (HG (m:=Builtin.Tuple.tupleExact _) (IC (HK (HK ⟨_,rfl,HK h⟩)) htake))
section
variable {X:Cx} {e st:Expr} {te ts:TE} {pos p2:Pos}
def DP(K:FR)(te ts:TE):TE:=λσ H Q=>te σ H λx H1=>ts σ H1 λy H2=>y=.int (-1)/\∃a xs,x=.ref a/\((fu K H2 a xs/\∀p,H2 p=none->Q (.ref p) (upd H2 p (.lst xs.reverse)))\/(g8 K H2 a xs/\∀p,H2 p=none->Q (.ref p) (upd H2 p (.tup xs.reverse))))
theorem yT(he:PE X e te)(hs:PE X st ts):PE X (.Subscript e (.Slice none none (some st) p2) pos) (DP X.K te ts):=by
 intro pins s σ H Q I h;refine Subscript_ (bT (he pins s σ H _ I h) λv s1 ⟨x,H1,I1,r1,q1⟩=>?_);refine wpAny_Slice ?_;rw[LW];refine HK (HK ?_);rw[evalPart_some];refine bT (hs pins s1 σ H1 _ I1 q1) λvs s3 ⟨y,H3,I3,r3,ey,a,xs,ex,q3⟩=>?_;subst ey ex;obtain⟨tk,rfl⟩:=r3;cases r1;have I4:Inv X pins σ H3 {s3 with heap:=s3.heap.push {cls:=.type "slice",data:=.fields #[.none,.none,.int (-1) tk]}}:=I3.kept (t':=s3.toks) λb ob q=>HI _ q;show wpAny (model X.prog X.w) X.A (subscriptTail e (.Slice none none (some st) p2) (.ref a) (.ref s3.heap.objs.size)) (EP X pins σ Q) X.xe {s3 with heap:=s3.heap.push {cls:=.type "slice",data:=.fields #[.none,.none,.int (-1) tk]}};rcases q3 with⟨hx,q3⟩ |⟨hx,q3⟩
 ·obtain⟨its,r,ht,hz⟩:=I4.list hx;refine tail_any (ops:=[.ref a,.ref s3.heap.objs.size]) (T:="list") ht.isList.typeIs Lc.lookup ?_ (by with_unfolding_all rfl);refine LS ht.isList (Heap.IsSliceOf.new ..) .none .none (.int (-1) tk) (by decide) ?_ (by rw[HW,<-r.length];exact hz);rw[pZ];refine⟨.ref _,_,I4.laid (t':=s3.toks) (o:=.lst xs.reverse) (λb ob q=>HI _ q) (HN _) ?_,rfl,q3 _ (I4.aZ.fresh (HN _))⟩;exact⟨by rw[Kb];exact hz,its.reverse,0,kG r,HZ _ rfl⟩
 ·obtain⟨its,r,ht,hz⟩:=I4.tuple hx;refine tail_any (ops:=[.ref a,.ref s3.heap.objs.size]) (T:="tuple") ht.typeIs Iw.lookup ?_ (by with_unfolding_all rfl);refine xU ht (Heap.IsSliceOf.new ..) ?_ (by rw[<-r.length];exact hz);refine⟨.ref _,_,I4.laid (t':=s3.toks) (o:=.tup xs.reverse) (λb ob q=>HI _ q) (HN _) ?_,rfl,q3 _ (I4.aZ.fresh (HN _))⟩;exact⟨by rw[Kb];exact hz,its.reverse,kG r,mR.new _ _⟩
end
end L2
namespace Sm
open PySem L2 PySem.Spec PyProof.Rows
section
variable {X:Cx} {e st:Expr} {ma ms:EM} {pos p2:Pos}
noncomputable def qj(m s:EM):EM:=λδ h=>(m δ h).bind λp=>(s δ p.2).bind λq=>match q.1 with
 | .int j=>if j=-1 then(bM p.1 q.2).map λr=>(if i4 p.1=true then .lv r.1.reverse else .tup r.1.reverse,q.2) else none
 | _=>none
theorem ye(he:SE X e ma)(hs:SE X st ms):SE X (.Subscript e (.Slice none none (some st) p2) pos) (qj ma ms):=(yT he hs).imp λσ H Q ⟨ρ,δ,h,d,h',R,S,ee,k⟩=>by
 obtain⟨⟨x,h1⟩,e1,e2⟩:=bg ee;obtain⟨⟨y,h2⟩,e3,e4⟩:=bg e2;dsimp only at e3 e4;cases y <;> first |(exact bN e4) | skip
 rename_i j;dsimp only at e4
 by_cases z:j=-1
 ·rw[HQ z] at e4;subst z;obtain⟨⟨xs,ws⟩,e5,e6⟩:=dY e4;cases e6;refine⟨ρ,δ,h,x,h1,R,S,e1,λv H1 ⟨ρ1,T1,S1,r1⟩=>⟨ρ1,δ,h1,.int (-1),_,R.mono T1.toCh,S1,e3,λu H2 ⟨ρ2,T2,S2,r2⟩=>⟨by cases r2;rfl,?_⟩⟩⟩;obtain⟨a,rfl,⟨vs,q,l⟩,_⟩:=fD S2 (r1.mono T2.toCh) e5;refine⟨a,vs,rfl,?_⟩;generalize i4 x=b at q k;cases q with
  | l q=>exact .inl ⟨q,λp hp=>k _ _ (cF.step (T1.trans T2) (.lv S2 l.rev hp))⟩
  | t q=>exact .inr ⟨q,λp hp=>k _ _ (cF.step (T1.trans T2) (.tup S2 l.rev hp))⟩
 ·rw[HS z] at e4;cases e4
end
end Sm
namespace L2
open PySem PySem.Spec PyProof.Rows
open HT in
theorem xo{t b:Addr}{vs ws:List Value}{Q:Value->Shared->Prop}(ht:IsTup s.heap t vs.toArray)(hb:IsTup s.heap b ws.toArray)(hv:vs=[])(h:Q (.ref b) s):wpAny (model prog w) A (binaryOp .Add (.ref t) (.ref b)) Q E s:=by
 obtain⟨⟨cls,dd,data,sl⟩,ho,hc,n,hd⟩:=id ht;obtain⟨⟨cls2,dd2,data2,sl2⟩,ho2,hc2,n2,hd2⟩:=id hb;simp only at hc hd hc2 hd2;subst hc hd hc2 hd2;exact concat_meets ⟨_,ho,rfl⟩ ⟨_,ho2,rfl⟩ Ll LV Ku Kq (Km _ _)
   (tuple_addW0 t b vs.toArray ws.toArray n n2 dd dd2 sl sl2 (by simp[hv])) ⟨ho,ho2,h⟩
theorem wq:lZ X (binaryOp .Add) (λx y H Q=>∃a b ys,x=.ref a/\y=.ref b/\g8 X.K H a []/\g8 X.K H b ys/\Q (.ref b) H):=by
 intro pins s σ H x y v u Q I rx ry h;obtain⟨a,b,ys,rfl,rfl,ha,hb,q⟩:=h;cases rx;cases ry;obtain⟨its,r1,p1,_⟩:=I.tuple ha;obtain⟨its2,r2,p2,_⟩:=I.tuple hb;exact xo p1 p2 (r1.kz.mpr rfl) ⟨.ref b,H,I,rfl,q⟩
end L2
namespace Sm
open PySem L2 PySem.Spec PyProof.Rows
noncomputable def ar(d e:D)(h:MH):Option (D×MH):=match d,e with
 | .tup [],.tup ys=>some (.tup ys,h)
 | d,e=>oZ d e h
theorem a8:l8 X (binaryOp .Add) ar:=by
 intro pins s σ H x y v u Q I rx ry hh;obtain⟨ρ,h,d,e,z,h',S,rd,re,ee,k⟩:=hh;unfold ar at ee
 split at ee
 ·cases ee;have re0:=re;cases rd with | tup h1 l1=>cases re with | tup h2 l2=>
  cases l1;exact wq pins s σ H _ _ v u Q I rx ry ⟨_,_,_,rfl,rfl,h1.sq,h2.sq,k _ _ (.here S re0)⟩
 ·exact BY pins s σ H _ _ v u Q I rx ry ⟨ρ,h,_,_,z,h',S,rd,re,ee,k⟩
noncomputable def Cn:zR:=λd ds h=>(de d h).bind λkvs=>match ds with
 | [k]=>(oS k).map λkey=>((j4 kvs key).getD .ck,h)
 | [k,x]=>(oS k).map λkey=>((j4 kvs key).getD x,h)
 | _=>none
theorem Cm(hu:X.A.units+1 < cLine):Dq X "dict.get" (rM X.K Cn):=by
 intro pins s σ H x xs v us Q I rx rs hh;obtain⟨ρ,h,d,ds,z,h',S,rd,l,ee,k⟩:=hh;obtain⟨kvs,e1,e2⟩:=bg ee;obtain⟨a,ws,rfl,ha,lk⟩:=fX S rd e1;obtain rfl:v=Value.ref a:=rx
 match ds,l,e2 with
 | [],_,e2=>exact bN e2
 | [y],l,e2=>
  obtain⟨key,e3,e4⟩:=dY e2;cases e4;obtain⟨yv,rfl,ry⟩:=rep1 l;obtain⟨u,rfl,ru⟩:=Vals.one rs;have hy:=gX ry e3;subst hy;refine CN hu I (jm.k ha) ru λw' s' I' r'=>⟨_,H,I',r',k _ _ ?_⟩;rcases lk.val key with⟨q1,q2⟩ |⟨d',v',q1,q2,q3⟩
  ·rw[q1,q2];exact .here S .ck
  ·rw[q1,q2];exact .here S q3
 | [y,x0],l,e2=>
  obtain⟨key,e3,e4⟩:=dY e2;cases e4;obtain⟨yv,xv,rfl,ry,rx0⟩:=rep2 l;obtain⟨u,u2,rfl,ru,ru2⟩:=Vals.two rs;have hy:=gX ry e3;subst hy;refine CM hu I (jm.k ha) ru ru2 λw' s' I' r'=>⟨_,H,I',r',k _ _ ?_⟩;rcases lk.val key with⟨q1,q2⟩ |⟨d',v',q1,q2,q3⟩
  ·rw[q1,q2];exact .here S rx0
  ·rw[q1,q2];exact .here S q3
 | _::_::_::_,_,e2=>exact absurd e2 (by simp)
noncomputable def CK(a b:EM):EM:=λδ h=>(a δ h).bind λp=>(pM p.1 p.2).bind λc=>if c=true then some p else b δ p.2
end Sm
namespace L2
open PySem PySem.Spec PyProof.Rows
section
variable {X:Cx} {a b:Expr} {rest:List Expr} {pos:Pos} {ta tb:TE}
theorem BL(ha:PE X a ta)(hb:PE X (.BoolOp .Or (b::rest) pos) tb):PE X (.BoolOp .Or (a::b::rest) pos) (λσ H Q=>ta σ H λx H1=>∃c,zN X.K x H1 c/\if c=true then Q x H1 else tb σ H1 Q):=by
 intro pins s σ H Q I h;refine BoolOp_or (bT (ha pins s σ H _ I h) λv s1 ⟨x,H1,I1,r1,c,ht,q1⟩=>?_);refine bT (uW pins s1 σ H1 x v (λc H2=>if c=true then Q x H2 else tb σ H2 Q) I1 r1 ⟨c,ht,q1⟩) λc' s2 ⟨H2,I2,q2⟩=>?_;cases c' with
 | false=>exact hb pins s2 σ H2 Q I2 q2
 | true=>exact⟨x,H2,I2,r1,q2⟩
end
end L2
namespace Sm
open PySem L2 PySem.Spec PyProof.Rows
section
variable {X:Cx} {a b:Expr} {pos:Pos} {ma mb:EM}
theorem AV{rest:List Expr}(ha:SE X a ma)(hb:SE X (.BoolOp .Or (b::rest) pos) mb):SE X (.BoolOp .Or (a::b::rest) pos) (CK ma mb):=(BL ha hb).imp λσ H Q ⟨ρ,δ,h,d,h',R,S,e,k⟩=>by
 obtain⟨⟨x,h1⟩,e1,e2⟩:=bg e;obtain⟨c,e3,e4⟩:=bg e2;refine⟨ρ,δ,h,x,h1,R,S,e1,λv H' ⟨ρ',T,S',r⟩=>⟨c,rX S' r e3,?_⟩⟩;cases c with
 | false=>rw[HS (by simp)] at e4 ⊢;exact⟨ρ',δ,h1,d,h',R.mono T,S',e4,λv H2 p=>k v H2 (p.step T)⟩
 | true=>rw[HQ rfl] at e4 ⊢;cases e4;exact k _ _ ⟨ρ',T,S',r⟩
end
end Sm
namespace L2
open PySem PySem.Spec PyProof.Rows
end L2
namespace Sm
open PySem L2 PySem.Spec PyProof.Rows
section
variable {X:Cx} {g:GM} {mt:TM} {ma:EM}
end
end Sm
namespace L2
open PySem PySem.Spec PyProof.Rows
theorem gS:∀{ss:List Str} {us:List Value},Vals (ss.map V.str) us->StrsAre us ss
 | [],_,.nil=>.nil
 | x::r,_,.cons q l=>by obtain⟨t,rfl⟩:=q;exact .cons x t (gS l)
theorem rO:fy X (.builtin "sorted") (λxs H Q=>∃a ss,xs=[.ref a]/\fu X.K H a (ss.map V.str)/\ss.length < 64/\∀l,H l=none->Q (.ref l) (upd H l (.lst ((gd ss).map V.str)))):=by
 intro pins s σ H xs us Q I r h;obtain⟨a,ss,rfl,ha,h64,q⟩:=h;obtain⟨u,rfl,ru⟩:=vals1 r;cases ru;obtain⟨its,rv,p,hz⟩:=I.list ha;have hS:=gS rv;have hlen:its.length=ss.length:=by have:=rv.length;rw[HH] at this;exact this.symm
 refine sorted_strs p.isList hS (by lia) λout ss' h1 h2 h3=>?_;have:=vg h2 h3;subst this;have hl:s.heap.objs.size<=s.heap.objs.size+1:=Ki _;obtain⟨e,ho⟩:=sortedAll_at s.heap its out;have hz':((gd ss).map V.str).length<=sizeLine:=by rw[HH,(fC ss).length_eq,Kd];lia
 refine⟨.ref (s.heap.objs.size+1),_,I.laid (t':=s.toks) (o:=.lst ((gd ss).map V.str)) (λb o q=>sortedAll_old q) hl ⟨hz',out.toList,e,mT h1,?_⟩,rfl,q _ (I.aZ.fresh hl)⟩;rw[ho]
end L2
namespace Sm
open PySem L2 PySem.Spec PyProof.Rows
noncomputable def kK:List D->Option (List Str)
 | []=>some []
 | .str i::r=>(kK r).map λis=>i::is
 | _=>none
theorem kJ:∀{xs:List D} {ns:List Str},kK xs=some ns->xs=ns.map D.str
 | [],_,e=>by cases e;rfl
 | d::r,ns,e=>by
  cases d <;> first |(exact bN e) | skip
  obtain⟨is,e1,e2⟩:=dY (show(kK r).map _=some ns from e);cases e2;rw[kJ e1];rfl
theorem gU:∀(ns:List Str),kK (ns.map D.str)=some ns
 | []=>rfl
 | n::r=>by show(kK (r.map D.str)).map _=_;rw[gU r];rfl
theorem ix{K:FR}{ρ:Ad}{H:Hp}:∀{vs:List V} {ns:List Str},ah K ρ H vs (ns.map D.str)->vs=ns.map V.str/\∀k∈ns,PyData.strOk k=true
 | _,[],.nil=>⟨rfl,λ_ h=>(nomatch h)⟩
 | _,n::r,.cons q l=>by
  cases q with
  | str h=>
   obtain⟨e,f⟩:=ix l;refine⟨by rw[e];rfl,λk hk=>?_⟩;rcases HR.mp hk with rfl | hk
   ·exact h
   ·exact f k hk
noncomputable def oX:Fn:=λds h=>match ds with
 | [d]=>(cZ d h).bind λxs=>(kK xs).bind λns=>if ns.length < 64 then some (.lv ((gd ns).map D.str),h) else none
 | _=>none
theorem xk:fx X (.builtin "sorted") oX:=by
 intro pins s σ H xs us Q I r hh;obtain⟨ρ,h,ds,z,h',S,l,ee,k⟩:=hh
 match ds,l,ee with
 | [],_,ee=>exact bN ee
 | _::_::_,_,ee=>exact bN ee
 | [d],l,ee=>
  obtain⟨v,rfl,rd⟩:=rep1 l;obtain⟨ys,e1,e2⟩:=bg ee;obtain⟨ns,e3,e4⟩:=bg e2
  by_cases c:ns.length < 64
  ·rw[HQ c] at e4;cases e4;obtain⟨a,vs,rfl,ha,la⟩:=eu S rd e1;have:=kJ e3;subst this;obtain⟨e5,f⟩:=ix la;subst e5;refine rO pins s σ H _ us Q I r ⟨a,ns,rfl,fu.of ha,c,λl hl=>k _ _ (.lv S (nc _ λx hx=>f x ((fC ns).mem_iff.mp hx)) hl)⟩
  ·rw[HS c] at e4;cases e4
section
variable {α:Type} {K:FR} {A:Ac α} {l:Addr} {g:GM} {mt:TM} {m:MK α}
mutual
theorem Rep.calm(hs:∀a,ρ'.has a->ρ.has a){v:V}{d:D}(r:Rep K ρ H v d)(c:fY 0 d=true):Rep K ρ' H v d:=by
 cases r with
 | ck=>exact .ck
 | bl b=>exact .bl b
 | int i=>exact .int i
 | str h=>exact .str h
 | ty n=>exact .ty n
 | tup h l=>exact .tup (h.elim (λ⟨a,n⟩=>.inl ⟨a,λz=>n (hs _ z)⟩) .inr) (ah.calm hs l c)
 | lv h n l=>exact .lv h (λz=>n (hs _ z)) (ah.calm hs l c)
 | ro h l=>exact .ro (h.elim (λ⟨a,n⟩=>.inl ⟨a,λz=>n (hs _ z)⟩) .inr) (ah.calm hs l c)
 | dv h n l=>exact .dv h (λz=>n (hs _ z)) (aI.calm hs l c)
 | ob e=>simp[fY] at c
theorem ah.calm(hs:∀a,ρ'.has a->ρ.has a){vs:List V}{ds:List D}(r:ah K ρ H vs ds)(c:dA 0 ds=true):ah K ρ' H vs ds:=by
 cases r with
 | nil=>exact .nil
 | cons r l=>have c:=Ig.mp c;exact .cons (Rep.calm hs r c.1) (ah.calm hs l c.2)
theorem aI.calm(hs:∀a,ρ'.has a->ρ.has a){vs:List (Key×V)}{ds:List (Key×D)}(r:aI K ρ H vs ds)(c:zG 0 ds=true):aI K ρ' H vs ds:=by
 cases r with
 | nil=>exact .nil
 | cons r l=>have c:=Ig.mp c;exact .cons (Rep.calm hs r c.1) (aI.calm hs l c.2)
end
end
section
variable {X:Cx} {k v tg iter:Expr} {pos:Pos} {mk mv:EM} {mt:TM} {g:GM} {N':List Str} {caps:List (Option Nat)} {scope:Scope} {ifs:List Expr} {mi:IM}
end
theorem uH:bootBuiltins "sorted"=some (.builtin "sorted"):=by decide+kernel
end Sm
namespace L2
open PySem PySem.Spec PyProof.Rows
end L2
namespace Sm
open PySem L2 PySem.Spec PyProof.Rows
end Sm
namespace L2
open PySem PySem.Spec PyProof.Rows
end L2
namespace Sm
open PySem L2 PySem.Spec PyProof.Rows
end Sm
namespace Hd
open PySem PySem.W PySem.Spec PyProof.Rows L2 Sm
noncomputable def zk(_:Obj):Bool:=true
noncomputable def zh(h:Heap)(a:Addr):Option (Addr×Obj):=match h.get? a with
 | some o=>if zk o then some (a,o) else none
 | none=>none
noncomputable def bj(h:Heap):Frag:=(List.range h.objs.size).filterMap (zh h)
theorem jB(h:Heap)(a:Addr):∀l:List Addr,(l.filterMap (zh h)).lookup a=if a∈l then(zh h a).map (·.2) else none
 | []=>rfl
 | b::r=>by
  have ih:=jB h a r
  by_cases hb:a=b
  ·subst hb;rw[HQ HY];rw[Js];cases e:zh h a with
   | none=>
    dsimp only;rw[ih,e]
    split <;> rfl
   | some p=>
    have hp:p.1=a:=by
     unfold zh at e
     split at e
     ·split at e
      ·cases e;rfl
      ·cases e
     ·cases e
    obtain⟨p1,p2⟩:=p;dsimp only at hp;subst hp;simp
  ·have hm:(a∈b::r)↔a∈r:=by simp[hb]
   rw[Js];cases e:zh h b with
   | none=>dsimp only;rw[ih];simp only[hm]
   | some p=>
    have hp:p.1=b:=by
     unfold zh at e
     split at e
     ·split at e
      ·cases e;rfl
      ·cases e
     ·cases e
    obtain⟨p1,p2⟩:=p;dsimp only at hp;subst hp;have hab:(a==p1)=false:=by simpa using hb
    rw[ID,hab];dsimp only;rw[ih];simp only[hm]
theorem gY(e:h.get? a=some o)(f:zk o=true):(bj h).lookup a=some o:=by
 unfold bj;rw[jB,HQ]
 ·unfold zh;rw[e];dsimp only;rw[HQ f];rfl
 ·rw[Ke];exact HV e
theorem zi(h:Heap):(bj h).In h:=λa o e=>by
 unfold bj at e;rw[jB] at e
 split at e
 ·unfold zh at e;cases g:h.get? a with
  | none=>rw[g] at e;cases e
  | some o'=>
   rw[g] at e;dsimp only at e
   split at e
   ·cases e;rfl
   ·cases e
 ·cases e
noncomputable def posOf(s:Stmt):Pos:=match s with
 | .FunctionDef _ _ _ _ _ _ _ _ _ p=>p
 | _=>⟨0,0,0,0⟩
noncomputable def ng(n:Str)(s:Stmt):DefRec:=⟨n,i9 s,eC s,ag s,posOf s⟩
theorem zD(r:h.CodeRec cd q):codeIn (bj h) cd q=true:=by
 obtain⟨c,o,vs,t,rfl,g,d,e⟩:=r;have f:zk o=true:=rfl;unfold codeIn;dsimp only;rw[gY g f];obtain⟨oc,od,dt,sl⟩:=o;dsimp only at d;subst d;dsimp only;obtain⟨l⟩:=vs;cases l with
 | nil=>cases e
 | cons x l=>cases l with
  | nil=>cases e
  | cons y r=>cases y <;> first |(cases e;simp;done) |(cases e;done)
theorem sV{q:Program}{loose:List Str}{mean:ExcName->Option Value}{mg mb:Str->Option Value}{h:Heap}(T:Top q loose mean mg mb h){n:Str}{st:Stmt}(e:(recsOf q).find? (λe=>e.name==n)=some (ng n st)):
  ∃f fd,mg n=some (.ref f)/\gj (bj h) n n st f fd:=by
 have hm:ng n st∈recsOf q:=List.mem_of_find?_eq_some e;obtain⟨a,o,pm,code,doc,m,g,d,c⟩:=T.fn _ hm;have f:zk o=true:=rfl;have lk:=gY g f;have kp:keepIn (bj h) (.ref a)=true:=by
  unfold keepIn;dsimp only;rw[lk];obtain⟨oc,od,dt,sl⟩:=o;dsimp only at d;subst d;rfl
 obtain⟨oc,od,dt,sl⟩:=o;dsimp only at d;subst d;exact⟨a,_,m,⟨oc,od,.none,doc,pm,_,code,_,sl,rfl,lk,zD c⟩,kp⟩
theorem _root_.L2.gj.one{K:Frag}{x qual:Str}{st:Stmt}{f:Addr}{fd:FuncData}{p:Str}(F:gj K x qual st f fd)
  (h:∀(kV doc pm:Value)(an:Option Addr)(cdv ct:Value)(u:Value),bindArgs (PySem.W.fnOf x qual (i9 st) (eC st) (ag st) .none kV doc pm an cdv ct) ⟨[u],[]⟩=pure [(p,u)]) (s:Shared) (u:Value):BindsTo s fd ⟨[u],[]⟩ [(p,u)]:=by
 obtain⟨oc,od,kV,doc,pm,an,cdv,ct,osl,rfl,lk,hcd⟩:=F.ex;exact .of_eq (h kV doc pm an cdv ct u)
theorem CF{l:OpenLaw}{q:Program}{loose:List Str}{XP:(Str->Option Value)->Heap->Prop}{YP:World->Heap->Prop}{d:DefRec}{k:Nat}(hn:l.most=some 63)(hdf:d.params.defaults=[])(hr:df k callerA)
  (F:∀(w:World)(s₀:Shared)(mg mb:Str->Option Value)(h:Heap),Ground q loose [] XP w s₀ mg mb h->YP w h->∃(fa:Addr)(fd:FuncData),mg d.name=some (.ref fa)/\(∀(s:Shared)(u:Value),BindsTo s fd ⟨[u],[]⟩ [("_law_script",u)])/\
   ∀base:Heap,(bj h).In base->base.Ns mainGlobals mg->bx l.prog w (bj h) mg base eW k fa fd ["_law_script"] (spT (bj h))):
  WalkO q loose XP YP l.row.toRowW d [] (λf vs=>PySem.call f vs):=by
 refine Att.qA hn hdf λw s₀ s₁ mg mb fa o pm cd doc a vs ns G Y ho hd hcd hmg hobj hints hlen hg=>?_;obtain⟨fa',fd,e,hb,hF⟩:=F w s₀ mg mb _ G Y;rw[e] at hmg;cases hmg;exact wH (zi _) G.T.g G.T.b G.T.builtins G.T.nolimit hg hobj hints (Ie hlen (by decide)) hr hF hb (λH hO hS=>⟨a,ns,rfl,hS,hlen,λ_=>rfl⟩) λ_ _ _ z=>z
noncomputable def freeOk(q:Program)(loose xs:List Str):Bool:=xs.all λx=>!startupNames.contains x&&!(looseW q loose).contains x&&!((recsOf q).map (·.name)).contains x&&!((litsOf q).map (·.1)).contains x&&!((clssOf q (looseW q loose)).map (·.name)).contains x
theorem cf(T:Top q (looseW q loose) mean mg mb h)(e:freeOk q loose xs=true)(hx:x∈xs):mg x=none:=by
 have:=JH.mp e x hx;simp only[Ii,Mb,List.contains_eq_mem,Lp] at this;exact T.free x this.1.1.1.1 this.1.1.1.2 this.1.1.2 this.1.2 this.2
end Hd
namespace Sm
open PySem L2
noncomputable def EI(f:Expr->Option D):List Expr->Option (List D)
 | []=>some []
 | e::es=>(f e).bind λd=>(EI f es).bind λds=>some (d::ds)
noncomputable def kD:Nat->Expr->Option D
 | 0,_=>none
 | n+1,e=>match e with
  | .Constant .none _ _=>some .ck
  | .Constant (.bool b) _ _=>some (.bl b)
  | .Constant (.int i) _ _=>some (.int i)
  | .Constant (.str x) _ _=>if PyData.strOk x then some (.str x) else none
  | .UnaryOp .USub (.Constant (.int i) _ _) _=>some (.int (-i))
  | .Tuple es _ _=>(EI (kD n) es).bind λds=>if ds.length<=1000 then some (.tup ds) else none
  | .List es _=>(EI (kD n) es).bind λds=>if ds.length<=1000 then some (.lv ds) else none
  | .Dict [] [] _=>some (.dv [])
  | _=>none
noncomputable def aK(ds:List D):AM:=λ_ h=>some (ds,h)
theorem Fh(ds:List D):iL (aK ds) ds.length:=λδ h xs h' e=>by cases e;rfl
section
variable {X:Cx}
theorem vb(h:kD n e=some d)(es:List Expr):starEach (e::es) X.env=(false,eval e X.env)::starEach es X.env:=by
 cases n with
 | zero=>exact bN h
 | succ n=>cases e <;> first | rfl |(exfalso;exact(nomatch h))
theorem oy(hf:∀{e:Expr} {d:D},f e=some d->SE X e (eK d))(hs:∀{e:Expr} {d:D},f e=some d->∀es:List Expr,starEach (e::es) X.env=(false,eval e X.env)::starEach es X.env):
  ∀{es:List Expr} {ds:List D},EI f es=some ds->SA X es (aK ds)
 | [],ds,h=>by cases h;exact aC
 | e::es,ds,h=>by
  unfold EI at h;obtain⟨d,e1,h⟩:=bg h;obtain⟨r,e2,h⟩:=bg h;cases h;exact(af (hf e1) (oy hf hs e2) (hs e1 es):SA X _ (aq (eK d) (aK r)))
theorem iT:∀(n:Nat) {e:Expr} {d:D},kD n e=some d->SE X e (eK d)
 | 0,_,_,h=>by cases h
 | n+1,e,d,h=>by
  cases e <;> first |(exact bN h) | skip
  case Constant c _ _=>
   cases c <;> first |(exact bN h) | skip
   case none=>cases h;exact vt
   case bool=>cases h;exact vA
   case int=>cases h;exact aH
   case str x=>
    have h:(if PyData.strOk x then some (D.str x) else none)=some d:=h
    by_cases hs:PyData.strOk x=true
    ·rw[HQ hs] at h;cases h;exact aS hs
    ·rw[HS hs] at h;cases h
  case UnaryOp o e _=>
   cases o <;> first |(exact bN h) | skip
   cases e <;> first |(exact bN h) | skip
   rename_i c _ _;cases c <;> first |(exact bN h) | skip
   cases h;exact(vp qF aH:SE X _ (qD kI (eK _)))
  case Tuple es _ _=>
   obtain⟨ds,e1,e2⟩:=bg h
   by_cases hl:ds.length<=1000
   ·rw[HQ hl] at e2;cases e2;exact(dc (oy (iT n) vb e1) (Fh ds) (Ie hl (by decide)):SE X _ (az bK (aK ds)))
   ·rw[HS hl] at e2;cases e2
  case List es _=>
   obtain⟨ds,e1,e2⟩:=bg h
   by_cases hl:ds.length<=1000
   ·rw[HQ hl] at e2;cases e2;exact(kl.lv (dD (oy (iT n) vb e1) (Fh ds) (Ie hl (by decide))):SE X _ (iM (aK ds)))
   ·rw[HS hl] at e2;cases e2
  case Dict ks vs _=>
   cases ks <;> first |(exact bN h) | skip
   cases vs <;> first |(exact bN h) | skip
   cases h;exact D6
end
end Sm
namespace L2
open PySem PySem.Spec PyProof.Rows
end L2
namespace Sm
open PySem L2 PySem.Spec PyProof.Rows
theorem repL_ints'{K:FR}{ρ:Ad}{H:Hp}:∀(ns:List Int),ah K ρ H (ns.map V.int) (ns.map D.int)
 | []=>.nil
 | n::r=>.cons (.int n) (repL_ints' r)
noncomputable def rE(m:zO):EM:=λδ h=>(m δ h).bind λp=>if p.1.length<=15 then some (.ob p.2.length,p.2++[.dct (lh [] p.1)]) else none
theorem vw(h:SP X pos keys vals m)(hall:keys.all (·.isSome)=true)(hl:keys.length=vals.length)(h0:keys≠[])(hp:∀trs,Dn X pos keys vals trs->PE X (.Dict keys vals pos) (u5 trs)):SE X (.Dict keys vals pos) (rE m):=by
 obtain⟨trs,h1,h2⟩:=h;refine(hp trs h1).imp λσ H Q ⟨ρ,δ,h,d,h',R,S,ee,k⟩ p hpn=>?_;obtain⟨⟨kvs,ha⟩,e1,e2⟩:=bg ee;dsimp only at e2
 by_cases z:kvs.length<=15
 ·rw[HQ z] at e2;cases e2;have Tl:Ch ρ H (ρ.keep p) (upd H p (.dK [])):=Ch.keep hpn;have nl:¬ρ.has p:=S.fresh hpn;refine h2 σ _ _ ⟨ρ.keep p,δ,h,kvs,_,R.mono Tl,S.keep hpn,e1,λus ρ2 H2 T2 S2 r2=>?_⟩;have hp2:H2 p=some (.dK []):=(T2.res p HY).trans ax;refine⟨hp2,us,rfl,by rw[r2.len];exact z,?_⟩;obtain⟨ob2,rs2⟩:=ρ2;have ers:rs2=p::ρ.rs:=T2.rs;subst ers;have hml:p∈(⟨ob2,p::ρ.rs⟩:Ad).rs:=HY;have npo:p∉ob2:=(S2.mZ p hml).2;have hne:∀b∈ρ.rs,b≠p:=λb hb z=>nl (.inr (z ▸ hb));generalize hH3:upd H2 p (.dK (dO [] us))=H3;have at3:∀b,b≠p->H3 b=H2 b:=λb hb=>by rw[<-hH3,ao hb]
  have C23:Ch ⟨ob2,p::ρ.rs⟩ H2 ⟨ob2++[p],ρ.rs⟩ H3:=by
   refine⟨λn a e=>?_,λb o nb eb=>⟨λz=>?_,?_⟩⟩
   ·show(ob2++[p])[n]?=_;rw[HU (HJ.mp e).1];exact e
   ·rcases z with z | z
    ·rcases Il.mp z with z | z
     ·exact nb (.inl z)
     ·exact nb (.inr (by rw[Ia.mp z];exact HY))
    ·exact nb (.inr (Ib _ z))
   ·rw[at3 b (λz=>nb (.inr (by rw[z];exact HY)))];exact eb
  refine k _ _ ⟨⟨ob2++[p],ρ.rs⟩,⟨(Tl.trans T2.toCh).trans C23,rfl,λb hb=>?_⟩,?_,.ob (by show(ob2++[p])[ha.length]?=_;rw[<-S2.len];simp)⟩
  ·rw[at3 b (hne b hb),T2.res b (Ib _ hb)];exact ao (hne b hb)
  ·refine⟨by show(ob2++[p]).length=_;simp;exact S2.len,?_,λn a x e1 e2=>?_,λb hb=>?_⟩
   ·show(ob2++[p]).Nodup;rw[L9];exact⟨S2.nd,by simp,λa ha b hb z=>npo (by rw[<-Ia.mp hb,<-z];exact ha)⟩
   ·have e1:(ob2++[p])[n]?=some a:=e1;have hlen:ob2.length=ha.length:=S2.len
    by_cases hn:n < ob2.length
    ·rw[HU hn] at e1;rw[HU (by lia)] at e2;exact(S2.at_ n a x e1 e2).mono C23 (at3 a λz=>npo (z ▸ HM e1))
    ·have l1:=(HJ.mp e1).1;simp at l1;have hn':n=ob2.length:=by lia
     subst hn';rw[Ik (HN _)] at e1;rw[Ik (by lia),hlen] at e2;simp at e1 e2;subst e1;subst e2;exact⟨dO [] us,by rw[<-hH3];exact ax,(aI.merge .nil r2).mono C23⟩
   ·obtain⟨⟨o,eo⟩,nb⟩:=S2.mZ b (Ib _ hb);refine⟨⟨o,by rw[at3 b (hne b hb)];exact eo⟩,λz=>?_⟩;rcases Il.mp z with z | z
    ·exact nb z
    ·exact hne b hb (Ia.mp z)
 ·rw[HS z] at e2;cases e2
noncomputable def wV(d e:D)(h:MH):Option (D×MH):=match e with
 | .int n=>(cZ d h).bind λxs=>if 0<=n/\n<=1000/\xs.length<=1000 then some (.lv (List.replicate n.toNat xs).flatten,h) else none
 | _=>none
theorem ah.rep{K:FR}{ρ:Ad}{H:Hp}{vs:List V}{ds:List D}(h:ah K ρ H vs ds):∀k:Nat,ah K ρ H (List.replicate k vs).flatten (List.replicate k ds).flatten
 | 0=>.nil
 | k+1=>by
  rw[Ji,Ji,JD,JD];exact h.append (ah.rep h k)
theorem qZ:l8 X (binaryOp .Mult) wV:=by
 intro pins s σ H x y v u Q I rx ry hh;obtain⟨ρ,h,d,e,z,h',S,rd,re,ee,k⟩:=hh;cases e <;> first |(exact bN ee) | skip
 rename_i n;obtain⟨xs,e1,e2⟩:=bg (show(cZ d h).bind _=_ from ee)
 by_cases c:0<=n/\n<=1000/\xs.length<=1000
 ·rw[HQ c] at e2;cases e2;obtain⟨a,vs,rfl,ha,la⟩:=eu S rd e1;cases re;have hb:xs.length*n.toNat<=1000*1000:=Nat.mul_le_mul c.2.2 (by lia);exact B0 pins s σ H _ _ v u Q I rx ry ⟨a,n,vs,rfl,rfl,ha,by lia,by lia,by rw[la.length,show sizeLine=16777216 from rfl];lia,λl hl=>k _ _ (.lv S (la.rep _) hl)⟩
 ·rw[HS c] at e2;cases e2
end Sm
namespace L2
open PySem PySem.Spec PyProof.Rows
end L2
namespace Sm
open PySem L2 PySem.Spec PyProof.Rows
noncomputable def xC(ma mb:EM):AM:=λδ h=>(ma δ h).bind λp=>(mb δ p.2).bind λq=>(cZ p.1 q.2).bind λxs=>(cZ q.1 q.2).bind λys=>if xs.length+ys.length<=sizeLine then some (xs++ys,q.2) else none
theorem qN(ha:SE X a ma)(hb:SE X b mb):kl X (.BinOp a .Add b pos) (xC ma mb):=(Ab wt ha hb).imp λσ H Q ⟨ρ,δ,h,ds,h',R,S,e,k⟩=>by
 obtain⟨⟨x,h1⟩,e1,e2⟩:=bg e;obtain⟨⟨y,h2⟩,e3,e4⟩:=bg e2;obtain⟨xs,e5,e6⟩:=bg e4;obtain⟨ys,e7,e8⟩:=bg e6;dsimp only at e3 e5 e7
 split at e8
 ·rename_i c;cases e8;refine⟨ρ,δ,h,x,h1,R,S,e1,λv H1 ⟨ρ1,T1,S1,r1⟩=>⟨ρ1,δ,h1,y,h2,R.mono T1.toCh,S1,e3,λu H2 ⟨ρ2,T2,S2,r2⟩=>?_⟩⟩;obtain⟨a,vs,rfl,hA,lA⟩:=eu S2 (r1.mono T2.toCh) e5;obtain⟨b,us,rfl,hB,lB⟩:=eu S2 r2 e7;exact⟨a,b,vs,us,rfl,rfl,hA,hB,by rw[lA.length,lB.length];exact c,λp hp=>k ρ2 H2 p (vs++us) (T1.trans T2) S2 hp (lA.append lB)⟩
 ·cases e8
end Sm
namespace Sm
open PySem L2
theorem pY:∀cs:List Int,nj (cs.map D.int)=some (cs.map PyData.int)
 | []=>rfl
 | c::r=>by simp only[HX,nj,sC,pY r,Jc,JL]
theorem lJ:∀cs:List Int,PyData.depthAll (cs.map PyData.int)=0
 | []=>rfl
 | c::r=>by simp only[HX,PyData.depthAll,lJ r,PyData.depth];rfl
theorem uq{h:MH}{c:Nat}{cs:List Int}(hc:h[c]?=some (.lst (cs.map D.int))):ur (.ob c) (.lv []) h=some (.bl (!cs.isEmpty),h):=by
 simp only[ur,EW,de,hc,GN,z8,pY,sC,nj,JL,Jc,PyData.depth,lJ];cases cs <;> rfl
theorem jD(hn:h[n]?=some (.lst xs))(e:gb xs i=some d):bt (.ob n) (.int i) h=some (d,h):=by
 simp only[bt,de,hn,bM,Jc,e,JL]
theorem zt(hn:h[n]?=some (.lst xs)):gJ [.ob n] h=some (.int xs.length,h):=by
 simp only[gJ,de,hn,bM,JL]
theorem oY(hn:h[n]?=some (.lst xs))(e:qe xs.length i=some p):mM (.ob n) (.int i) d h=some (h.set n (.lst (xs.set p d))):=by
 simp only[mM,hn,e,JL]
theorem xB(cs:List Int)(i:Int)(h0:0<=i)(h1:i < cs.length):∃z,gb (cs.map D.int) i=some (.int z):=by
 have hlt:i.toNat < cs.length:=by lia
 refine⟨cs[i.toNat]'hlt,?_⟩;have e:((i.toNat:Nat):Int)=i:=LR h0;have q:gb (cs.map D.int) ((i.toNat:Nat):Int)=some (D.int (cs[i.toNat]'hlt)):=tI (by rw[Io,Iz hlt];rfl);rw[e] at q;exact q
theorem Dh(h0:0<=i)(h1:i < xs.length):∃v,gb xs i=some v/\v∈xs:=by
 have hlt:i.toNat < xs.length:=by lia
 have e:((i.toNat:Nat):Int)=i:=LR h0;have q:gb xs ((i.toNat:Nat):Int)=some (xs[i.toNat]'hlt):=tI (Iz hlt);rw[e] at q;exact⟨_,q,K3 hlt⟩
end Sm
namespace Sm
open PySem
def Rn{α:Type}(o:Option α)(Q:α->Prop):Prop:=∃a,o=some a/\Q a
theorem rv(e:o=some a)(q:Q a):Rn o Q:=⟨a,e,q⟩
theorem Rn.imp(r:Rn o Q)(f:∀a,Q a->Q' a):Rn o Q':=let⟨a,e,q⟩:=r;⟨a,e,f a q⟩
theorem av(r:Rn o λa=>Rn (f a) Q):Rn (o.bind f) Q:=by
 obtain⟨a,e,b,e2,q⟩:=r;exact⟨b,by rw[e];exact e2,q⟩
theorem tX(r:Rn o λa=>Q (f a)):Rn (o.map f) Q:=by
 obtain⟨a,e,q⟩:=r;exact⟨f a,by rw[e];rfl,q⟩
theorem ib(e:δ[i]?=some (some d))(q:Q (d,h)):Rn (cC i δ h) Q:=⟨(d,h),by unfold cC;rw[e];rfl,q⟩
theorem Ee(q:Q (d,h)):Rn (eK d δ h) Q:=⟨_,rfl,q⟩
theorem pV(r:Rn (a δ h) λp=>Rn (b δ p.2) λq=>Rn (f p.1 q.1 q.2) Q):Rn (ai f a b δ h) Q:=av (r.imp λ_ r=>av r)
theorem Gj(r:Rn (a δ h) λp=>Rn (f p.1 p.2) Q):Rn (qD f a δ h) Q:=av r
theorem pW(q:Q ([],h)):Rn (bQ δ h) Q:=⟨_,rfl,q⟩
theorem gA(r:Rn (a δ h) λp=>Rn (m δ p.2) λq=>Q (p.1::q.1,q.2)):Rn (aq a m δ h) Q:=av (r.imp λ_ r=>av (r.imp λ_ q=>⟨_,rfl,q⟩))
theorem Bq(r:Rn (m δ h) λp=>Rn (f p.1 p.2) Q):Rn (az f m δ h) Q:=av r
theorem Gm(r:Rn (t δ h) λp=>(p.1=true->Rn (a δ p.2) Q)/\(p.1=false->Rn (b δ p.2) Q)):Rn (EX t a b δ h) Q:=av (r.imp λp ⟨q1,q2⟩=>by
 obtain⟨c,h⟩:=p;cases c with
 | true=>exact q1 rfl
 | false=>exact q2 rfl)
theorem Bt(r:Rn (a δ h) λp=>∃c,p.1=.bl c/\Q (c,p.2)):Rn (aE a δ h) Q:=av (r.imp λp ⟨c,e,q⟩=>⟨(c,p.2),by rw[e],q⟩)
theorem Bi(r:Rn (a δ h) λp=>∃c,pM p.1 p.2=some c/\Q (c,p.2)):Rn (xV a δ h) Q:=av (r.imp λp ⟨c,e,q⟩=>⟨(c,p.2),by rw[e];rfl,q⟩)
theorem Bj(r:Rn (t δ h) λp=>Q (!p.1,p.2)):Rn (Sm.tS t δ h) Q:=tX r
theorem Bk(r:Rn (a δ h) λp=>(p.1=true->Rn (b δ p.2) Q)/\(p.1=false->Q (false,p.2))):Rn (Sm.qL a b δ h) Q:=av (r.imp λp ⟨q1,q2⟩=>by
 obtain⟨c,h⟩:=p;cases c with
 | true=>exact q1 rfl
 | false=>exact⟨_,rfl,q2 rfl⟩)
theorem D9(r:Rn (a δ h) λp=>(p.1=true->Q (true,p.2))/\(p.1=false->Rn (b δ p.2) Q)):Rn (Sm.xG a b δ h) Q:=av (r.imp λp ⟨q1,q2⟩=>by
 obtain⟨c,h⟩:=p;cases c with
 | true=>exact⟨_,rfl,q1 rfl⟩
 | false=>exact q2 rfl)
theorem mE(r:Rn (m δ h) λp=>Q (.lv p.1,p.2)):Rn (iM m δ h) Q:=tX r
theorem Gk(r:Rn (m δ h) λp=>Q (.ob p.2.length,p.2++[.lst p.1])):Rn (sZ m δ h) Q:=tX r
theorem vI(r:Rn (m δ h) λp=>∃d xs ws,p.1=[d]/\bM d p.2=some (xs,ws)/\Q (xs,p.2)):Rn (tJ m δ h) Q:=av (r.imp λp ⟨d,xs,ws,e,e2,q⟩=>⟨(xs,p.2),by rw[e];dsimp only;rw[e2];rfl,q⟩)
theorem Ea(q:Q (none,h)):Rn (BR δ h) Q:=⟨_,rfl,q⟩
theorem Eb(r:Rn (a δ h) λp=>∃i,p.1=.int i/\Q (some i,p.2)):Rn (BS a δ h) Q:=av (r.imp λp ⟨c,e,q⟩=>⟨_,by rw[e],q⟩)
abbrev SQ:=Fl×DS×MH->Prop
theorem kZ(q:Q (.nx,δ,h)):Rn (b7 δ h) Q:=⟨_,rfl,q⟩
def rY(b:SM)(Q:SQ):SQ:=λr=>match r.1 with
 | .nx=>Rn (b r.2.1 r.2.2) Q
 | _=>Q r
theorem iX(r:Rn (a δ h) (rY b Q)):Rn (aj a b δ h) Q:=av (r.imp λp q=>by
 obtain⟨f,δ',h'⟩:=p;cases f with
 | nx=>exact q
 | bk=>exact⟨_,rfl,q⟩
 | ct=>exact⟨_,rfl,q⟩
 | rt d=>exact⟨_,rfl,q⟩)
theorem pU(r:Rn (e δ h) λp=>Q (.nx,δ.set i (some p.1),p.2)):Rn (bu i e δ h) Q:=av (r.imp λ_ q=>⟨_,rfl,q⟩)
theorem vM(r:Rn (e δ h) λp=>Rn (g p.1 δ p.2) λq=>Q (.nx,q.1,q.2)):Rn (hG e g δ h) Q:=av (r.imp λ_ r=>av (r.imp λ_ q=>⟨_,rfl,q⟩))
theorem vK(r:Rn (e δ h) λp=>Q (.nx,δ,p.2)):Rn (cY e δ h) Q:=av (r.imp λ_ q=>⟨_,rfl,q⟩)
theorem jN(r:Rn (e δ h) λp=>Q (.rt p.1,δ,p.2)):Rn (aY e δ h) Q:=av (r.imp λ_ q=>⟨_,rfl,q⟩)
theorem z9(r:Rn (t δ h) λp=>(p.1=true->Rn (a δ p.2) Q)/\(p.1=false->Rn (b δ p.2) Q)):Rn (gV t a b δ h) Q:=av (r.imp λp ⟨q1,q2⟩=>by
 obtain⟨c,h⟩:=p;cases c with
 | true=>exact q1 rfl
 | false=>exact q2 rfl)
theorem Ec(r:Rn (m δ h) λp=>∃a b,p.1=[a,b]/\Q (.nx,(δ.set i (some a)).set j (some b),p.2)):Rn (yk i j m δ h) Q:=av (r.imp λp ⟨a,b,e,q⟩=>⟨_,by rw[e],q⟩)
theorem t4(q:Q (δ.set i (some d),h)):Rn (gN i d δ h) Q:=⟨_,rfl,q⟩
theorem Bo(r:Rn (o δ h) λp=>Rn (i δ p.2) λq=>Rn (mM p.1 q.1 v q.2) λh'=>Q (δ,h')):Rn (Sm.oW o i v δ h) Q:=av (r.imp λ_ r=>av (r.imp λ_ r=>tX r))
theorem Eg(hn:xs.length=n)(r:Rn (u xs δ h) Q):Rn (gT n u (.tup xs) δ h) Q:=by
 unfold gT;dsimp only;rw[HQ hn];exact r
theorem fb(r:Rn (g d δ h) λp=>Rn (u xs p.1 p.2) Q):Rn (aw g u (d::xs) δ h) Q:=av r
theorem oE(q:Q (δ,h)):Rn (cK [] δ h) Q:=⟨_,rfl,q⟩
def qR(Q:D×MH->Prop):SQ:=λr=>match r.1 with
 | .rt d=>Q (d,r.2.2)
 | .nx=>Q (.ck,r.2.2)
 | _=>False
theorem yC(q:Q (d,h)):qR Q (.rt d,δ,h):=q
theorem GA(q:Q (.ck,h)):qR Q (.nx,δ,h):=q
theorem il(r:Rn (b δ h) Q):rY b Q (.nx,δ,h):=r
theorem DM(q:Q (.rt d,δ,h)):rY b Q (.rt d,δ,h):=q
def wB(I:DS->MH->Prop)(Q:SQ):SQ:=λz=>match z.1 with
 | .nx=>I z.2.1 z.2.2
 | .ct=>I z.2.1 z.2.2
 | .bk=>Q (.nx,z.2.1,z.2.2)
 | .rt d=>Q (.rt d,z.2.1,z.2.2)
theorem GF(q:I δ h):wB I Q (.nx,δ,h):=q
theorem bF(r:Rn (b (entry len ds) h) (qR Q)):Rn (mJ len b ds h) Q:=av (r.imp λp q=>by
 obtain⟨f,δ',h'⟩:=p;cases f with
 | nx=>exact⟨_,rfl,q⟩
 | rt d=>exact⟨_,rfl,q⟩
 | bk=>exact q.elim
 | ct=>exact q.elim)
theorem Eh(r:Rn (i δ h) λp=>Rn (i6 p.2.1 g b p.1 δ p.2.2) Q):Rn (iu i g b δ h) Q:=av r
theorem cQ:∀{xs:List D} {δ:DS} {h:MH} (I:Nat->DS->MH->Prop),I 0 δ h->(∀i δ h,i<=xs.length->I i δ h->kj ws h=true)->
  (∀i x δ h,xs[i]?=some x->I i δ h->Rn (g x δ h) λq=>Rn (b q.1 q.2) (wB (I (i+1)) Q))->(∀δ h,I xs.length δ h->Q (.nx,δ,h))->Rn (i6 ws g b xs δ h) Q
 | [],δ,h,I,h0,hc,_,hq=>by
  unfold i6;rw[HQ (hc 0 δ h (HN _) h0)];exact⟨_,rfl,hq δ h h0⟩
 | x::xs,δ,h,I,h0,hc,ht,hq=>by
  unfold i6;rw[HQ (hc 0 δ h (Jq _) h0)];obtain⟨q,e1,z,e2,hz⟩:=ht 0 x δ h rfl h0;rw[e1];show Rn ((b q.1 q.2).bind _) Q;rw[e2];obtain⟨f,δ',h'⟩:=z;have next:I 1 δ' h'->Rn (i6 ws g b xs δ' h') Q:=λhi=>cQ (λi=>I (i+1)) hi (λi δ h hl=>hc (i+1) δ h (Nat.succ_le_succ hl)) (λi x δ h hx=>ht (i+1) x δ h (by simpa using hx)) hq
  cases f with
  | nx=>exact next hz
  | ct=>exact next hz
  | bk=>exact⟨_,rfl,hz⟩
  | rt d=>exact⟨_,rfl,hz⟩
theorem k3(r:Rn (e δ h) λp=>∃xs ws,bM p.1 p.2=some (xs,ws)/\Q (xs,ws,p.2)):Rn (fU e δ h) Q:=av (r.imp λp ⟨xs,ws,e,q⟩=>⟨(xs,ws,p.2),by rw[e];rfl,q⟩)
theorem iB(r:Rn (m δ h) λp=>∃j:Int,p.1=[.int j]/\-(2^62)<=j/\j < 2^62/\Q ((List.range j.toNat).map λ(k:Nat)=>D.int (k:Int),[],p.2)):Rn (oU m δ h) Q:=av (r.imp λp ⟨j,e,h1,h2,q⟩=>by
 rw[e];dsimp only;rw[HQ ⟨h1,h2⟩];exact⟨_,rfl,q⟩)
theorem Bm(r:Rn (m δ h) λp=>∃d e xs ys ws ws',p.1=[d,e]/\bM d p.2=some (xs,ws)/\bM e p.2=some (ys,ws')/\Q (j3 xs ys,ws++ws',p.2)):Rn (CD m δ h) Q:=
 av (r.imp λp ⟨d,e,xs,ys,ws,ws',e1,e2,e3,q⟩=>⟨_,by rw[e1];dsimp only;rw[e2];dsimp only[Option.bind_some];rw[e3];rfl,q⟩)
theorem yt(r:Rn (m δ h) λp=>∃d xs ws,p.1=[d]/\bM d p.2=some (xs,ws)/\Q (fj 0 xs,ws,p.2)):Rn (wL m δ h) Q:=
 av (r.imp λp ⟨d,xs,ws,e1,e2,q⟩=>⟨_,by rw[e1];dsimp only;rw[e2];rfl,q⟩)
theorem vL(r:Rn (i δ h) λp=>Rn (c7 p.2.1 g c e p.1 (jY caps δ) p.2.2) λq=>q.1.length<=sizeLine/\Q q):Rn (cE caps i g c e δ h) Q:=
 av (r.imp λp r=>av (r.imp λq ⟨hz,hq⟩=>⟨q,by rw[HQ hz],hq⟩))
end Sm
namespace Sm
theorem Bh(q:Q (d,h))(e:δ[i]?=some (some d):=by with_unfolding_all rfl):Rn (cC i δ h) Q:=ib e q
end Sm
namespace Sm
open PySem L2
theorem Bl(q:Q ([],h)):Rn (y0 δ h) Q:=⟨_,rfl,q⟩
theorem ko(hh:Rn (k δ h) λp=>Rn (v δ p.2) λq=>∃kk,oS p.1=some kk/\Rn (r δ q.2) λz=>Q ((kk,q.1)::z.1,z.2)):Rn (gG k v r δ h) Q:=
 av (hh.imp λp x=>av (x.imp λq ⟨kk,e1,y⟩=>by rw[e1];exact tX y))
theorem yx(hh:Rn (m δ h) λp=>Rn (s δ p.2) λq=>q.1=.int (-1)/\∃xs ws,bM p.1 q.2=some (xs,ws)/\Q (if i4 p.1=true then .lv xs.reverse else .tup xs.reverse,q.2)):Rn (qj m s δ h) Q:=
 av (hh.imp λp x=>av (x.imp λq ⟨e1,xs,ws,e2,k⟩=>by rw[e1];show Rn (if(-1:Int)=-1 then _ else _) Q;rw[HQ rfl,e2];exact⟨_,rfl,k⟩))
theorem Br(hh:Rn (a δ h) λp=>Rn (l δ p.2) λq=>Rn (u δ q.2) λr=>Rn (wU p.1 q.1 r.1 r.2) Q):Rn (rD a l u δ h) Q:=av (hh.imp λ_ x=>av (x.imp λ_ y=>av y))
theorem DE(q:Q (.tup ds,h)):Rn (bK ds h) Q:=⟨_,rfl,q⟩
theorem DF(q:Q (.int (-a),h)):Rn (kI (.int a) h) Q:=⟨_,rfl,q⟩
theorem w_add(q:Q (.int (a+b),h)):Rn (ar (.int a) (.int b) h) Q:=⟨_,rfl,q⟩
theorem w_sub(q:Q (.int (a-b),h)):Rn (zq (.int a) (.int b) h) Q:=⟨_,rfl,q⟩
theorem w_lt(q:Q (.bl (decide (a < b)),h)):Rn (Dz (.int a) (.int b) h) Q:=⟨_,rfl,q⟩
theorem FW(q:Q (.bl (decide (b < a)),h)):Rn (wX (.int a) (.int b) h) Q:=⟨_,rfl,q⟩
theorem DL(q:Q (.bl (a==b),h)):Rn (bZ (.int a) (.int b) h) Q:=⟨_,rfl,q⟩
theorem DK(q:Q (.bl (x==y),h)):Rn (bZ (.str x) (.str y) h) Q:=⟨_,rfl,q⟩
theorem DG(q:Q (.bl (!(x==y)),h)):Rn (ur (.str x) (.str y) h) Q:=⟨_,rfl,q⟩
theorem DJ(q:Q (d,h)):Rn (bt (.tup (d::r)) (.int 0) h) Q:=⟨_,by
 show((gb (d::r) 0).map λz=>(z,h))=_;have:gb (d::r) 0=some d:=by unfold gb;rw[show qe (d::r).length 0=some 0 by unfold qe;simp;try lia];rfl
 rw[this];rfl,q⟩
theorem DI(q:Q (e,h)):Rn (bt (.tup (d::e::r)) (.int 1) h) Q:=⟨_,by
 show((gb (d::e::r) 1).map λz=>(z,h))=_;have:gb (d::e::r) 1=some e:=by unfold gb;rw[show qe (d::e::r).length 1=some 1 by unfold qe;simp;try lia];rfl
 rw[this];rfl,q⟩
theorem DH(q:Q (f,h)):Rn (bt (.tup (d::e::f::r)) (.int 2) h) Q:=⟨_,by
 show((gb (d::e::f::r) 2).map λz=>(z,h))=_;have:gb (d::e::f::r) 2=some f:=by unfold gb;rw[show qe (d::e::f::r).length 2=some 2 by unfold qe;simp;try lia];rfl
 rw[this];rfl,q⟩
theorem Ay(q:Q (.int r.length,h)):Rn (gJ [.tup r] h) Q:=⟨_,rfl,q⟩
theorem Az(q:Q (.int r.length,h)):Rn (gJ [.lv r] h) Q:=⟨_,rfl,q⟩
inductive uM{α β:Type}(R:α->β->Prop):List α->List β->Prop where
 | nil:uM R [] []
 | cons {x y xs ys}:R x y->uM R xs ys->uM R (x::xs) (y::ys)
theorem E4(r:Rn (e δ h) λp=>Rn (b (δ.set i (some p.1)) p.2) Q):Rn (aj (bu i e) b δ h) Q:=iX (pU (r.imp λ_ q=>il q))
theorem Fb(r:Rn (e δ h) λp=>Rn (g p.1 δ p.2) λq=>Rn (b q.1 q.2) Q):Rn (aj (hG e g) b δ h) Q:=iX (vM (r.imp λ_ q=>q.imp λ_ q=>il q))
theorem C8(r:Rn (e δ h) λp=>Rn (b δ p.2) Q):Rn (aj (cY e) b δ h) Q:=iX (vK (r.imp λ_ q=>il q))
theorem HD(r:Rn (m δ h) λq=>Q (d::q.1,q.2))(e:δ[i]?=some (some d):=by with_unfolding_all rfl):Rn (aq (cC i) m δ h) Q:=gA (ib e r)
theorem HE(r:Rn (m δ h) λq=>Q (d::q.1,q.2)):Rn (aq (eK d) m δ h) Q:=gA (Ee r)
theorem GW(r:Rn (f [d] h) Q)(e:δ[i]?=some (some d):=by with_unfolding_all rfl):Rn (az f (aq (cC i) bQ) δ h) Q:=Bq (gA (ib e (pW r)))
theorem GV(r:Rn (f [d,d'] h) Q)(e:δ[i]?=some (some d):=by with_unfolding_all rfl)(e':δ[j]?=some (some d'):=by with_unfolding_all rfl):Rn (az f (aq (cC i) (aq (cC j) bQ)) δ h) Q:=Bq (gA (ib e (gA (ib e' (pW r)))))
theorem E6(r:Rn (f d c h) Q)(e:δ[i]?=some (some d):=by with_unfolding_all rfl):Rn (ai f (cC i) (eK c) δ h) Q:=pV (ib e (Ee r))
theorem E5(r:Rn (f d d' h) Q)(e:δ[i]?=some (some d):=by with_unfolding_all rfl)(e':δ[j]?=some (some d'):=by with_unfolding_all rfl):Rn (ai f (cC i) (cC j) δ h) Q:=pV (ib e (ib e' r))
theorem GS(r:Rn (b δ h) λq=>Rn (f d q.1 q.2) Q)(e:δ[i]?=some (some d):=by with_unfolding_all rfl):Rn (ai f (cC i) b δ h) Q:=pV (ib e r)
theorem GU(r:Rn (a δ h) λq=>Rn (f q.1 c q.2) Q):Rn (ai f a (eK c) δ h) Q:=pV (r.imp λ_ r=>Ee r)
theorem E9(q:Q ((δ.set i (some a)).set j (some b),h)):Rn (gT 2 (aw (gN i) (aw (gN j) cK)) (.tup [a,b]) δ h) Q:=Eg rfl (fb (t4 (fb (t4 (oE q)))))
theorem E8(q:Q (((δ.set i (some a)).set j (some b)).set k (some c),h)):Rn (gT 3 (aw (gN i) (aw (gN j) (aw (gN k) cK))) (.tup [a,b,c]) δ h) Q:=Eg rfl (fb (t4 (fb (t4 (fb (t4 (oE q)))))))
theorem CZ(q:Q (.rt d,δ,h))(e:δ[i]?=some (some d):=by with_unfolding_all rfl):Rn (aY (cC i) δ h) Q:=jN (ib e q)
theorem C0(q:Q (.rt d,δ,h)):Rn (aY (eK d) δ h) Q:=jN (Ee q)
end Sm
namespace L2
open PySem PySem.Spec PyProof.Rows
abbrev GD:Hp:=λ_=>none
structure Tab(P:Program)(w:World)(K:FR)(mg:Str->Option Value)(nm:Str)(tb:List (Str×List Int)):Prop where
 ex:∃(a:Addr)(o:Obj)(es:Array DictEntry)(ep:Nat)(kvs:List (Str×Value)),mg nm=some (.ref a)/\K.lookup a=some o/\o.ExactDict/\o.data=.dict es ep/\(a==sysModules)=false/\KeysOf (strKind P w) es/\Pairs (strKind P w) es.toList kvs/\(kvs.map (·.1)).Nodup/\
  Sm.uM (λ(x:Str×List Int)(y:Str×Value)=>x.1=y.1/\∃(t:Addr)(u:Obj)(its:Array Value)(n:Nat),y.2=.ref t/\K.lookup t=some u/\u.cls=.type "tuple"/\u.dict=none/\u.data=.seq its n/\its.size<=sizeLine/\IntsAre its.toList x.2) tb kvs
theorem tR{K:FR}:∀{tb:List (Str×List Int)} {kvs:List (Str×Value)},Sm.uM (λ(x:Str×List Int)(y:Str×Value)=>x.1=y.1/\∃(t:Addr)(u:Obj)(its:Array Value)(n:Nat),y.2=.ref t/\K.lookup t=some u/\u.cls=.type "tuple"/\u.dict=none/\u.data=.seq its n/\its.size<=sizeLine/\IntsAre its.toList x.2) tb kvs->∀x:Str,
  (∀is,tb.lookup x=some is->∃t,valueAt kvs x=some (.ref t)/\∀H,g8 K H t (is.map V.int))/\(valueAt kvs x).isSome=(tb.lookup x).isSome:=by
 intro tb kvs h
 induction h with
 | nil=>exactλx=>⟨λis e=>(nomatch e),rfl⟩
 | @cons p q tb kvs r l ih=>
  intro x;obtain⟨a,is0⟩:=p;obtain⟨b,v⟩:=q;obtain⟨e0,t,u,its,n,e1,h1,h2,h3,h4,h5,h6⟩:=r;dsimp only at e0 e1 h6;subst e0;subst e1
  by_cases hx:x=a
  ·subst hx;have hv:valueAt ((x,Value.ref t)::kvs) x=some (.ref t):=by unfold valueAt;simp
   have hl:((x,is0)::tb).lookup x=some is0:=by simp
   refine⟨λis e=>?_,by rw[hv,hl];rfl⟩;rw[hl] at e;cases e;exact⟨t,hv,λH=>.inr ⟨u,its,n,h1,h2,h4,h5,jn h6,h3⟩⟩
  ·have hv:valueAt ((a,Value.ref t)::kvs) x=valueAt kvs x:=by
    unfold valueAt;rw[List.find?_cons_of_neg (by simpa using λz=>hx z.symm)]
   have hl:((a,is0)::tb).lookup x=tb.lookup x:=by
    rw[ID,show(x==a)=false by simpa using hx]
   rw[hv,hl];exact ih x
theorem Tab.dict(T:Tab X.prog X.w X.K X.mg nm tb)(I:Inv X pins σ H s):∃(a:Addr)(kvs:List (Str×Value)),X.mg nm=some (.ref a)/\(a==sysModules)=false/\s.heap.DictOf (strKind X.prog X.w) a kvs/\∀x:Str,
  (∀is,tb.lookup x=some is->∃t,valueAt kvs x=some (.ref t)/\∀H,g8 X.K H t (is.map V.int))/\(valueAt kvs x).isSome=(tb.lookup x).isSome:=by
 obtain⟨a,o,es,ep,kvs,h1,h2,h3,h4,h5,h6,h7,h8,h9⟩:=T.ex;exact⟨a,kvs,h1,h5,⟨o,es,ep,I.oT a o h2,h3,h4,h6,h7,h8⟩,tR h9⟩
theorem BJ(T:Tab X.prog X.w X.K X.mg nm tb)(hg:Gl X nm)(hi:PE X i ti)(hs:zQ i)(hd:(nm==("__debug__":Str))=false):
  PE X (.Subscript (.Name nm p) i pos) (λσ H Q=>ti σ H λy H1=>∃x is,y=.str x/\tb.lookup x=some is/\∀t,g8 X.K GD t (is.map V.int)->Q (.ref t) H1):=by
 intro pins s σ H Q I h;obtain⟨a,kvs,hm,hsm,dd,hv⟩:=T.dict I;refine xZ Li.lookup hs (oR I hg hm (bT (hi pins s σ H _ I h) λiv s2 ⟨y,H2,I2,ry,x,is,ey,l,q⟩=>?_) hd);subst ey;obtain⟨t,rfl⟩:=ry;obtain⟨a',kvs',hm',hsm',dd',hv'⟩:=T.dict I2;rw[hm] at hm';cases hm';obtain⟨u,e,sq⟩:=(hv' x).1 is l;exact⟨dd'.typeIs,wpAny_getItem_of (by show Value.isStrOf x (.str x t)=true;unfold Value.isStrOf;simp) dd'.mapOf e ⟨.ref u,H2,I2.tok _,rfl,q u (sq _)⟩⟩
end L2
namespace Sm
open PySem L2 PySem.Spec PyProof.Rows
noncomputable def CI(tb:List (Str×List Int))(d:D)(h:MH):Option (D×MH):=match d with
 | .str x=>(tb.lookup x).map λis=>(.tup (is.map D.int),h)
 | _=>none
theorem AU(T:Tab X.prog X.w X.K X.mg nm tb)(hi:SE X i mi)(hg:Gl X nm:=by unfold Gl;ac_nf)(hs:zQ i:=by unfold zQ;intro _ _;ac_nf)(hd:(nm==("__debug__":Str))=false:=by ac_nf):SE X (.Subscript (.Name nm p) i pos) (qD (CI tb) mi):=
 (BJ T hg hi hs hd).imp λσ H Q ⟨ρ,δ,h,d,h',R,S,e,k⟩=>by
  obtain⟨⟨x,h1⟩,e1,e2⟩:=bg e;dsimp only at e2;refine⟨ρ,δ,h,x,h1,R,S,e1,λv H1 ⟨ρ1,T1,S1,r1⟩=>?_⟩;unfold CI at e2
  split at e2
  ·rename_i y;obtain⟨is,e3,e4⟩:=dY e2;cases e4;cases r1;exact⟨_,is,rfl,e3,λt sq=>k _ _ ⟨ρ1,T1,S1,.tup (.inr sq) (repL_ints' is)⟩⟩
  ·cases e2
end Sm
namespace Hd
open PySem PySem.W PySem.Spec PyProof.Rows L2 Sm
abbrev Sub(h h':Heap):Prop:=∀b o,h.get? b=some o->h'.get? b=some o
theorem qQ(k:Sub h h')(x:rowAt h e=some r):rowAt h' e=some r:=by
 unfold rowAt at x ⊢
 split at x
 ·split at x
  ·split at x
   ·rename_i u hu;rw[k _ _ hu];exact x
   ·cases x
  ·cases x
 ·cases x
theorem jM(k:Sub h h'):∀{es:List DictEntry} {r:List (Str×Int×List Int)},iw h es=some r->iw h' es=some r
 | [],_,x=>x
 | e::es,r,x=>by
  unfold iw at x ⊢;obtain⟨y,e1,x⟩:=JN.mp x;obtain⟨ys,e2,x⟩:=Ij.mp x;rw[qQ k e1,jM k e2];exact congrArg some x
theorem qJ(k:Sub h h')(x:tabAt h nm=some r):tabAt h' nm=some r:=by
 have hg:∀v,h.nsMap mainGlobals nm=some v->h'.nsMap mainGlobals nm=some v:=λv e=>by
  unfold Heap.nsMap at e ⊢
  split at e
  ·rename_i o ho;rw[k _ _ ho];exact e
  ·cases e
 unfold tabAt at x ⊢
 split at x
 ·rename_i a ha;rw[hg _ ha];dsimp only
  split at x
  ·cases x
  ·rename_i hs;rw[HS hs]
   split at x
   ·rename_i o ho;rw[k _ _ ho];dsimp only
    split at x
    ·rename_i hc;rw[HQ hc]
     split at x
     ·exact jM k x
     ·cases x
    ·cases x
   ·cases x
 ·cases x
theorem qf:∀{vs:List Value} {is:List Int},sS vs=some is->IntsAre vs is
 | [],_,e=>by cases e;exact .nil
 | v::r,is,e=>by
  cases v <;> first |(exact bN e) | skip
  obtain⟨js,e1,e2⟩:=Ij.mp (show(sS r).map _=some is from e);subst e2;exact .cons _ _ (qf e1)
theorem qw(h:tu v t=true):v=.type t:=by
 unfold tu at h
 split at h
 ·rw[IZ h]
 ·cases h
theorem kS:∀{es:List DictEntry} {tb:List (Str×List Int)},iw h es=some (tb.map λx=>(x.1,hashStr w x.1,x.2))->
  ∃kvs:List (Str×Value),(∀e∈es,∃k,(PySem.strKind P w).is k e.key=true/\e.hash=(PySem.strKind P w).hash k)/\Pairs (PySem.strKind P w) es kvs/\kvs.map (·.1)=tb.map (·.1)/\
   uM (λ(x:Str×List Int)(y:Str×Value)=>x.1=y.1/\∃(t:Addr)(u:Obj)(its:Array Value)(n:Nat),y.2=.ref t/\(bj h).lookup t=some u/\u.cls=.type "tuple"/\u.dict=none/\u.data=.seq its n/\its.size<=sizeLine/\IntsAre its.toList x.2) tb kvs
 | [],tb,x=>by
  have hz:tb=[]:=by
   have:=Option.some.inj x;exact List.map_eq_nil_iff.mp this.symm
  subst hz;exact⟨[],λ_ z=>(nomatch z),.nil,rfl,.nil⟩
 | e::es,tb,x=>by
  unfold iw at x;obtain⟨y,e1,x⟩:=JN.mp x;obtain⟨ys,e2,x⟩:=Ij.mp x;cases tb with
  | nil=>cases x
  | cons q tb=>
   rw[HX] at x;obtain⟨rfl,rfl⟩:=List.cons.inj x;obtain⟨kvs,h1,h2,h3,h4⟩:=kS (P:=P) e2;unfold rowAt at e1
   split at e1
   ·rename_i x0 tk hk
    split at e1
    ·rename_i t hv
     split at e1
     ·rename_i u hu
      split at e1
      ·rename_i hc;rw[Ii] at hc
       split at e1
       ·rename_i its n hd
        split at e1
        ·rename_i hs;obtain⟨is,e3,e4⟩:=Ij.mp e1;have e5:x0=q.1:=congrArg (·.1) e4;have e6:e.hash=hashStr w q.1:=congrArg (·.2.1) e4;have e7:is=q.2:=congrArg (·.2.2) e4;have hki:(PySem.strKind P w).is q.1 e.key=true:=by rw[hk,e5];show Value.isStrOf q.1 (.str q.1 tk)=true;unfold Value.isStrOf;simp
         refine⟨(q.1,.ref t)::kvs,λe' he'=>?_,.cons hki hv h2,by rw[HX,HX,h3],.cons ⟨rfl,t,u,its,n,rfl,gY hu rfl,qw hc.1,by simpa using hc.2,hd,Ie hs (by decide),by rw[<-e7];exact qf e3⟩ h4⟩;rcases HR.mp he' with rfl | he'
         ·exact⟨q.1,hki,e6⟩
         ·exact h1 e' he'
        ·cases e1
       ·cases e1
      ·cases e1
     ·cases e1
    ·cases e1
   ·cases e1
theorem tab_of(x:tabAt h nm=some (tb.map λx=>(x.1,hashStr w x.1,x.2)))(g:h.Ns mainGlobals mg)(nd:(tb.map (·.1)).Nodup):Tab P w (bj h) mg nm tb:=by
 unfold tabAt at x
 split at x
 ·rename_i a ha
  split at x
  ·cases x
  ·rename_i hs
   split at x
   ·rename_i o ho
    split at x
    ·rename_i hc;rw[Ii,Ii] at hc
     split at x
     ·rename_i es ep hd;obtain⟨kvs,h1,h2,h3,h4⟩:=kS (P:=P) x;have hm:mg nm=some (.ref a):=by
       obtain⟨o',es',ep',g1,g2,_,g3⟩:=g;rw[<-g3 nm,<-ha];unfold Heap.nsMap;rw[g1];dsimp only;rw[g2]
      exact⟨a,o,es,ep,kvs,hm,gY ho rfl,⟨qw hc.1.1,by simpa using hc.1.2,IZ hc.2⟩,hd,by simpa using hs,λe he=>h1 e (KC.mpr he),h2,by rw[h3];exact nd,h4⟩
     ·cases x
    ·cases x
   ·cases x
 ·cases x
end Hd
namespace L2
open PySem PySem.Spec PyProof.Rows
end L2
namespace Sm
open PySem L2 PySem.Spec PyProof.Rows
end Sm
namespace Sb
open PySem L2 PySem.Spec PyProof.Rows
open Builtin.SmallTypes (nextOf ownedTupleIsFree ownedTupleHandOut)
end Sb
namespace PySem
end PySem
namespace L2
open PySem PySem.Spec PyProof.Rows
end L2
namespace L2
open PySem PySem.Spec PyProof.Rows Sb
end L2
namespace Sm
open PySem L2 PySem.Spec PyProof.Rows Sb
end Sm
namespace Sb
open PySem L2 PySem.Spec PyProof.Rows
variable {P:Program} {w:World} {A:Around} {E:Value->Shared->Prop} {s:Shared} {b c:Bool}
end Sb
namespace Sb
open PySem L2 PySem.Spec PyProof.Rows
variable {P:Program} {w:World} {A:Around} {E:Value->Shared->Prop} {s:Shared} {b c:Bool}
end Sb
namespace L2
open PySem PySem.Spec PyProof.Rows Sb
end L2
namespace Sm
open PySem L2 PySem.Spec PyProof.Rows Sb
end Sm
namespace PySem
end PySem
namespace L2
open PySem PySem.Spec PyProof.Rows
end L2
namespace Sm
open PySem L2 PySem.Spec PyProof.Rows
end Sm
namespace L2
open PySem PySem.Spec PyProof.Rows
end L2
namespace L2
open PySem PySem.Spec PyProof.Rows PySem.SeqAt
theorem sD:∀(n:Nat) {d e:PyData},cz n d=true->cz n e=true->PyData.eqv d e=true->d=e:=by
 intro n
 induction n with
 | zero=>
  intro d e hd he h;cases d <;> cases e <;> simp_all [cz,PyData.eqv]
 | succ n ih=>
  have hl:∀(xs ys:List PyData),xs.all (cz n)=true->ys.all (cz n)=true->PyData.eqvAll xs ys=true->xs=ys:=by
   intro xs
   induction xs with
   | nil=>intro ys _ _ h;cases ys with | nil=>rfl | cons _ _=>simp[PyData.eqvAll] at h
   | cons x xs ihx=>
    intro ys h1 h2 h;cases ys with
    | nil=>simp[PyData.eqvAll] at h
    | cons y ys=>
     rw[JZ,Ii] at h1 h2;rw[PyData.eqvAll,Ii] at h;rw[ih h1.1 h2.1 h.1,ihx ys h1.2 h2.2 h.2]
  intro d e hd he h;cases d <;> cases e <;> first
   |(simp_all [cz,PyData.eqv];done)
   |(rename_i xs ys;rw[PyData.eqv] at h;rw[hl xs ys hd he h])
theorem oF:∀(n:Nat) {d:PyData},cz n d=true->d.canLay0=true/\d.depth<=n:=by
 intro n
 induction n with
 | zero=>
  intro d hd;cases d <;> simp_all [cz,PyData.canLay0,PyData.depth]
 | succ n ih=>
  have hl:∀(xs:List PyData),xs.all (cz n)=true->PyData.canLayAll0 xs=true/\PyData.depthAll xs<=n:=by
   intro xs
   induction xs with
   | nil=>intro _;exact⟨by simp[PyData.canLayAll0],by simp[PyData.depthAll]⟩
   | cons x xs ihx=>
    intro h1;rw[JZ,Ii] at h1;obtain⟨a1,a2⟩:=ih h1.1;obtain⟨b1,b2⟩:=ihx h1.2;refine⟨by rw[PyData.canLayAll0,a1,b1];rfl,?_⟩;rw[PyData.depthAll]
    lia
  intro d hd;cases d <;> first
   |(simp_all [cz,PyData.canLay0,PyData.depth];done)
   |(rename_i xs;obtain⟨a1,a2⟩:=hl xs hd;refine⟨(by rw[PyData.canLay0];exact a1),?_⟩;rw[PyData.depth];lia)
theorem w6(n:Nat)(hu:A.units+n < cLine)(pd:cz n d=true)(pe:cz n e=true)(rd:Reads s.heap u d as)(re:Reads s.heap v e bs)(h:Q (PyData.eqv d e) s):
  wpAny (model P w) A (eqBool u v) Q E s:=by
 have c1:=oF n pd;have c2:=oF n pe;refine eqBoolOverData P w A E s u v d e as bs Q rd re c1.1 c2.1 ?_ h;have:min d.depth e.depth<=d.depth:=K5 _ _
 lia
theorem pX:∀(n:Nat) {A:Around} {s:Shared} {d:PyData} {v:Value} {as:List Addr} {Q:Bool->Shared->Prop},cz n d=true->Reads s.heap v d as->Q true s->∀m,n<=m->wpAny (model P w) A (eqIsQuiet m v) Q E s:=by
 intro n
 induction n with
 | zero=>
  intro A s d v as Q hp hr h m hm;have:carriedByValue v=true:=by cases hr <;> first | rfl | simp[cz] at hp
  rw[Ld _ this];exact HK h
 | succ n ih=>
  intro A s d v as Q hp hr h m hm;cases hr with
  | @tuple a o vs k xs _ ho hc hd hall=>
   obtain⟨m,rfl⟩:∃m',m=m'+1:=⟨m-1,by lia⟩;have hT:s.TypeIs (.ref a) "tuple":=⟨o,ho,hc⟩;have hp':xs.all (cz n)=true:=hp;unfold eqIsQuiet;refine HG (KJ hT F.slot_tuple_eq.lookup ?_);show wpAny _ _ (isInstance (.ref a) (.type "tuple") >>=_) _ _ s;refine HG (Jw hT isSubtype_tuple_tuple ?_);simp only[Bool.not_true,Kf,J1];refine HG (Jp ho hd ?_);refine HG ?_;show wpAny _ _ (forIn vs _ _) _ _ s;rw[<-L4];refine wpAny_forIn_list _ (λrest r s'=>r.1=none/\s'=s/\∃ds as',ReadsAll s.heap rest ds as'/\ds.all (cz n)=true) _ ?_ ?_ _ _ ⟨rfl,rfl,xs,_,hall,hp'⟩
   ·rintro v rest r s' ⟨hr,rfl,ds,as',hl,hds⟩;cases hl with
    | cons h1 h2=>
     rw[JZ,Ii] at hds;refine HG (ih hds.1 h1 ?_ m (by lia));simp only[Bool.not_true,Kf,J1];exact HK ⟨rfl,rfl,_,_,h2,hds.2⟩
   ·rintro⟨r1,r2⟩ s' ⟨hr,rfl,_⟩;simp only at hr;subst hr;exact HK h
  | int i t=>rw[Ld _ rfl];exact HK h
  | str i t=>rw[Ld _ rfl];exact HK h
  | none=>simp[cz] at hp
  | bool=>simp[cz] at hp
  | list=>simp[cz] at hp
  | dict=>simp[cz] at hp
theorem qT(hk:∀b o vs m,h.get? b=some o->o.data=.seq vs m->h'.get? b=some o):∀(n:Nat) {d:PyData} {v:Value} {as:List Addr},cz n d=true->Reads h v d as->Reads h' v d as:=by
 intro n
 induction n with
 | zero=>
  intro d v as hp hr;cases hr with
  | int i t=>exact .int i t
  | str x t=>exact .str x t
  | none=>simp[cz] at hp
  | bool=>simp[cz] at hp
  | list=>simp[cz] at hp
  | dict=>simp[cz] at hp
  | tuple=>simp[cz] at hp
 | succ n ih=>
  have hl:∀(ds:List PyData) {vs:List Value} {as:List Addr},ds.all (cz n)=true->ReadsAll h vs ds as->ReadsAll h' vs ds as:=by
   intro ds
   induction ds with
   | nil=>intro vs as _ hr;cases hr;exact .nil
   | cons d ds ihd=>
    intro vs as hp hr;rw[JZ,Ii] at hp;cases hr with
    | cons h1 h2=>exact .cons (ih hp.1 h1) (ihd hp.2 h2)
  intro d v as hp hr;cases hr with
  | int i t=>exact .int i t
  | str x t=>exact .str x t
  | none=>simp[cz] at hp
  | bool=>simp[cz] at hp
  | list=>simp[cz] at hp
  | dict=>simp[cz] at hp
  | tuple h1 h2 h3 h4=>exact .tuple (hk _ _ _ _ h1 h3) h2 h3 (hl _ hp h4)
end L2
namespace Sm
open PySem L2 PySem.Spec PyProof.Rows
def G2(mg:Str->Option Value)(x:Str)(d:D):Prop:=∃(v:V)(u:Value),mg x=some u/\RelV v u/\∀K ρ H,Rep K ρ H v d
theorem AY(C:G2 X.mg x d)(hg:Gl X x)(hd:(x==("__debug__":Str))=false:=by ac_nf):SE X (.Name x pos) (eK d):=by
 obtain⟨v,u,h1,h2,h3⟩:=C;exact yf hg h1 h2 (λρ H=>h3 X.K ρ H) hd
end Sm
namespace Hd
open PySem PySem.W PySem.Spec PyProof.Rows L2 Sm
theorem zC(T:Top q loose mean mg mb h)(e:valOf q x=some (.str s))(ok:PyData.strOk s=true):G2 mg x (.str s):=by
 obtain⟨v,h1,h2⟩:=T.const x _ e;have:=h2 h;cases this with
 | str _ t=>exact⟨.str s,_,h1,⟨t,rfl⟩,λ_ _ _=>.str ok⟩
end Hd
namespace L2
open PySem PySem.Spec PyProof.Rows
end L2
namespace Sm
open PySem L2 PySem.Spec PyProof.Rows
end Sm
namespace L2
open PySem PySem.Spec PyProof.Rows
end L2
namespace Sm
open PySem L2 PySem.Spec PyProof.Rows
end Sm
namespace L2
open PySem PySem.Spec PyProof.Rows
end L2
namespace Sm
open PySem L2
end Sm
namespace Sm
open PySem L2 PySem.Spec PyProof.Rows
end Sm
namespace L2
open PySem PySem.Spec PyProof.Rows
end L2
namespace Sm
open PySem L2 PySem.Spec PyProof.Rows
theorem oq(d:Df X.prog X.w X.K X.mg X.base nm k ps n F)(hr:df k' X.A)(ha:SA X (e::es) m)(hk:k<=k':=by decide)(hl:iL m n:=by repeat(first | exact ay | refine ae ?_))(hg:Gl X nm:=by unfold Gl;ac_nf)(hdb:(nm==("__debug__":Str))=false:=by ac_nf)(he:starEach (e::es) X.env=(false,eval e X.env)::starEach es X.env:=by ac_nf)(hpl:(backTo pos (starEach es X.env)).any (·.1)=false:=by ac_nf):SE X (.Call (.Name nm p) (e::es) [] pos) (az F m):=D7 d hr hk ha hl hg hdb he hpl
theorem A8{x:Str}{id:String}{p pos:Pos}{e:Expr}{es:List Expr}{f:Fn}{m:AM}(hc:fx X (.builtin id) f)(hm:X.mg x=none)(hv:bootBuiltins x=some (.builtin id))(ha:SA X (e::es) m)(hg:Gl X x:=by unfold Gl;ac_nf)(hn:x≠"__name__":=by decide)(hdb:(x==("__debug__":Str))=false:=by ac_nf)
  (he:starEach (e::es) X.env=(false,eval e X.env)::starEach es X.env:=by ac_nf) (hpl:(backTo pos (starEach es X.env)).any (·.1)=false:=by ac_nf):SE X (.Call (.Name x p) (e::es) [] pos) (az f m):=vz hc hg hm hv ha hn hdb he hpl
theorem Dv{x:Str}{id:String}{p pos:Pos}{e:Expr}{es:List Expr}{f:Fn}{m:AM}(hc:fx X (.type id) f)(hm:X.mg x=none)(hv:bootBuiltins x=some (.type id))(ha:SA X (e::es) m)(hg:Gl X x:=by unfold Gl;ac_nf)(hn:x≠"__name__":=by decide)(hdb:(x==("__debug__":Str))=false:=by ac_nf)
  (he:starEach (e::es) X.env=(false,eval e X.env)::starEach es X.env:=by ac_nf) (hpl:(backTo pos (starEach es X.env)).any (·.1)=false:=by ac_nf):SE X (.Call (.Name x p) (e::es) [] pos) (az f m):=vy hc hg hm hv ha hn hdb he hpl
theorem Hz(hm:X.mg x=none)(hv:bootBuiltins x=some (.type n))(hg:Gl X x:=by unfold Gl;ac_nf)(hn:x≠"__name__":=by decide)(hd:(x==("__debug__":Str))=false:=by ac_nf):SE X (.Name x pos) (eK (.ty n)):=D3 hg hm hv hn hd
theorem six(hr:df k X.A)(ha:SE X a ma)(hb:SE X b mb)(hs:jl b:=by unfold jl;intro _ _;ac_nf):SE X (.Subscript a b pos) (ai bt ma mb):=D4 hr.units ha hb hs
end Sm
namespace Hd
open PySem PySem.W PySem.Spec PyProof.Rows L2 Sm
theorem u0{P:List Value->Prop}(h:P [])(us:List Value)(hl:us.length=0):P us:=by cases us with | nil=>exact h | cons _ _=>cases hl
theorem u1{P:List Value->Prop}(h:∀a,P [a])(us:List Value)(hl:us.length=1):P us:=by
 cases us with
 | nil=>cases hl
 | cons a r=>exact u0 (P:=λr=>P (a::r)) (h a) r (Nat.succ.inj hl)
theorem u2{P:List Value->Prop}(h:∀a b,P [a,b])(us:List Value)(hl:us.length=2):P us:=by
 cases us with
 | nil=>cases hl
 | cons a r=>exact u1 (P:=λr=>P (a::r)) (h a) r (Nat.succ.inj hl)
theorem u3{P:List Value->Prop}(h:∀a b c,P [a,b,c])(us:List Value)(hl:us.length=3):P us:=by
 cases us with
 | nil=>cases hl
 | cons a r=>exact u2 (P:=λr=>P (a::r)) (h a) r (Nat.succ.inj hl)
theorem u4{P:List Value->Prop}(h:∀a b c d,P [a,b,c,d])(us:List Value)(hl:us.length=4):P us:=by
 cases us with
 | nil=>cases hl
 | cons a r=>exact u3 (P:=λr=>P (a::r)) (h a) r (Nat.succ.inj hl)
theorem b5{q:Program}{loose:List Str}{mean:ExcName->Option Value}{mg mb:Str->Option Value}{h base:Heap}{P:Program}{w:World}(T:Top q loose mean mg mb h){n:Str}{st:Stmt}(e:(recsOf q).find? (λe=>e.name==n)=some (ng n st)){ps:List Str}{k N:Nat}{F:Fn}
  (hb:∀{f:Addr} {fd:FuncData},gj (bj h) n n st f fd->Binds (bj h) fd ps []) (ok:∀{f:Addr} {fd:FuncData},gj (bj h) n n st f fd->keepIn (bj h) (.ref f)=true->Binds (bj h) fd ps []->mg n=some (.ref f)->bx P w (bj h) mg base eW k f fd ps (gn (bj h) N F)):Df P w (bj h) mg base n k ps N F:=by
 obtain⟨f,fd,m,G⟩:=sV T e;exact⟨f,fd,ok G G.kp (hb G) m,G.kp,hb G,m⟩
end Hd
namespace L2
open PySem PySem.Spec PyProof.Rows Builtin.Str
theorem y9{X:Cx}:Dq X "str.join" (λx vs H Q=>∃p a ss,x=.str p/\vs=[.ref a]/\(fu X.K H a (ss.map V.str)\/g8 X.K H a (ss.map V.str))/\(ss.map (·.length)).sum+ss.length*p.length<=16777216/\Q (.str (Txt.join p ss)) H):=by
 intro pins s σ H x xs v us Q I rx rs h;obtain⟨p,a,ss,rfl,rfl,ha,hz,q⟩:=h;obtain⟨t,rfl⟩:=rx;obtain⟨u,rfl,ru⟩:=vals1 rs;cases ru;rcases ha with ha | ha
 ·obtain⟨its,rv,p,_⟩:=I.list ha;exact join_list p.isList (by simpa using gS rv) hz λt' k=>⟨.str _,H,I.kept (t':=k) λ_ _ e=>e,⟨t',rfl⟩,q⟩
 ·obtain⟨its,rv,p,_⟩:=I.tuple ha;exact join_tuple p (by simpa using gS rv) hz λt' k=>⟨.str _,H,I.kept (t':=k) λ_ _ e=>e,⟨t',rfl⟩,q⟩
end L2
namespace L2
open PySem PySem.Spec PyProof.Rows
abbrev TJ:=Str->St->Hp->(Str->Hp->Prop)->Prop
def PJ(X:Cx)(es:List Expr)(t:TJ):Prop:=∀(pins:List (Addr×Obj)) (s:Shared) (σ:St) (H:Hp) (acc:Str) (Q:Str->Hp->Prop) (R:Str->Shared->Prop),Inv X pins σ H s->t acc σ H Q->
 (∀out s1 H1,Inv X pins σ H1 s1->Q out H1->R out s1)->Joins (model X.prog X.w) X.A X.xe (evalEach es X.env) acc R s
theorem BD{X:Cx}:PJ X [] (λacc σ H Q=>Q acc H):=λpins s σ H acc Q R I q k=>k acc s H I q
theorem yO{X:Cx}{e:Expr}{es:List Expr}{t:TE}{r:TJ}(he:PE X e t)(hr:PJ X es r):PJ X (e::es) (λacc σ H Q=>t σ H λv H1=>∃y,v=.str y/\(acc++y).length<=sizeLine/\r (acc++y) σ H1 Q):=by
 intro pins s σ H acc Q R I q k;show wpAny _ _ (eval e X.env) _ _ s;refine bT (he pins s σ H _ I q) λv s1 ⟨x,H1,I1,r1,y,e1,hz,q1⟩=>?_;subst e1;obtain⟨u,rfl⟩:=r1;exact⟨y,u,rfl,hz,hr pins s1 σ H1 _ Q R I1 q1 k⟩
theorem BP{X:Cx}{e:Expr}{t:TE}{pos:Pos}(he:PE X e t):PE X (.FormattedValue e (-1) none pos) (λσ H Q=>t σ H λv H1=>∃y:Str,v=.str y/\y.length<=sizeLine/\Q v H1):=by
 intro pins s σ H Q I h;refine wpAny_FormattedValue_plain (bT (he pins s σ H _ I h) λv s1 ⟨x,H1,I1,r1,y,e1,hz,q1⟩=>?_);subst e1;obtain⟨u,rfl⟩:=r1;exact wpAny_formatField_str ⟨.str y,H1,I1,⟨_,rfl⟩,q1⟩ ⟨.str y,H1,I1.kept (t':=s1.toks+1) λ_ _ e=>e,⟨_,rfl⟩,q1⟩ hz
theorem yV{X:Cx}{a b:Expr}{r:List Expr}{t:TJ}{pos:Pos}(h:PJ X (a::b::r) t):PE X (.JoinedStr (a::b::r) pos) (λσ H Q=>t Str.empty σ H λout H1=>out.length<=sizeLine/\Q (.str out) H1):=by
 intro pins s σ H Q I q;exact wpAny_JoinedStr (h pins s σ H _ _ _ I q λout s1 H1 I1 ⟨hz,q1⟩=>⟨hz,.str out,H1,I1.kept (t':=s1.toks+1) λ_ _ e=>e,⟨_,rfl⟩,q1⟩)
end L2
namespace Sm
open PySem L2 PySem.Spec PyProof.Rows Builtin.Str
abbrev JM:=DS->MH->Str->Option (Str×MH)
noncomputable def EJ:JM:=λ_ h acc=>some (acc,h)
noncomputable def qc(e:EM)(r:JM):JM:=λδ h acc=>(e δ h).bind λp=>match p.1 with
 | .str y=>if(acc++y).length<=sizeLine then r δ p.2 (acc++y) else none
 | _=>none
noncomputable def wY(d:D)(h:MH):Option (D×MH):=match d with
 | .str y=>if y.length<=sizeLine then some (.str y,h) else none
 | _=>none
noncomputable def GP(m:JM):EM:=λδ h=>(m δ h Str.empty).bind λp=>if p.1.length<=sizeLine then some (.str p.1,p.2) else none
theorem dw{x y:Str}(hx:PyData.strOk x=true)(hy:PyData.strOk y=true):PyData.strOk (x++y)=true:=by
 unfold PyData.strOk at*;show(x.cps++y.cps).all _=true;rw[Array.all_append,hx,hy];rfl
inductive Ft(K:FR)(m:JM)(acc:Str)(σ:L2.St)(H:Hp)(Q:Str->Hp->Prop):Prop where
 | mk (ρ δ h out h'):bS K ρ H σ δ->bh K ρ h H->PyData.strOk acc=true->(m δ h acc=some (out,h'))->(∀ρ' H',bX ρ H ρ' H'->bh K ρ' h' H'->PyData.strOk out=true->Q out H')->Ft K m acc σ H Q
def SJ(X:Cx)(es:List Expr)(m:JM):Prop:=PJ X es (λacc σ H Q=>Ft X.K m acc σ H Q)
theorem PJ.imp{X:Cx}{es:List Expr}{t t':TJ}(h:PJ X es t)(i:∀acc σ H Q,t' acc σ H Q->t acc σ H Q):PJ X es t':=λpins s σ H acc Q R I q k=>h pins s σ H acc Q R I (i acc σ H Q q) k
theorem AQ{X:Cx}:SJ X [] EJ:=PJ.imp BD λacc σ H Q ⟨ρ,δ,h,out,h',R,S,o,e,k⟩=>by
 cases e;exact k ρ H (.refl _ _) S o
theorem om{X:Cx}{e:Expr}{es:List Expr}{m:EM}{r:JM}(he:SE X e m)(hr:SJ X es r):SJ X (e::es) (qc m r):=PJ.imp (yO he hr) λacc σ H Q ⟨ρ,δ,h,out,h',R,S,o,e,k⟩=>by
 obtain⟨⟨x,h1⟩,e1,e2⟩:=bg e;dsimp only at e2;refine⟨ρ,δ,h,x,h1,R,S,e1,λv H1 ⟨ρ1,T1,S1,r1⟩=>?_⟩;cases r1 <;> first |(cases e2;done) | skip
 rename_i y hy _;dsimp only at e2
 by_cases z:(acc++y).length<=sizeLine
 ·rw[HQ z] at e2;exact⟨y,rfl,z,ρ1,δ,h1,out,h',R.mono T1,S1,dw o hy,e2,λρ2 H2 T2 S2 o2=>k ρ2 H2 (T1.trans T2) S2 o2⟩
 ·rw[HS z] at e2;cases e2
theorem vv{X:Cx}{e:Expr}{m:EM}{pos:Pos}(he:SE X e m):SE X (.FormattedValue e (-1) none pos) (qD wY m):=(BP he).imp λσ H Q ⟨ρ,δ,h,d,h',R,S,e,k⟩=>by
 obtain⟨⟨x,h1⟩,e1,e2⟩:=bg e;refine⟨ρ,δ,h,x,h1,R,S,e1,λv H1 ⟨ρ1,T1,S1,r1⟩=>?_⟩;cases r1 <;> first |(cases e2;done) | skip
 rename_i y hy _;unfold wY at e2;dsimp only at e2
 by_cases z:y.length<=sizeLine
 ·rw[HQ z] at e2;cases e2;exact⟨y,rfl,z,k _ _ ⟨ρ1,T1,S1,.str hy⟩⟩
 ·rw[HS z] at e2;cases e2
theorem yg{X:Cx}{a b:Expr}{r:List Expr}{m:JM}{pos:Pos}(hj:SJ X (a::b::r) m):SE X (.JoinedStr (a::b::r) pos) (GP m):=(yV hj).imp λσ H Q ⟨ρ,δ,h,d,h',R,S,e,k⟩=>by
 obtain⟨⟨x,h1⟩,e1,e2⟩:=bg e;dsimp only at e2
 by_cases z:x.length<=sizeLine
 ·rw[HQ z] at e2;cases e2;exact⟨ρ,δ,h,x,_,R,S,by ac_nf,e1,λρ1 H1 T1 S1 o=>⟨z,k _ _ ⟨ρ1,T1,S1,.str o⟩⟩⟩
 ·rw[HS z] at e2;cases e2
noncomputable def isStr(d:D)(_:MH):Bool:=match d with
 | .str _=>true
 | _=>false
theorem ty_str{K:FR}{ρ:Ad}{H:Hp}{h:MH}{v:V}{d:D}(S:bh K ρ h H)(r:Rep K ρ H v d)(e:isStr d h=true):Du K "str" v H:=by
 cases r <;> first |(cases e;done) | exact rfl
noncomputable def cA:zR:=λd ds h=>match d,ds with
 | .str x,[y]=>(bM y h).bind λp=>(kK p.1).bind λns=>if(ns.map (·.length)).sum+ns.length*x.length<=16777216 then some (.str (Str.join x ns),h) else none
 | _,_=>none
theorem ip{x:Str}(hx:PyData.strOk x=true):∀ns:List Str,(∀y∈ns,PyData.strOk y=true)->PyData.strOk (Str.join x ns)=true
 | [],_=>by ac_nf
 | [y],h=>h y (.head _)
 | y::z::r,h=>dw (dw (h y (.head _)) hx) (ip hx (z::r) λa ha=>h a (.tail _ ha))
theorem cX{X:Cx}:Dq X "str.join" (rM X.K cA):=by
 intro pins s σ H x xs v us Q I rx rs hh;obtain⟨ρ,h,d,ds,z,h',S,rd,l,ee,k⟩:=hh;cases rd <;> first |(exact bN ee) | skip
 rename_i p hp
 match ds,l,ee with
 | [],_,ee=>cases ee
 | _::_::_,_,ee=>cases ee
 | [y],l,ee=>
  obtain⟨⟨ys,w⟩,e1,e2⟩:=bg ee;obtain⟨ns,e3,e4⟩:=bg e2
  by_cases c:(ns.map (·.length)).sum+ns.length*p.length<=16777216
  ·rw[HQ c] at e4;cases e4;obtain⟨v1,rfl,ry⟩:=rep1 l;obtain⟨a,vs,rfl,hq,l2⟩:=iS S ry e1;have:=kJ e3;dsimp only at this;subst this;obtain⟨e5,f⟩:=ix l2;subst e5;refine y9 pins s σ H _ _ v us Q I rx rs ⟨p,a,ns,rfl,rfl,hq,c,?_⟩;rw[show Txt.join p ns=Str.join p ns from StrLaws.glued_eq_join p ns];exact k _ _ (.here S (.str (ip hp ns f)))
  ·rw[HS c] at e4;cases e4
theorem mX(i:Int):PyData.strOk (Str.ofString (toString i))=true:=by
 unfold PyData.strOk;rw[Array.all_eq_true'];intro c hc;refine IE (Nat.lt_of_not_le λh=>?_);exact int_text_free' c ⟨by lia,.inr (by lia)⟩ i (KC.mpr hc)
noncomputable def qi:Fn:=λds h=>match ds with
 | [.int i]=>if i.natAbs.log2 < 1920 then some (.str (toString i),h) else none
 | _=>none
noncomputable def kA:Fn:=λds h=>match ds with
 | [.int i,.int j]=>if 0 < j/\j < 1073741824 then some (.tup [.int (i / j),.int (i % j)],h) else none
 | _=>none
theorem tj{X:Cx}:fx X (.type "str") qi:=by
 intro pins s σ H xs us Q I r hh;obtain⟨ρ,h,ds,z,h',S,l,ee,k⟩:=hh
 match ds,l,ee with
 | [],_,ee=>cases ee
 | d::_::_,_,ee=>cases d <;> exact bN ee
 | [d],l,ee=>
  obtain⟨v,rfl,rd⟩:=rep1 l;cases rd <;> first |(exact bN ee) | skip
  unfold qi at ee;dsimp only at ee
  split at ee
  ·rename_i c;cases ee;refine pj pins s σ H _ us Q I r ⟨_,rfl,c,k _ _ (.here S (.str ?_))⟩;exact mX _
  ·cases ee
theorem uB{X:Cx}:fx X (.builtin "divmod") kA:=by
 intro pins s σ H xs us Q I r hh;obtain⟨ρ,h,ds,z,h',S,l,ee,k⟩:=hh
 match ds,l,ee with
 | [],_,ee=>cases ee
 | [d],_,ee=>cases d <;> exact bN ee
 | d::e::_::_,_,ee=>cases d <;> cases e <;> exact bN ee
 | [d,e],l,ee=>
  obtain⟨v,u,rfl,rd,re⟩:=rep2 l;cases rd <;> first |(exact bN ee) | skip
  cases re <;> first |(exact bN ee) | skip
  unfold kA at ee;dsimp only at ee
  split at ee
  ·rename_i c;cases ee;exact qy pins s σ H _ us Q I r ⟨_,_,rfl,c,λl hl=>k _ _ (.tup S (.cons (.int _) (.cons (.int _) .nil)) hl)⟩
  ·cases ee
theorem uI:bootBuiltins "divmod"=some (.builtin "divmod"):=by decide+kernel
end Sm
namespace L2
open PySem PySem.Spec PyProof.Rows
section
variable {X:Cx}
end
end L2
namespace Sm
open PySem L2 PySem.Spec PyProof.Rows
section
variable {X:Cx}
end
end Sm
namespace L2
open PySem PySem.Spec PyProof.Rows
end L2
namespace Sm
open PySem L2 PySem.Spec PyProof.Rows
end Sm
namespace L2
open PySem PySem.Spec PyProof.Rows
section
variable {P:Program} {w:World} {A:Around} {E:Value->Shared->Prop} {s:Shared} {a:Addr} {es:Array (Int×Value)}
end
end L2
namespace L2
open PySem PySem.Spec PyProof.Rows PySem.SeqAt
end L2
namespace L2
open PySem PySem.Spec PyProof.Rows
section
variable {P:Program} {w:World} {A:Around} {E:Value->Shared->Prop} {s:Shared} {a:Addr} {ks:List Int}
end
end L2
namespace Sm
open PySem L2 PySem.Spec PyProof.Rows
end Sm
namespace L2
open PySem PySem.Spec PyProof.Rows
end L2
namespace Sm
open PySem L2 PySem.Spec PyProof.Rows
end Sm
namespace L2
open PySem PySem.Spec PyProof.Rows PySem.SeqAt
noncomputable def CL:Nat->PyData->Nat
 | n+1,.tuple xs=>(xs.map (CL n)).sum+1
 | _,_=>1
section
variable {P:Program} {w:World} {E:Value->Shared->Prop}
theorem rp:∀(n:Nat) {A:Around} {s:Shared} {d:PyData} {v:Value} {as:List Addr} {Q:Int->Shared->Prop},A.units+n < cLine->cz n d=true->Reads s.heap v d as->Q (lE w n d) {s with toks:=s.toks+CL n d}->
  wpAny (model P w) A (pyHash v) Q E s:=by
 have leaf:∀(n:Nat) {A:Around} {s:Shared} {d:PyData} {v:Value} {as:List Addr} {Q:Int->Shared->Prop},(∀xs,d≠.tuple xs)->cz n d=true->Reads s.heap v d as->Q (lE w n d) {s with toks:=s.toks+CL n d}->wpAny (model P w) A (pyHash v) Q E s:=by
  intro n A s d v as Q hnt hp hr h;cases hr with
  | int i t=>exact(aQ P w).pyHash (k:=.inl i) (jS P w i t) (by cases n <;> exact h)
  | str x t=>exact(aQ P w).pyHash (k:=.inr x) (jR P w x t) (by cases n <;> exact h)
  | tuple=>exact absurd rfl (hnt _)
  | none=>cases n <;> simp[cz] at hp
  | bool=>cases n <;> simp[cz] at hp
  | list=>cases n <;> simp[cz] at hp
  | dict=>cases n <;> simp[cz] at hp
 intro n
 induction n with
 | zero=>
  intro A s d v as Q hu hp hr h;exact leaf 0 (λxs e=>by subst e;simp[cz] at hp) hp hr h
 | succ n ih=>
  intro A s d v as Q hu hp hr h
  by_cases hnt:∀xs,d≠.tuple xs
  ·exact leaf (n+1) hnt hp hr h
  ·have:∃xs,d=.tuple xs:=Classical.byContradiction λz=>hnt λxs e=>z ⟨xs,e⟩;obtain⟨xs,rfl⟩:=this;cases hr with
   | @tuple a o vs m _ _ ho hc hd hall=>
    have hT:s.TypeIs (.ref a) "tuple":=⟨o,ho,hc⟩;have hp':xs.all (cz n)=true:=hp;unfold pyHash
    first | unfold pyHashByItsType | skip
    first | refine HG (wpAny_cRoomFor_or (.inr (by lia)) ?_) | skip
    refine HG (KJ hT Kv.lookup ?_);show wpAny _ _ (if(some (Value.builtin "tuple.__hash__")==some Value.none)=true then _ else _) Q E s;rw[HS (by rw[beq_builtin_none];exact IG)];refine HG (KJ hT Kv.lookup ?_);show wpAny _ _ (callSpecialIfBoundUnlessNone? (.ref a) "__hash__" _ >>=_) Q E s;refine HG (wpAny_callSpecialIfBoundUnlessNone?_slot hT Kv (IA Kv hT F.entry_tuple_hash ?_ (F.args_tuple_hash_1 _)));show wpAny _ _ (Builtin.Tuple.tupleItemsOf (.ref a) >>=_) _ _ s;refine HG (wpAny_tupleItemsOf ho hd ?_);refine HG ?_;rw[<-L4];refine wpAny_forIn_list _
     (λrest (b:Array Int) s'=>∃done left as',xs=done++left/\ReadsAll s.heap rest left as'/\b.toList=done.map (lE w n)/\s'={s with toks:=s.toks+(done.map (CL n)).sum})
     _ ?_ ?_ _ _ ⟨[],xs,_,rfl,hall,rfl,rfl⟩
    ·rintro x rest b s' ⟨done,left,as',e,hl,hb,rfl⟩;cases hl with
     | @cons _ _ d1 ds bs cs h1 hl'=>
      have hd1:cz n d1=true:=by
       rw[JH] at hp';exact hp' d1 (by rw[e];simp)
      refine HG (ih (A:=A.in1) (s:={s with toks:=s.toks+(done.map (CL n)).sum}) (by rw[Around.in1_units];lia) hd1 h1 ?_)
      first
       | exact HK ⟨done++[d1],ds,_,by rw[e];simp,hl',by simp[hb],by simp[JJ]⟩
       | exact HG (HK (HK ⟨done++[d1],ds,_,by rw[e];simp,hl',by simp[hb],by simp[JJ]⟩))
    ·rintro b s' ⟨done,left,as',e,hl,hb,rfl⟩;cases hl;rw[Jh] at e;subst e;show wpAny _ _ (retInt (Builtin.Tuple.tupleHashOf b.toList)) _ _ _;rw[hb];refine wpAny_ret_mkInt ?_;show wpAny _ _ (if(decide (-(2:Int)^63<=Builtin.Tuple.tupleHashOf (xs.map (lE w n)))&&decide (Builtin.Tuple.tupleHashOf (xs.map (lE w n)) < 2^63))=true then _ else _) Q E _;unfold lE reduceHash CL at h
     by_cases hr:(decide (-(2:Int)^63<=Builtin.Tuple.tupleHashOf (xs.map (lE w n)))&&decide (Builtin.Tuple.tupleHashOf (xs.map (lE w n)) < 2^63))=true
     ·rw[HQ hr];rw[HQ hr] at h;exact HK (by simpa [JJ] using h)
     ·rw[HS hr];rw[HS hr] at h;exact HG (JT (HK (by simpa [JJ] using h)))
end
theorem eqv_refl:∀(n:Nat) {d:PyData},cz n d=true->PyData.eqv d d=true:=by
 intro n
 induction n with
 | zero=>intro d h;cases d <;> simp[cz] at h <;> simp[PyData.eqv]
 | succ n ih=>
  intro d h;cases d <;> simp[cz] at h <;> simp[PyData.eqv]
  rename_i xs;have:∀l:List PyData,(∀x∈l,cz n x=true)->PyData.eqvAll l l=true:=by
   intro l
   induction l with
   | nil=>intro _;simp[PyData.eqvAll]
   | cons x r ih2=>intro hl;simp[PyData.eqvAll,ih (hl x (by simp)),ih2 λy hy=>hl y (by simp[hy])]
  exact this xs h
noncomputable local instance:DecidableEq PyData:=λa b=>Classical.propDecidable _
def xF(h:Heap)(k:PyData)(a:Addr):Prop:=cz 8 k=true/\∃as,Reads h (.ref a) k as
noncomputable def vN(P:Program)(w:World):HeapKind P w PyData where
 is:=xF
 hash:=lE w 8
 draws:=CL 8
 room:=λA=>A.units+8 < cLine
 inj:=λ{h a x y} ⟨p,_,r⟩ ⟨_,_,r'⟩=>Reads.unique x y _ _ _ (oF 8 p).1 r r'
 keeps:=λ{h h' k a d o es ep} ⟨p,as,r⟩ ho hd hs=>⟨p,as,qT (λb o' vs m e q=>by
  by_cases z:b=d
  ·subst z;rw[ho] at e;cases e;rw[hd] at q;cases q
  ·exact(hs.2 b z).trans e) 8 p r⟩
 pyHash:=λhu ⟨p,_,r⟩ h=>rp 8 hu p r h
 eqBool:=λ{A E s x y a b Q} hu ⟨p,_,r⟩ ⟨p',_,r'⟩ h=>w6 8 hu p p' r r' (by
  have:PyData.eqv x y=decide (x=y):=by
   by_cases z:x=y
   ·subst z;rw[eqv_refl 8 p,IE rfl]
   ·rw[IB z];cases q:PyData.eqv x y with
    | false=>rfl
    | true=>exact absurd (sD 8 p p' q) z
  rw[this];exact h)
 quiet:=λ⟨p,_,r⟩ h=>pX 8 p r h 8 (HN _)
end L2
namespace L2
open PySem PySem.Spec PyProof.Rows PySem.W
section
variable {ks:List PKey} {i j:Nat}
end
section
variable {P:Program} {w:World} {A:Around} {E:Value->Shared->Prop} {s:Shared}
end
end L2
namespace L2
open PySem PySem.Spec PyProof.Rows PySem.W PySem.SeqAt
section
variable {P:Program} {w:World} {A:Around} {E:Value->Shared->Prop} {s:Shared} {a:Addr}
end
end L2
namespace Sm
open PySem L2 PySem.Spec PyProof.Rows
end Sm
namespace L2
open PySem PySem.Spec PyProof.Rows
end L2
namespace Sm
open PySem L2 PySem.Spec PyProof.Rows
end Sm
namespace L2
open PySem PySem.Spec PyProof.Rows PySem.SeqAt
end L2
namespace Sm
open PySem L2 PySem.Spec PyProof.Rows
end Sm
namespace Sm
open PySem L2 PySem.Spec PyProof.Rows PySem.SeqAt
noncomputable local instance:DecidableEq PyData:=λa b=>Classical.propDecidable _
noncomputable def xN(k:PyData)(d:D):Bool:=match sC d with
 | some p=>PyData.eqv p k
 | none=>false
noncomputable def qV(kvs:List (D×D))(k:PyData)(e v:D):List (D×D):=
 if(kvs.any λkv=>xN k kv.1)=true then kvs.map (λkv=>if xN k kv.1=true then(kv.1,v) else kv) else kvs++[(e,v)]
noncomputable def wJ(d:D):Option PyData:=match d with
 | .tup xs=>(sC (.tup xs)).bind λp=>if cz 8 p=true then some p else none
 | _=>none
theorem sX(hp:cz 8 p=true)(hk:cz 8 k=true):PyData.eqv p k=decide (p=k):=by
 by_cases z:p=k
 ·subst z;rw[eqv_refl 8 hp,IE rfl]
 ·rw[IB z];cases q:PyData.eqv p k with
  | false=>rfl
  | true=>exact absurd (sD 8 hp hk q) z
inductive R3(K:FR)(ρ:Ad)(H:Hp):List (Addr×V)->List (PyData×Addr×Value)->List (D×D)->Prop where
 | nil:R3 K ρ H [] [] []
 | cons {b:Addr} {v:V} {u:Value} {p:PyData} {d e:D} {us:List (Addr×V)} {ys:List (PyData×Addr×Value)} {kvs:List (D×D)}:
  Rep K ρ H (.ref b) d->Rep K ρ H v e->RelV v u->sC d=some p->cz 8 p=true->R3 K ρ H us ys kvs->R3 K ρ H ((b,v)::us) ((p,b,u)::ys) ((d,e)::kvs)
section
variable {K:FR} {ρ ρ':Ad} {H H':Hp}
theorem R3.of:∀{us:List (Addr×V)} {ys:List (PyData×Addr×Value)} {kvs:List (D×D)},ah K ρ H (us.map λu=>V.ref u.1) (kvs.map (·.1))->ah K ρ H (us.map (·.2)) (kvs.map (·.2))->nj (kvs.map (·.1))=some (ys.map (·.1))->
  (ys.map (·.1)).all (cz 8)=true->Paired (λ(u:Addr×V)(y:PyData×Addr×Value)=>u.1=y.2.1/\RelV u.2 y.2.2) us ys->R3 K ρ H us ys kvs
 | us,ys,[],a,b,c,d,e=>by
  cases us with
  | cons _ _=>cases a
  | nil=>cases e;exact .nil
 | us,ys,(d,e)::kvs,a,b,c,al,pr=>by
  cases us with
  | nil=>cases a
  | cons u us=>
   obtain⟨ub,uv⟩:=u;cases pr with
   | @cons _ y _ ys h t=>
    obtain⟨yp,yb,yu⟩:=y;obtain⟨h1,h2⟩:=h;dsimp only at h1 h2;subst h1;cases a with
    | cons a1 a2=>
     cases b with
     | cons b1 b2=>
      obtain⟨p,c1,c2⟩:=bg (show(sC d).bind (λa=>(nj (kvs.map (·.1))).map λb=>a::b)=_ from c);obtain⟨ps,c3,c4⟩:=dY c2;rw[HX] at c4;obtain⟨rfl,rfl⟩:=List.cons.inj c4;rw[HX,JZ,Ii] at al;exact .cons a1 b1 h2 c1 al.1 (R3.of a2 b2 c3 al.2 t)
theorem R3.mono(S:Ch ρ H ρ' H'):∀{us:List (Addr×V)} {ys:List (PyData×Addr×Value)} {kvs:List (D×D)},R3 K ρ H us ys kvs->R3 K ρ' H' us ys kvs
 | _,_,_,.nil=>.nil
 | _,_,_,.cons a b c d e f=>.cons (a.mono S) (b.mono S) c d e (R3.mono S f)
theorem R3.parts:∀{us:List (Addr×V)} {ys:List (PyData×Addr×Value)} {kvs:List (D×D)},R3 K ρ H us ys kvs->ah K ρ H (us.map λu=>V.ref u.1) (kvs.map (·.1))/\ah K ρ H (us.map (·.2)) (kvs.map (·.2))/\nj (kvs.map (·.1))=some (ys.map (·.1))/\
  (ys.map (·.1)).all (cz 8)=true/\Paired (λ(u:Addr×V)(y:PyData×Addr×Value)=>u.1=y.2.1/\RelV u.2 y.2.2) us ys/\us.length=kvs.length/\ys.length=kvs.length
 | _,_,_,.nil=>⟨.nil,.nil,rfl,rfl,.nil,rfl,rfl⟩
 | _,_,_,.cons a b c d e f=>by
  obtain⟨h1,h2,h3,h4,h5,h6,h7⟩:=f.parts;refine⟨.cons a h1,.cons b h2,?_,?_,.cons ⟨rfl,c⟩ h5,congrArg Nat.succ h6,congrArg Nat.succ h7⟩
  ·rw[HX,HX,nj,d,Jc,h3];rfl
  ·rw[HX,JZ,e,h4];rfl
theorem R3.reads{X:Cx}{pins:List (Addr×Obj)}{σ:L2.St}{s:Shared}(I:Inv X pins σ H s):∀{us:List (Addr×V)} {ys:List (PyData×Addr×Value)} {kvs:List (D×D)},R3 X.K ρ H us ys kvs->∀y∈ys,xF s.heap y.1 y.2.1
 | _,_,_,.nil=>λ_ z=>(nomatch z)
 | _,_,_,.cons a b c d e f=>λy hy=>by
  rcases HR.mp hy with rfl | hy
  ·exact⟨e,tK.reads I (a.mD d).1 rfl⟩
  ·exact f.reads I y hy
theorem R3.old{k:PyData}(hk:cz 8 k=true){x:V}{xu:Value}{w:D}(rx:RelV x xu)(rw':Rep K ρ H x w):∀{us:List (Addr×V)} {ys:List (PyData×Addr×Value)} {kvs:List (D×D)},R3 K ρ H us ys kvs->∃us',R3 K ρ H us' (ys.map (putAt k xu)) (kvs.map λkv=>if xN k kv.1=true then(kv.1,w) else kv)
 | _,_,_,.nil=>⟨[],.nil⟩
 | _,_,_,.cons (b:=b) (v:=v) (u:=u) (p:=p) (d:=d) (e:=e) a0 b0 c0 d0 e0 f=>by
  have hq:xN k d=decide (p=k):=by unfold xN;rw[d0];exact sX e0 hk
  obtain⟨us',f'⟩:=f.old hk rx rw'
  by_cases z:p=k
  ·refine⟨(b,x)::us',?_⟩;have h1:putAt k xu (p,b,u)=(p,b,xu):=by simp[putAt,z]
   rw[HX,HX,h1,hq,IE z,HQ rfl];exact .cons a0 rw' rx d0 e0 f'
  ·refine⟨(b,v)::us',?_⟩;have h1:putAt k xu (p,b,u)=(p,b,u):=by simp[putAt,z]
   rw[HX,HX,h1,hq,IB z,HS IG];exact .cons a0 b0 c0 d0 e0 f'
theorem R3.app{us us2:List (Addr×V)}{ys ys2:List (PyData×Addr×Value)}{kvs kvs2:List (D×D)}(g:R3 K ρ H us2 ys2 kvs2):R3 K ρ H us ys kvs->R3 K ρ H (us++us2) (ys++ys2) (kvs++kvs2):=λf=>by
 induction f with
 | nil=>exact g
 | cons a b c d e f ih=>exact .cons a b c d e ih
theorem R3.any{k:PyData}(hk:cz 8 k=true):∀{us:List (Addr×V)} {ys:List (PyData×Addr×Value)} {kvs:List (D×D)},R3 K ρ H us ys kvs->(kvs.any λkv=>xN k kv.1)=(atKey ys k).isSome
 | _,_,_,.nil=>rfl
 | _,_,_,.cons (b:=b) (v:=v) (u:=u) (p:=p) (d:=d) (e:=e) (us:=us) (ys:=ys) (kvs:=kvs) a0 b0 c0 d0 e0 f=>by
  have hq:xN k d=decide (p=k):=by unfold xN;rw[d0];exact sX e0 hk
  rw[Jy,hq,f.any hk];unfold atKey;rw[Jo]
  by_cases z:p=k
  ·rw[IE z];rfl
  ·rw[IB z];rfl
theorem R3.put{k:PyData}(hk:cz 8 k=true){b:Addr}{x:V}{xu:Value}{d w:D}(rb:Rep K ρ H (.ref b) d)(ed:sC d=some k)(rx:RelV x xu)(rw':Rep K ρ H x w){us:List (Addr×V)}{ys:List (PyData×Addr×Value)}{kvs:List (D×D)}(f:R3 K ρ H us ys kvs):
  ∃us',R3 K ρ H us' (storedH ys k b xu) (qV kvs k d w):=by
 unfold storedH qV;rw[f.any hk]
 by_cases z:(atKey ys k).isSome=true
 ·rw[HQ z,HQ z];exact f.old hk rx rw'
 ·rw[HS z,HS z];exact⟨_,R3.app (.cons rb rw' rx ed hk .nil) f⟩
end
theorem E1{X:Cx}{pins:List (Addr×Obj)}{σ:L2.St}{H:Hp}{s:Shared}{ρ:Ad}{a:Addr}{kvs:List (D×D)}(I:Inv X pins σ H s)(x:qE X.K ρ H a (.dcH kvs)):
  ∃us ys ps,H a=some (.xM (jJ a us ps))/\R3 X.K ρ H us ys kvs/\s.heap.DictOfH (vN X.prog X.w) a ys/\(a==sysModules)=false/\us.length<=sizeLine:=by
 obtain⟨us,ps,e,r1,r2,p⟩:=x;obtain⟨⟨z,hs,hp,nd,ys,pr,rfl,o,es,ep,h1,h2,h3,h4⟩,_⟩:=I.aZ a _ e;have f:=R3.of r1 r2 p hp pr;exact⟨us,ys,_,e,f,⟨o,es,ep,h1,h2,h3,h4,f.reads I,nd⟩,hs,z⟩
theorem sP(e:wJ d=some k):sC d=some k/\cz 8 k=true/\∃xs,d=.tup xs:=by
 unfold wJ at e
 split at e
 ·obtain⟨p,e1,e2⟩:=bg e
  split at e2
  ·rename_i z;cases e2;exact⟨e1,z,_,rfl⟩
  ·cases e2
 ·cases e
noncomputable def rJ(d:D)(h:MH):Option (List (D×D)):=match d with
 | .ob n=>match h[n]? with
  | some (.dcH kvs)=>some kvs
  | _=>none
 | _=>none
theorem tf{K:FR}{ρ:Ad}{H:Hp}{h:MH}{v:V}{d:D}{kvs:List (D×D)}(S:bh K ρ h H)(r:Rep K ρ H v d)(e:rJ d h=some kvs):∃n a,d=.ob n/\h[n]?=some (.dcH kvs)/\v=.ref a/\ρ.ob[n]?=some a/\qE K ρ H a (.dcH kvs):=by
 unfold rJ at e
 split at e
 ·split at e
  ·rename_i q;cases e;cases r with
   | ob hn=>exact⟨_,_,rfl,q,rfl,hn,S.at_ _ _ _ hn q⟩
  ·cases e
 ·cases e
noncomputable def nK(o i v:D)(h:MH):Option MH:=match o with
 | .ob n=>match h[n]? with
  | some (.dcH kvs)=>(wJ i).bind λk=>if kvs.length < sizeLine then some (h.set n (.dcH (qV kvs k i v))) else none
  | _=>none
 | _=>none
section
variable {X:Cx}
theorem Cv{pins:List (Addr×Obj)}{σ:L2.St}{H:Hp}{s:Shared}{ρ:Ad}{y:V}{u:Value}{e:D}{k:PyData}(I:Inv X pins σ H s)(re:Rep X.K ρ H y e)(ry:RelV y u)(ek:wJ e=some k):∃b,y=.ref b/\u=.ref b/\xF s.heap k b:=by
 obtain⟨e1,e2,xs,rfl⟩:=sP ek;cases re with
 | @tup b vs ds ht l=>
  obtain rfl:u=Value.ref b:=ry;exact⟨b,rfl,rfl,e2,tK.reads I ((Rep.tup ht l).mD e1).1 rfl⟩
inductive xE(K:FR)(o i v:V)(H:Hp)(Q:Hp->Prop):Prop where
 | mk (ρ h a b c h'):bh K ρ h H->Rep K ρ H o a->Rep K ρ H i b->Rep K ρ H v c->(nK a b c h=some h')->(∀ρ' H',bX ρ H ρ' H'->bh K ρ' h' H'->Q H')->xE K o i v H Q
def Ek(K:FR):V->V->V->Hp->(Hp->Prop)->Prop:=λo i v H Q=>xE K o i v H Q
noncomputable def wQ(o i:EM):GM:=λv δ h=>(o δ h).bind λp=>(i δ p.2).bind λq=>(nK p.1 q.1 v q.2).map λh'=>(δ,h')
theorem _root_.L2.jJ.stays{a:Addr}{us:List (Addr×V)}{ps:List PyData}{w:World}{h:Heap}(x:jJ a us ps w h):(∃o,h.get? a=some o)/\∀h1 h2:Heap,jJ a us ps w h1->(∀o,h1.get? a=some o->h2.get? a=some o)->jJ a us ps w h2:=by
 obtain⟨_,_,_,_,_,_,_,o,_,_,h1,_⟩:=x;exact⟨⟨o,h1⟩,λ_ _ ⟨y1,y2,y3,y4,ys,y5,y6,o,es,ep,z1,z2⟩ k=>⟨y1,y2,y3,y4,ys,y5,y6,o,es,ep,k _ z1,z2⟩⟩
theorem yI(hu:X.A.units+64 < cLine):zP X (Ek X.K):=by
 intro pins s σ H o i v ov iv u Q I ro ri rv hh;obtain⟨ρ,h,d,e,c,h',S,rd,re,rc,ee,k⟩:=hh;cases d <;> first |(cases ee;done) | skip
 rename_i n;unfold nK at ee;dsimp only at ee;cases q:h[n]? with
 | none=>rw[q] at ee;cases ee
 | some w=>
  rw[q] at ee;cases w with
  | lst _=>cases ee
  | dct _=>cases ee
  | dcH kvs=>
   dsimp only at ee;obtain⟨ky,e2,ee⟩:=bg ee
   by_cases z:kvs.length < sizeLine
   ·rw[HQ z] at ee;cases ee;obtain⟨n',a,hn',hn,rfl,ha,ob⟩:=tf S rd (show rJ (.ob n) h=some kvs by unfold rJ;dsimp only;rw[q]);cases hn';obtain rfl:ov=Value.ref a:=ro;obtain⟨us,ys,ps,ea,f,dd,hsm,hz⟩:=E1 I ob;obtain⟨b,rfl,rfl,ik⟩:=Cv I re ri e2;obtain⟨ek,hk,xs,rfl⟩:=sP e2;obtain⟨us',f'⟩:=f.put hk re ek rv rc;have hl:=f.parts;have hl':=f'.parts;refine wpAny_setItem_heap (knd:=vN X.prog X.w) (hsz:=by have:=hl.2.2.2.2.2.2;lia) (show X.A.in1.units+8 < cLine by rw[Around.in1_units];lia) ik dd λh2 dd' hs=>?_;obtain⟨o2,es,ep,hq,g2,g3,g4,g5,g6⟩:=dd';have T:bX ρ H ρ (upd H a (.xM (jJ a us' ((storedH ys ky b u).map (·.1))))):=bX.wrote S (HM ha);have hlen:(qV kvs ky (.tup xs) c).length<=sizeLine:=by
     unfold qV
     split
     ·rw[HH];lia
     ·rw[HL];simp;lia
    have new:jJ a us' ((storedH ys ky b u).map (·.1)) X.w h2:=⟨by rw[hl'.2.2.2.2.2.1];exact hlen,hsm,hl'.2.2.2.1,g6,_,hl'.2.2.2.2.1,rfl,o2,es,ep,hq,g2,g3,g4⟩;refine⟨_,kB (ob:=.xM (jJ a us' ((storedH ys ky b u).map (·.1)))) I (by rw[ea];exact True.intro) hs ⟨o2,hq⟩ ⟨new,L2.jJ.stays new⟩,k ρ _ T (S.wrote ha ?_)⟩;have fm:=(f'.mono T.toCh).parts;exact⟨us',_,ax,fm.1,fm.2.1,fm.2.2.1⟩
   ·rw[HS z] at ee;cases ee
theorem x9 (hr:df n X.A) (ho:SE X o mo) (hi:SE X i mi) (ha:∀v,assign (.Subscript o i pos) X.env v=(do
   let ov<-holding [v] (eval o X.env);let iv<-holding [v,ov] (eval i X.env)
   standAt pos
   holding [v,ov,iv] (setItem ov iv v)
   release [v,ov,iv] []):=by intro _;ac_nf):SG X (.Subscript o i pos) (wQ mo mi):=
 (vX ho hi (yI hr.units) ha).imp λv σ H Q ⟨ρ,δ,h,d,δ',h',R,S,r,e,k⟩=>by
  obtain⟨⟨x,h1⟩,e1,e2⟩:=bg e;obtain⟨⟨y,h2⟩,e3,e4⟩:=bg e2;obtain⟨h3,e5,e6⟩:=dY e4;cases e6;exact⟨ρ,δ,h,x,h1,R,S,e1,λov H1 ⟨ρ1,T1,S1,r1⟩=>⟨ρ1,δ,h1,y,h2,R.mono T1,S1,e3,λiv H2 ⟨ρ2,T2,S2,r2⟩=>
   ⟨ρ2,h2,x,y,d,_,S2,r1.mono T2,r2,r.mono (T1.trans T2).toCh,e5,λρ3 H3 T3 S3=>k ρ3 H3 σ (T1.trans (T2.trans T3)) S3 (R.mono (T1.trans (T2.trans T3)).toCh)⟩⟩⟩
noncomputable def EY:EM:=λ_ h=>some (.ob h.length,h++[.dcH []])
theorem AX:SE X (.Dict [] [] pos) EY:=by
 intro pins s σ H Q I ⟨ρ,δ,h,d,h',R,S,e,k⟩;cases e;have hp:H s.heap.objs.size=none:=I.aZ.fresh (HN _);have new:jJ s.heap.objs.size [] [] X.w (s.heap.push {cls:=.type "dict",data:=.dict #[]}):=by
  refine⟨Jq _,?_,rfl,List.nodup_nil,[],.nil,rfl,_,#[],0,HZ _ rfl,⟨rfl,rfl,rfl⟩,rfl,rfl⟩;have:=I.big;simp
  lia
 refine wpAny_Dict_empty ⟨.ref s.heap.objs.size,_,I.laid (a:=s.heap.objs.size) (o:=.xM (jJ s.heap.objs.size [] [])) (t':=s.toks) (λ_ _ q=>HI _ q) (HN _) ⟨new,L2.jJ.stays new⟩,rfl,k _ _ ?_⟩;exact⟨ρ.more _,bX.made S hp,S.made hp ⟨[],[],ax,.nil,.nil,rfl⟩,.ob (show(ρ.ob++[s.heap.objs.size])[h.length]?=_ by rw[<-S.len,Ik (HN _)];simp)⟩
end
end Sm
namespace Sm
open PySem L2 PySem.Spec PyProof.Rows
abbrev v0:EM:=cC 0
abbrev v1:EM:=cC 1
abbrev v2:EM:=cC 2
abbrev v3:EM:=cC 3
abbrev v4:EM:=cC 4
abbrev v5:EM:=cC 5
abbrev v6:EM:=cC 6
abbrev v7:EM:=cC 7
abbrev v8:EM:=cC 8
abbrev v9:EM:=cC 9
abbrev v10:EM:=cC 10
abbrev ki(i:Int):EM:=eK (.int i)
abbrev ks(x:Str):EM:=eK (.str x)
abbrev a1(x:EM):AM:=aq x bQ
abbrev a2(x y:EM):AM:=aq x (aq y bQ)
abbrev a3(x y z:EM):AM:=aq x (aq y (aq z bQ))
abbrev a4(x y z u:EM):AM:=aq x (aq y (aq z (aq u bQ)))
section
variable {P:Program} {w:World} {K:FR} {mg:Str->Option Value} {base:Heap} {x qual:Str} {st:Stmt} {f:Addr} {fd:FuncData} {N ps:List Str} {k:Nat}
theorem aG(F:gj K x qual st f fd)(Sc:au N ps (ag st))(hb:∀(cdv:Value)(A:Around)(outer:List Env)(s:Shared)(H:Hp)(E:XK),df k (A.deeper (envOfC qual (ag st) s.heap.objs.size f cdv))->N.Nodup->xO (qq eW P w K mg base N qual (ag st) f cdv A outer s H E).Dw (eC st) body):
  bx P w K mg base eW (k+1) f fd ps (gn K ps.length (mJ N.length body)):=CG F Sc λc A o s H E hr=>hb c A o s H E hr Sc.nd
end
theorem D0{op:CmpOp}(ho:l8 X (compareOp op) f)(ha:SE X a ma)(hb:SE X b mb)(hm:behindInMarks op b=false:=by first | exact oO _ | ac_nf):ST X (.Compare a [op] [b] pos) (aE (ai f ma mb)):=qM ho ha hb hm
theorem D2{op:CmpOp}(ho:l8 X (compareOp op) f)(ha:SE X a ma)(hb:SE X b mb)(hm:behindInMarks op b=false:=by first | exact oO _ | ac_nf):SE X (.Compare a [op] [b] pos) (ai f ma mb):=AZ ho ha hb hm
theorem Gd{x1}(h:SA X es bQ):SE X (.Tuple es x1 pos) (az bK bQ):=dc h ay
theorem Gb{x1}(h:SA X es (aq m0 bQ)):SE X (.Tuple es x1 pos) (az bK (aq m0 bQ)):=dc h (ae ay)
theorem Ga{x1}(h:SA X es (aq m0 (aq m1 bQ))):SE X (.Tuple es x1 pos) (az bK (aq m0 (aq m1 bQ))):=dc h (ae (ae ay))
theorem F7{x1}(h:SA X es (aq m0 (aq m1 (aq m2 bQ)))):SE X (.Tuple es x1 pos) (az bK (aq m0 (aq m1 (aq m2 bQ)))):=dc h (ae (ae (ae ay)))
theorem F6{x1}(h:SA X es (aq m0 (aq m1 (aq m2 (aq m3 bQ))))):SE X (.Tuple es x1 pos) (az bK (aq m0 (aq m1 (aq m2 (aq m3 bQ))))):=dc h (ae (ae (ae (ae ay))))
theorem Gh(h:SA X es bQ):kl X (.List es pos) bQ:=dD h ay
theorem Gg(h:SA X es (aq m0 bQ)):kl X (.List es pos) (aq m0 bQ):=dD h (ae ay)
theorem Gf(h:SA X es (aq m0 (aq m1 bQ))):kl X (.List es pos) (aq m0 (aq m1 bQ)):=dD h (ae (ae ay))
theorem Ge(h:SA X es (aq m0 (aq m1 (aq m2 (aq m3 (aq m4 (aq m5 bQ))))))):kl X (.List es pos) (aq m0 (aq m1 (aq m2 (aq m3 (aq m4 (aq m5 bQ)))))):=dD h (ae (ae (ae (ae (ae (ae ay))))))
end Sm
namespace L2
open PySem PySem.Spec PyProof.Rows
section
variable {P:Program} {w:World} {A:Around} {E:Value->Shared->Prop} {s:Shared} {d J:Addr} {o:Obj} {es:Array DictEntry} {ep:Nat}
abbrev EH(d:Addr)(n ep:Nat):Obj:={cls:=.type "dict_keyiterator",data:=.fields #[.ref d,.int 0 0,.int n 0,.int ep 0]}
theorem vF{Q:Value->Shared->Prop}(hd:(d==sysModules)=false)(ho:s.heap.get? d=some o)(hx:o.ExactDict)(hdt:o.data=.dict es ep)(q:Q (.ref s.heap.objs.size) {s with heap:=s.heap.push (EH d es.size ep)}):wpAny (model P w) A (pyIter (.ref d)) Q E s:=by
 have hT:s.TypeIs (.ref d) "dict":=⟨o,ho,hx.1⟩;refine La hT F.slot_dict_iter (IA F.slot_dict_iter hT F.entry_dict_iter ?_ (F.args_dict_iter_1 _));unfold Builtin.«dict.__iter__» Builtin.Dict.dictSlotNone;refine HG (HG (wpAny_notOrdered_dict hT (HK ?_)));show wpAny _ _ (Builtin.Dict.showsAll d >>=_) _ _ s;unfold Builtin.Dict.showsAll;rw[hd];refine HG (HK (HG (Lb ho hdt (HG (Lx ho hdt (HG (IC (HK ⟨_,rfl,"dict_keyiterator",_,⟨_,HZ _ rfl,rfl⟩,Jj.lookup,?_⟩))))))))
 simpa [rawInt] using q
def Dk(h:Heap)(J d:Addr)(es:Array DictEntry)(ep i:Nat):Prop:=h.IsKeyIter J d i es.size ep/\∃o,h.get? d=some o/\o.ExactDict/\o.data=.dict es ep
theorem vG{Q:Option Value->Shared->Prop}{i:Nat}(st:Dk s.heap J d es ep i)(hi:i < es.size)(q:∀h',h'.IsKeyIter J d (i+1) es.size ep->Heap.SameBut J s.heap h'->Q (some es[i].key) {s with heap:=h'}):wpAny (model P w) A (pyNext (.ref J)) Q E s:=by
 obtain⟨hit,od,hod,hx,hdd⟩:=st;obtain⟨oi,ho,hc,hd⟩:=id hit;have hT:=hit.typeIs;have no:Builtin.Dict_items.ownsTuple "dict_keyiterator"=false:=by decide
 unfold pyNext;refine HG (JG (Iy (name:=Str.ofString "__next__") hT Jj (IA Jj hT Lq ?_ (Lo _))));refine HG (HK (HG (HG (HG (JB hT (HK (HG (wpAny_fieldsOf ho hd ?_))))))));simp only[no,Kf,J1];show wpAny _ _ (if(Value.ref d==Value.none)=true then _ else _) _ _ s;refine wpAny_of_eq' (HS IG) (HG (HK (HG (Lb hod hdd ?_))));refine wpAny_of_eq' (HS (by simp)) (HG (HK (HG (Lx hod hdd ?_))));refine wpAny_of_eq' (HS (by simp)) (HK ?_);simp only[LZ.mpr (L3 i),J1,Je,Lk hi];refine HG (HG (JB hT (HK (HG (wpAny_isOneOf_keyiter hT ?_)))));generalize hg:Obj.mapFields (·.setIfInBounds 1 (rawInt ((i:Int)+1)))=g;have n1:(s.heap.update J g).IsKeyIter J d (i+1) es.size ep:=by
  subst hg;refine⟨_,KP _ ho (Obj.isFreed_of_fields (Kp hd _)),(Obj.cls_mapFields ..).trans hc,?_⟩;rw[Kp hd];simp[rawInt]
 subst hg;refine HG (m:=setField (.ref J) 1 (rawInt ((i:Int)+1))) (KY ho hd (by simp) (HG (Ju (HG (wpAny_isOneOf_keyiter n1.typeIs ?_)))));exact HK (a:=es[i].key) (HK ⟨_,rfl,HK (q _ n1 (Kh ..))⟩)
theorem yr{Q:Option Value->Shared->Prop}(hh:A.handled=none)(st:Dk s.heap J d es ep es.size)(q:∀h',Heap.ExtBut J s.heap h'->Q none {s with heap:=h'}):wpAny (model P w) A (pyNext (.ref J)) Q E s:=by
 obtain⟨hit,od,hod,hx,hdd⟩:=st;obtain⟨oi,ho,hc,hd⟩:=id hit;have hT:=hit.typeIs;have no:Builtin.Dict_items.ownsTuple "dict_keyiterator"=false:=by decide
 unfold pyNext;refine HG (JG (Iy (name:=Str.ofString "__next__") hT Jj (IA Jj hT Lq ?_ (Lo _))));refine HG (HK (HG (HG (HG (JB hT (HK (HG (wpAny_fieldsOf ho hd ?_))))))));simp only[no,Kf,J1];show wpAny _ _ (if(Value.ref d==Value.none)=true then _ else _) _ _ s;refine wpAny_of_eq' (HS IG) (HG (HK (HG (Lb hod hdd ?_))));refine wpAny_of_eq' (HS (by simp)) (HG (HK (HG (Lx hod hdd ?_))));refine wpAny_of_eq' (HS (by simp)) (HK ?_);simp only[LZ.mpr (L3 es.size),J1,Je,Array.getElem?_eq_none (HN es.size)];refine HG (HG (JB hT (HK ?_)));refine HG (m:=setField (.ref J) 0 .none) (KY ho hd (by simp) ?_);show wpAny _ _ (newExc (.type "StopIteration") [] >>=_) _ _ _;simp only[newExc,newTuple];refine HG (HG (IC ?_ (by size_fits)));refine HG (m:=firstArgMember _ _) (wpAny_of_eq (a:=Value.none) (by simp only[firstArgMember];rfl) (IC ?_ (by size_fits)));simp only[raiseNew];refine HG (wpAny_handled ?_);rw[show A.in1.handled=none from hh];refine HG (HK (wpAny_throw ?_));refine HG (Jw (T:="StopIteration") (b:=true) ⟨_,HZ _ rfl,rfl⟩ J2 ?_);exact HK (q _ (((Kh ..).extBut.push _).push _))
theorem tZ(hh:A.handled=none)(hne:d≠J):Walks P w A J [J,d] [J] es.size (λi v=>∃h:i < es.size,es[i].key=v) (λi h=>Dk h J d es ep i) where
 sub:=λb hb=>by rw[Ia.mp hb];exact HY
 frame:=λ_ _ _ st hk=>⟨st.1.at λo e=>hk J HY o e,let⟨o,a,b⟩:=st.2;⟨o,hk d (Ib _ HY) o a,b⟩⟩
 item:=λi s Q E hi st q=>vG st hi λh' n1 sb=>by
  have k:∀b o,b∉[J]->s.heap.get? b=some o->h'.get? b=some o:=λb o hb e=>sb.extBut b o (λz=>hb (Ia.mpr z)) e;exact q _ h' s.toks ⟨hi,rfl⟩ ⟨n1,let⟨o,a,b⟩:=st.2;⟨o,k d o (λz=>hne (Ia.mp z)) a,b⟩⟩ k
 done:=λs Q E st q=>yr hh st λh' he=>q h' s.toks λb o hb e=>he b o (λz=>hb (Ia.mpr z)) e
 self:=λ_ _ _ _ st q=>wpAny_pyIter_keyiter st.1 q
abbrev uK(h:Heap)(d:Addr)(es:Array DictEntry)(ep:Nat):Prop:=∃o,h.get? d=some o/\o.ExactDict/\o.data=.dict es ep
theorem uK.typ(x:uK s.heap d es ep):s.TypeIs (.ref d) "dict":=let⟨o,a,b,_⟩:=x;⟨o,a,b.1⟩
theorem yq(hd:(d==sysModules)=false):PySem.W.KdlSrc P w "dict" d d es.size (λi v=>∃h:i < es.size,es[i].key=v) (λh=>uK h d es ep) where
 type:=λ_ x=>x.typ
 there:=λ_ x=>let⟨_,a,_⟩:=x;⟨HV a,HV a⟩
 keep:=λ_ _ x k=>let⟨o,a,b⟩:=x;⟨o,k d (.inl rfl) o a,b⟩
 notList:=by decide
 notTuple:=by decide
 hint:=λ_ _ _ _ x q=>PySem.W.kdl_hint_dict x.typ q
 iter:=λ_ s hh x=>by
  obtain⟨o,a,b,c⟩:=x;exact⟨EH d es.size ep,_,λ_ _ q=>vF hd a b c q,tZ hh (Iv (HV a)),⟨_,HZ _ rfl,rfl,rfl⟩,o,HI _ a,b,c⟩
theorem qv{Q:List Value->Shared->Prop}(hh:A.handled=none)(hd:(d==sysModules)=false)(x:uK s.heap d es ep)(hn:es.size<=sizeLine)(q:∀h' tk,(∀b o,s.heap.get? b=some o->h'.get? b=some o)->Q (es.toList.map (·.key)) {s with heap:=h',toks:=tk}):wpAny (model P w) A (collect (.ref d)) Q E s:=by
 have hlt:d < s.heap.objs.size:=let⟨_,a,_⟩:=x;HV a;unfold collect;refine HG (wpAny_runValue (Ly F.entry_proto_collect ?_));rw[Around.under_plainId F.plain_proto_collect _];refine HG (m:=newList []) (IC (HK ⟨plainId_quiet F.plain_list_iadd _,Ly F.entry_list_iadd ?_⟩));rw[Around.under_plainId F.plain_list_iadd _];have k0:∀b o,s.heap.get? b=some o->(s.heap.push {cls:=.type "list",data:=.seq ([]:List Value).toArray}).get? b=some o:=λb o e=>HI _ e;show wpAny _ A.in1 (Builtin.List.listExtendWith (.ref s.heap.objs.size) (.ref d) (.ref s.heap.objs.size)) _ _ {s with heap:=s.heap.push {cls:=.type "list",data:=.seq ([]:List Value).toArray}};have key:=PySem.W.kdl_extend (P:=λi v=>∃h:i < es.size,es[i].key=v) (prog:=P) (w:=w) (A:=A) (R:=λr s'=>r=.ok (.ret (.ref s.heap.objs.size))/\∃h' tk c,s'={s with heap:=h',toks:=tk}/\(∀b o,s.heap.get? b=some o->h'.get? b=some o)/\h'.get? s.heap.objs.size=some {cls:=.type "list",dict:=none,data:=.seq (es.map (·.key)) c,slots:=#[]})
  (s:={s with heap:=s.heap.push {cls:=.type "list",data:=.seq ([]:List Value).toArray}}) (yq (ep:=ep) hd) hh (let⟨o,a,b⟩:=x;⟨o,k0 _ _ a,b⟩) s.heap.objs.size (JQ hlt) (JQ hlt) (.ref s.heap.objs.size) _ (HZ _ rfl) (λh' tk acc c hk hS hacc=>by
   have e1:acc=es.map (·.key):=by
    refine Array.ext (by rw[Array.size_map];exact hacc.1) λi h1 h2=>?_;obtain⟨h3,h4⟩:=hacc.2 i acc[i] (Lk h1);rw[Array.getElem_map,h4]
   subst e1;exact⟨rfl,h',tk,c,rfl,λb o e=>hk b o (Iv (HV e)) (k0 b o e),hS⟩) hn
 have fin:∀s':Shared,(∃h' tk c,s'={s with heap:=h',toks:=tk}/\(∀b o,s.heap.get? b=some o->h'.get? b=some o)/\h'.get? s.heap.objs.size=some {cls:=.type "list",dict:=none,data:=.seq (es.map (·.key)) c,slots:=#[]})->
   wpAny (model P w) A (do match (<-load s.heap.objs.size).data with | Data.seq xs _=>pure xs.toList | _=>unsupported "internal:collect") Q E s':=λs' ⟨h',tk,c,e,k,hS⟩=>by
  subst e;refine HG (wpAny_load hS (HK ?_));have:=q h' tk k;rw[show(es.map (·.key)).toList=es.toList.map (·.key) from Array.toList_map];exact this
 refine I0 key (λf s' h=>?_) λe s' h=>absurd h.1 (by simp);cases f with
 | done f=>
  obtain⟨e,h⟩:=h;cases e;exact fin s' h
 | again c'=>exact⟨h.1,Kl h.2 λr s'' hr=>by obtain⟨rfl,hr⟩:=hr;exact fin s'' hr⟩
theorem kg(hd:(d==sysModules)=false)(hn:es.size<=sizeLine):MeetsIn P w (Builtin.«tuple.__new__» ⟨[.type "tuple",.ref d],[]⟩) (λA R s=>A.handled=none/\uK s.heap d es ep/\∀(h':Heap)(tk:Nat),(∀b o,s.heap.get? b=some o->h'.get? b=some o)->R (.ok (.ret (.ref h'.objs.size))) {s with heap:=h'.push {cls:=.type "tuple",data:=.seq (es.toList.map (·.key)).toArray},toks:=tk}):=
 .of_wp λA R s h=>by
  obtain⟨hp,g,dr,tk0,os⟩:=s;obtain⟨hh,x,q⟩:=h;have hsub:=sub_tuple_self;have hinit:=init_tuple_lookup;have hmh:=madeHere_tuple;obtain⟨o,ht,hx,hdt⟩:=id x;have hT:Shared.TypeIs ⟨hp,g,dr,tk0,os⟩ (.ref d) "dict":=⟨o,ht,hx.1⟩
  wp_walk using wpAny_loadPart' ht,KG hT,qv (A:=A.in1) hh hd x hn
  intro h' tk k;show wpAny _ _ (Builtin.Tuple.tupleExact (es.toList.map (·.key)).toArray >>=λv=>ret v) _ _ _;unfold Builtin.Tuple.tupleExact;exact HG (IC (HK ⟨_,rfl,q h' tk k⟩) (by show(es.toList.map (·.key)).toArray.size<=sizeLine;rw[HW,HH,Jt];exact hn))
theorem lS{Q:Value->Shared->Prop}(hh:A.handled=none)(hd:(d==sysModules)=false)(x:uK s.heap d es ep)(hn:es.size<=sizeLine)(q:∀(h':Heap)(tk:Nat),(∀b o,s.heap.get? b=some o->h'.get? b=some o)->Q (.ref h'.objs.size) {s with heap:=h'.push {cls:=.type "tuple",data:=.seq (es.toList.map (·.key)).toArray},toks:=tk}):wpAny (model P w) A (call (.type "tuple") [.ref d]) Q E s:=
 callType_newIn F.called_tuple (by decide) (F.typeCall_tuple_1 _) (F.newCall_tuple_1 _) (λobj=>F.args_object_init_2 obj _) F.entry_tuple_new (kg hd hn) ⟨hh,x,λh' tk k=>⟨⟨_,HZ _ rfl,rfl⟩,q h' tk k⟩⟩
end
end L2
namespace Sm
open PySem L2 PySem.Spec PyProof.Rows PySem.SeqAt
noncomputable def Ai:Fn:=λds h=>match ds with
 | [d]=>(rJ d h).map λkvs=>(.tup (kvs.map (·.1)),h)
 | _=>none
theorem nF{R:Addr×V->PyData×Addr×Value->Prop}(hR:∀u y,R u y->u.1=y.2.1):∀{us:List (Addr×V)} {ys:List (PyData×Addr×Value)},Paired R us ys->Vals (us.map λu=>V.ref u.1) (ys.map λy=>Value.ref y.2.1)
 | _,_,.nil=>.nil
 | _,_,.cons h t=>.cons (by have:=hR _ _ h;dsimp only;rw[this];rfl) (nF hR t)
theorem zB(hc:X.calm=true):fx X (.type "tuple") Ai:=by
 intro pins s σ H xs us Q I r hh;obtain⟨ρ,h,ds,z,h',S,l,ee,k⟩:=hh
 match ds,l,ee with
 | [],_,ee=>cases ee
 | _::_::_,_,ee=>cases ee
 | [d],l,ee=>
  obtain⟨v,rfl,rd⟩:=rep1 l;obtain⟨kvs,e1,e2⟩:=dY ee;cases e2;obtain⟨n,a,rfl,e3,rfl,e4,ob⟩:=tf S rd e1;obtain⟨u,rfl,ru⟩:=Vals.one r;obtain rfl:u=Value.ref a:=ru;obtain⟨us,ps,e,r1,r2,p⟩:=ob;obtain⟨⟨hz,hs,hp,nd,ys,pr,rfl,o,es,ep,h1,h2,h3,h4⟩,_⟩:=I.aZ a _ e;have el:es.size=us.length:=by rw[<-Jt,h4,HH,pr.length]
  have ek:es.toList.map (·.key)=ys.map λy=>Value.ref y.2.1:=by rw[h4,Jd];rfl
  refine lS (I.ok.hd hc) hs ⟨o,h1,h2,h3⟩ (by rw[el];exact hz) λh1' tk kp=>?_;rw[ek];have I1:Inv X pins σ H {s with heap:=h1'}:=I.kept (t':=s.toks) kp;have I2:Inv X pins σ (upd H h1'.objs.size (.tup (us.map λu=>V.ref u.1))) {s with heap:=h1'.push {cls:=.type "tuple",data:=.seq (ys.map λy=>Value.ref y.2.1).toArray},toks:=tk}:=
   I1.laid (t':=tk) (λb o e=>HI _ e) (HN _) (show bE X.prog X.w _ _ _ (.tup _) from⟨by rw[HH];exact hz,_,nF (λ_ _ h=>h.1) pr,mR.new _ _⟩)
  exact⟨.ref h1'.objs.size,_,I2,rfl,k _ _ (.tup S r1 (I1.aZ.fresh (HN _)))⟩
end Sm
namespace Sb
open PySem L2 PySem.Spec PyProof.Rows
open Builtin.SmallTypes (nextOf ownedTupleIsFree ownedTupleHandOut)
section
variable {P:Program} {w:World} {A:Around} {E:Value->Shared->Prop} {s:Shared} {b c:Bool}
theorem rC{e j l:Addr}{i:Nat}{m:Int}{items:Array Value}{x old:Value}{Q:Option Value->Shared->Prop}(hE:IsEnum s.heap e j m old)(hj:At b s.heap j l i)(hl:Of b s.heap l items)(hx:items[i]?=some x)(ne:e≠j)
  (k:∀h',IsEnumOut h' e j (m+1) x s.heap.objs.size->At b h' j l (i+1)->h'.get? s.heap.objs.size=some {cls:=.type "tuple",data:=.seq #[.int m s.toks,x]}->h'.objs.size=s.heap.objs.size+1->
   (∀a o,a≠e->a≠j->s.heap.get? a=some o->h'.get? a=some o)->Q (some (.ref s.heap.objs.size)) {s with heap:=h',toks:=s.toks+1}):wpAny (model P w) A (pyNext (.ref e)) Q E s:=by
 have hT:s.TypeIs (.ref e) "enumerate":=⟨_,hE,rfl⟩;unfold pyNext;refine HG (JG (Iy (name:=Str.ofString "__next__") hT IL (IA IL hT J3 ?_ (JW _))));obtain⟨hp,g,d,tk,os⟩:=s;show wpAny _ _ (field (.ref e) 2 >>=_) _ _ _;refine HG (Iu hE rfl (x:=.ref j) rfl (HG (p7 hj hl hx λk₁ j₁ t₁=>?_)));replace t₁:Heap.SameBut j hp k₁:=t₁;have E₁:IsEnum k₁ e j m old:=(t₁.2 e ne).trans hE;show wpAny _ _ (field (.ref e) 3 >>=_) _ _ ⟨k₁,g,d,tk,os⟩;refine HG (Iu E₁ rfl (x:=rawInt m) rfl ?_);show wpAny _ _ (field (.ref e) 4 >>=_) _ _ ⟨k₁,g,d,tk,os⟩;refine HG (Iu E₁ rfl (x:=.none) rfl ?_);show wpAny _ _ (mkInt m >>=_) _ _ ⟨k₁,g,d,tk,os⟩;refine HG (wpAny_mkInt ?_);show wpAny _ _ (setField (.ref e) 3 (rawInt (m+1)) >>=_) _ _ ⟨k₁,g,d,tk+1,os⟩;refine HG (wpAny_setField_rec E₁ (by simp) λk₂ E₂ t₂=>?_);replace t₂:Heap.SameBut e k₁ k₂:=t₂;replace E₂:IsEnum k₂ e j (m+1) old:=E₂;show wpAny _ _ (setField (.ref e) 4 .none >>=_) _ _ ⟨k₂,g,d,tk+1,os⟩;refine HG (wpAny_setField_rec E₂ (by simp) λk₃ E₃ t₃=>?_);replace t₃:Heap.SameBut e k₂ k₃:=t₃;replace E₃:IsEnum k₃ e j (m+1) old:=E₃;show wpAny _ _ (newTuple [.int m tk,x] >>=_) _ _ ⟨k₃,g,d,tk+1,os⟩;refine HG (LJ ?_);have E₄:IsEnum (k₃.push {cls:=.type "tuple",data:=.seq #[.int m tk,x]}) e j (m+1) old:=HI _ E₃;generalize eq₄:k₃.push {cls:=.type "tuple",data:=.seq #[.int m tk,x]}=k₄ at E₄;have sz:k₃.objs.size=hp.objs.size:=by rw[t₃.1,t₂.1,t₁.1]
 have lte:e < hp.objs.size:=HV hE;have tp:k₄.get? hp.objs.size=some {cls:=.type "tuple",data:=.seq #[.int m tk,x]}:=by rw[<-eq₄,<-sz];exact HZ _ rfl
 have sz₄:k₄.objs.size=hp.objs.size+1:=by rw[<-eq₄,IW,sz]
 have up₄:∀a o,a≠e->a≠j->hp.get? a=some o->k₄.get? a=some o:=λa o z1 z2 q=>by
  rw[<-eq₄];exact HI _ (t₃.extBut a o z1 (t₂.extBut a o z1 (t₁.extBut a o z2 q)))
 have j₄:At b k₄ j l (i+1):=j₁.up λo q=>by rw[<-eq₄];exact HI _ (t₃.extBut j o (Jl ne) (t₂.extBut j o (Jl ne) q))
 show wpAny _ _ (ownedTupleIsFree (.ref e) >>=_) _ _ ⟨k₄,g,d,tk+1,os⟩;rw[sz];clear eq₄ E₃ t₃ E₂ t₂ E₁ t₁ j₁ sz k₃ k₂ k₁;refine HG ?_;unfold ownedTupleIsFree;refine HG (Iu E₄ rfl (x:=.none) rfl (HK ?_));simp only[Kg];refine HG (JT (HG (Iu E₄ rfl (x:=old) rfl (HG (wpAny_setField_rec E₄ (by simp) λk₅ E₅ t₅=>?_)))));replace t₅:Heap.SameBut e k₄ k₅:=t₅;replace E₅:IsEnum k₅ e j (m+1) x:=E₅;show wpAny _ _ (ownedTupleHandOut (.ref e) (.ref hp.objs.size) >>=_) _ _ ⟨k₅,g,d,tk+1,os⟩;refine HG ?_;unfold ownedTupleHandOut;refine HG (wpAny_setField_rec E₅ (by simp) λk₆ E₆ t₆=>?_);replace t₆:Heap.SameBut e k₅ k₆:=t₆;replace E₆:IsEnumOut k₆ e j (m+1) x hp.objs.size:=E₆;refine wpAny_setField_rec E₆ (by simp) λk₇ E₇ t₇=>?_;replace t₇:Heap.SameBut e k₆ k₇:=t₇;replace E₇:IsEnumOut k₇ e j (m+1) x hp.objs.size:=E₇;have up:∀a o,a≠e->k₄.get? a=some o->k₇.get? a=some o:=λa o z q=>t₇.extBut a o z (t₆.extBut a o z (t₅.extBut a o z q));refine HG (KZ (HK ⟨_,rfl,HK (k k₇ E₇ (j₄.up λo q=>up j o (Jl ne) q) (up _ _ (JQ lte) tp) ?_ λa o z1 z2 q=>up a o z1 (up₄ a o z1 z2 q))⟩));rw[t₇.1,t₆.1,t₅.1,sz₄]
theorem uy{e j l:Addr}{i:Nat}{m:Int}{items:Array Value}{old:Value}{Q:Option Value->Shared->Prop}(hh:A.handled=none)(hE:IsEnum s.heap e j m old)(hj:At b s.heap j l i)(hl:Of b s.heap l items)(hx:items[i]?=none)
  (k:∀h',Heap.ExtBut j s.heap h'->Q none {s with heap:=h'}):wpAny (model P w) A (pyNext (.ref e)) Q E s:=by
 have hT:s.TypeIs (.ref e) "enumerate":=⟨_,hE,rfl⟩;unfold pyNext;refine HG (JG (Iy (name:=Str.ofString "__next__") hT IL (IA IL hT J3 ?_ (JW _))));show wpAny _ _ (field (.ref e) 2 >>=_) _ _ _;refine HG (Iu hE rfl (x:=.ref j) rfl (HG (sH hh hj hl hx λh' y he' ⟨o,ho,hc⟩=>?_)));exact HG (Jw (T:="StopIteration") (b:=true) ⟨o,ho,hc⟩ J2 (HK (k _ he')))
end
noncomputable def FF(m:Int)(b:Bool)(K:FR)(l:Addr):It:=
 ⟨λi H=>∃xs x,l7 b K H l xs/\xs[i]?=some x,λi H x H'=>∃p y,H p=none/\x=.ref p/\H'=upd H p (.tup [.int (m+i),y])/\∀xs,l7 b K H l xs->xs[i]?=some y,λi H=>∃xs,l7 b K H l xs/\xs.length<=i⟩
theorem qI{P:Program}{w:World}{K:FR}{es:List Expr}{k0:Nat}{pos:Pos}(m:Int)(b:Bool)(l e j:Addr)(ne:e≠j):Turn P w K (.Tuple es k0 pos) (FF m b K l) [e,j] e (λi h=>(∃old,IsEnum h e j (m+i) old)/\At b h j l i) where
 mem:=by simp
 obj:=λi h st a ha=>by
  obtain⟨⟨old,h1⟩,o,h2,_,d2⟩:=st;simp at ha;rcases ha with rfl | rfl
  ·exact⟨_,h1,λv z=>by cases z⟩
  ·exact⟨o,h2,λv z=>by rw[d2] at z;cases z⟩
 keep:=λi h h' ⟨⟨old,h1⟩,h2⟩ k=>⟨⟨old,k e (by simp) _ h1⟩,h2.up λo q=>k j (by simp) o q⟩
 item:=by
  intro X hP hw hK hc i pins s σ H E I hf st hg;subst hP hw hK;obtain⟨xs,x,hq,hx⟩:=hg;obtain⟨⟨old,h1⟩,h2⟩:=st;obtain⟨its,rv,hO⟩:=hq.of I;obtain⟨u,hu,ru⟩:=rv.get hx;have hlt:∀a∈[e,j],a < s.heap.objs.size:=λa ha=>by
   simp at ha;rcases ha with rfl | rfl
   ·exact HV h1
   ·exact h2.lt
  refine rC h1 h2 hO (x:=u) (by simpa using hu) ne λh' a1 a2 a3 a4 a5=>⟨_,rfl,LK a1 λh'' b1 b2=>?_⟩;have hp:H s.heap.objs.size=none:=I.aZ.fresh (HN _);have I1:=nZ (t':=s.toks+1) (vs:=[.int (m+i),x]) (us:=[.int (m+i) s.toks,u]) (n:=0) I (λa o ha q=>a5 a o (λz=>ha (by simp[z])) (λz=>ha (by simp[z])) q) hf hlt a3 (.cons ⟨_,rfl⟩ (.cons ru .nil)) (show 2<=sizeLine by decide);have hf1:∀a∈[e,j],fv X pins (upd H s.heap.objs.size (.tup [.int (m+i),x])) a:=λa ha=>by
   obtain⟨f0,f⟩:=hf a ha;exact⟨by rw[ao (Iv (hlt a ha))];exact f0,f⟩
  have I2:=gQ (t':=s.toks+1) I1 (h':=h'') (λa o ha q=>b2.extBut a o (λz=>ha (by simp[z])) q) hf1;exact⟨.ref s.heap.objs.size,_,I2,rfl,⟨_,x,hp,rfl,rfl,λys hy=>by rw[hy.inj I hq];exact hx⟩,⟨⟨_,by rw[show m+((i+1:Nat):Int)=m+i+1 by lia];exact b1⟩,a2.up λo q=>b2.extBut j o (Jl ne) q⟩,λa ha=>(hf1 a ha).1⟩
 done:=by
  intro X hP hw hK hc i pins s σ H E I hf st hg;subst hP hw hK;obtain⟨xs,hq,hx⟩:=hg;obtain⟨⟨old,h1⟩,h2⟩:=st;obtain⟨its,rv,hO⟩:=hq.of I;have hl:=rv.length;exact uy (I.ok.hd hc) h1 h2 hO (by simp;lia) λh' eb=>⟨rfl,gQ (t':=s.toks) I (λa o ha q=>eb a o (λz=>ha (by simp[z])) q) hf⟩
 self:=λA i s Q E ⟨⟨old,h1⟩,_⟩ q=>by
  have hT:s.TypeIs (.ref e) "enumerate":=⟨_,h1,rfl⟩;refine La hT Ka (IA Ka hT F.entry_enumerate_iter ?_ (L7 _));show wpAny _ _ (ret (.ref e)) _ _ s;exact HK ⟨_,rfl,"enumerate",_,hT,IL.lookup,q⟩
section
variable {P:Program} {w:World} {A:Around} {E:Value->Shared->Prop} {s:Shared}
theorem xT{T newId:String}{Bn:Builtin}{args:List Value}{kw:List (Str×Value)}{S:PySem.Spec}{Q Q₁:Value->Shared->Prop}(ft:TypeCalled T newId "object.__init__")(hct:checkTypeCall T ⟨args,kw⟩=pure ())(hcn:checkBuiltinCall newId ⟨.type T::args,kw⟩=pure ())
  (en:entryFor table newId=some Bn) (g:Meets (Bn ⟨.type T::args,kw⟩) S) (h:S A.in1 (wants Q₁ E) s)
  (hn:∀obj s1,Q₁ obj s1->s1.TypeIs obj T/\argsOk "object.__init__" ⟨obj::args,kw⟩/\∃Si,Meets (Builtin.«object.__init__» ⟨obj::args,kw⟩) Si/\Si A.in1 (wants (λr s2=>r=.none/\Q obj s2) E) s1):wpAny (model P w) A (call (.type T) args kw) Q E s:=by
 obtain⟨c,tl,hm⟩:=ft.mro;have m1:=ft.made;have m2:=ft.sub;have m3:=ft.notType;have m4:=ft.canCreate;refine wpAny_call (codeAny_of_tree ?_);show wpAny _ _ (callAny (.type T) _) _ _ _;refine HK ⟨Code.quiet_builtin _ (by decide+kernel),Ly F.entry_type_call ?_⟩;rw[Around.under_plain (weight_type_call_type T args kw) (units_type_call_type T args kw)]
 repeat(any_goals (first | assumption | wp_step))
 refine Kl (codeAny_call_builtin ft.plain en (wpAny_of_eq hcn (g P w A.in1 _ s h))) λr s1 hr=>?_;cases r with
 | error e=>exact hr
 | ok fl=>
  cases fl with
  | ret obj=>
   obtain⟨hT,ho,Si,gi,hs⟩:=hn _ _ hr;have n1:=ft.init.lookup;have n2:=ft.init.bind obj
   repeat(any_goals (first | assumption | wp_step))
   refine Kl (codeAny_call_builtin ft.init.plain F.entry_object_init (ft.init.check _ _ _ _ _ _ _ _ hT ho (gi P w A.in1 _ s1 hs))) λr2 s2 hr2=>?_;cases r2 with
   | error e=>exact hr2
   | ok fl2=>
    cases fl2 with
    | ret r=>
     obtain⟨rfl,hq⟩:=hr2
     repeat(any_goals (first | assumption | wp_step))
    | _=>exact hr2.elim
  | _=>exact hr.elim
theorem zm{T newId:String}{self a v:Value}{x:Str}(hl:typeLookup (.type T) "__init__"=pure (some (.builtin "object.__init__")))(hm:Bind.madeBy (.type T)=pure (some newId))(hne:(some newId !=some "object.__new__")=true):
  Meets (Builtin.«object.__init__» ⟨[self,a],[(x,v)]⟩) (λ_ R s=>s.TypeIs self T/\R (.ok (.ret .none)) s):=by
 refine Meets.of_wp λP w A R s hs=>?_;obtain⟨hT,hq⟩:=hs
 repeat(any_goals (first | assumption | wp_step))
 exact⟨_,rfl,hq⟩
theorem p8{b:Bool}{l:Addr}{items:Array Value}{m:Int}{t:Tok}(hm:0<=m/\m<=1000):PySem.Meets (Builtin.«enumerate.__new__» ⟨[.type "enumerate",.ref l],[("start",.int m t)]⟩) (λ_ R s=>Of b s.heap l items/\
  R (.ok (.ret (.ref (s.heap.objs.size+1)))) {s with heap:=(s.heap.push {cls:=.type (kn b),data:=.fields #[.ref l,.int 0 0]}).push {cls:=.type "enumerate",data:=.fields #[.none,.bool false,.ref s.heap.objs.size,rawInt m,.none,.none]}}):=
 .of_wp λP w A R s h=>by
  obtain⟨hp,g,d,tk,os⟩:=s;obtain⟨hl,h⟩:=h;have sub:=sub_enumerate;have it:∀{A:Around} {E:Value->Shared->Prop} {Q:Value->Shared->Prop},Q (.ref hp.objs.size) {heap:=hp.push {cls:=.type (kn b),data:=.fields #[.ref l,.int 0 0]},gens:=g,drawn:=d,toks:=tk,os:=os}->wpAny (model P w) A (pyIter (.ref l)) Q E ⟨hp,g,d,tk,os⟩:=λq=>rl (s:=⟨hp,g,d,tk,os⟩) hl q;have hf:Builtin.SmallTypes.fitsIndex m=true:=by
   unfold Builtin.SmallTypes.fitsIndex;simp
   lia
  have tl:R (Except.ok (Flow.ret (Value.ref (hp.push {cls:=.type (kn b),data:=.fields #[.ref l,.int 0 0]}).objs.size))) {heap:=(hp.push {cls:=.type (kn b),data:=.fields #[.ref l,.int 0 0]}).push {cls:=.type "enumerate",data:=.fields (Builtin.SmallTypes.ownedTupleFields++[.ref hp.objs.size,rawInt m,.none,.none]).toArray},gens:=g,drawn:=d,toks:=tk,os:=os}:=by
   rw[IW];exact h
  wp_walk
  refine wpAny_stack_any λst=>HK ?_
  split
  ·rename_i c _ _ _ _ _;cases(c==Value.type "enumerate")
   ·wp_walk using it
    exact⟨_,rfl,tl⟩
   ·wp_walk using it
    exact⟨_,rfl,tl⟩
  ·wp_walk using it
   exact⟨_,rfl,tl⟩
theorem pH(a b:Value)(x:Str)(v:Value):argsOk "object.__init__" ⟨[a,b],[(x,v)]⟩:=by
 unfold argsOk;rw[signature?_of (id:="object.__init__") (n:=['_','_','t','i','n','i','_','_']) (o:=['t','c','e','j','b','o']) (by ac_nf) F.owner_object] <;> ac_nf
theorem rB{b:Bool}{l:Addr}{items:Array Value}{m:Int}{t:Tok}{Q:Value->Shared->Prop}(hm:0<=m/\m<=1000)(x:Of b s.heap l items)(k:∀h',IsEnum h' (s.heap.objs.size+1) s.heap.objs.size m .none->At b h' s.heap.objs.size l 0->h'.objs.size=s.heap.objs.size+2->(∀a o,s.heap.get? a=some o->h'.get? a=some o)->Q (.ref (s.heap.objs.size+1)) {s with heap:=h'}):
  wpAny (model P w) A (call (.type "enumerate") [.ref l] [("start",.int m t)]) Q E s:=by
 have z1:(s.heap.push {cls:=.type (kn b),data:=.fields #[.ref l,.int 0 0]}).objs.size=s.heap.objs.size+1:=IW ..;have eE:IsEnum ((s.heap.push {cls:=.type (kn b),data:=.fields #[.ref l,.int 0 0]}).push {cls:=.type "enumerate",data:=.fields #[.none,.bool false,.ref s.heap.objs.size,rawInt m,.none,.none]}) (s.heap.objs.size+1) s.heap.objs.size m .none:=by
  have q:=HZ (s.heap.push {cls:=.type (kn b),data:=.fields #[.ref l,.int 0 0]}) (o:={cls:=.type "enumerate",data:=.fields #[.none,.bool false,.ref s.heap.objs.size,rawInt m,.none,.none]}) rfl;rw[z1] at q;exact q
 refine xT (Q₁:=λobj s1=>s1.TypeIs obj "enumerate"/\Q obj s1) Kr (by ac_nf) (by ac_nf) F.entry_enumerate_new (p8 (b:=b) (items:=items) hm) ⟨x,?_⟩ λobj s1 hq=>⟨hq.1,?_,_,zm Kr.init.lookup Kr.made (by decide),hq.1,rfl,hq.2⟩
 ·exact⟨⟨_,eE,rfl⟩,k _ eE ⟨_,HI _ (HZ _ rfl),rfl,rfl⟩ (by rw[IW,z1]) λa o q=>HI _ (HI _ q)⟩
 ·exact pH _ _ _ _
end
theorem zJ{M:Model}{A:Around}{E:Value->Shared->Prop}{s:Shared}{pos:Pos}{T:String}{first:List Value}{args:List (Bool×Sem Value)}{kws:List (Option Str×Sem Value)}{Q:Value->Shared->Prop}(hpl:(args.any (·.1)||kws.any (·.1.isNone))=false)
  (h:wpAny M A (evalArgs (.type T) true args kws) (λa s1=>wpAny M A (call (.type T) (first++a.pos) a.kw) Q E s1) E s):wpAny M A (callWith pos (.type T) first args kws) Q E s:=by
 unfold callWith;refine HG (Ju (I0 h (λa s1 h1=>HG (JO ?_)) λ_ _ x=>x));simp only[hpl];refine HG (HK ?_);exact HG (I0 h1 (λr s2 hr=>HG (Ju (wpAny_point (HK hr)))) λ_ _ x=>x)
theorem vV(h0:0<=m/\m<=1000)(hg:Gl X "enumerate")(hm:X.mg "enumerate"=none)(ha:PA X [a] ta)(hk:PE X kx (tC (.int m)))(hs:starEach [a] X.env=[(false,eval a X.env)]:=by ac_nf):
  PI X (.Tuple es k0 tpos) (.Call (.Name "enumerate" p) [a] [⟨some "start",kx,kp⟩] pos) (λσ H R=>ta σ H λvs H1=>∃l b,vs=[.ref l]/\(∃xs,l7 b X.K H1 l xs)/\R (FF m b X.K l) H1):=by
 intro pins s σ H R I h;refine Ko (iF I hg hm nP ?_);refine zJ (by rw[hs];rfl) (PyProof.Rows.evalArgs_kw2 rfl (bT (ha pos pins s σ H _ I h) λus s1 ⟨vs,H1,I1,r1,q1⟩=>bT (yN hk BC pos pins s1 σ H1 (λzs H2=>zs=[.int m]/\H2=H1) I1 ⟨rfl,rfl⟩) λws s2 ⟨zs,H2,I2,rz,e1,e2⟩=>?_) hs);subst e1 e2;obtain⟨l,b,e,⟨xs,hq⟩,q⟩:=q1;subst e;obtain⟨u,rfl,ru⟩:=Vals.one r1;obtain rfl:u=Value.ref l:=ru;obtain⟨v,rfl,rv0⟩:=Vals.one rz;obtain⟨t0,rfl⟩:∃t0,v=Value.int m t0:=rv0;obtain⟨its,rv,hO⟩:=hq.of I2;refine rB h0 hO λh' a1 a2 a3 a4=>?_;have I3:L2.Inv X pins σ H2 {s2 with heap:=h'}:=I2.kept (t':=s2.toks) a4;have hf:∀c∈[s2.heap.objs.size+1,s2.heap.objs.size],fv X pins H2 c:=λc hc=>by
  simp at hc;rcases hc with rfl | rfl
  ·exact I2.qh (Ki _) (I2.aZ.fresh (Ki _))
  ·exact I2.qh (HN _) (I2.aZ.fresh (HN _))
 have T:=qI (P:=X.prog) (w:=X.w) (K:=X.K) (es:=es) (k0:=k0) (pos:=tpos) m b l (s2.heap.objs.size+1) s2.heap.objs.size (Nat.succ_ne_self _);have st:(∃old,IsEnum h' (s2.heap.objs.size+1) s2.heap.objs.size (m+(0:Nat)) old)/\At b h' s2.heap.objs.size l 0:=⟨⟨_,by rw[show m+((0:Nat):Int)=m by lia];exact a1⟩,a2⟩;refine T.self X.A 0 {s2 with heap:=h'} _ X.xe st ?_;exact⟨_,[s2.heap.objs.size+1,s2.heap.objs.size],_,_,H2,rfl,I3,T,st,hf,q⟩
end Sb
namespace Sm
open PySem L2 PySem.Spec PyProof.Rows
noncomputable def rn(k:Nat)(m:AM):IM:=λδ h=>(m δ h).bind λp=>match p.1 with
 | [d]=>(bM d p.2).map λq=>(fj k q.1,q.2,p.2)
 | _=>none
theorem vi{j kpos kp0}{kk:Nat}(h0:kk<=1000)(hg:Gl X "enumerate")(hm:X.mg "enumerate"=none)(ha:SA X [a] m)(hl:iL m 1)(hs:starEach [a] X.env=[(false,eval a X.env)]:=by ac_nf):SI X (.Tuple es k0 tpos) (.Call (.Name "enumerate" p) [a] [⟨some "start",.Constant (.int (kk:Int)) j kpos,kp0⟩] pos) (rn kk m):=
 (Sb.vV (m:=(kk:Int)) (by lia) hg hm ha wa hs).imp λσ H Q ⟨ρ,δ,h,xs,ws,h',R,S,e,k⟩=>by
  obtain⟨⟨ds,h1⟩,e1,e2⟩:=bg e;refine⟨ρ,δ,h,ds,h1,R,S,e1,λvs ρ1 H1 T1 S1 r1=>?_⟩
  match ds,hl _ _ _ _ e1,e2,r1 with
  | [d],_,e2,r1=>
   obtain⟨⟨ys,w⟩,e3,e4⟩:=dY e2;cases e4;obtain⟨v,rfl,rd⟩:=rep1 r1;obtain⟨a,rfl,⟨us,q,l⟩,st⟩:=fD S1 rd e3;refine⟨a,i4 d,rfl,⟨us,q.qC⟩,k _ ρ1 H1 T1 S1 ⟨λρ2 H2 h2 T2 S2 hc i=>?_⟩⟩;obtain⟨ws,l2,q2⟩:=st ρ2 H2 h2 T2 S2 hc;refine⟨λhi=>⟨ws,q2.qC,by rw[l2.length];rw[cB] at hi;exact hi⟩,λx hx=>?_⟩;rw[fi] at hx;obtain⟨y,ey,hx⟩:=dY hx;subst hx;obtain⟨v,ev,rv⟩:=l2.got ey;refine⟨⟨ws,v,q2.qC,ev⟩,λu H3 ⟨p,y',hp,hu,hH,hy⟩=>?_⟩;subst hu;subst hH;have hy':y'=v:=by have:=hy ws q2.qC;rw[ev] at this;exact(Option.some.inj this).symm
   subst hy';refine⟨bX.laid S2 hp,S2.laid hp,.tup (.inl ⟨.inl ax,S2.fresh hp⟩) (.cons ?_ (.cons (rv.mono (bX.laid S2 hp).toCh) .nil))⟩;rw[show((kk+i:Nat):Int)=(kk:Int)+i by lia];exact .int _
end Sm
namespace Pg
open PySem Sm L2
abbrev Term:=Str×Int
abbrev Lock:=Str×Term
inductive Row where
 | say (w:Str)
 | call (d:Str) (ts:List Term)
 | within (l:Lock) (b:List Row)
 | all (ls:List Lock) (b:List Row)
 | ask (l:Lock) (b e:List Row)
 | l6 (s t:Term) (a b c:List Row)
 | either (a b:List Row)
 | again (a:List Row)
noncomputable def cp(t:Term):D:=.tup [.str t.1,.int t.2]
noncomputable def bI(l:Lock):D:=.tup [.str l.1,cp l.2]
mutual
noncomputable def aP:Row->D
 | .say w=>.tup [.str "say",.str w]
 | .call d ts=>.tup [.str "call",.str d,.tup (ts.map cp)]
 | .within l b=>.tup [.str "within",bI l,.tup (bH b)]
 | .all ls b=>.tup [.str "all",.tup (ls.map bI),.tup (bH b)]
 | .ask l b e=>.tup [.str "ask",bI l,.tup (bH b),.tup (bH e)]
 | .l6 s t a b c=>.tup [.str "by",cp s,cp t,.tup (bH a),.tup (bH b),.tup (bH c)]
 | .either a b=>.tup [.str "either",.tup (bH a),.tup (bH b)]
 | .again a=>.tup [.str "again",.tup (bH a)]
noncomputable def bH:List Row->List D
 | []=>[]
 | r::rs=>aP r::bH rs
end
theorem fe:∀l:List Row,bH l=l.map aP
 | []=>by simp[bH]
 | r::rs=>by simp[bH,fe rs]
mutual
noncomputable def cnt:Row->Nat
 | .say _=>1
 | .call _ _=>1
 | .within _ b=>1+ak b
 | .all _ b=>1+ak b
 | .ask _ b e=>1+ak b+ak e
 | .l6 _ _ a b c=>1+ak a+ak b+ak c
 | .either a b=>1+ak a+ak b
 | .again a=>1+ak a
noncomputable def ak:List Row->Nat
 | []=>0
 | r::rs=>cnt r+ak rs
end
theorem lM:∀a b:List Row,ak (a++b)=ak a+ak b
 | [],b=>by simp[ak]
 | r::a,b=>by simp[ak,lM a b];lia
end Pg
set_option hygiene false in
local macro_rules | `(tactic| ac_rfl) => do {let t <- (("|Sm.sv _|Sm.aH|Sm.aC|Sm.af ? ?|Sm.aa ? ?|Sm.aJ ?|Sm.b6 ?|Sm.sset _ @ ?|Sm.gc ? ? ?|Sm.dC|Sm.six hr ? ?|Sm.oq @ hr ?|Sm.aS|Sm.vt|Sm.vA|Sm.Ga ?|Sm.Gb ?|Sm.F7 ?|Sm.Gd ?|Sm.F6 ?|Sm.stp5 ?|Sm.stp6 ?|Sm.D0 ? ? ?|Sm.aR ? ? ?|Sm.a8|Sm.BW hr.units|Sm.wm hr.units|Sm.Ew|Sm.Ey|Sm.os_le|Sm.Af|Sm.os_isN|Sm.os_notN|Sm.Ex hr.units|Sm.os_notIn hr.units|Sm.BU|Sm.oG|Sm.vp Sm.qF ?|Sm.vq ? ? ?|Sm.sj|Sm.si ?|Sm.fB ? ?|Sm.vm rfl ?|Sm.kO ? ?|Sm.sk|Sm.sgn _ @|Sm.A8 Sm.CO B.Fe Sm.Dc ?|Sm.Dv Sm.qr B.pF Sm.lV ?|Sm.vc ?|Sm.vd ?|Sm.D5 ? ? ?|Sm.dZ ?|Sm.fE Sm.fA PySem.F.plainAttrs_list PySem.F.slot_list_append PySem.F.type_list_append Sm.dy ? ?|Sm.se_m0 Sm.fA PySem.F.plainAttrs_list PySem.F.slot_list_pop PySem.F.type_list_pop Sm.mS_pop ?|Sm.kl.lv ?|Sm.kl.ob ?|Sm.Gh ?|Sm.Gg ?|Sm.Gf ?|Sm.sfl3 ?|Sm.sfl4 ?|Sm.sfl5 ?|Sm.Ge ?|Sm.sfl7 ?|Sm.sfl8 ?|Sm.u9 ? ?|Sm.zX ? ?|Sm.rZ ?|Sm.u7 ?|Sm.cL PassesOwn.never rfl ? ? ?|Sm.jq ?|Sm.ss_brk|Sm.A8 Sm.cs_max~rfl B.b_max Sm.bo_max ?|Sm.A8 Sm.cs_min~rfl B.b_min Sm.bo_min ?|Sm.Dv Sm.CQ B.Ff Sm.Dd ?|Sm.A8 Sm.CS B.Fg Sm.De ?|Sm.D2 ? ? ?|Sm.SW.st ?".splitOn "|").drop 1).toArray.mapM (λl => do {let x <- (l.splitOn " ").toArray.mapM (λz => if z == "?" then `(?_) else if z == "_" then `(_) else if z == "@" then `(‹_›) else(let y := (z.splitOn "~").toArray.map (λw => (Lean.mkIdent w.toName : Lean.TSyntax `term));pure (Lean.Syntax.mkApp y[0]! (y.extract 1 y.size))));`(Lean.Parser.Tactic.tacticSeq| refine $(Lean.Syntax.mkApp x[0]! (x.extract 1 x.size)) <;> ac_rfl)});`(tactic| with_reducible first $[| $t]*)}
local macro_rules | `(tactic| walk_at "v") => `(tactic|(conv => arg 2;whnf))
local macro_rules | `(tactic| walk_at "u") => `(tactic|(walk_at "v";ac_rfl))
namespace Mi
open PySem L2 Sm PySem.Spec PyProof.Rows
structure Bs(P:Program)(w:World)(K:FR)(mg:Str->Option Value):Prop where
 Fg:mg "abs"=none
 xA:mg "divmod"=none
 jZ:mg "enumerate"=none
 Ff:mg "int"=none
 pG:mg "isinstance"=none
 Fe:mg "len"=none
 xy:mg "list"=none
 f7:mg "range"=none
 xx:mg "sorted"=none
 xw:mg "str"=none
 pF:mg "tuple"=none
 Fd:mg "zip"=none
 uL:G2 mg "FIGURES" (.str "0123456789")
 xD:Tab P w K mg "SHAPES" gR
abbrev fJ:Stmt:=top 14
abbrev fP:List Str:=["_law_script"]
theorem mr:au ["_law_script"] fP (ag fJ):=by walk_at "s"
noncomputable def cJ:Fn:=mJ 1
  (aY (sZ (a3 (ki 0) (sZ (tJ (a1 (rD v0 BR (BS (ki 63)))))) (ki 0))))
abbrev gv:Stmt:=top 15
abbrev gE:List Str:=["_law_state"]
theorem fF:au ["_law_state","_law_cells","_law_tour","_law_cell","_law_mixed"] gE (ag gv):=by walk_at "s"
noncomputable def eF:Fn:=mJ 5
  (aj (bu 1 (ai bt v0 (ki 1)))
  (aj (bu 2 (ai bt v0 (ki 2)))
  (aj (hG (ai ar v2 (ki 1)) (oW v0 (ki 2)))
  (aj (bu 3 (ki 0))
  (aj (gV (aE (ai ur v1 (iM bQ))) (bu 3 (ai bt v1 (ai mN v2 (az gJ (a1 v1))))) b7)
  (gV (qL (aE (ai Dz v2 (az gJ (a1 v1)))) (aE (ai Ha (az zv (a1 v3)) (ai zr (ki 10) (ki 18))))) (hG (az zv (a1 v3)) (oW v0 (ki 0))) (aj (bu 4 (ai mN (ai fh (ai ar (ai ar (ai mN v3 (ki 2305843009213693951)) (ai fh (ai fh (ki 7919) v2) v2)) (ki 11)) (ki 48271)) (ki 2305843009213693951)))
  (aj (bu 4 (ai mN (ai fh v4 v4) (ki 2305843009213693921)))
  (hG (ai ar (ai mN (ai ar (ai ar (ai fh v4 (ki 69621)) v2) (ki 104729)) (ki 2305843009213693951)) (ai zr (ki 10) (ki 9))) (oW v0 (ki 0)))))))))))
abbrev gu:Stmt:=top 16
abbrev gD:List Str:=["_law_state","_law_many"]
theorem ow:au ["_law_state","_law_many","_law_found"] gD (ag gu):=by walk_at "s"
noncomputable def aF:Fn:=mJ 3
  (aj (gV (aE (ai Dz (ai bt v0 (ki 0)) v1)) (cY (az eF (a1 v0))) b7)
  (aj (bu 2 (ai mN (ai bt v0 (ki 0)) v1))
  (aj (hG (ai wZ (ai bt v0 (ki 0)) v1) (oW v0 (ki 0)))
  (aY v2))))
abbrev jt:Stmt:=top 17
abbrev jA:List Str:=["_law_state","_law_some"]
theorem qP:au ["_law_state","_law_some"] jA (ag jt):=by walk_at "s"
noncomputable def bo:Fn:=mJ 2
  (aY (ai bt v1 (az aF (a2 v0 (az gJ (a1 v1))))))
abbrev eO:Stmt:=top 18
abbrev eU:List Str:=["_law_state","_law_many"]
theorem cx:au ["_law_state","_law_many","_law_odd","_law_words","_law_k","_law_word"] eU (ag eO):=by walk_at "s"
noncomputable def bO:Fn:=xK 6
  (aj (bu 2 (eK (.lv [.str "end",.str "or",.str "say",.str "locks",.str "deed",.str "call",.str "within",.str "ask",.str "all",.str "by",.str "either",.str "again"])))
  (aj (bu 3 (sZ bQ))
  (aj (iu (oU (a1 v1)) (gN 4) (aj (bu 5 (az bo (a2 v0 (ai ar v2 (ai wV (iM (a1 (ai fh (az bo (a2 v0 (ks "abcdefghijklm"))) (ai ar (ki 1) (az aF (a2 v0 (ki 8))))))) (ki 12))))))
  (aj (gV (aE (ai DA v5 v3)) (bu 5 (ai fh (ai bt (ks "uvwxyz") v4) (ai ar (ki 1) (az aF (a2 v0 (ki 8)))))) b7)
  (cY (eM bW bL v3 (a1 v5))))))
  (aY v3))))
abbrev eN:Stmt:=top 19
abbrev eR:List Str:=["_law_state","_law_params"]
theorem kR:au ["_law_state","_law_params"] eR (ag eN):=by walk_at "s"
noncomputable def aL:Fn:=mJ 2
  (aY (az bK (a2 (az bo (a2 v0 (ai ar (az bK (a1 (ks ""))) v1))) (az bo (a2 v0 (iM (aq (ki 0) (aq (ki 1) (a4 (qD kI (ki 1)) (ki 99) (qD kI (ki 99)) (ai zq (az aF (a2 v0 (ki 199))) (ki 99)))))))))))
abbrev fH:Stmt:=top 20
abbrev fN:List Str:=["_law_state","_law_world","_law_params","_law_many"]
theorem ia:au ["_law_state","_law_world","_law_params","_law_many","_law_some","_law_k"] fN (ag fH):=by walk_at "s"
noncomputable def dq:Fn:=xK 6
  (aj (bu 4 EY)
  (aj (iu (oU (a1 v3)) (gN 5) (hG (eK (.bl true)) (wQ v4 (az bK (a2 (az bo (a2 v0 (ai bt v1 (ks "names")))) (az aL (a2 v0 v2)))))))
  (aY (az Ai (a1 v4)))))
abbrev cg:Stmt:=top 21
abbrev aT:List Str:=["_law_state","_law_world","_law_params","_law_deep"]
theorem aO:au ["_law_state","_law_world","_law_params","_law_deep","_law_sort","_law_other","_law_terms","_law_lots","_law_locks_here"] aT (ag cg):=by walk_at "s"
abbrev cj:Stmt:=top 22
abbrev aU:List Str:=["_law_state","_law_world","_law_params","_law_deep"]
theorem g9:au ["_law_state","_law_world","_law_params","_law_deep","_law_rows","_law_k"] aU (ag cj):=by walk_at "s"
mutual
noncomputable def aV:Nat->Fn
 | 0=>λ_ _=>none
 | n+1=>mJ 9
  (aj (bu 4 (az bo (a2 v0 (eK (.lv [.str "say",.str "call",.str "within",.str "all",.str "ask",.str "by",.str "either",.str "again"])))))
  (aj (gV (aE (ai bZ v4 (ks "call"))) (aj (bu 5 (az aF (a2 v0 (az gJ (a1 (ai bt v1 (ks "deeds")))))))
  (aj (bu 6 (iM (cE [none,some 2,some 0] (oU (a1 (ai bt (ai bt v1 (ks "many")) v5))) (gN 0) dh (az aL (a2 v2 v1)))))
  (aY (az bK (a3 (ks "call") (ai bt (ai bt v1 (ks "deeds")) v5) (az dQ (a1 v6))))))) b7)
  (aj (gV (xG (aE (ai bZ v4 (ks "say"))) (aE (ai wX v3 (ki 5)))) (aY (az bK (a2 (ks "say") (az bo (a2 v0 (ai ar (ai bt v1 (ks "deeds")) (iM (tJ (a1 (ai bt v1 (ks "names"))))))))))) b7)
  (aj (bu 7 (iM (cE [none,some 3,some 2,some 0,some 1] (oU (a1 (ki 3))) (gN 0) dh (az (aB n) (a4 v3 v4 v2 v1)))))
  (aj (bu 8 (az dq (a4 v0 v1 v2 (ai ar (ki 2) (az aF (a2 v0 (ki 3)))))))
  (aj (gV (qL (aE (ai bZ v4 (ks "all"))) (aE (ai wX (az gJ (a1 v8)) (ki 1)))) (aY (az bK (a3 (ks "all") v8 (ai bt v7 (ki 0))))) b7)
  (aj (gV (xG (aE (ai bZ v4 (ks "all"))) (aE (ai bZ v4 (ks "within")))) (aY (az bK (a3 (ks "within") (ai bt v8 (ki 0)) (ai bt v7 (ki 0))))) b7)
  (aj (gV (aE (ai bZ v4 (ks "ask"))) (aY (az bK (a4 (ks "ask") (ai bt v8 (ki 0)) (ai bt v7 (ki 0)) (ai bt v7 (ki 1))))) b7)
  (aj (gV (aE (ai bZ v4 (ks "by"))) (aY (ai ar (az bK (a3 (ks "by") (az aL (a2 v0 v2)) (az aL (a2 v0 v2)))) (az dQ (a1 v7)))) b7)
  (aY (ai ar (az bK (a1 v4)) (az dQ (a1 (rD v7 BR (BS (ai ar (ki 1) (az lH (a1 (ai bZ v4 (ks "either"))))))))))))))))))))
noncomputable def aB:Nat->Fn
 | 0=>λ_ _=>none
 | n+1=>xK 6
  (aj (bu 4 (sZ bQ))
  (aj (iu (oU (a1 (az aF (a2 v0 (ai bt (iM (a2 (ki 4) (ki 13))) (az lH (a1 (ai bZ v3 (ki 1))))))))) (gN 5) (gV (aE (ai wX (ai bt v1 (ks "left")) (ki 0))) (aj (hG (ai zq (ai bt v1 (ks "left")) (ki 1)) (oW v1 (ks "left")))
  (cY (eM bW bL v4 (a1 (az (aV n) (a4 v0 v1 v2 (ai ar v3 (ki 1)))))))) b7))
  (aY (az dQ (a1 v4)))))
end
abbrev dG:Stmt:=top 23
abbrev dN:List Str:=["_law_state"]
theorem cc:au ["_law_state","_law_names","_law_deeds","_law_many","_law_world","_law_made","_law_deed","_law_count","_law_params"] dN (ag dG):=by walk_at "s"
noncomputable def cH:Fn:=xK 9
  (aj (bu 1 (az dQ (a1 (az oX (a1 (az bO (a2 v0 (ai ar (ki 1) (az aF (a2 v0 (ki 6)))))))))))
  (aj (bu 2 (az bO (a2 v0 (ai ar (ki 1) (az aF (a2 v0 (ki 6)))))))
  (aj (bu 3 (iM (cE [none,some 0] (fU v2) (gN 0) dh (az aF (a2 v1 (ki 4))))))
  (aj (bu 4 (rE (gG (ks "names") v1 (gG (ks "deeds") v2 (gG (ks "many") v3 (gG (ks "left") (az bo (a2 v0 (eK (.lv [.int 3,.int 10,.int 30,.int 60])))) y0))))))
  (aj (bu 5 (sZ bQ))
  (aj (iu (CD (a2 v2 v3)) (gT 2 (aw (gN 6) (aw (gN 7) cK))) (aj (bu 8 (az dQ (a1 (az bO (a2 v0 v7)))))
  (cY (eM bW bL v5 (a1 (az bK (a3 v6 v8 (az (aB 20) (a4 v0 v4 v8 (ki 1))))))))))
  (aY (az bK (a2 v1 (az dQ (a1 v5)))))))))))
abbrev eI:Stmt:=top 2
abbrev eQ:List Str:=["number"]
theorem kQ:au ["number","left","signs","figure"] eQ (ag eI):=by walk_at "s"
noncomputable def bD:Fn:=xK 4
  (aj (bu 1 (az zv (a1 v0)))
  (aj (bu 2 (sZ bQ))
  (aj (fz (xG (aE (ai wX v1 (ki 0))) (tS (xV v2))) (aj (hG (az kA (a2 v1 (ki 10))) (gT 2 (aw (gN 1) (aw (gN 3) cK))))
  (cY (eM bW bL v2 (a1 (ai bt (ks "0123456789") v3))))) 1000000)
  (aj (gV (aE (ai Dz v0 (ki 0))) (cY (eM bW bL v2 (a1 (ks "-")))) b7)
  (aY (eM isStr cA (ks "") (a1 (qj v2 (qD kI (ki 1))))))))))
abbrev gp:Stmt:=top 8
abbrev gB:List Str:=["term"]
theorem ot:au ["term","word","figure"] gB (ag gp):=by walk_at "s"
noncomputable def bC:Fn:=mJ 3
  (aj (hG v0 (gT 2 (aw (gN 1) (aw (gN 2) cK))))
  (aj (gV (aE (ai bZ v1 (ks ""))) (aY (az bD (a1 v2))) b7)
  (aj (gV (aE (ai bZ v2 (ki 0))) (aY v1) b7)
  (aY (ai ar (ai ar v1 (EX (aE (ai wX v2 (ki 0))) (ks "+") (ks ""))) (az bD (a1 v2)))))))
abbrev iq:Stmt:=top 6
abbrev iC:List Str:=["row"]
theorem pR:au ["row"] iC (ag iq):=by walk_at "s"
noncomputable def dX:Fn:=mJ 1
  (aj (gV (aE (ai bZ (ai bt v0 (ki 0)) (ks "all"))) (aY (ai bt v0 (ki 1))) b7)
  (aY (EX (aE (ai DA (ai bt v0 (ki 0)) (az bK (a2 (ks "within") (ks "ask"))))) (az bK (a1 (ai bt v0 (ki 1)))) (az bK bQ))))
abbrev gr:Stmt:=top 9
abbrev gC:List Str:=["lock"]
theorem ou:au ["lock","name","term"] gC (ag gr):=by walk_at "s"
noncomputable def c8:Fn:=mJ 3
  (aj (hG v0 (gT 2 (aw (gN 1) (aw (gN 2) cK))))
  (aY (GP (qc (qD wY v1) (qc (ks ":") (qc (qD wY (az bC (a1 v2))) EJ))))))
abbrev dE:Stmt:=top 10
abbrev dH:List Str:=["row"]
theorem j6:au ["row"] dH (ag dE):=by walk_at "s"
noncomputable def bY:Fn:=mJ 1
  (aj (gV (aE (ai bZ (ai bt v0 (ki 0)) (ks "say"))) (aY (iM (a1 (ai bt v0 (ki 1))))) b7)
  (aj (gV (aE (ai bZ (ai bt v0 (ki 0)) (ks "call"))) (aY (ai ar (iM (a1 (ai bt v0 (ki 1)))) (iM (cE [none] (fU (ai bt v0 (ki 2))) (gN 0) dh (az bC (a1 v0)))))) b7)
  (aj (gV (aE (ai bZ (ai bt v0 (ki 0)) (ks "by"))) (aY (iM (a2 (az bC (a1 (ai bt v0 (ki 1)))) (az bC (a1 (ai bt v0 (ki 2))))))) b7)
  (aY (iM (cE [none] (fU (az dX (a1 v0))) (gN 0) dh (az c8 (a1 v0))))))))
abbrev jr:Stmt:=top 5
abbrev jz:List Str:=["row"]
theorem qO:au ["row"] jz (ag jr):=by walk_at "s"
noncomputable def fw:Fn:=mJ 1
  (aY (rD v0 (BS (ai bt (qD (CI gR) (ai bt v0 (ki 0))) (ki 0))) BR))
abbrev ir:Stmt:=top 11
abbrev dM:List Str:=["lot"]
theorem jK:au ["lot","lines","row","lots","many","inner"] dM (ag ir):=by walk_at "s"
noncomputable def cn:Nat->Fn
 | 0=>λ_ _=>none
 | n+1=>xK 6
  (aj (bu 1 (sZ bQ))
  (aj (iu (fU v0) (gN 2) (aj (cY (eM bW bL v1 (a1 (eM isStr cA (ks " ") (a1 (ai ar (iM (a1 (ai bt v2 (ki 0)))) (az bY (a1 v2))))))))
  (aj (bu 3 (az fw (a1 v2)))
  (iu (rn 1 (a1 v3)) (gT 2 (aw (gN 4) (aw (gN 5) cK))) (aj (cY (eM bW gW v1 (a1 (az (cn n) (a1 v5)))))
  (cY (eM bW bL v1 (a1 (EX (aE (ai bZ v4 (az gJ (a1 v3)))) (ks "end") (ks "or"))))))))))
  (aY v1)))
abbrev dF:Stmt:=top 12
abbrev dJ:List Str:=["program"]
theorem gf:au ["program","names","deeds","lines","deed","params","rows"] dJ (ag dF):=by walk_at "s"
noncomputable def cG:Fn:=xK 7
  (aj (hG v0 (gT 2 (aw (gN 1) (aw (gN 2) cK))))
  (aj (bu 3 (sZ (a1 (eM isStr cA (ks " ") (a1 (ai ar (az bK (a1 (ks "locks"))) v1))))))
  (aj (iu (fU v2) (gT 3 (aw (gN 4) (aw (gN 5) (aw (gN 6) cK)))) (aj (cY (eM bW bL v3 (a1 (eM isStr cA (ks " ") (a1 (ai ar (az bK (a2 (ks "deed") v4)) v5))))))
  (aj (cY (eM bW gW v3 (a1 (az (cn 8) (a1 v6)))))
  (cY (eM bW bL v3 (a1 (ks "end")))))))
  (aY (eM isStr cA (eK (.str "\n")) (a1 v3))))))
abbrev fG:Stmt:=top 29
abbrev fM:List Str:=["_law_lines_here"]
theorem mn:au ["_law_lines_here"] fM (ag fG):=by walk_at "s"
noncomputable def cI:Fn:=mJ 1
  (aY (iM (cE [none,none] (fU v0) (gT 2 (aw (gN 0) (aw (gN 1) cK))) dh v1)))
abbrev cN:Stmt:=top 24
abbrev cR:List Str:=["_law_term"]
theorem iV:au ["_law_term","_law_word","_law_more"] cR (ag cN):=by walk_at "s"
noncomputable def aD:Fn:=mJ 3
  (aj (hG v0 (gT 2 (aw (gN 1) (aw (gN 2) cK))))
  (aj (gV (xG (aE (ai bZ v1 (ks ""))) (aE (ai bZ v2 (ki 0)))) (aY (CK v1 (az qi (a1 v2)))) b7)
  (aY (ai ar (ai ar v1 (ai fh (ks "+") (az lH (a1 (ai wX v2 (ki 0)))))) (az qi (a1 v2))))))
abbrev cP:Stmt:=top 25
abbrev cS:List Str:=["_law_lock"]
theorem iW:au ["_law_lock"] cS (ag cP):=by walk_at "s"
noncomputable def aX:Fn:=mJ 1
  (aY (ai ar (ai ar (ai bt v0 (ki 0)) (ks ":")) (az aD (a1 (ai bt v0 (ki 1))))))
abbrev gw:Stmt:=top 26
abbrev gF:List Str:=["_law_row"]
theorem ox:au ["_law_row"] gF (ag gw):=by walk_at "s"
noncomputable def eG:Fn:=mJ 1
  (aj (gV (aE (ai bZ (ai bt v0 (ki 0)) (ks "say"))) (aY (ai ar (ks "say ") (ai bt v0 (ki 1)))) b7)
  (aj (gV (aE (ai bZ (ai bt v0 (ki 0)) (ks "call"))) (aY (eM isStr cA (ks " ") (a1 (ai ar (iM (a2 (ks "call") (ai bt v0 (ki 1)))) (iM (cE [none] (fU (ai bt v0 (ki 2))) (gN 0) dh (az aD (a1 v0)))))))) b7)
  (aj (gV (aE (ai bZ (ai bt v0 (ki 0)) (ks "all"))) (aY (eM isStr cA (ks " ") (a1 (ai ar (iM (a1 (ks "all"))) (iM (cE [none] (fU (ai bt v0 (ki 1))) (gN 0) dh (az aX (a1 v0)))))))) b7)
  (aj (gV (aE (ai DA (ai bt v0 (ki 0)) (az bK (a2 (ks "within") (ks "ask"))))) (aY (ai ar (ai ar (ai bt v0 (ki 0)) (ks " ")) (az aX (a1 (ai bt v0 (ki 1)))))) b7)
  (aj (gV (aE (ai bZ (ai bt v0 (ki 0)) (ks "by"))) (aY (ai ar (ai ar (ai ar (ks "by ") (az aD (a1 (ai bt v0 (ki 1))))) (ks " ")) (az aD (a1 (ai bt v0 (ki 2)))))) b7)
  (aY (ai bt v0 (ki 0))))))))
abbrev cO:Stmt:=top 27
abbrev bG:List Str:=["_law_lot","_law_first"]
theorem aM:au ["_law_lot","_law_first","_law_found","_law_number","_law_row","_law_mine","_law_first_lot","_law_lots","_law_place","_law_inner","_law_lines_here"] bG (ag cO):=by walk_at "s"
noncomputable def aW:Nat->Fn
 | 0=>λ_ _=>none
 | n+1=>mJ 11
  (aj (yk 2 3 (a2 (sZ bQ) v1))
  (aj (iu (fU v0) (gN 4) (aj (bu 5 v3)
  (aj (cY (eM bW bL v2 (a1 (az bK (a2 v5 (az eG (a1 v4)))))))
  (aj (bu 3 (ai ar v3 (ki 1)))
  (aj (bu 6 (eM wK Cn (Al (gG (ks "say") (ki 2) (gG (ks "call") (ki 3) (gG (ks "by") (ki 3) (gG (ks "either") (ki 1) (gG (ks "again") (ki 1) y0)))))) (a2 (ai bt v4 (ki 0)) (ki 2))))
  (aj (bu 7 (rD v4 (BS v6) BR))
  (aj (iu (wL (a1 v7)) (gT 2 (aw (gN 8) (aw (gN 9) cK))) (aj (bu 2 (sZ (xC v2 (ai wV (iM (a1 (az bK (a2 v5 (ks "or"))))) (az lH (a1 (ai wX v8 (ki 0))))))))
  (aj (hG (az (aW n) (a2 v9 v3)) (gT 2 (aw (gN 10) (aw (gN 3) cK))))
  (bu 2 (sZ (xC v2 v10))))))
  (bu 2 (sZ (xC v2 (ai wV (iM (a1 (az bK (a2 v5 (ks "end"))))) (az lH (a1 (ai wX (az gJ (a1 v7)) (ki 0)))))))))))))))
  (aY (az bK (a2 v2 v3)))))
abbrev fI:Stmt:=top 28
abbrev fO:List Str:=["_law_program"]
theorem cW:au ["_law_program","_law_found","_law_number","_law_deed","_law_params","_law_rows","_law_lines_here"] fO (ag fI):=by walk_at "s"
noncomputable def du:Fn:=xK 7
  (aj (yk 1 2 (a2 (iM (a1 (az bK (a2 (qD kI (ki 1)) (eM isStr cA (ks " ") (a1 (ai ar (az bK (a1 (ks "locks"))) (ai bt v0 (ki 0))))))))) (ki 0)))
  (aj (iu (fU (ai bt v0 (ki 1))) (gT 3 (aw (gN 3) (aw (gN 4) (aw (gN 5) cK)))) (aj (hG (az (aW 8) (a2 v5 v2)) (gT 2 (aw (gN 6) (aw (gN 2) cK))))
  (bu 1 (ai ar (ai ar (ai ar v1 (iM (a1 (az bK (a2 (qD kI (ki 1)) (eM isStr cA (ks " ") (a1 (ai ar (az bK (a2 (ks "deed") v3)) v4)))))))) v6) (iM (a1 (az bK (a2 (qD kI (ki 1)) (ks "end")))))))))
  (aY v1)))
abbrev jL:Stmt:=top 30
abbrev Ae:List Str:=["_law_script"]
theorem A9:au ["_law_script","_law_state","_law_turn","_law_program","_law_again","_law_found"] Ae (ag jL):=by walk_at "s"
noncomputable def tN:Fn:=mJ 6
  (aj (bu 1 (az cJ (a1 v0)))
  (aj (iu (oU (a1 (ki 4))) (gN 2) (aj (bu 3 (az cH (a1 v1)))
  (iu (oU (a1 (ki 2))) (gN 4) (aj (bu 5 (az cG (a1 v3)))
  (gV (xG (tS (xV (az zu (a2 v5 (eK (.ty "str")))))) (aE (ai ur v5 (eM isStr cA (eK (.str "\n")) (a1 (az cI (a1 (az du (a1 v3))))))))) (aY (eK (.bl false))) b7)))))
  (aY (eK (.bl true)))))
section
variable (P:Program) (w:World) (K:FR) (mg:Str->Option Value) (base:Heap)
abbrev jk:Prop:=Df P w K mg base "_law_drawn" 1 fP 1 cJ
abbrev j1:Prop:=Df P w K mg base "_law_load" 1 gE 1 eF
abbrev cv:Prop:=Df P w K mg base "_law_next" 2 gD 2 aF
abbrev dB:Prop:=Df P w K mg base "_law_of" 3 jA 2 bo
abbrev ij:Prop:=Df P w K mg base "_law_called" 4 eU 2 bO
abbrev eV:Prop:=Df P w K mg base "_law_figure" 4 eR 2 aL
abbrev ji:Prop:=Df P w K mg base "_law_locks" 5 fN 4 dq
abbrev iK:Prop:=Df P w K mg base "_law_written_row" 26 aT 4 (aV 20)
abbrev dW:Prop:=Df P w K mg base "_law_written_lot" 26 aU 4 (aB 20)
abbrev gP:Prop:=Df P w K mg base "_law_written" 27 dN 1 cH
abbrev ig:Prop:=Df P w K mg base "show_number" 1 eQ 1 bD
abbrev gM:Prop:=Df P w K mg base "show_term" 2 gB 1 bC
abbrev lW:Prop:=Df P w K mg base "locks_of" 1 iC 1 dX
abbrev j0:Prop:=Df P w K mg base "show_lock" 3 gC 1 c8
abbrev gL:Prop:=Df P w K mg base "words_behind" 4 dH 1 bY
abbrev nY:Prop:=Df P w K mg base "lots_of" 1 jz 1 fw
abbrev lX:Prop:=Df P w K mg base "lines_of" 13 dM 1 (cn 8)
abbrev gO:Prop:=Df P w K mg base "show_program" 14 dJ 1 cG
abbrev jh:Prop:=Df P w K mg base "_law_texts" 1 fM 1 cI
abbrev cU:Prop:=Df P w K mg base "_law_term_text" 1 cR 1 aD
abbrev fq:Prop:=Df P w K mg base "_law_lock_text" 2 cS 1 aX
abbrev j2:Prop:=Df P w K mg base "_law_head" 3 gF 1 eG
abbrev fo:Prop:=Df P w K mg base "_law_lot_lines" 12 bG 2 (aW 8)
abbrev jj:Prop:=Df P w K mg base "_law_lines" 13 fO 1 du
end
section
variable {P:Program} {w:World} {K:FR} {mg:Str->Option Value} {base:Heap}
theorem mI(F:gj K "_law_drawn" "_law_drawn" fJ f fd)(B:Bs P w K mg):bx P w K mg base eW 1 f fd fP (gn K 1 cJ):=
 (aG F mr λ_ _ _ _ _ _ hr _=>by walk_at "v";with_reducible exact(aJ (b6 (kl.ob (dD (af aH (af (kl.ob (sm (by unfold Gl;ac_nf) B.xy tE (by ac_rfl) (ae ay))) (by ac_rfl))) (ae (ae (ae ay))))))))
theorem oM(F:gj K "_law_load" "_law_load" gv f fd)(B:Bs P w K mg):bx P w K mg base eW 1 f fd gE (gn K 1 eF):=
 (aG F fF λ_ _ _ _ _ _ hr _=>by walk_at "v";with_reducible exact(aa (by ac_rfl)
   (aa (by ac_rfl)
   (aa (fB (by ac_rfl) (kP hr.units (sv 0) aH))
   (aa (by ac_rfl)
   (aa (by ac_rfl)
   (aJ (gc (SW.st (u9 (by ac_rfl) (rZ (qM Af (by ac_rfl) (aR wk aH aH) (oO _))))) (aJ (fB (by ac_rfl) (kP hr.units (sv 0) aH))) (aa (sset 4 fF.nd (aR oG (aR eh (aR a8 (aR a8 (by ac_rfl) (aR eh (aR eh aH (sv 2)) (sv 2))) aH) aH) aH))
   (aa (sset 4 fF.nd (aR oG (aR eh (sv 4) (sv 4)) aH))
   (aJ (fB (aR a8 (aR oG (aR a8 (aR a8 (aR eh (sv 4) aH) (sv 2)) aH) aH) (aR wk aH aH)) (kP hr.units (sv 0) aH)))))))))))))
theorem oK(F:gj K "_law_next" "_law_next" gu f fd)(B:Bs P w K mg)(d9:j1 P w K mg base):bx P w K mg base eW 2 f fd gD (gn K 2 aF):=
 (aG F ow λ_ _ _ _ _ _ hr _=>by walk_at "v";with_reducible exact(aa (by ac_rfl)
   (aa (by ac_rfl)
   (aa (fB (aR BX (by ac_rfl) (sv 1)) (kP hr.units (sv 0) aH))
   (by ac_rfl)))))
theorem q9(F:gj K "_law_of" "_law_of" jt f fd)(B:Bs P w K mg)(d10:cv P w K mg base):bx P w K mg base eW 3 f fd jA (gn K 2 bo):=
 (aG F qP λ_ _ _ _ _ _ hr _=>by walk_at "u")
theorem lg(F:gj K "_law_called" "_law_called" eO f fd)(B:Bs P w K mg)(d11:dB P w K mg base)(d10:cv P w K mg base):bx P w K mg base eW 4 f fd eU (gn K 2 bO):=
 c6 (aG F cx λ_ _ _ _ _ _ hr _=>by walk_at "v";with_reducible exact(aa (sset 2 cx.nd (iT 9 (by ac_nf)))
   (aa (by ac_rfl)
   (aa (cL IV rfl (cM (by unfold Gl;ac_nf) B.f7 (by ac_rfl) (hl:=(ae ay))) (by ac_rfl) (aa (sset 5 cx.nd (oq d11 hr (af (sv 0) (af (aR a8 (sv 2) (aR qZ (kl.lv (dD (af (aR eh (by ac_rfl) (by ac_rfl)) aC) (ae ay))) aH)) aC))))
   (aa (gc (by ac_rfl) (aJ (sset 5 cx.nd (aR eh (by ac_rfl) (by ac_rfl)))) dC)
   (by ac_rfl))))
   (by ac_rfl)))))
theorem k7(F:gj K "_law_figure" "_law_figure" eN f fd)(B:Bs P w K mg)(d11:dB P w K mg base)(d10:cv P w K mg base):bx P w K mg base eW 4 f fd eR (gn K 2 aL):=
 (aG F kR λ_ _ _ _ _ _ hr _=>by walk_at "u")
theorem mG(F:gj K "_law_locks" "_law_locks" fH f fd)(B:Bs P w K mg)(d13:eV P w K mg base)(d11:dB P w K mg base):bx P w K mg base eW 5 f fd fN (gn K 4 dq):=
 c6 (aG F ia λ_ _ _ _ _ _ hr _=>by walk_at "v";with_reducible exact(aa (sset 4 ia.nd AX)
   (aa (cL IV rfl (cM (by unfold Gl;ac_nf) B.f7 (by ac_rfl) (hl:=(ae ay))) (by ac_rfl) (aJ (fB vA (x9 hr (sv 4) (by ac_rfl)))))
   (aJ (b6 (Dv (zB rfl) B.pF lV (by ac_rfl)))))))
theorem sG{f1:Addr}{fd1:FuncData}(F1:gj K "_law_written_row" "_law_written_row" cg f1 fd1)(kf1:PySem.W.keepIn K (.ref f1)=true)(bf1:Binds K fd1 aT [])(mf1:mg "_law_written_row"=some (.ref f1)){f2:Addr}{fd2:FuncData}(F2:gj K "_law_written_lot" "_law_written_lot" cj f2 fd2)(kf2:PySem.W.keepIn K (.ref f2)=true)(bf2:Binds K fd2 aU [])(mf2:mg "_law_written_lot"=some (.ref f2))(B:Bs P w K mg)(d11:dB P w K mg base)(d10:cv P w K mg base)(d13:eV P w K mg base)(d14:ji P w K mg base):∀n,bx P w K mg base eW (6+n) f1 fd1 aT (gn K 4 (aV n))/\bx P w K mg base eW (6+n) f2 fd2 aU (gn K 4 (aB n))
 | 0=>⟨ku,ku⟩
 | n+1=>by
  obtain⟨i1,i2⟩:=sG F1 kf1 bf1 mf1 F2 kf2 bf2 mf2 B d11 d10 d13 d14 n;have d15:Df P w K mg base "_law_written_row" (6+n) aT 4 (aV n):=⟨f1,fd1,i1,kf1,bf1,mf1⟩;have d16:Df P w K mg base "_law_written_lot" (6+n) aU 4 (aB n):=⟨f2,fd2,i2,kf2,bf2,mf2⟩;refine⟨?_,?_⟩
  ·exact(aG F1 aO λ_ _ _ _ _ _ hr _=>by walk_at "v";with_reducible exact(aa (sset 4 aO.nd (oq d11 hr (af (sv 0) (af (iT 9 (by ac_nf)) aC)) (Ie (by decide) (IK _ _))))
   (aa (gc (by ac_rfl) (aa (sset 5 aO.nd (oq d10 hr (by ac_rfl) (Ie (by decide) (IK _ _))))
   (aa (og (i:=6) aO.nd (by ac_nf) (by ac_nf) (N':=["_law_k","_law_params","_law_state"]) (caps:=[none,some 2,some 0]) (cu (by ac_nf)) rfl (cM (by unfold Gl;ac_nf) B.f7 (by ac_rfl) (hl:=(ae ay))) (λ_ _ _ _ _=>(sgn 0 (by show(["_law_k","_law_params","_law_state"]:List Str).Nodup;decide+kernel))) (λ_ _ _ _ _=>ef) (λ_ _ _ _ _=>(oq d13 hr (by ac_rfl) (Ie (by decide) (IK _ _)))))
   (by ac_rfl))) dC)
   (aa (gc (by ac_rfl) (aJ (b6 (dc (af aS (af (oq d11 hr (af (sv 0) (af (aR a8 (by ac_rfl) (kl.lv (sm (by unfold Gl;ac_nf) B.xy tE (by ac_rfl) (ae ay)))) aC)) (Ie (by decide) (IK _ _))) aC)) (ae (ae ay))))) dC)
   (aa (og (i:=7) aO.nd (by ac_nf) (by ac_nf) (N':=["_law_k","_law_deep","_law_params","_law_state","_law_world"]) (caps:=[none,some 3,some 2,some 0,some 1]) (cu (by ac_nf)) rfl (cM (by unfold Gl;ac_nf) B.f7 (by ac_rfl) (hl:=(ae ay))) (λ_ _ _ _ _=>(sgn 0 (by show(["_law_k","_law_deep","_law_params","_law_state","_law_world"]:List Str).Nodup;decide+kernel))) (λ_ _ _ _ _=>ef) (λ_ _ _ _ _=>(oq d16 hr (by ac_rfl) (HN _))))
   (aa (sset 8 aO.nd (oq d14 hr (af (sv 0) (af (sv 1) (af (sv 2) (af (aR a8 aH (oq d10 hr (by ac_rfl) (Ie (by decide) (IK _ _)))) aC)))) (Ie (by decide) (IK _ _))))
   (aa (by ac_rfl)
   (aa (by ac_rfl)
   (aa (by ac_rfl)
   (aa (gc (by ac_rfl) (aJ (b6 (aR a8 (dc (af aS (af (oq d13 hr (by ac_rfl) (Ie (by decide) (IK _ _))) (af (oq d13 hr (by ac_rfl) (Ie (by decide) (IK _ _))) aC))) (ae (ae (ae ay)))) (by ac_rfl)))) dC)
   (by ac_rfl)))))))))))
  ·exact c6 (aG F2 g9 λ_ _ _ _ _ _ hr _=>by walk_at "v";with_reducible exact(aa (by ac_rfl)
   (aa (cL IV rfl (cM (by unfold Gl;ac_nf) B.f7 (af (oq d10 hr (by ac_rfl) (Ie (by decide) (IK _ _))) aC) (hl:=(ae ay))) (by ac_rfl) (aJ (gc (by ac_rfl) (aa (fB (by ac_rfl) (kP hr.units (sv 1) aS))
   (aJ (dZ (fE (isT:=bW) fA I8 Jf Jr dy (sv 4) (af (oq d15 hr (by ac_rfl) (HN _)) aC))))) dC)))
   (by ac_rfl))))
theorem ke(F:gj K "_law_written" "_law_written" dG f fd)(B:Bs P w K mg)(d12:ij P w K mg base)(d10:cv P w K mg base)(d11:dB P w K mg base)(d16:dW P w K mg base):bx P w K mg base eW 27 f fd dN (gn K 1 cH):=
 c6 (aG F cc λ_ _ _ _ _ _ hr _=>by walk_at "v";with_reducible exact(aa (sset 1 cc.nd (Dv qr B.pF lV (af (A8 xk B.xx uH (by ac_rfl)) aC)))
   (aa (by ac_rfl)
   (aa (og (i:=3) cc.nd (by ac_nf) (by ac_nf) (N':=["_law_deed","_law_state"]) (caps:=[none,some 0]) (cu (by ac_nf)) rfl (jq (sv 2)) (λ_ _ _ _ _=>(sgn 0 (by show(["_law_deed","_law_state"]:List Str).Nodup;decide+kernel))) (λ_ _ _ _ _=>ef) (λ_ _ _ _ _=>(by ac_rfl)))
   (aa (sset 4 cc.nd (vw (di aS (sv 1) (di aS (sv 2) (di aS (sv 3) (di aS (oq d11 hr (af (sv 0) (af (iT 9 (by ac_nf)) aC))) vf)))) (by ac_nf) (by ac_nf) (by simp) λtrs h=>sF h (by ac_nf) (by ac_nf) (by simp) (by decide)))
   (aa (by ac_rfl)
   (aa (cL IV rfl (AR (by unfold Gl;ac_nf) B.Fd (by ac_rfl) (ae (ae ay))) (by ac_rfl) (by ac_rfl))
   (by ac_rfl))))))))
theorem k6(F:gj K "show_number" "show_number" eI f fd)(B:Bs P w K mg):bx P w K mg base eW 1 f fd eQ (gn K 1 bD):=
 c6 (aG F kQ λ_ _ _ _ _ _ hr _=>by walk_at "v";with_reducible exact(aa (by ac_rfl)
   (aa (by ac_rfl)
   (aa (ve (n:=1000000) IV (by ac_rfl) (aa (fB (A8 uB B.xA uI (by ac_rfl)) (by ac_rfl))
   (aJ (dZ (fE (isT:=bW) fA I8 Jf Jr dy (sv 2) (af (six hr (AY B.uL (by unfold Gl;ac_nf)) (sv 3)) aC))))))
   (aa (by ac_rfl)
   (aJ (b6 (fE (isT:=isStr) ty_str IF II IH cX aS (af (ye (sv 2) (by ac_rfl)) aC)))))))))
theorem oI(F:gj K "show_term" "show_term" gp f fd)(B:Bs P w K mg)(d0:ig P w K mg base):bx P w K mg base eW 2 f fd gB (gn K 1 bC):=
 (aG F ot λ_ _ _ _ _ _ hr _=>by walk_at "u")
theorem p4(F:gj K "locks_of" "locks_of" iq f fd)(B:Bs P w K mg):bx P w K mg base eW 1 f fd iC (gn K 1 dX):=
 (aG F pR λ_ _ _ _ _ _ hr _=>by walk_at "u")
theorem oJ(F:gj K "show_lock" "show_lock" gr f fd)(B:Bs P w K mg)(d3:gM P w K mg base):bx P w K mg base eW 3 f fd gC (gn K 1 c8):=
 (aG F ou λ_ _ _ _ _ _ hr _=>by walk_at "v";with_reducible exact(aa (by ac_rfl)
   (aJ (b6 (yg (om (vv (sv 1)) (om aS (om (vv (by ac_rfl)) AQ))))))))
theorem kc(F:gj K "words_behind" "words_behind" dE f fd)(B:Bs P w K mg)(d3:gM P w K mg base)(d2:lW P w K mg base)(d4:j0 P w K mg base):bx P w K mg base eW 4 f fd dH (gn K 1 bY):=
 (aG F j6 λ_ _ _ _ _ _ hr _=>by walk_at "v";with_reducible exact(aa (by ac_rfl)
   (aa (gc (by ac_rfl) (aJ (b6 (aR a8 (by ac_rfl) (iU (N':=["term"]) (caps:=[none]) (cu (by ac_nf)) rfl (by ac_rfl) (λ_ _ _ _ _=>(sgn 0 (by show(["term"]:List Str).Nodup;decide+kernel))) (λ_ _ _ _ _=>ef) (λ_ _ _ _ _=>(by ac_rfl)))))) dC)
   (aa (by ac_rfl)
   (aJ (b6 (iU (N':=["lock"]) (caps:=[none]) (cu (by ac_nf)) rfl (by ac_rfl) (λ_ _ _ _ _=>(sgn 0 (by show(["lock"]:List Str).Nodup;decide+kernel))) (λ_ _ _ _ _=>ef) (λ_ _ _ _ _=>(by ac_rfl)))))))))
theorem q5(F:gj K "lots_of" "lots_of" jr f fd)(B:Bs P w K mg):bx P w K mg base eW 1 f fd jz (gn K 1 fw):=
 (aG F qO λ_ _ _ _ _ _ hr _=>by walk_at "v";with_reducible exact(aJ (b6 (vq (sv 0) (si (six hr (AU B.xD (by ac_rfl)) aH)) sj))))
theorem jP(F:gj K "lines_of" "lines_of" ir f fd)(B:Bs P w K mg)(kf:PySem.W.keepIn K (.ref f)=true)(bf:Binds K fd dM [])(mf:mg "lines_of"=some (.ref f))(d5:gL P w K mg base)(d1:nY P w K mg base):∀n,bx P w K mg base eW (5+n) f fd dM (gn K 1 (cn n))
 | 0=>ku
 | n+1=>by
  have d6:Df P w K mg base "lines_of" (5+n) dM 1 (cn n):=⟨f,fd,jP F B kf bf mf d5 d1 n,kf,bf,mf⟩;exact c6 (aG F jK λ_ _ _ _ _ _ hr _=>by walk_at "v";with_reducible exact(aa (by ac_rfl)
   (aa (cL IV rfl (jq (sv 0)) (by ac_rfl) (aa (dZ (fE (isT:=bW) fA I8 Jf Jr dy (sv 1) (af (fE (isT:=isStr) ty_str IF II IH cX aS (af (aR a8 (by ac_rfl) (oq d5 hr (by ac_rfl) (Ie (by decide) (IK _ _)))) aC)) aC)))
   (aa (sset 3 jK.nd (oq d1 hr (by ac_rfl) (Ie (by decide) (IK _ _))))
   (aJ (cL IV rfl (vi (kk:=1) (by decide) (by unfold Gl;ac_nf) B.jZ (by ac_rfl) (ae ay)) (by ac_rfl) (aa (dZ (fE (isT:=bW) fA I8 Kz Lm nA (sv 1) (af (oq d6 hr (by ac_rfl) (HN _)) aC)))
   (by ac_rfl)))))))
   (by ac_rfl))))
theorem kd(F:gj K "show_program" "show_program" dF f fd)(B:Bs P w K mg)(d6:lX P w K mg base):bx P w K mg base eW 14 f fd dJ (gn K 1 cG):=
 c6 (aG F gf λ_ _ _ _ _ _ hr _=>by walk_at "v";with_reducible exact(aa (by ac_rfl)
   (aa (sset 3 gf.nd (kl.ob (dD (af (fE (isT:=isStr) ty_str IF II IH cX aS (by ac_rfl)) aC) (ae ay))))
   (aa (cL IV rfl (jq (sv 2)) (by ac_rfl) (aa (dZ (fE (isT:=bW) fA I8 Jf Jr dy (sv 3) (af (fE (isT:=isStr) ty_str IF II IH cX aS (by ac_rfl)) aC)))
   (aa (dZ (fE (isT:=bW) fA I8 Kz Lm nA (sv 3) (by ac_rfl)))
   (by ac_rfl))))
   (aJ (b6 (fE (isT:=isStr) ty_str IF II IH cX aS (by ac_rfl))))))))
theorem mF(F:gj K "_law_texts" "_law_texts" fG f fd)(B:Bs P w K mg):bx P w K mg base eW 1 f fd fM (gn K 1 cI):=
 (aG F mn λ_ _ _ _ _ _ hr _=>by walk_at "v";with_reducible exact(aJ (b6 (iU (N':=["_law_number","_law_text"]) (caps:=[none,none]) (cu (by ac_nf)) rfl (jq (sv 0)) (λ_ _ _ _ _=>(vm rfl (kO (sgn 0 (by show(["_law_number","_law_text"]:List Str).Nodup;decide+kernel)) (kO (sgn 1 (by show(["_law_number","_law_text"]:List Str).Nodup;decide+kernel)) sk)))) (λ_ _ _ _ _=>ef) (λ_ _ _ _ _=>(sv 1))))))
theorem iY(F:gj K "_law_term_text" "_law_term_text" cN f fd)(B:Bs P w K mg):bx P w K mg base eW 1 f fd cR (gn K 1 aD):=
 (aG F iV λ_ _ _ _ _ _ hr _=>by walk_at "v";with_reducible exact(aa (by ac_rfl)
   (aa (gc (by ac_rfl) (aJ (b6 (AV (sv 1) (AW (Dv tj B.xw rP (by ac_rfl)))))) dC)
   (aJ (b6 (aR a8 (aR a8 (sv 1) (aR eh aS (by ac_rfl))) (Dv tj B.xw rP (by ac_rfl))))))))
theorem iZ(F:gj K "_law_lock_text" "_law_lock_text" cP f fd)(B:Bs P w K mg)(d18:cU P w K mg base):bx P w K mg base eW 2 f fd cS (gn K 1 aX):=
 (aG F iW λ_ _ _ _ _ _ hr _=>by walk_at "u")
theorem oN(F:gj K "_law_head" "_law_head" gw f fd)(B:Bs P w K mg)(d18:cU P w K mg base)(d19:fq P w K mg base):bx P w K mg base eW 3 f fd gF (gn K 1 eG):=
 (aG F ox λ_ _ _ _ _ _ hr _=>by walk_at "v";with_reducible exact(aa (by ac_rfl)
   (aa (gc (by ac_rfl) (aJ (b6 (fE (isT:=isStr) ty_str IF II IH cX aS (af (aR a8 (by ac_rfl) (iU (N':=["_law_term"]) (caps:=[none]) (cu (by ac_nf)) rfl (by ac_rfl) (λ_ _ _ _ _=>(sgn 0 (by show(["_law_term"]:List Str).Nodup;decide+kernel))) (λ_ _ _ _ _=>ef) (λ_ _ _ _ _=>(by ac_rfl)))) aC)))) dC)
   (aa (gc (by ac_rfl) (aJ (b6 (fE (isT:=isStr) ty_str IF II IH cX aS (af (aR a8 (by ac_rfl) (iU (N':=["_law_lock"]) (caps:=[none]) (cu (by ac_nf)) rfl (by ac_rfl) (λ_ _ _ _ _=>(sgn 0 (by show(["_law_lock"]:List Str).Nodup;decide+kernel))) (λ_ _ _ _ _=>ef) (λ_ _ _ _ _=>(by ac_rfl)))) aC)))) dC)
   (by ac_rfl)))))
theorem ej(F:gj K "_law_lot_lines" "_law_lot_lines" cO f fd)(B:Bs P w K mg)(kf:PySem.W.keepIn K (.ref f)=true)(bf:Binds K fd bG [])(mf:mg "_law_lot_lines"=some (.ref f))(d20:j2 P w K mg base):∀n,bx P w K mg base eW (4+n) f fd bG (gn K 2 (aW n))
 | 0=>ku
 | n+1=>by
  have d21:Df P w K mg base "_law_lot_lines" (4+n) bG 2 (aW n):=⟨f,fd,ej F B kf bf mf d20 n,kf,bf,mf⟩;exact(aG F aM λ_ _ _ _ _ _ hr _=>by walk_at "v";with_reducible exact(aa (D1 2 3 aM.nd (ae (ae ay)) rfl (by decide) (by with_unfolding_all exact(vR rfl aM.nd rfl rfl (by decide) rfl rfl (af (kl.ob (dD aC ay)) (af (sv 1) aC)) rfl)))
   (aa (cL IV rfl (jq (sv 0)) (by ac_rfl) (aa (by ac_rfl)
   (aa (dZ (fE (isT:=bW) fA I8 Jf Jr dy (sv 2) (af (dc (af (sv 5) (af (oq d20 hr (by ac_rfl) (Ie (by decide) (IK _ _))) aC)) (ae (ae ay))) aC)))
   (aa (by ac_rfl)
   (aa (sset 6 aM.nd (fE (isT:=wK) AE PySem.F.plainAttrs_dict Jz PySem.F.type_dict_get (Cm (EO hr)) (yh (di aS aH (di aS aH (di aS aH (di aS aH (di aS aH vf))))) (by ac_nf) (by ac_nf) (by simp) λtrs h=>sF h (by ac_nf) (by ac_nf) (by simp) (by decide)) (by ac_rfl)))
   (aa (by ac_rfl)
   (aa (cL IV rfl (x5 (by unfold Gl;ac_nf) B.jZ (by ac_rfl) (ae ay)) (by ac_rfl) (aa (sset 2 aM.nd (kl.ob (qN (sv 2) (aR qZ (by ac_rfl) (by ac_rfl)))))
   (aa (fB (oq d21 hr (by ac_rfl) (HN _)) (by ac_rfl))
   (aJ (sset 2 aM.nd (kl.ob (qN (sv 2) (sv 10))))))))
   (aJ (sset 2 aM.nd (kl.ob (qN (sv 2) (aR qZ (by ac_rfl) (by ac_rfl)))))))))))))
   (by ac_rfl))))
theorem mH(F:gj K "_law_lines" "_law_lines" fI f fd)(B:Bs P w K mg)(d21:fo P w K mg base):bx P w K mg base eW 13 f fd fO (gn K 1 du):=
 c6 (aG F cW λ_ _ _ _ _ _ hr _=>by walk_at "v";with_reducible exact(aa (D1 1 2 cW.nd (ae (ae ay)) rfl (by decide) (by with_unfolding_all exact(vR rfl cW.nd rfl rfl (by decide) rfl rfl (af (kl.lv (dD (af (dc (af (vp qF aH) (af (fE (isT:=isStr) ty_str IF II IH cX aS (af (aR a8 (dc (af aS aC) (ae ay)) (six hr (sv 0) aH)) aC)) aC)) (ae (ae ay))) aC) (ae ay))) (af aH aC)) rfl)))
   (aa (cL IV rfl (by ac_rfl) (by ac_rfl) (aa (by ac_rfl)
   (aJ (sset 1 cW.nd (aR a8 (aR a8 (aR a8 (sv 1) (kl.lv (dD (af (dc (af (by ac_rfl) (af (fE (isT:=isStr) ty_str IF II IH cX aS (by ac_rfl)) aC)) (ae (ae ay))) aC) (ae ay)))) (sv 6)) (by ac_rfl))))))
   (by ac_rfl))))
theorem Cg(F:gj K "law" "law" jL f fd)(B:Bs P w K mg)(d8:jk P w K mg base)(d17:gP P w K mg base)(d7:gO P w K mg base)(d23:jh P w K mg base)(d22:jj P w K mg base):bx P w K mg base eW 28 f fd Ae (gn K 1 tN):=
 (aG F A9 λ_ _ _ _ _ _ hr _=>by walk_at "v";with_reducible exact(aa (by ac_rfl)
   (aa (cL IV rfl (cM (by unfold Gl;ac_nf) B.f7 (by ac_rfl) (hl:=(ae ay))) (by ac_rfl) (aa (by ac_rfl)
   (aJ (cL IV rfl (cM (by unfold Gl;ac_nf) B.f7 (by ac_rfl) (hl:=(ae ay))) (by ac_rfl) (aa (by ac_rfl)
   (aJ (gc (SW.st (zX (vd (vc (A8 CP B.pG mQ (af (sv 5) (af (Hz B.xw rP) aC))))) (u7 (qM (wm hr.units) (sv 5) (fE (isT:=isStr) ty_str IF II IH cX aS (by ac_rfl)) (oO _))))) (by ac_rfl) dC)))))))
   (by ac_rfl))))
end
theorem gg:Hd.freeOk view (["SHAPES"]:List Str) ["abs","divmod","enumerate","int","isinstance","len","list","range","sorted","str","tuple","zip"]=true:=by decide+kernel
abbrev Rc(x:Str)(s:Stmt):Prop:=(recsOf view).find? (λe=>e.name==x)=some (Hd.ng x s)
theorem kY:Rc "_law_drawn" fJ:=by ac_nf
theorem mB:Rc "_law_load" gv:=by ac_nf
theorem my:Rc "_law_next" gu:=by ac_nf
theorem pT:Rc "_law_of" jt:=by ac_nf
theorem j9:Rc "_law_called" eO:=by ac_nf
theorem j8:Rc "_law_figure" eN:=by ac_nf
theorem kW:Rc "_law_locks" fH:=by ac_nf
theorem gy:Rc "_law_written_row" cg:=by ac_nf
theorem gz:Rc "_law_written_lot" cj:=by ac_nf
theorem jy:Rc "_law_written" dG:=by ac_nf
theorem j7:Rc "show_number" eI:=by ac_nf
theorem mw:Rc "show_term" gp:=by ac_nf
theorem oz:Rc "locks_of" iq:=by ac_nf
theorem mx:Rc "show_lock" gr:=by ac_nf
theorem jw:Rc "words_behind" dE:=by ac_nf
theorem pS:Rc "lots_of" jr:=by ac_nf
theorem oA:Rc "lines_of" ir:=by ac_nf
theorem jx:Rc "show_program" dF:=by ac_nf
theorem kU:Rc "_law_texts" fG:=by ac_nf
theorem iy:Rc "_law_term_text" cN:=by ac_nf
theorem iA:Rc "_law_lock_text" cP:=by ac_nf
theorem mC:Rc "_law_head" gw:=by ac_nf
theorem iz:Rc "_law_lot_lines" cO:=by ac_nf
theorem kX:Rc "_law_lines" fI:=by ac_nf
theorem yo:Rc "law" jL:=by ac_nf
theorem all_mk{l:PySem.W.OpenLaw}{w:World}{h:Heap}{mg mb:Str->Option Value}{mean:ExcName->Option Value}(T:Top view (PySem.W.looseW view (["SHAPES"]:List Str)) mean mg mb h)
  (Y_SHAPES:Hd.tabAt h "SHAPES"=some (gR.map λx=>(x.1,hashStr w x.1,x.2)))
  (hF:∀ns:List Int,ns.length<=63->∃h',tN [.ro (ns.map D.int)] []=some (.bl true,h')):
  ∃(fa:Addr)(fd:FuncData),mg "law"=some (.ref fa)/\(∀(s:Shared)(v:Value),BindsTo s fd ⟨[v],[]⟩ [("_law_script",v)])/\∀base:Heap,(Hd.bj h).In base->base.Ns mainGlobals mg->bx l.prog w (Hd.bj h) mg base eW 28 fa fd ["_law_script"] (spT (Hd.bj h)):=by
 have B:Bs l.prog w (Hd.bj h) mg:=⟨Hd.cf T gg (HM (i:=0) rfl),Hd.cf T gg (HM (i:=1) rfl),Hd.cf T gg (HM (i:=2) rfl),Hd.cf T gg (HM (i:=3) rfl),Hd.cf T gg (HM (i:=4) rfl),Hd.cf T gg (HM (i:=5) rfl),Hd.cf T gg (HM (i:=6) rfl),Hd.cf T gg (HM (i:=7) rfl),Hd.cf T gg (HM (i:=8) rfl),Hd.cf T gg (HM (i:=9) rfl),Hd.cf T gg (HM (i:=10) rfl),Hd.cf T gg (HM (i:=11) rfl),Hd.zC T (by ac_nf) (by decide+kernel),Hd.tab_of Y_SHAPES T.g (by decide+kernel)⟩;obtain⟨f8,fd8,m8,F8⟩:=Hd.sV T gy;have k8:=F8.kp;have b8:=F8.binds (ps:=aT) λ_ _ _ _ _ _=>Hd.u4 (λ_ _ _ _=>rfl);obtain⟨f9,fd9,m9,F9⟩:=Hd.sV T gz;have k9:=F9.kp;have b9:=F9.binds (ps:=aU) λ_ _ _ _ _ _=>Hd.u4 (λ_ _ _ _=>rfl);obtain⟨f25,fd25,m25,F25⟩:=Hd.sV T yo;refine⟨f25,fd25,m25,F25.one λ_ _ _ _ _ _ _=>rfl,λbase _ _=>?_⟩;have d8:jk l.prog w (Hd.bj h) mg base:=Hd.b5 T kY (λF=>F.binds λ_ _ _ _ _ _=>Hd.u1 (λ_=>rfl)) λF _ _ _=>mI F B;have d9:j1 l.prog w (Hd.bj h) mg base:=Hd.b5 T mB (λF=>F.binds λ_ _ _ _ _ _=>Hd.u1 (λ_=>rfl)) λF _ _ _=>oM F B;have d10:cv l.prog w (Hd.bj h) mg base:=Hd.b5 T my (λF=>F.binds λ_ _ _ _ _ _=>Hd.u2 (λ_ _=>rfl)) λF _ _ _=>oK F B d9;have d11:dB l.prog w (Hd.bj h) mg base:=Hd.b5 T pT (λF=>F.binds λ_ _ _ _ _ _=>Hd.u2 (λ_ _=>rfl)) λF _ _ _=>q9 F B d10;have d12:ij l.prog w (Hd.bj h) mg base:=Hd.b5 T j9 (λF=>F.binds λ_ _ _ _ _ _=>Hd.u2 (λ_ _=>rfl)) λF _ _ _=>lg F B d11 d10;have d13:eV l.prog w (Hd.bj h) mg base:=Hd.b5 T j8 (λF=>F.binds λ_ _ _ _ _ _=>Hd.u2 (λ_ _=>rfl)) λF _ _ _=>k7 F B d11 d10;have d14:ji l.prog w (Hd.bj h) mg base:=Hd.b5 T kW (λF=>F.binds λ_ _ _ _ _ _=>Hd.u4 (λ_ _ _ _=>rfl)) λF _ _ _=>mG F B d13 d11;have okr:=sG (P:=l.prog) (w:=w) (base:=base) F8 k8 b8 m8 F9 k9 b9 m9 B d11 d10 d13 d14 20;have d15:iK l.prog w (Hd.bj h) mg base:=⟨f8,_,okr.1,k8,b8,m8⟩;have d16:dW l.prog w (Hd.bj h) mg base:=⟨f9,_,okr.2,k9,b9,m9⟩;have d17:gP l.prog w (Hd.bj h) mg base:=Hd.b5 T jy (λF=>F.binds λ_ _ _ _ _ _=>Hd.u1 (λ_=>rfl)) λF _ _ _=>ke F B d12 d10 d11 d16;have d0:ig l.prog w (Hd.bj h) mg base:=Hd.b5 T j7 (λF=>F.binds λ_ _ _ _ _ _=>Hd.u1 (λ_=>rfl)) λF _ _ _=>k6 F B;have d3:gM l.prog w (Hd.bj h) mg base:=Hd.b5 T mw (λF=>F.binds λ_ _ _ _ _ _=>Hd.u1 (λ_=>rfl)) λF _ _ _=>oI F B d0;have d2:lW l.prog w (Hd.bj h) mg base:=Hd.b5 T oz (λF=>F.binds λ_ _ _ _ _ _=>Hd.u1 (λ_=>rfl)) λF _ _ _=>p4 F B;have d4:j0 l.prog w (Hd.bj h) mg base:=Hd.b5 T mx (λF=>F.binds λ_ _ _ _ _ _=>Hd.u1 (λ_=>rfl)) λF _ _ _=>oJ F B d3;have d5:gL l.prog w (Hd.bj h) mg base:=Hd.b5 T jw (λF=>F.binds λ_ _ _ _ _ _=>Hd.u1 (λ_=>rfl)) λF _ _ _=>kc F B d3 d2 d4;have d1:nY l.prog w (Hd.bj h) mg base:=Hd.b5 T pS (λF=>F.binds λ_ _ _ _ _ _=>Hd.u1 (λ_=>rfl)) λF _ _ _=>q5 F B;have d6:lX l.prog w (Hd.bj h) mg base:=Hd.b5 T oA (λF=>F.binds λ_ _ _ _ _ _=>Hd.u1 (λ_=>rfl)) λF k b m=>jP F B k b m d5 d1 8;have d7:gO l.prog w (Hd.bj h) mg base:=Hd.b5 T jx (λF=>F.binds λ_ _ _ _ _ _=>Hd.u1 (λ_=>rfl)) λF _ _ _=>kd F B d6;have d23:jh l.prog w (Hd.bj h) mg base:=Hd.b5 T kU (λF=>F.binds λ_ _ _ _ _ _=>Hd.u1 (λ_=>rfl)) λF _ _ _=>mF F B;have d18:cU l.prog w (Hd.bj h) mg base:=Hd.b5 T iy (λF=>F.binds λ_ _ _ _ _ _=>Hd.u1 (λ_=>rfl)) λF _ _ _=>iY F B;have d19:fq l.prog w (Hd.bj h) mg base:=Hd.b5 T iA (λF=>F.binds λ_ _ _ _ _ _=>Hd.u1 (λ_=>rfl)) λF _ _ _=>iZ F B d18;have d20:j2 l.prog w (Hd.bj h) mg base:=Hd.b5 T mC (λF=>F.binds λ_ _ _ _ _ _=>Hd.u1 (λ_=>rfl)) λF _ _ _=>oN F B d18 d19;have d21:fo l.prog w (Hd.bj h) mg base:=Hd.b5 T iz (λF=>F.binds λ_ _ _ _ _ _=>Hd.u2 (λ_ _=>rfl)) λF k b m=>ej F B k b m d20 8;have d22:jj l.prog w (Hd.bj h) mg base:=Hd.b5 T kX (λF=>F.binds λ_ _ _ _ _ _=>Hd.u1 (λ_=>rfl)) λF _ _ _=>mH F B d21;exact zg (Cg F25 B d8 d17 d7 d23 d22) hF
end Mi
local macro_rules | `(tactic| walk_at $s:str) => let k := s.getString.front;let a := "|Sm.E4|Sm.Fb|Sm.C8|Sm.E6|Sm.E5|Sm.GU|Sm.GS|Sm.GW|Sm.GV|Sm.c_f3|Sm.HD|Sm.HE|Sm.E9|Sm.E8|Sm.CZ|Sm.C0|Sm.iX|Sm.il|Sm.pU|Sm.vM|Sm.vK|Sm.jN|Sm.z9|Sm.kZ|Sm.Ec|Sm.r_sbrk|Sm.r_scont|Sm.pV|Sm.Gj|Sm.Ee|Sm.Bq|Sm.gA|Sm.pW|Sm.Gm|Sm.mE|Sm.Gk|Sm.r_dv|Sm.r_do|Sm.Bt|Sm.Bi|Sm.Bj|Sm.Bk|Sm.D9|Sm.r_and|Sm.r_or|Sm.r_not|Sm.r_sl|Sm.Ea|Sm.Eb|Sm.t4|Sm.Bo|Sm.fb|Sm.oE|Sm.Eh|Sm.vL|Sm.yC|Sm.GA|Sm.DM|Sm.t_bk|Sm.t_ct|Sm.GF|Sm.l_ct|Sm.l_bk|Sm.l_rt|Sm.Bh|Sm.r_gtA";if k != 'o' && k != 'g' && k != 'r' then Lean.Macro.throwUnsupported else do {let t <- (((if k == 'r' then a ++ "|Sm.DE|Sm.DF|Sm.w_add|Sm.w_sub|Sm.w_lt|Sm.w_le|Sm.FW|Sm.w_ge|Sm.DL|Sm.w_neI|Sm.DK|Sm.DG|Sm.DJ|Sm.DI|Sm.DH|Sm.Ay|Sm.Az|Sm.Br" else a).splitOn "|").drop 1).toArray.mapM (λn => `(Lean.Parser.Tactic.tacticSeq| refine $(Lean.mkIdent n.toName) ?_));if k == 'o' then `(tactic| with_reducible first $[| $t]*) else `(tactic|((repeat with_reducible first $[| $t]*);(try dsimp only)))}
namespace Mi
open PySem Sm
theorem ju(hb:0 < b)(q:Q (.int (a % b),h)):Rn (mN (.int a) (.int b) h) Q:=⟨_,by unfold mN;dsimp only;rw[HQ hb],q⟩
theorem Bd(hb:0 < b)(hb2:b<=10^40)(q:Q (.int (a / b),h)):Rn (wZ (.int a) (.int b) h) Q:=⟨_,by unfold wZ;dsimp only;rw[HQ ⟨hb,hb2⟩],q⟩
theorem kT(hb:i0 a b=true)(q:Q (.int (a*b),h)):Rn (fh (.int a) (.int b) h) Q:=⟨_,by show(if i0 a b then _ else _)=_;rw[HQ hb],q⟩
theorem mul_r(h1:-(2^64) < b)(h2:b < 2^64):i0 a b=true:=by unfold i0;simp only[Jx,Ii,JA];exact .inr ⟨h1,h2⟩
theorem Ah(h1:-(2^64) < a)(h2:a < 2^64):i0 a b=true:=by unfold i0;simp only[Jx,Ii,JA];exact .inl ⟨h1,h2⟩
theorem ud{h:MH}{s c:Nat}{cs:List Int}{n t:Int}(hs:h[s]?=some (.lst [.int n,.ob c,.int t]))(hc:h[c]?=some (.lst (cs.map D.int)))(ne:c≠s)(t0:0<=t)(tB:t < 2^60):
  Rn (eF [.ob s] h) λp=>∃n',0<=n'/\p=(.ck,h.set s (.lst [.int n',.ob c,.int (t+1)])):=by
 have hl:s < h.length:=(HJ.mp hs).1;generalize hH:h.set s (.lst [.int n,.ob c,.int (t+1)])=H;have Hs:H[s]?=some (.lst [.int n,.ob c,.int (t+1)]):=by rw[<-hH];exact IT hl
 have Hc:H[c]?=some (.lst (cs.map D.int)):=by rw[<-hH,IS (Jl ne)];exact hc
 have set0:∀v:Int,mM (.ob s) (.int 0) (.int v) H=some (h.set s (.lst [.int v,.ob c,.int (t+1)])):=λv=>by
  rw[oY (p:=0) Hs rfl,<-hH,List.set_set];rfl
 have e3:mM (.ob s) (.int 2) (.int (t+1)) h=some H:=by rw[oY (p:=2) hs rfl,<-hH];rfl
 have e4:gJ [.ob c] H=some (.int cs.length,H):=by rw[zt Hc,HH]
 refine bF ?_;walk_at "g";refine rv (jD hs rfl) ?_;walk_at "g";refine rv (jD hs rfl) ?_;walk_at "g";refine rv rfl ?_;walk_at "g";refine rv e3 ?_;walk_at "g";refine rv (uq Hc) ⟨_,rfl,λhne=>?pos,λhne=>?neg⟩
 case' pos=>
  have hpos:0 < cs.length:=by cases cs with | nil=>simp at hne | cons _ _=>simp
  walk_at "g";refine rv e4 (ju (by lia) ?_);obtain⟨z,hz⟩:=xB cs (t % (cs.length:Int)) (Ky _ (by lia)) (KU _ (by lia));refine rv (jD Hc hz) ?_
 all_goals
  walk_at "g";refine rv e4 (rv rfl ⟨_,rfl,?_⟩);refine(λmix=>⟨λc1=>?thenA,λ_=>⟨λz=>(nomatch z),λ_=>mix⟩⟩) ?thenB
  case thenA=>
   walk_at "g";refine rv rfl ?_;walk_at "g";refine rv rfl (rv rfl ⟨_,rfl,λc2=>?_,λ_=>mix⟩);walk_at "g";refine rv rfl ?_;walk_at "g";refine rv (set0 _) ?_;walk_at "g";exact⟨_,by split <;> lia,rfl⟩
  case thenB=>
   walk_at "g";refine ju (by decide) ?_;walk_at "g";refine kT (Ah (by decide) (by decide)) ?_;walk_at "g";refine kT (mul_r (by lia) (by lia)) (rv rfl ?_);walk_at "g";refine rv rfl ?_;walk_at "g";refine kT (mul_r (by decide) (by decide)) ?_;walk_at "g";refine ju (by decide) ?_;walk_at "g";refine kT (Ah (Int.lt_of_lt_of_le (by decide) (Ky _ (by decide))) (Int.lt_trans (KU _ (by decide)) (by decide))) ?_;walk_at "g";refine ju (by decide) ?_;walk_at "g";refine kT (mul_r (by decide) (by decide)) ?_;walk_at "g";refine rv rfl ?_;walk_at "g";refine rv rfl ?_;walk_at "g";refine ju (by decide) ?_;walk_at "g";refine rv rfl (rv rfl ?_);walk_at "g";refine rv (set0 _) ?_;walk_at "g";exact⟨_,Int.add_nonneg (Ky _ (by decide)) (by decide),rfl⟩
structure St(s c:Nat)(cs:List Int)(R:Nat)(h:MH):Prop where
 st:∃n t:Int,h[s]?=some (.lst [.int n,.ob c,.int t])/\0<=n/\0<=t/\t+R<=2^60
 ce:h[c]?=some (.lst (cs.map D.int))
 ne:c≠s
def mS(s:Nat)(h h':MH):Prop:=h'.length=h.length/\∀k,k≠s->h'[k]?=h[k]?
theorem mS.refl(s:Nat)(h:MH):mS s h h:=⟨rfl,λ_ _=>rfl⟩
theorem mS.trans(a:mS s h h1)(b:mS s h1 h2):mS s h h2:=⟨b.1.trans a.1,λk n=>(b.2 k n).trans (a.2 k n)⟩
theorem mS.set:mS s h (h.set s o):=⟨Jn,λk n=>IS (Jl n)⟩
section
variable {s c R:Nat} {cs:List Int} {h:MH}
theorem St.le(S:St s c cs R h)(hB:R'<=R):St s c cs R' h:=by
 obtain⟨n,t,e,a,b,d⟩:=S.st;exact⟨⟨n,t,e,a,b,by lia⟩,S.ce,S.ne⟩
theorem St.dn(k:Nat)(S:St s c cs (R+k) h):St s c cs R h:=S.le (IK _ _)
theorem St.set{R':Nat}{n t:Int}(S:St s c cs R h)(h1:0<=n)(h2:0<=t)(h3:t+R'<=2^60):St s c cs R' (h.set s (.lst [.int n,.ob c,.int t])):=by
 obtain⟨n0,t0,e,_⟩:=S.st;exact⟨⟨n,t,IT (HJ.mp e).1,h1,h2,h3⟩,by rw[IS (Jl S.ne)];exact S.ce,S.ne⟩
theorem St.more(S:St s c cs R h)(g:MH):St s c cs R (h++g):=by
 obtain⟨n,t,e,r⟩:=S.st;exact⟨⟨n,t,by rw[HU (HJ.mp e).1];exact e,r⟩,by rw[HU (HJ.mp S.ce).1];exact S.ce,S.ne⟩
theorem St.off(S:St s c cs R h)(h1:k≠s)(h2:k≠c):St s c cs R (h.set k o):=by
 obtain⟨n,t,e,r⟩:=S.st;exact⟨⟨n,t,by rw[IS h1];exact e,r⟩,by rw[IS h2];exact S.ce,S.ne⟩
theorem St.lt(S:St s c cs R h):s < h.length/\c < h.length:=by
 obtain⟨n,t,e,r⟩:=S.st;exact⟨(HJ.mp e).1,(HJ.mp S.ce).1⟩
structure Sb(s c:Nat)(cs:List Int)(h0:MH)(R:Nat)(h:MH):Prop where
 S:St s c cs R h
 b:mS s h0 h
theorem St.sb(S:St s c cs R h):Sb s c cs h R h:=⟨S,mS.refl _ _⟩
theorem Sb.le(A:Sb s c cs h0 R h)(hR:R'<=R):Sb s c cs h0 R' h:=⟨A.S.le hR,A.b⟩
variable {h0:MH}
theorem dS{m:Int}{Q:D×MH->Prop}(A:Sb s c cs h0 (R+1) h)(m0:0 < m)(m1:m<=10^40)(k:∀(r:Int)(h1:MH),0<=r->r < m->Sb s c cs h0 R h1->Q (.int r,h1)):Rn (aF [.ob s,.int m] h) Q:=by
 have S:=A.S;obtain⟨n,t,hs,n0,t0,tB⟩:=S.st;refine bF ?_;walk_at "g";refine rv (jD hs rfl) ?_;walk_at "g";refine rv rfl ⟨_,rfl,λ_=>?pos,λ_=>?neg⟩
 case' pos=>
  walk_at "g";obtain⟨p,ep,n',n0',rfl⟩:=ud hs S.ce S.ne t0 (by lia);refine rv ep ?_;have S1:St s c cs R (h.set s (.lst [.int n',.ob c,.int (t+1)])):=S.set n0' (by lia) (by lia);have b1:mS s h (h.set s (.lst [.int n',.ob c,.int (t+1)])):=mS.set
 case' neg=>
  have S1:St s c cs R h:=S.dn 1;have b1:mS s h h:=mS.refl s h
 all_goals
  generalize h.set s (MO.lst [D.int _,D.ob c,D.int (t+1)])=h1 at*;obtain⟨n2,t2,hs2,n02,t02,tB2⟩:=S1.st;walk_at "g";refine rv (jD hs2 rfl) ?_;walk_at "g";refine ju m0 ?_;walk_at "g";refine rv (jD hs2 rfl) ?_;walk_at "g";refine Bd m0 m1 ?_;walk_at "g";refine rv (oY (p:=0) hs2 rfl) ?_;walk_at "g";exact k _ _ (Ky _ (by lia)) (KU _ m0) ⟨S1.set (Int.ediv_nonneg n02 (by lia)) t02 tB2,A.b.trans (b1.trans mS.set)⟩
theorem uG(A:Sb s c cs h0 (R+1) h)(hd:d=.lv xs\/d=.tup xs)(l0:0 < xs.length)(l1:xs.length<=1000000)(k:∀(x:D)(h1:MH),x∈xs->Sb s c cs h0 R h1->Q (x,h1)):Rn (bo [.ob s,d] h) Q:=by
 refine bF ?_;walk_at "g";have e1:gJ [d] h=some (.int xs.length,h):=by rcases hd with rfl | rfl <;> rfl
 refine rv e1 ?_;walk_at "g";refine dS A (by lia) (by lia) λr h' r0 r1 A1=>?_;obtain⟨v,e3,hv⟩:=Dh r0 r1;have e4:bt d (.int r) h'=some (v,h'):=by rcases hd with rfl | rfl <;> simp only[bt,de,bM,Jc,e3,JL]
 refine rv e4 ?_;walk_at "g";exact k v h' hv A1
theorem An{is:List Int}{Q:D×MH->Prop}(P:Int->Prop)(hP:∀i∈is,P i)(A:Sb s c cs h0 (R+1) h)(k:∀(i:Int)(h1:MH),P i->i∈is->Sb s c cs h0 R h1->Q (.int i,h1))(l0:0 < is.length:=by simp)(l1:is.length<=1000:=by simp):Rn (bo [.ob s,.lv (is.map D.int)] h) Q:=
 uG A (.inl rfl) (by rw[HH];exact l0) (by rw[HH];lia) λx h1 hx A1=>by
  obtain⟨i,hi,rfl⟩:=Ja.mp hx;exact k i h1 (hP i hi) hi A1
end
theorem rG(ns:List Int)(hn:ns.length<=63)(R:Nat)(hR:R<=2^60):∃cs:List Int,cJ [.ro (ns.map D.int)] []=some (.ob 1,[.lst (cs.map D.int),.lst [.int 0,.ob 0,.int 0]])/\St 1 0 cs R [.lst (cs.map D.int),.lst [.int 0,.ob 0,.int 0]]:=by
 refine⟨(ns.drop (HT.bP ns.length 0 none)).take (HT.bP ns.length ns.length (some 63)-HT.bP ns.length 0 none),?_,⟨⟨0,0,rfl,by decide,by decide,by lia⟩,rfl,by decide⟩⟩;have e:Rn (cJ [.ro (ns.map D.int)] []) λp=>p=(.ob 1,[.lst (((ns.drop (HT.bP ns.length 0 none)).take (HT.bP ns.length ns.length (some 63)-HT.bP ns.length 0 none)).map D.int),.lst [.int 0,.ob 0,.int 0]]):=by
  refine bF ?_;walk_at "g";refine vI ?_;walk_at "g";refine⟨_,rfl,rv rfl ?_⟩;walk_at "g";refine⟨_,_,_,rfl,rfl,?_⟩;walk_at "g";simp only[cutD,HH,List.map_drop,List.map_take,Jg,List.nil_append,Jk,HP]
 obtain⟨p,ep,rfl⟩:=e;exact ep
end Mi
namespace Mi
open PySem Sm L2
theorem a9(hl:a.length+b.length<=10000):ar (.str a) (.str b) h=some (.str (a++b),h):=by
 show(if a.length+b.length<=sizeLine then some (D.str (a++b),h) else none)=_;rw[HQ (by rw[show sizeLine=16777216 from rfl];lia)]
theorem mS.app{s:Nat}{hb h2:MH}{o:MO}(b:mS s (hb++[o]) h2)(hs:s < hb.length):∃hb',h2=hb'++[o]/\mS s hb hb':=by
 have hl:h2.length=hb.length+1:=by rw[b.1];simp
 refine⟨h2.take hb.length,?_,by rw[Ih];lia,λk hk=>?_⟩
 ·refine Kk λk=>?_
  by_cases z:k < hb.length
  ·rw[HU (by rw[Ih];lia),Iq z]
  ·by_cases z2:k=hb.length
   ·subst z2;rw[b.2 _ (by lia),Ik (HN _),Ik (by rw[Ih];lia),Ih];rw[show min hb.length h2.length=hb.length by lia]
   ·rw[Ip (by lia),Ip (by rw[HL,Ih];simp;lia)]
 ·by_cases z:k < hb.length
  ·rw[Iq z,b.2 k hk,HU z]
  ·rw[Ip (by rw[Ih];lia),Ip (by lia)]
theorem St.cut{s c:Nat}{cs:List Int}{B:Nat}{hb g:MH}(S:Mi.St s c cs B (hb++g))(h1:s < hb.length)(h2:c < hb.length):Mi.St s c cs B hb:=by
 obtain⟨n,t,e,r⟩:=S.st;have e2:=S.ce;rw[HU h1] at e;rw[HU h2] at e2;exact⟨⟨n,t,e,r⟩,e2,S.ne⟩
def Cl(h:MH):Prop:=∀o∈h,ph h.length o=true
theorem tD(n:Nat):∀js:List Int,dA n (js.map D.int)=true
 | []=>rfl
 | j::r=>by rw[HX];show(fY n (.int _)&&dA n _)=true;rw[tD n r];rfl
theorem Cl.but{s c:Nat}{cs:List Int}{B:Nat}{h h':MH}(C:Cl h)(S:Mi.St s c cs B h')(b:mS s h h'):Cl h':=by
 intro o ho;obtain⟨k,hk⟩:=LI.mp ho
 by_cases z:k=s
 ·subst z;obtain⟨n,t,e,_⟩:=S.st;rw[e] at hk;cases hk;show(true&&(decide (c < h'.length)&&(true&&true)))=true;rw[IE S.lt.2];rfl
 ·rw[b.2 k z] at hk;rw[b.1];exact C o (HM hk)
theorem lC{h hb g:MH}{d:D}(hl:hb.length=h.length)(C:Cl hb)(h1:∀n,d≠.ob n)(h2:fY h.length d=true):leave h d (hb++g)=some (d,hb):=by
 have h3:mh h.length (hb++g) d=d:=by
  cases d with
  | ob n=>exact absurd rfl (h1 n)
  | _=>rfl
 unfold leave;rw[h3,<-hl,Jv (HN _),I9,hl,h2];have:(hb.all (ph h.length))=true:=by
  rw[JH];intro o ho;rw[<-hl];exact C o ho
 rw[this,Bool.or_true];rfl
theorem GR{n:Nat}{o:MO}{h:MH}(e:h[n]?=some o):kj [(n,o)] h=true:=by
 unfold kj;rw[e];dsimp only;rw[nU];rfl
theorem Cl.add{h:MH}(C:Cl h){o:MO}(ho:ph (h.length+1) o=true)(up:∀o∈h,ph h.length o=true->ph (h.length+1) o=true):Cl (h++[o]):=by
 intro x hx;rw[HL,Jm];rcases Il.mp hx with z | z
 ·exact up x z (C x z)
 ·rw[Ia.mp z];exact ho
mutual
theorem xm{n m:Nat}(hm:n<=m):∀d:D,fY n d=true->fY m d=true
 | .ck,_=>rfl
 | .bl _,_=>rfl
 | .int _,_=>rfl
 | .str _,_=>rfl
 | .ty _,_=>rfl
 | .ob k,h=>by simp only[fY,JA] at h ⊢;lia
 | .tup xs,h=>by simp only[fY] at h ⊢;exact iJ hm xs h
 | .lv xs,h=>by simp only[fY] at h ⊢;exact iJ hm xs h
 | .ro xs,h=>by simp only[fY] at h ⊢;exact iJ hm xs h
 | .dv xs,h=>by simp only[fY] at h ⊢;exact rL hm xs h
theorem iJ{n m:Nat}(hm:n<=m):∀d:List D,dA n d=true->dA m d=true
 | [],_=>rfl
 | x::r,h=>by
  simp only[dA,Ii] at h ⊢;exact⟨xm hm x h.1,iJ hm r h.2⟩
theorem rL{n m:Nat}(hm:n<=m):∀d:List (Key×D),zG n d=true->zG m d=true
 | [],_=>rfl
 |(_,x)::r,h=>by
  simp only[zG,Ii] at h ⊢;exact⟨xm hm x h.1,rL hm r h.2⟩
end
theorem CV{n m:Nat}(hm:n<=m)(o:MO)(h:ph n o=true):ph m o=true:=by
 cases o with
 | lst xs=>exact iJ hm xs h
 | dct xs=>exact rL hm xs h
 | dcH xs=>have h:=Ig.mp h;exact Ig.mpr ⟨iJ hm _ h.1,iJ hm _ h.2⟩
theorem Cl.snoc{h:MH}(C:Cl h){o:MO}(ho:ph (h.length+1) o=true):Cl (h++[o]):=C.add ho λx _ z=>CV (Ki _) x z
theorem Cl.set{h:MH}(C:Cl h){n:Nat}{o:MO}(ho:ph h.length o=true):Cl (h.set n o):=by
 intro x hx;rw[Jn];rcases List.mem_or_eq_of_mem_set hx with z | z
 ·exact C x z
 ·rw[z];exact ho
theorem CW{n:Nat}:∀{xs:List D},(∀x∈xs,fY n x=true)->dA n xs=true
 | [],_=>rfl
 | x::r,h=>by
  show(fY n x&&dA n r)=true;rw[h x HY,CW λy hy=>h y (Ib _ hy)];rfl
end Mi
namespace Sm
open PySem L2
theorem cq{α:Type}{o:Option α}{a:α}(r:Rn o λp=>p=a):o=some a:=let⟨_,e,q⟩:=r;by rw[e,q]
theorem Aj(hl:xs.length+ys.length<=10000):ar (.tup xs) (.tup ys) h=some (.tup (xs++ys),h):=by
 cases xs with
 | nil=>rfl
 | cons x xs=>
  show(if xs.length+1+ys.length<=sizeLine then some (D.tup (x::xs++ys),h) else none)=_;rw[HQ (by rw[show sizeLine=16777216 from rfl];rw[HP] at hl;lia)]
theorem tt(a:A):(true=true->A)/\(true=false->B):=⟨λ_=>a,λz=>(nomatch z)⟩
theorem ff(b:B):(false=true->A)/\(false=false->B):=⟨λz=>(nomatch z),λ_=>b⟩
end Sm
namespace Mi
open PySem Sm L2 Pg
section
variable {h:MH} {wd:Nat} {fl:List Int} {left odd:Int}
end
section
variable {h h0:MH} {s c wd R:Nat} {cs:List Int} {fl:List Int} {left odd:Int} {Q:D×MH->Prop}
end
theorem wW{α:Type}{xs:List α}{f:α->D}{h:MH}{j:Nat}{x:α}(e:xs[j]?=some x):bt (.lv (xs.map f)) (.int j) h=some (f x,h):=by
 have hj:j < xs.length:=by
  rcases Nat.lt_or_ge j xs.length with z | z
  ·exact z
  ·rw[Ip z] at e;cases e
 show((gb (xs.map f) j).map λz=>(z,h))=_;have:gb (xs.map f) j=some (f x):=by
  unfold gb;rw[show qe (xs.map f).length j=some j by unfold qe;simp;lia];show(xs.map f)[j]?=_;rw[Io,e];rfl
 rw[this];rfl
section
variable {h h0:MH} {s c wd R:Nat} {cs:List Int} {fl:List Int} {left odd:Int} {Q:D×MH->Prop}
end
section
variable {h h0:MH} {s c wd R:Nat} {cs:List Int} {fl:List Int} {left odd:Int} {Q:D×MH->Prop}
end
theorem dR(n:Nat):∀js:List Str,dA n (js.map D.str)=true
 | []=>rfl
 | j::r=>by rw[HX];show(fY n (.str _)&&dA n _)=true;rw[dR n r];rfl
section
variable {E:En} {h0 h h1 h' g:MH} {R R' l l' k:Nat} {Q:D×MH->Prop}
variable {j d f:Nat} {ps:List Str} {top:Int} {held:List Lock}
end
theorem jO(r:Rn (b (entry len ds) h) (qR λp=>Rn (leave h p.1 p.2) Q)):Rn (xK len b ds h) Q:=by
 obtain⟨p,e,q⟩:=bF r;obtain⟨z,e2,k⟩:=q;refine⟨z,?_,k⟩;have e:((b (entry len ds) h).bind yn)=some p:=e;show((b (entry len ds) h).bind yn).bind _=_;rw[e];exact e2
theorem dm{isT:D->MH->Bool}{f:zR}{o:EM}{m:AM}{δ:DS}{h:MH}{Q:D×MH->Prop}(r:Rn (o δ h) λp=>isT p.1 p.2=true/\Rn (m δ p.2) λq=>Rn (f p.1 q.1 q.2) Q):Rn (eM isT f o m δ h) Q:=
 av (r.imp λp ⟨e,r⟩=>by rw[HQ e];exact av r)
theorem bJ(e:h[n]?=some (.lst xs)):bW (.ob n) h=true:=by unfold bW cZ;dsimp only;rw[e];rfl
theorem ba(e:h[n]?=some (.lst xs))(hl:xs.length < sizeLine):bL (.ob n) [y] h=some (.ck,h.set n (.lst (xs++[y]))):=by unfold bL;dsimp only;rw[e];dsimp only;rw[HQ hl]
theorem pb(n:Nat)(t:Term):fY n (cp t)=true:=rfl
theorem pf(n:Nat)(t:Lock):fY n (bI t)=true:=rfl
theorem iI(n:Nat)(f:α->D)(hf:∀x,fY n (f x)=true):∀xs:List α,dA n (xs.map f)=true
 | []=>rfl
 | x::r=>by rw[HX];show(fY n (f x)&&dA n _)=true;rw[hf x,iI n f hf r];rfl
mutual
theorem CU(n:Nat):∀r:Row,fY n (aP r)=true
 | .say w=>by rw[aP];rfl
 | .call d ts=>by rw[aP];show(true&&(true&&(dA n _&&true)))=true;rw[iI n _ (pb n)];rfl
 | .within l b=>by rw[aP];show(true&&(fY n (bI l)&&(dA n _&&true)))=true;rw[pf,cD n b];rfl
 | .all ls b=>by rw[aP];show(true&&(dA n _&&(dA n _&&true)))=true;rw[iI n _ (pf n),cD n b];rfl
 | .ask l b e=>by rw[aP];show(true&&(fY n (bI l)&&(dA n _&&(dA n _&&true))))=true;rw[pf,cD n b,cD n e];rfl
 | .l6 s t a b c=>by rw[aP];show(true&&(fY n (cp s)&&(fY n (cp t)&&(dA n _&&(dA n _&&(dA n _&&true))))))=true;rw[pb,pb,cD n a,cD n b,cD n c];rfl
 | .either a b=>by rw[aP];show(true&&(dA n _&&(dA n _&&true)))=true;rw[cD n a,cD n b];rfl
 | .again a=>by rw[aP];show(true&&(dA n _&&true))=true;rw[cD n a];rfl
theorem cD(n:Nat):∀r:List Row,dA n (bH r)=true
 | []=>by rw[bH];rfl
 | r::rs=>by rw[bH];show(fY n _&&dA n _)=true;rw[CU n r,cD n rs];rfl
end
theorem bR(e:H.length=n):(H++[a])[n]?=some a:=by rw[<-e];simp
theorem iR(e:H.length=n):(H++[a]).set n b=H++[b]:=by rw[<-e];simp
section
variable {E:En} {f:Nat}
end
theorem Ef(P:Prop)[Decidable P](e:Rn (t δ h) λp=>p=(decide P,h))(q1:P->Rn (x δ h) Q)(q2:¬P->Rn (y δ h) Q):Rn (gV t x y δ h) Q:=by
 refine z9 (e.imp ?_);rintro _ rfl;exact⟨λz=>q1 (IZ z),λz=>q2 (Kc z)⟩
theorem sA(P:Prop)[Decidable P](e:Rn (t δ h) λp=>p=(decide P,h))(q1:P->Rn (x δ h) (rY b Q))(q2:¬P->Rn (b δ h) Q):Rn (aj (gV t x b7) b δ h) Q:=
 iX (Ef P e q1 λz=>⟨_,rfl,q2 z⟩)
theorem dT [Decidable P](p:P)(h:MH):(true,h)=(decide P,h):=by rw[IE p]
section
variable {E:En} {f:Nat}
end
theorem qU(r:Rn (ma δ h) λp=>Rn (mb δ p.2) λq=>∃xs ys,cZ p.1 q.2=some xs/\cZ q.1 q.2=some ys/\xs.length+ys.length<=sizeLine/\Q (xs++ys,q.2)):Rn (xC ma mb δ h) Q:=
 av (r.imp λp r=>av (r.imp λq ⟨xs,ys,e1,e2,hl,hq⟩=>⟨_,by rw[e1];dsimp only[Option.bind_some];rw[e2];dsimp only[Option.bind_some];rw[HQ hl],hq⟩))
section
variable {E:En} {f:Nat}
end
section
variable {E:En}
end
end Mi
namespace Pg
open PySem Sm L2
abbrev hW:=Str×List Str×List Row
structure Prog where
 names:List Str
 aN:List hW
noncomputable def gK(d:hW):D:=.tup [.str d.1,.tup (d.2.1.map D.str),.tup (bH d.2.2)]
noncomputable def k4(P:Prog):D:=.tup [.tup (P.names.map D.str),.tup (P.aN.map gK)]
end Pg
namespace Mi
open PySem Sm L2 Pg
theorem tx(n:Nat)(d:hW):fY n (gK d)=true:=by
 show(true&&(dA n (d.2.1.map D.str)&&(dA n (bH d.2.2)&&true)))=true;rw[dR,cD];rfl
theorem zF(n:Nat)(P:Prog):fY n (k4 P)=true:=by
 show(dA n (P.names.map D.str)&&(dA n (P.aN.map gK)&&true))=true;rw[dR,iI n _ (tx n)];rfl
theorem zx{α:Type}{f:α->D}{xs:List α}{i:Nat}{x:D}(h:(fj 0 (xs.map f))[i]?=some x):∃a,xs[i]?=some a/\x=.tup [.int (i:Int),f a]:=by
 rw[fi,Io] at h;cases e:xs[i]? with
 | none=>rw[e] at h;cases h
 | some a=>
  rw[e] at h;cases h;exact⟨a,rfl,by rw[K1]⟩
end Mi
namespace Pg
open PySem Sm L2
noncomputable def wA(l:List Row):D:=.tup (bH l)
noncomputable def ab:Row->List (List Row)
 | .say _=>[]
 | .call _ _=>[]
 | .within _ b=>[b]
 | .all _ b=>[b]
 | .ask _ b e=>[b,e]
 | .l6 _ _ a b c=>[a,b,c]
 | .either a b=>[a,b]
 | .again a=>[a]
noncomputable def c9:Row->Str
 | .say _=>"say"
 | .call _ _=>"call"
 | .within _ _=>"within"
 | .all _ _=>"all"
 | .ask _ _ _=>"ask"
 | .l6 _ _ _ _ _=>"by"
 | .either _ _=>"either"
 | .again _=>"again"
mutual
noncomputable def eP(p:List Nat):Row->List (List Nat×Row)
 | .say _=>[]
 | .call _ _=>[]
 | .within _ b=>cy (p++[0]) 0 b
 | .all _ b=>cy (p++[0]) 0 b
 | .ask _ b e=>cy (p++[0]) 0 b++cy (p++[1]) 0 e
 | .l6 _ _ a b c=>cy (p++[0]) 0 a++(cy (p++[1]) 0 b++cy (p++[2]) 0 c)
 | .either a b=>cy (p++[0]) 0 a++cy (p++[1]) 0 b
 | .again a=>cy (p++[0]) 0 a
noncomputable def cy(a:List Nat)(k:Nat):List Row->List (List Nat×Row)
 | []=>[]
 | r::rs=>(a++[k],r)::(eP (a++[k]) r++cy a (k+1) rs)
end
mutual
noncomputable def bz:Row->Nat
 | .say _=>0
 | .call _ _=>0
 | .within _ b=>bb b
 | .all _ b=>bb b
 | .ask _ b e=>max (bb b) (bb e)
 | .l6 _ _ a b c=>max (bb a) (max (bb b) (bb c))
 | .either a b=>max (bb a) (bb b)
 | .again a=>bb a
noncomputable def bb:List Row->Nat
 | []=>1
 | r::rs=>max (1+bz r) (bb rs)
end
theorem ny{lot:List Row}{r:Row}(h:r∈lot):1+bz r<=bb lot:=by
 induction lot with
 | nil=>cases h
 | cons x xs ih=>
  rw[bb];rcases HR.mp h with rfl | h
  ·lia
  ·have:=ih h;lia
theorem nv{r:Row}{l:List Row}(h:l∈ab r):bb l<=bz r:=by
 cases r <;> simp[ab] at h
 case within=>subst h;simp[bz]
 case all=>subst h;simp[bz]
 case ask=>rcases h with rfl | rfl <;> rw[bz] <;> lia
 case l6=>rcases h with rfl | rfl | rfl <;> rw[bz] <;> lia
 case either=>rcases h with rfl | rfl <;> rw[bz] <;> lia
 case again=>subst h;simp[bz]
theorem lO(r:Row):cnt r=1+((ab r).map ak).sum:=by cases r <;> simp[cnt,ab] <;> lia
mutual
theorem qX(p:List Nat):∀r:Row,1+(eP p r).length=cnt r
 | .say _=>by simp[eP,cnt]
 | .call _ _=>by simp[eP,cnt]
 | .within _ b=>by simp[eP,cnt,bq (p++[0]) 0 b]
 | .all _ b=>by simp[eP,cnt,bq (p++[0]) 0 b]
 | .ask _ b e=>by simp[eP,cnt,bq (p++[0]) 0 b,bq (p++[1]) 0 e];lia
 | .l6 _ _ a b c=>by simp[eP,cnt,bq (p++[0]) 0 a,bq (p++[1]) 0 b,bq (p++[2]) 0 c];lia
 | .either a b=>by simp[eP,cnt,bq (p++[0]) 0 a,bq (p++[1]) 0 b];lia
 | .again a=>by simp[eP,cnt,bq (p++[0]) 0 a]
theorem bq(a:List Nat):∀(k:Nat)(l:List Row),(cy a k l).length=ak l
 | k,[]=>by simp[cy,ak]
 | k,r::rs=>by
  have:=qX (a++[k]) r;have:=bq a (k+1) rs;simp[cy,ak];lia
end
end Pg
namespace Mi
open PySem Sm L2 Pg
theorem nV(h:MH):pE h h=true:=by
 induction h with
 | nil=>rfl
 | cons o r ih=>show(xr o o&&pE r r)=true;rw[nU,ih];rfl
theorem oP(r:Row)(h:MH):fw [aP r] h=some (.tup ((ab r).map wA),h):=by
 have e:Rn (fw [aP r] h) λp=>p=(.tup ((ab r).map wA),h):=by
  refine bF ?_;cases r <;> rw[aP] <;> (nofun;refine rv rfl ?_;nofun;refine rv rfl ?_;dsimp only;refine⟨_,rfl,?_⟩;nofun;refine rv rfl ?_;rfl)
 obtain⟨p,e1,rfl⟩:=e;exact e1
theorem gZ{xs ys:List D}{h:MH}(hl:xs.length+ys.length<=10000):ar (.tup xs) (.tup ys) h=some (.tup (xs++ys),h):=by
 cases xs with
 | nil=>rfl
 | cons x xs=>
  show(if xs.length+1+ys.length<=sizeLine then some (D.tup (x::xs++ys),h) else none)=_;rw[HQ (by rw[show sizeLine=16777216 from rfl];rw[HP] at hl;lia)]
theorem lr{h:MH}{n:Nat}{xs ys:List D}(e:h[n]?=some (.lst xs))(hl:xs.length+ys.length<=1000000):gW (.ob n) [.lv ys] h=some (.ck,h.set n (.lst (xs++ys))):=by
 unfold gW;dsimp only;rw[e];show(if xs.length+ys.length<=sizeLine then _ else _)=_;rw[HQ (by rw[show sizeLine=16777216 from rfl];lia)]
end Mi
namespace Pg
open PySem Sm L2
theorem r8:∀{ds:List hW} {d:hW},d∈ds->ak d.2.2<=(ds.map λd=>ak d.2.2).sum
 | x::r,d,h=>by
  rw[HX,JK];rcases HR.mp h with rfl | h
  ·lia
  ·have:=r8 h;lia
structure HF(P:Prog):Prop where
 nd:∀d∈P.aN,bb d.2.2<=6
 ct:(P.aN.map λd=>ak d.2.2).sum<=1000
 dl:P.aN.length<=1000
end Pg
namespace Mi
open PySem Sm L2 Pg
end Mi
namespace Sm
open PySem L2 Builtin.Str StrLaws
noncomputable def l4(l:List Nat):Str:=⟨l.toArray⟩
theorem sJ(l:List Nat):(l4 l).cps.toList=l:=by simp[l4]
theorem sL(a b:List Nat):l4 a++l4 b=l4 (a++b):=by
 show(⟨a.toArray++b.toArray⟩:Str)=⟨(a++b).toArray⟩;simp
theorem za(l:List Nat):(l4 l).length=l.length:=by
 show l.toArray.size=_;simp
theorem sI(x:Str):l4 x.cps.toList=x:=by cases x;simp[l4]
theorem zb{a b:List Nat}(e:l4 a=l4 b):a=b:=by rw[<-sJ a,e,sJ]
noncomputable def cm(n:Nat):List Nat:=if n < 10 then[n] else n % 10::cm (n / 10)
termination_by n
decreasing_by exact Nat.div_lt_self (by lia) (by decide)
theorem fV{n:Nat}(h:n < 10):cm n=[n]:=by rw[cm,HQ h]
theorem i8{n:Nat}(h:¬n < 10):cm n=n % 10::cm (n / 10):=by rw[cm,HS h]
theorem ql{P:Nat->Prop}(h1:∀n,n < 10->P n)(h2:∀n,¬n < 10->P (n / 10)->P n)(n:Nat):P n:=by
 induction n using Nat.strongRecOn with
 | _ n ih=>
  by_cases h:n < 10
  ·exact h1 n h
  ·exact h2 n h (ih _ (Nat.div_lt_self (by lia) (by decide)))
theorem zy(n:Nat):cm n≠[]:=by
 by_cases h:n < 10
 ·rw[fV h];simp
 ·rw[i8 h];simp
theorem xi{n:Nat}:∀{k:Nat},n < 10^(k+1)->(cm n).length<=k+1:=by
 refine ql (P:=λn=>∀{k:Nat},n < 10^(k+1)->(cm n).length<=k+1) (λn h k _=>?_) (λn h ih k hk=>?_) n
 ·rw[fV h];simp
 ·rw[i8 h,HP];cases k with
  | zero=>exact absurd hk (by simpa using h)
  | succ k=>
   have:=ih (k:=k) (by rw[Nat.div_lt_iff_lt_mul (by decide)];rw[Nat.pow_succ] at hk;exact hk)
   lia
noncomputable def txt(n:Nat):Str:=l4 ((cm n).reverse.map (48+·))
theorem rW(n:Nat):Str.ofString (toString (n:Int))=txt n:=by
 rw[KH,show toString (n:Int)=toString n from rfl,Nat.toString_eq_ofList_toDigits,String.toList_ofList];unfold txt l4;congr 2;refine ql (P:=λn=>(Nat.toDigits 10 n).map Char.toNat=(cm n).reverse.map (48+·)) (λn h=>?_) (λn h ih=>?_) n
 ·rw[Nat.toDigits_of_lt_base h,fV h];revert h;revert n;decide
 ·rw[Nat.toDigits_of_base_le (by decide) (by lia),i8 h,Ic,ih,JS,Ic];have:n % 10 < 10:=Nat.mod_lt _ (by decide);congr 1;generalize n % 10=k at this;revert this;revert k;decide
theorem tq{x y:Str}(e:x.cps.toList=y.cps.toList):x=y:=by rw[<-sI x,e,sI]
def Sh(n:Nat)(x:Str):Prop:=x.length<=n/\PyData.strOk x=true
theorem Sh.up{n m:Nat}{x:Str}(h:Sh n x)(hm:n<=m):Sh m x:=⟨Ie h.1 hm,h.2⟩
theorem Sh.app{n m:Nat}{x y:Str}(h:Sh n x)(h':Sh m y):Sh (n+m) (x++y):=⟨by rw[Im];exact Nat.add_le_add h.1 h'.1,Sm.dw h.2 h'.2⟩
theorem Sh.int{i:Int}(h:-99<=i/\i<=99):Sh 8 (Str.ofString (toString i)):=by
 refine⟨?_,mX i⟩;have hl:(Str.ofString (toString i)).length=(toString i).length:=by
  rw[KH];show((toString i).toList.map Char.toNat).toArray.size=_;rw[HW,HH];exact String.length_toList
 rw[hl];have:=int_text_length_le10 (a:=i) (k:=2) (by decide) (by lia)
 lia
theorem Sh.join{n:Nat}{s:Str}(hs:Sh 1 s):∀{xs:List Str},(∀x∈xs,Sh n x)->Sh ((n+1)*xs.length) (Str.join s xs)
 | [],_=>⟨by simp[Str.join,Str.empty,Str.length],ip hs.2 [] (λ_ h=>(nomatch h))⟩
 | [x],h=>(h x (.head _)).up (by simp)
 | x::y::r,h=>by
  have:=(((h x (.head _)).app hs).app (Sh.join (n:=n) hs (xs:=y::r) λz hz=>h z (.tail _ hz)));exact this.up (by simp only[HP];rw[Nat.mul_succ (n+1)];lia)
end Sm
namespace Pg
open PySem Sm L2
noncomputable def cw(t:Term):Str:=if t.1=Str.ofString "" then Str.ofString (toString t.2) else if t.2=0 then t.1 else t.1++(if 0 < t.2 then Txt.mul (Str.ofString "+") 1 else Txt.mul (Str.ofString "+") 0)++Str.ofString (toString t.2)
noncomputable def c5(l:Lock):Str:=l.1++Str.ofString ":"++cw l.2
noncomputable def eB:Row->Str
 | .say w=>Str.ofString "say "++w
 | .call d ts=>Str.join (Str.ofString " ") (Str.ofString "call"::d::ts.map cw)
 | .within l _=>Str.ofString "within"++Str.ofString " "++c5 l
 | .all ls _=>Str.join (Str.ofString " ") (Str.ofString "all"::ls.map c5)
 | .ask l _ _=>Str.ofString "ask"++Str.ofString " "++c5 l
 | .l6 s t _ _ _=>Str.ofString "by "++cw s++Str.ofString " "++cw t
 | .either _ _=>Str.ofString "either"
 | .again _=>Str.ofString "again"
def xI(t:Term):Prop:=Sh 8 t.1/\-99<=t.2/\t.2<=99
def tU(l:Lock):Prop:=Sh 8 l.1/\xI l.2
def x6:Row->Prop
 | .say w=>Sh 8 w
 | .call d ts=>Sh 8 d/\ts.length<=3/\∀t∈ts,xI t
 | .within l _=>tU l
 | .all ls _=>ls.length<=4/\(∀l∈ls,tU l)/\ls≠[]
 | .ask l _ _=>tU l
 | .l6 s t _ _ _=>xI s/\xI t
 | .either _ _=>True
 | .again _=>True
theorem cV{t:Term}(h:xI t):Sh 20 (cw t):=by
 unfold cw
 split
 ·exact(Sh.int h.2).up (by decide)
 ·split
  ·exact h.1.up (by decide)
  ·refine Sh.up (n:=8+2+8) ((h.1.app ?_).app (Sh.int h.2)) (by decide)
   split <;> exact⟨by decide+kernel,by decide+kernel⟩
theorem dP{l:Lock}(h:tU l):Sh 30 (c5 l):=Sh.up (n:=8+1+20) ((h.1.app ⟨by decide+kernel,by decide+kernel⟩).app (cV h.2)) (by decide)
theorem dU:Sh 1 (Str.ofString " "):=⟨by decide+kernel,by decide+kernel⟩
theorem wN:∀{r:Row},x6 r->Sh 400 (eB r)
 | .say w,h=>Sh.up (n:=4+8) (Sh.app ⟨by decide+kernel,by decide+kernel⟩ h) (by decide)
 | .call d ts,h=>by
  refine(Sh.join (n:=20) dU λx hx=>?_).up ?_
  ·rcases HR.mp hx with rfl | hx
   ·exact⟨by decide+kernel,by decide+kernel⟩
   ·rcases HR.mp hx with rfl | hx
    ·exact h.1.up (by decide)
    ·obtain⟨t,ht,rfl⟩:=Ja.mp hx;exact cV (h.2.2 t ht)
  ·have:=h.2.1;simp only[HP,HH];lia
 | .within l _,h=>Sh.up (n:=6+1+30) ((Sh.app ⟨by decide+kernel,by decide+kernel⟩ dU).app (dP h)) (by decide)
 | .all ls _,h=>by
  refine(Sh.join (n:=30) dU λx hx=>?_).up ?_
  ·rcases HR.mp hx with rfl | hx
   ·exact⟨by decide+kernel,by decide+kernel⟩
   ·obtain⟨t,ht,rfl⟩:=Ja.mp hx;exact dP (h.2.1 t ht)
  ·have:=h.1;simp only[HP,HH];lia
 | .ask l _ _,h=>Sh.up (n:=3+1+30) ((Sh.app ⟨by decide+kernel,by decide+kernel⟩ dU).app (dP h)) (by decide)
 | .l6 s t _ _ _,h=>Sh.up (n:=3+20+1+20) (((Sh.app ⟨by decide+kernel,by decide+kernel⟩ (cV h.1)).app dU).app (cV h.2)) (by decide)
 | .either _ _,_=>show Sh 400 (Str.ofString "either") from⟨by decide+kernel,by decide+kernel⟩
 | .again _,_=>show Sh 400 (Str.ofString "again") from⟨by decide+kernel,by decide+kernel⟩
theorem jf(x y:Str):(x++y).cps.toList=x.cps.toList++y.cps.toList:=by
 show(x.cps++y.cps).toList=_;rw[Array.toList_append]
end Pg
namespace Sm
open PySem L2
theorem qu{α:Type}{e:EM}{h:MH}{t:DS}(A f:α->D):∀(xs:List α)(o:Option D),(∀x∈xs,e (some (A x)::t) h=some (f x,h))->c7 [] (gN 0) dh e (xs.map A) (o::t) h=some (xs.map f,h)
 | [],o,_=>rfl
 | x::r,o,hx=>by
  have e1:e (some (A x)::t) h=some (f x,h):=hx x HY;have e2:=qu A f r (some (A x)) λy hy=>hx y (Ib _ hy);show((e (some (A x)::t) h).bind λy=>(c7 [] (gN 0) dh e (r.map A) (some (A x)::t) y.2).map λz=>(y.1::z.1,z.2))=_;rw[e1];show((c7 [] (gN 0) dh e (r.map A) (some (A x)::t) h).map λz=>(f x::z.1,z.2))=_;rw[e2];rfl
theorem g7{α:Type}{caps:List (Option Nat)}{ei e:EM}{δ t:DS}{o:Option D}{h:MH}{d:D}{xs:List α}(A f:α->D)(hi:ei δ h=some (d,h))(hs:bM d h=some (xs.map A,[]))(hc:jY caps δ=o::t)(hl:xs.length<=100000)(he:∀x∈xs,e (some (A x)::t) h=some (f x,h)):
  cE caps (fU ei) (gN 0) dh e δ h=some (xs.map f,h):=by
 unfold cE fU;rw[hi];dsimp only[Option.bind_some];rw[hs];dsimp only[Option.map_some,Option.bind_some];rw[hc,qu A f xs o he];dsimp only[Option.bind_some];rw[HQ (by rw[HH,show sizeLine=16777216 from rfl];lia)]
abbrev g2:GM:=gT 2 (aw (gN 0) (aw (gN 1) cK))
theorem qt{α:Type}{e:EM}{h:MH}{t:DS}(A B f:α->D):∀(xs:List α)(o o2:Option D),(∀x∈xs,e (some (A x)::some (B x)::t) h=some (f x,h))->c7 [] g2 dh e (xs.map λx=>.tup [A x,B x]) (o::o2::t) h=some (xs.map f,h)
 | [],o,o2,_=>rfl
 | x::r,o,o2,hx=>by
  have e1:e (some (A x)::some (B x)::t) h=some (f x,h):=hx x HY;have e2:=qt A B f r (some (A x)) (some (B x)) λy hy=>hx y (Ib _ hy);show((e (some (A x)::some (B x)::t) h).bind λy=>(c7 [] g2 dh e (r.map λx=>.tup [A x,B x]) (some (A x)::some (B x)::t) y.2).map λz=>(y.1::z.1,z.2))=_;rw[e1];show((c7 [] g2 dh e (r.map λx=>.tup [A x,B x]) (some (A x)::some (B x)::t) h).map λz=>(f x::z.1,z.2))=_;rw[e2];rfl
theorem uJ{α:Type}{caps:List (Option Nat)}{ei e:EM}{δ t:DS}{o o2:Option D}{h:MH}{d:D}{xs:List α}(A B f:α->D)(hi:ei δ h=some (d,h))(hs:bM d h=some (xs.map λx=>.tup [A x,B x],[]))(hc:jY caps δ=o::o2::t)(hl:xs.length<=100000)(he:∀x∈xs,e (some (A x)::some (B x)::t) h=some (f x,h)):
  cE caps (fU ei) g2 dh e δ h=some (xs.map f,h):=by
 unfold cE fU;rw[hi];dsimp only[Option.bind_some];rw[hs];dsimp only[Option.map_some,Option.bind_some];rw[hc,qt A B f xs o o2 he];dsimp only[Option.bind_some];rw[HQ (by rw[HH,show sizeLine=16777216 from rfl];lia)]
end Sm
namespace Mi
open PySem Sm L2 Pg
theorem Ed{δ:DS}{h:MH}{a b:EM}{Q:D×MH->Prop}(r:Rn (a δ h) λp=>∃c,pM p.1 p.2=some c/\(c=true->Q p)/\(c=false->Rn (b δ p.2) Q)):Rn (CK a b δ h) Q:=av (r.imp λp ⟨c,e,q1,q2⟩=>by
 rw[e];show Rn (if c=true then some p else b δ p.2) Q;cases c with
 | true=>rw[HQ rfl];exact⟨_,rfl,q1 rfl⟩
 | false=>rw[HS (by simp)];exact q2 rfl)
theorem len0{w:Str}(h:w.length=0):w=Str.ofString "":=by
 refine tq ?_;have:w.cps.toList.length=0:=by rw[Jt];exact h
 rw[List.length_eq_zero_iff.mp this];rfl
theorem dg{t:Term}{h:MH}(ht:xI t):aD [cp t] h=some (.str (cw t),h):=by
 obtain⟨w,i⟩:=t;obtain⟨hw,h0,h1⟩:=ht;dsimp only at hw h0 h1;have hs:qi [.int i] h=some (.str (Str.ofString (toString i)),h):=by
  show(if i.natAbs.log2 < 1920 then some (D.str (Str.ofString (toString i)),h) else none)=_;rw[HQ]
  by_cases z:i.natAbs=0
  ·rw[z];decide
  ·exact(Nat.log2_lt z).mpr (Ir (show i.natAbs < 2^7 by lia) (LN (by decide) (by decide)))
 have li:=(Sh.int ⟨h0,h1⟩).1;have lw:=hw.1;refine cq ?_;show Rn (aD [.tup [.str w,.int i]] h) _;refine bF ?_;refine iX (vM (rv (a:=(.tup [.str w,.int i],h)) rfl (rv (a:=([some (.tup [.str w,.int i]),some (.str w),some (.int i)],h)) rfl (il ?_))));refine sA (w=Str.ofString ""\/i=0) ?_ (λz=>?_) (λz=>?_)
 ·nofun;refine⟨_,rfl,λy=>?_,λy=>?_⟩
  ·exact dT (.inl (eq_of_beq y)) _
  ·have y:w≠Str.ofString "":=by intro e;rw[e,IU] at y;cases y
   nofun;refine⟨_,rfl,?_⟩;rw[show(i==0)=decide (w=Str.ofString ""\/i=0) by rw[Bool.eq_iff_iff];simp[y]]
 ·nofun;refine Ed ?_;nofun
  by_cases e:w=Str.ofString ""
  ·subst e;refine⟨false,by ac_nf,λz=>(nomatch z),λ_=>?_⟩;nofun;refine rv hs ?_;nofun;unfold cw;rw[HQ rfl]
  ·have z0:i=0:=z.resolve_left e;subst z0;refine⟨true,?_,λ_=>?_,λz=>(nomatch z)⟩
   ·show(if w.length<=sizeLine then some ((w.length:Int) !=0) else none)=_;rw[HQ (Ie lw (by decide))];have:w.length≠0:=λy=>e (len0 y);congr 1;simp only[bne_iff_ne,ne_eq];lia
   ·nofun;unfold cw;rw[HS e,HQ rfl]
 ·nofun;obtain⟨v,hv,hm,hvt⟩:∃(v:Int),lH [.bl (decide (0 < i))] h=some (.int v,h)/\fh (.str (Str.ofString "+")) (.int v) h=some (.str (if 0 < i then Txt.mul (Str.ofString "+") 1 else Txt.mul (Str.ofString "+") 0),h)/\(if 0 < i then Txt.mul (Str.ofString "+") 1 else Txt.mul (Str.ofString "+") 0).length<=1:=by
   by_cases y:0 < i
   ·exact⟨1,by rw[IE y];rfl,by rw[HQ y];ac_nf,by rw[HQ y];decide+kernel⟩
   ·exact⟨0,by rw[IB y];rfl,by rw[HS y];ac_nf,by rw[HS y];decide+kernel⟩
  refine rv hv (rv hm (rv (a9 (by lia)) ?_));nofun;refine rv hs (rv (a9 (by rw[Im];lia)) ?_);nofun;unfold cw;dsimp only;rw[HS (λe=>z (.inl e)),HS (λe=>z (.inr e))]
theorem fR{l:Lock}{h:MH}(hl:tU l):aX [bI l] h=some (.str (c5 l),h):=by
 obtain⟨w,t⟩:=l;obtain⟨hw,ht⟩:=hl;have a:=hw.1;have b:=(cV ht).1;have c:(Str.ofString ":").length=1:=by decide+kernel
 dsimp only at a b;refine cq ?_;show Rn (aX [.tup [.str w,cp t]] h) _;refine bF ?_;nofun;refine rv (a9 (by lia)) ?_;nofun;refine rv (dg ht) (rv (a9 (by rw[Im];lia)) ?_);nofun;rfl
theorem iP{n:Nat}:∀{xs:List Str},(∀x∈xs,x.length<=n)->(xs.map (·.length)).sum<=n*xs.length
 | [],_=>by simp
 | x::r,h=>by
  have a:=h x (.head _);have b:=iP (n:=n) (xs:=r) λy hy=>h y (.tail _ hy);simp only[HX,JK,HP];rw[Nat.mul_succ];lia
theorem dz{xs:List Str}(h:∀x∈xs,x.length<=1000)(hl:xs.length<=1000){H:MH}{d:D}{ws:List (Nat×MO)}(e:bM d H=some (xs.map D.str,ws)):cA (.str " ") [d] H=some (.str (Str.join (Str.ofString " ") xs),H):=by
 unfold cA;dsimp only;rw[e];dsimp only[Option.bind_some];rw[gU];dsimp only[Option.bind_some];have:=iP h;have c:(Str.ofString " ").length=1:=by decide+kernel
 rw[HQ (by rw[c];lia)]
theorem zp{r:Row}{h:MH}(hr:x6 r):eG [aP r] h=some (.str (eB r),h):=by
 have cb:(Str.ofString " ").length=1:=by decide+kernel
 cases r with
 | either a b=>rw[aP];ac_nf
 | again a=>rw[aP];ac_nf
 | say w=>
  have a:=hr.1;refine cq (bF ?_);rw[aP];nofun;refine⟨true,by ac_nf,λ_=>?_,λz=>(nomatch z)⟩;nofun;refine rv (a9 (by rw[show(Str.ofString "say ").length=4 by decide+kernel];lia)) ?_;nofun;rfl
 | call d ts=>
  have hd:=hr.1.1;have hl:=hr.2.1;have e1:cE [none] (fU (ai bt (cC 0) (eK (.int 2)))) (gN 0) dh (az aD (aq (cC 0) bQ)) (entry 1 [.tup [.str "call",.str d,.tup (ts.map cp)]]) h=some (ts.map λt=>.str (cw t),h):=
   g7 (t:=[]) (o:=none) cp (λt=>.str (cw t)) (d:=.tup (ts.map cp)) rfl rfl rfl (by lia) λt ht=>dg (hr.2.2 t ht)
  refine cq (bF ?_);rw[aP];nofun;refine⟨false,by ac_nf,λz=>(nomatch z),λ_=>?_⟩;nofun;refine⟨true,by ac_nf,λ_=>?_,λz=>(nomatch z)⟩;nofun;refine dm ?_;nofun;refine⟨rfl,gA (pV (mE (rv (a:=([.str "call",.str d],h)) (by ac_nf) (mE (rv e1 ?_)))))⟩;refine rv (a:=(.lv ((Str.ofString "call"::d::ts.map cw).map D.str),h)) ?_ (pW (rv (dz ?_ ?_ (ws:=[]) rfl) ?_))
  ·rw[HX,HX,Jd];simp only[ar,oZ,cZ,Jc,HH,HP,Jg];rw[HQ (by rw[show sizeLine=16777216 from rfl];lia)];rfl
  ·intro x hx;rcases HR.mp hx with rfl | hx
   ·decide+kernel
   ·rcases HR.mp hx with rfl | hx
    ·lia
    ·obtain⟨t,ht,rfl⟩:=Ja.mp hx;have:=(cV (hr.2.2 t ht)).1
     lia
  ·simp;lia
  ·nofun;rfl
 | all ls b=>
  have hl:=hr.1;have e1:cE [none] (fU (ai bt (cC 0) (eK (.int 1)))) (gN 0) dh (az aX (aq (cC 0) bQ)) (entry 1 [.tup [.str "all",.tup (ls.map bI),.tup (bH b)]]) h=some (ls.map λt=>.str (c5 t),h):=
   g7 (t:=[]) (o:=none) bI (λt=>.str (c5 t)) (d:=.tup (ls.map bI)) rfl rfl rfl (by lia) λt ht=>fR (hr.2.1 t ht)
  refine cq (bF ?_);rw[aP];nofun;refine⟨false,by ac_nf,λz=>(nomatch z),λ_=>?_⟩;nofun;refine⟨false,by ac_nf,λz=>(nomatch z),λ_=>?_⟩;nofun;refine⟨true,by ac_nf,λ_=>?_,λz=>(nomatch z)⟩;nofun;refine dm ?_;nofun;refine⟨rfl,gA (pV (mE (rv (a:=([.str "all"],h)) (by ac_nf) (mE (rv e1 ?_)))))⟩;refine rv (a:=(.lv ((Str.ofString "all"::ls.map c5).map D.str),h)) ?_ (pW (rv (dz ?_ ?_ (ws:=[]) rfl) ?_))
  ·rw[HX,Jd];simp only[ar,oZ,cZ,Jc,HH,HP,Jg];rw[HQ (by rw[show sizeLine=16777216 from rfl];lia)];rfl
  ·intro x hx;rcases HR.mp hx with rfl | hx
   ·decide+kernel
   ·obtain⟨t,ht,rfl⟩:=Ja.mp hx;have:=(dP (hr.2.1 t ht)).1
    lia
  ·simp;lia
  ·nofun;rfl
 | within l b=>
  have a:=(dP hr).1;refine cq (bF ?_);rw[aP];nofun;refine⟨false,by ac_nf,λz=>(nomatch z),λ_=>?_⟩;nofun;refine⟨false,by ac_nf,λz=>(nomatch z),λ_=>?_⟩;nofun;refine⟨false,by ac_nf,λz=>(nomatch z),λ_=>?_⟩;nofun;refine rv (a:=(.bl true,h)) (by ac_nf) ?_;nofun;refine⟨true,rfl,λ_=>?_,λz=>(nomatch z)⟩;nofun;refine rv (a9 (by decide+kernel)) ?_;nofun;refine rv (fR hr) (rv (a9 (by rw[Im,cb,show(Str.ofString "within").length=6 by decide+kernel];lia)) ?_);nofun;rfl
 | ask l b e=>
  have a:=(dP hr).1;refine cq (bF ?_);rw[aP];nofun;refine⟨false,by ac_nf,λz=>(nomatch z),λ_=>?_⟩;nofun;refine⟨false,by ac_nf,λz=>(nomatch z),λ_=>?_⟩;nofun;refine⟨false,by ac_nf,λz=>(nomatch z),λ_=>?_⟩;nofun;refine rv (a:=(.bl true,h)) (by ac_nf) ?_;nofun;refine⟨true,rfl,λ_=>?_,λz=>(nomatch z)⟩;nofun;refine rv (a9 (by decide+kernel)) ?_;nofun;refine rv (fR hr) (rv (a9 (by rw[Im,cb,show(Str.ofString "ask").length=3 by decide+kernel];lia)) ?_);nofun;rfl
 | l6 s t a b c=>
  have l1:=(cV hr.1).1;have l2:=(cV hr.2).1;have l3:(Str.ofString "by ").length=3:=by decide+kernel
  refine cq (bF ?_);rw[aP];nofun;refine⟨false,by ac_nf,λz=>(nomatch z),λ_=>?_⟩;nofun;refine⟨false,by ac_nf,λz=>(nomatch z),λ_=>?_⟩;nofun;refine⟨false,by ac_nf,λz=>(nomatch z),λ_=>?_⟩;nofun;refine rv (a:=(.bl false,h)) (by ac_nf) ?_;nofun;refine⟨false,rfl,λz=>(nomatch z),λ_=>?_⟩;nofun;refine⟨true,by ac_nf,λ_=>?_,λz=>(nomatch z)⟩;nofun;refine rv (dg hr.1) (rv (a9 (by lia)) ?_);nofun;refine rv (a9 (by rw[Im,cb];lia)) ?_;nofun;refine rv (dg hr.2) (rv (a9 (by rw[Im,Im,cb];lia)) ?_);nofun;rfl
end Mi
namespace Pg
open PySem Sm L2
abbrev Ln:=Int×Str
noncomputable def nC(x:Ln):D:=.tup [.int x.1,.str x.2]
noncomputable def Ag(n:Nat):Ln:=((n:Int),Str.ofString "or")
noncomputable def xg(n:Nat):Ln:=((n:Int),Str.ofString "end")
noncomputable def bV(g:Nat->List Row->List Ln)(n:Nat):Nat->Nat->List (List Row)->List Ln
 | _,_,[]=>[]
 | j,k,a::r=>(if j=0 then[] else[Ag n])++g k a++bV g n (j+1) (k+ak a) r
noncomputable def lx(g:Nat->List Row->List Ln)(k:Nat)(r:Row):List Ln:=((k:Int),eB r)::(bV g k 0 (k+1) (ab r)++(if ab r=[] then[] else[xg k]))
noncomputable def bU(g:Nat->List Row->List Ln):Nat->List Row->List Ln
 | _,[]=>[]
 | k,r::rs=>lx g k r++bU g (k+cnt r) rs
noncomputable def pJ:Nat->Nat->List Row->List Ln
 | 0=>λ_ _=>[]
 | f+1=>bU (pJ f)
def uN:Nat->List Row->Prop
 | 0,_=>True
 | f+1,l=>∀r∈l,x6 r/\∀t∈ab r,uN f t
theorem ly(g:Nat->List Row->List Ln)(n:Nat)(a:List Row):∀(j k:Nat)(x:List (List Row)),bV g n j k (x++[a])=bV g n j k x++((if j+x.length=0 then[] else[Ag n])++g (k+(x.map ak).sum) a)
 | j,k,[]=>by simp[bV]
 | j,k,y::x=>by
  rw[Jk,bV,bV,ly g n a (j+1) (k+ak y) x];simp only[IQ,HP,HX,JK];rw[show j+1+x.length=j+(x.length+1) by lia,show k+ak y+(x.map ak).sum=k+(ak y+(x.map ak).sum) by lia]
theorem lu(g:Nat->List Row->List Ln)(r:Row):∀(k:Nat)(x:List Row),bU g k (x++[r])=bU g k x++lx g (k+ak x) r
 | k,[]=>by simp[bU,ak]
 | k,y::x=>by
  rw[Jk,bU,bU,lu g r (k+cnt y) x,IQ];rw[show ak (y::x)=cnt y+ak x by simp[ak],JJ]
theorem nO{l:List Row}{i:Nat}{r:Row}(e:l[i]?=some r):ak (l.take (i+1))=ak (l.take i)+cnt r/\l.take (i+1)=l.take i++[r]:=by
 have h:l.take (i+1)=l.take i++[r]:=by rw[JR,e];rfl
 exact⟨by rw[h,lM];simp[ak],h⟩
theorem jb(l:List Row)(i:Nat):ak (l.take i)<=ak l:=by
 have:=lM (l.take i) (l.drop i);rw[JX] at this
 lia
end Pg
namespace Mi
open PySem Sm L2 Pg
noncomputable def rQ:Row->Int
 | .say _=>2
 | .call _ _=>3
 | .within _ _=>2
 | .all _ _=>2
 | .ask _ _ _=>2
 | .l6 _ _ _ _ _=>3
 | .either _ _=>1
 | .again _=>1
theorem lG(r:Row)(h:MH):Cn (.dv [(.inr (Str.ofString "say"),.int 2),(.inr (Str.ofString "call"),.int 3),(.inr (Str.ofString "by"),.int 3),(.inr (Str.ofString "either"),.int 1),(.inr (Str.ofString "again"),.int 1)]) [.str (c9 r),.int 2] h=some (.int (rQ r),h)/\wU (aP r) (some (rQ r)) none h=some (.tup ((ab r).map wA),h):=by
 cases r <;> (rw[aP];exact⟨by ac_nf,by ac_nf⟩)
theorem m6(r:Row)(h:MH):bt (aP r) (.int 0) h=some (.str (c9 r),h):=by
 cases r <;> (rw[aP];rfl)
theorem su{x:D}{b:Bool}{h:MH}:∃v:Int,lH [.bl b] h=some (.int v,h)/\wV (.lv [x]) (.int v) h=some (.lv (if b then[x] else[]),h):=by
 cases b
 ·exact⟨0,rfl,rfl⟩
 ·exact⟨1,rfl,rfl⟩
theorem yd{h g:MH}{n:Nat}{o:MO}(hn:h.length<=n):(h++g).set n o=h++g.set (n-h.length) o:=List.set_append_right _ _ hn
theorem get_set{h:MH}{n:Nat}{o o':MO}(e:h[n]?=some o'):(h.set n o)[n]?=some o:=IT (HJ.mp e).1
theorem i3{h:MH}{n:Nat}{xs:List D}(e:h[n]?=some (.lst xs)):cZ (.ob n) h=some xs:=by unfold cZ;dsimp only;rw[e]
theorem sN(r:Row):(ab r).length<=3:=by cases r <;> simp[ab]
theorem fS{g:Nat->List Row->List Ln}(hg:∀k a,(g k a).length<=5*ak a)(n:Nat):∀(j k:Nat)(x:List (List Row)),(bV g n j k x).length<=5*(x.map ak).sum+x.length
 | _,_,[]=>by simp[bV]
 | j,k,a::r=>by
  have h1:=hg k a;have h2:=fS hg n (j+1) (k+ak a) r;rw[bV,HL,HL,HX,JK,HP];have h3:(if j=0 then([]:List Ln) else[Ag n]).length<=1:=by split <;> simp
  lia
theorem ue{g:Nat->List Row->List Ln}(hg:∀k a,(g k a).length<=5*ak a)(k:Nat)(r:Row):(lx g k r).length<=5*cnt r:=by
 have h2:=fS hg k 0 (k+1) (ab r);have h4:=sN r;have h3:(if ab r=[] then([]:List Ln) else[xg k]).length<=1:=by split <;> simp
 rw[lx,HP,HL,lO]
 lia
theorem iD{g:Nat->List Row->List Ln}(hg:∀k a,(g k a).length<=5*ak a):∀(k:Nat)(l:List Row),(bU g k l).length<=5*ak l
 | _,[]=>by simp[bU]
 | k,r::rs=>by
  have h1:=ue hg k r;have h2:=iD hg (k+cnt r) rs;rw[bU,HL,show ak (r::rs)=cnt r+ak rs by simp[ak]]
  lia
theorem eA:∀(f k:Nat)(l:List Row),(pJ f k l).length<=5*ak l
 | 0,_,_=>by simp[pJ]
 | f+1,k,l=>iD (eA f) k l
theorem nB:∀(f:Nat)(l:List Row)(k:Nat)(h:MH),bb l<=f->uN f l->k+ak l<=1000->Rn (aW f [.tup (bH l),.int (k:Int)] h) λp=>∃(n:Nat)(g:MH),p=(.tup [.ob n,.int ((k+ak l:Nat):Int)],h++g)/\(h++g)[n]?=some (.lst ((pJ f k l).map nC))
 | 0,l,k,h,hn,_,_=>by
  exfalso;cases l with
  | nil=>rw[bb] at hn;lia
  | cons r rs=>rw[bb] at hn;lia
 | f+1,l,k,h,hn,hs,hk=>by
  unfold aW;refine bF ?_;nofun;refine⟨_,_,rfl,?_⟩;nofun;refine k3 ?_;nofun;refine⟨_,_,rfl,?_⟩;rw[fe];refine cQ (λi δ h'=>∃(n:Nat)(g:MH)(o4 o5 o6 o7 o8 o9 o10:Option D),δ=[some (.tup (l.map aP)),some (.int (k:Int)),some (.ob n),some (.int ((k+ak (l.take i):Nat):Int)),o4,o5,o6,o7,o8,o9,o10]/\h'=h++g/\h.length<=n/\(h++g)[n]?=some (.lst ((bU (pJ f) k (l.take i)).map nC)))
   ⟨h.length,[.lst []],_,_,_,_,_,_,_,rfl,rfl,HN _,by simp[bU]⟩ (λ_ _ _ _ _=>rfl) ?_ ?_
  ·rintro i x δ h' hx ⟨n,g,o4,o5,o6,o7,o8,o9,o10,rfl,rfl,hnl,hat⟩;rw[Io] at hx;obtain⟨r,er,rfl⟩:=Ij.mp hx;obtain⟨hsr,hsl⟩:=hs r (HM er);obtain⟨hc1,ht1⟩:=nO er;have hcl:=jb l (i+1);have hcr:=lO r;have hnr:=ny (HM er);generalize hK:k+ak (l.take i)=K at*;generalize hX:(bU (pJ f) k (l.take i))=X at*;have hXl:X.length<=5000:=by have:=iD (eA f) k (l.take i);rw[hX] at this;lia
   nofun;refine dm ?_;nofun;refine⟨bJ hat,?_⟩;nofun;refine rv (zp hsr) ?_;nofun;refine rv (ba hat (by rw[HH,show sizeLine=16777216 from rfl];lia)) ?_;have hat1:=get_set (o:=.lst (X.map nC++[.tup [.int (K:Int),.str (eB r)]])) hat;rw[yd hnl] at hat1 ⊢;generalize g.set (n-h.length) _=g1 at hat1 ⊢;nofun;refine dm (rv (a:=(.dv [(.inr (Str.ofString "say"),.int 2),(.inr (Str.ofString "call"),.int 3),(.inr (Str.ofString "by"),.int 3),(.inr (Str.ofString "either"),.int 1),(.inr (Str.ofString "again"),.int 1)],h++g1)) (by ac_nf) ⟨rfl,?_⟩);nofun;refine rv (m6 r _) ?_;nofun;refine rv (lG r _).1 ?_;nofun;refine⟨_,rfl,?_⟩;nofun;refine rv (lG r _).2 ?_;nofun;refine yt ?_;nofun;refine⟨_,_,_,rfl,rfl,?_⟩;refine cQ (λj δ h'=>∃(n':Nat)(g':MH)(o8 o9 o10:Option D),δ=[some (.tup (l.map aP)),some (.int (k:Int)),some (.ob n'),some (.int ((K+1+(((ab r).take j).map ak).sum:Nat):Int)),some (aP r),some (.int (K:Int)),some (.int (rQ r)),some (.tup ((ab r).map wA)),o8,o9,o10]/\h'=h++g'/\h.length<=n'/\(h++g')[n']?=some (.lst ((X++((K:Int),eB r)::bV (pJ f) K 0 (K+1) ((ab r).take j)).map nC)))
    ⟨n,g1,_,_,_,rfl,rfl,hnl,by rw[hat1,Ic];rfl⟩ (λ_ _ _ _ _=>rfl) ?_ ?_
   ·rintro j y δ h' hy ⟨n',g',o8,o9,o10,rfl,rfl,hnl',hat'⟩;obtain⟨t,et,rfl⟩:=zx hy;have htm:=HM et;have hj:j < 3:=by have:=sN r;have:=(HJ.mp et).1;lia
    have hst:(((ab r).take (j+1)).map ak).sum=(((ab r).take j).map ak).sum+ak t/\(ab r).take (j+1)=(ab r).take j++[t]:=by
     have e:(ab r).take (j+1)=(ab r).take j++[t]:=by rw[JR,et];rfl
     exact⟨by rw[e];simp,e⟩
    have hsle:(((ab r).take (j+1)).map ak).sum<=((ab r).map ak).sum:=by
     have:=congrArg (λz=>(z.map ak).sum) (JX (j+1) (ab r));simp only[Ic,Kw] at this
     lia
    have hlen:=fS (eA f) K 0 (K+1) ((ab r).take j);have hlt:((ab r).take j).length<=3:=by rw[Ih];lia
    have hln:=eA f (K+1+(((ab r).take j).map ak).sum) t;generalize hY:bV (pJ f) K 0 (K+1) ((ab r).take j)=Y at*;nofun;obtain⟨v,hv,hrep⟩:=su (x:=.tup [.int (K:Int),.str (Str.ofString "or")]) (b:=decide (0 < (j:Int))) (h:=h++g');refine qU ?_;nofun;refine rv hv (rv hrep ⟨_,_,i3 hat',rfl,?_,?_⟩)
    ·rw[HH,HL,HP,show sizeLine=16777216 from rfl]
     split <;> simp <;> lia
    have e1:(if decide (0 < (j:Int))=true then[D.tup [.int (K:Int),.str (Str.ofString "or")]] else[])=(if j=0 then([]:List Ln) else[Ag K]).map nC:=by
     by_cases z:j=0
     ·subst z;rfl
     ·rw[HQ (IE (by lia)),HS z];rfl
    rw[e1,<-Ic];have hO:(if j=0 then([]:List Ln) else[Ag K]).length<=1:=by split <;> simp
    generalize hOO:(if j=0 then([]:List Ln) else[Ag K])=O at*;generalize hZ:(X++((K:Int),eB r)::Y)++O=Z at*;have hZl:Z.length<=20000:=by rw[<-hZ,HL,HL,HP];lia
    nofun;obtain⟨_,e2,n2,g2,rfl,hat2⟩:=nB f t (K+1+(((ab r).take j).map ak).sum) ((h++g')++[.lst (Z.map nC)]) (by have:=nv htm;lia) (hsl t htm) (by lia);refine rv e2 ?_;have hat3:((h++g')++[.lst (Z.map nC)]++g2)[(h++g').length]?=some (.lst (Z.map nC)):=by
     rw[HU (by simp)];simp
    nofun;refine qU ?_;nofun;refine⟨_,_,i3 hat3,i3 hat2,?_,?_⟩
    ·rw[HH,HH,show sizeLine=16777216 from rfl];lia
    rw[hst.1,<-JJ (K+1)];refine⟨_,g'++[.lst (Z.map nC)]++g2++[.lst (Z.map nC++(pJ f (K+1+(((ab r).take j).map ak).sum) t).map nC)],_,_,_,rfl,?_,?_,?_⟩
    ·show h++g'++_++g2++_=_;simp only[IQ]
    ·show h.length<=(h++g'++_++g2).length;simp only[HL];lia
    rw[hst.2,ly,hY,K1,Ih,Nat.min_eq_left (by have:=(HJ.mp et).1;lia),hOO];rw[show X++((K:Int),eB r)::(Y++(O++pJ f (K+1+(((ab r).take j).map ak).sum) t))=Z++pJ f (K+1+(((ab r).take j).map ak).sum) t by rw[<-hZ];simp];rw[Ic];simp
   ·rintro δ h' ⟨n',g',o8,o9,o10,rfl,rfl,hnl',hat'⟩;rw[cB,HH,I9] at hat' ⊢;have hlen:=fS (eA f) K 0 (K+1) (ab r);have h3:=sN r;generalize hY:bV (pJ f) K 0 (K+1) (ab r)=Y at*;nofun;obtain⟨v,hv,hrep⟩:=su (x:=.tup [.int (K:Int),.str (Str.ofString "end")]) (b:=decide (0 < ((ab r).length:Int))) (h:=h++g');refine qU ?_;nofun;rw[HH];refine rv hv (rv hrep ⟨_,_,i3 hat',rfl,?_,?_⟩)
    ·rw[HH,HL,HP,show sizeLine=16777216 from rfl]
     split <;> simp <;> lia
    have e1:(if decide (0 < ((ab r).length:Int))=true then[D.tup [.int (K:Int),.str (Str.ofString "end")]] else[])=(if ab r=[] then([]:List Ln) else[xg K]).map nC:=by
     cases ab r with
     | nil=>rfl
     | cons y q=>rw[HQ (IE (by simp)),HS (by simp)];rfl
    rw[e1,<-Ic];nofun;rw[show k+ak (l.take (i+1))=K+1+((ab r).map ak).sum by lia];refine⟨_,g'++[_],_,_,_,_,_,_,_,rfl,IQ _ _ _,?_,?_⟩
    ·show h.length<=(h++g').length;simp only[HL];lia
    ·rw[ht1,lu,hX,hK,lx,hY,<-IQ h g'];simp
  ·rintro δ h' ⟨n,g,o4,o5,o6,o7,o8,o9,o10,rfl,rfl,hnl,hat⟩;nofun;rw[HH,I9] at hat ⊢;exact⟨n,g,rfl,hat⟩
end Mi
namespace Pg
open PySem Sm L2
noncomputable def fW(d:hW):Str:=Str.join (Str.ofString " ") (Str.ofString "deed"::d.1::d.2.1)
noncomputable def t8(x:Str):Ln:=(-1,x)
noncomputable def bA(f:Nat):Nat->List hW->List Ln
 | _,[]=>[]
 | k,d::ds=>t8 (fW d)::(pJ f k d.2.2++(t8 (Str.ofString "end")::bA f (k+ak d.2.2) ds))
noncomputable def EG(P:Prog):List Ln:=t8 (Str.join (Str.ofString " ") (Str.ofString "locks"::P.names))::bA 8 0 P.aN
structure FT(P:Prog):Prop where
 fit:HF P
 dl:P.aN.length<=6
 nl:P.names.length<=6
 nm:∀x∈P.names,Sh 8 x
 dd:∀d∈P.aN,Sh 8 d.1/\d.2.1.length<=3/\(∀x∈d.2.1,Sh 8 x)/\uN 8 d.2.2
 ct:(P.aN.map λd=>ak d.2.2).sum<=900
noncomputable def iH(ds:List hW):Nat:=(ds.map λd=>ak d.2.2).sum
theorem jT(f:Nat)(d:hW):∀(k:Nat)(x:List hW),bA f k (x++[d])=bA f k x++(t8 (fW d)::(pJ f (k+iH x) d.2.2++[t8 (Str.ofString "end")]))
 | k,[]=>by simp[bA,iH]
 | k,y::x=>by
  rw[Jk,bA,bA,jT f d (k+ak y.2.2) x];simp[iH,JJ]
theorem rH{d:hW}(h:Sh 8 d.1)(hl:d.2.1.length<=3)(hp:∀x∈d.2.1,Sh 8 x):Sh 100 (fW d):=by
 refine(Sh.join (n:=8) dU λx hx=>?_).up (by simp only[HP];lia);rcases HR.mp hx with rfl | hx
 ·exact⟨by decide+kernel,by decide+kernel⟩
 ·rcases HR.mp hx with rfl | hx
  ·exact h
  ·exact hp x hx
theorem gH(f:Nat):∀(k:Nat)(x:List hW),(bA f k x).length<=5*iH x+2*x.length
 | k,[]=>by simp[bA]
 | k,y::x=>by
  have h1:=Mi.eA f k y.2.2;have h2:=gH f (k+ak y.2.2) x;rw[bA,HP,HL,HP,HP];simp only[iH,HX,JK] at h2 ⊢
  lia
end Pg
namespace Mi
open PySem Sm L2 Pg
theorem jC{H g:MH}{d:D}(h1:∀n,d≠.ob n)(h2:fY H.length d=true):leave H d (H++g)=some (d,H):=by
 have h3:mh H.length (H++g) d=d:=by
  cases d with
  | ob n=>exact absurd rfl (h1 n)
  | _=>rfl
 unfold leave;rw[h3,Jv (HN _),I9,h2,nV];rfl
theorem Am(n:Nat):∀xs:List Ln,dA n (xs.map nC)=true
 | []=>rfl
 | x::r=>by rw[HX];show(true&&true&&dA n _)=true;rw[Am n r];rfl
theorem i7{xs ys:List D}{d:D}{h:MH}(e:cZ d h=some ys)(hl:xs.length+ys.length<=1000000):ar (.lv xs) d h=some (.lv (xs++ys),h):=by
 unfold ar oZ;cases d <;> first |(cases e;done) | skip
 all_goals
  simp only[cZ,Jc] at e ⊢
  first
   |(rw[e];dsimp only[Option.bind_some];rw[HQ (by rw[show sizeLine=16777216 from rfl];lia)])
   |(cases e;rw[HQ (by rw[show sizeLine=16777216 from rfl];lia)])
theorem wD{P:Prog}(hP:FT P)(h:MH):du [k4 P] h=some (.lv ((EG P).map nC),h):=by
 have dl:=hP.dl;have nl:=hP.nl;have ct:=hP.ct;have hj:∀(x:Str)(ys:List Str)(H:MH),x.length<=8->ys.length<=6->(∀y∈ys,Sh 8 y)->cA (.str " ") [.tup ((x::ys).map D.str)] H=some (.str (Str.join (Str.ofString " ") (x::ys)),H):=λx ys H hx hl hy=>by
  refine dz (ws:=[]) (λz hz=>?_) (by simp;lia) rfl;rcases HR.mp hz with rfl | hz
  ·lia
  ·have:=(hy z hz).1;lia
 refine cq (jO ?_);nofun;refine dm ?_;nofun;refine⟨rfl,?_⟩;nofun;refine rv (a:=(.tup (P.names.map D.str),h)) rfl ?_;refine rv (Aj (by simp;lia)) ?_;nofun;refine rv (hj (Str.ofString "locks") P.names h (by decide+kernel) nl hP.nm) ?_;nofun;refine⟨_,_,rfl,?_⟩;nofun;refine k3 ?_;nofun;refine rv (a:=(.tup (P.aN.map gK),h)) rfl ?_;refine⟨_,_,rfl,?_⟩;refine cQ (λi δ h'=>∃(g:MH)(o3 o4 o5 o6:Option D),δ=[some (k4 P),some (.lv ((t8 (Str.join (Str.ofString " ") (Str.ofString "locks"::P.names))::bA 8 0 (P.aN.take i)).map nC)),some (.int ((iH (P.aN.take i):Nat):Int)),o3,o4,o5,o6]/\h'=h++g)
  ⟨[],_,_,_,_,rfl,by simp⟩ (λ_ _ _ _ _=>rfl) ?_ ?_
 ·rintro i x δ h' hx ⟨g,o3,o4,o5,o6,rfl,rfl⟩;rw[Io] at hx;obtain⟨d,ed,rfl⟩:=Ij.mp hx;obtain⟨s1,s2,s3,s4⟩:=hP.dd d (HM ed);have nd:=hP.fit.nd d (HM ed);have htk:P.aN.take (i+1)=P.aN.take i++[d]:=by rw[JR,ed];rfl
  have hc1:iH (P.aN.take (i+1))=iH (P.aN.take i)+ak d.2.2:=by rw[htk];simp[iH]
  have hcl:iH (P.aN.take (i+1))<=900:=by
   have:=congrArg iH (JX (i+1) P.aN);simp only[iH,Ic,Kw] at this ⊢
   lia
  have hlen:=gH 8 0 (P.aN.take i);have hli:=eA 8 (iH (P.aN.take i)) d.2.2;have htl:(P.aN.take i).length<=6:=by rw[Ih];lia
  generalize hL:t8 (Str.join (Str.ofString " ") (Str.ofString "locks"::P.names))::bA 8 0 (P.aN.take i)=L;have hLl:L.length<=6000:=by rw[<-hL,HP];lia
  generalize hK:iH (P.aN.take i)=K at*;obtain⟨nm,ps,rows⟩:=d;dsimp only at s1 s2 s3 s4 nd hc1 hli;show Rn (gT 3 _ (.tup [.str nm,.tup (ps.map D.str),.tup (bH rows)]) _ _) _;nofun;obtain⟨_,e2,n2,g2,rfl,hat2⟩:=nB 8 rows K (h++g) (by lia) s4 (by lia);refine rv e2 ?_;nofun;refine dm ?_;nofun;refine⟨rfl,?_⟩;nofun;refine rv (Aj (by simp;lia)) ?_;nofun;refine rv (hj (Str.ofString "deed") (nm::ps) _ (by decide+kernel) (by simp;lia) (by intro y hy;rcases HR.mp hy with rfl | hy;exact s1;exact s3 y hy)) ?_;nofun;refine rv (i7 (ys:=[nC (t8 (fW (nm,ps,rows)))]) rfl (by simp;lia)) ?_;nofun;refine rv (i7 (i3 hat2) (by simp;lia)) ?_;nofun;refine rv (i7 (ys:=[nC (t8 (Str.ofString "end"))]) rfl (by simp;lia)) ?_;nofun;rw[hc1,show t8 (Str.join (Str.ofString " ") (Str.ofString "locks"::P.names))::bA 8 0 (P.aN.take (i+1))=L++[t8 (fW (nm,ps,rows))]++pJ 8 K rows++[t8 (Str.ofString "end")] by rw[htk,jT,<-hL,K1,hK];simp];rw[Ic,Ic,Ic];exact⟨g++g2,_,_,_,_,rfl,IQ _ _ _⟩
 ·rintro δ h' ⟨g,o3,o4,o5,o6,rfl,rfl⟩;nofun;rw[HH,I9];exact rv (jC (λn z=>(nomatch z)) (Am _ _)) rfl
end Mi
namespace Mi
open PySem Sm L2
theorem km{h:MH}{n:Nat}{xs:List D}(e:h[n]?=some (.lst xs)):bM (.ob n) h=some (xs,[(n,.lst xs)]):=by unfold bM;dsimp only;rw[e]
theorem oC{c:TM}{b:SM}{Q:SQ}(I:Nat->DS->MH->Prop)(step:∀k δ h,I k δ h->Rn (c δ h) λp=>(p.1=true->Rn (b δ p.2) (wB (λδ h=>∃k',k' < k/\I k' δ h) Q))/\(p.1=false->Q (.nx,δ,p.2))):
  ∀(n k:Nat)(δ:DS)(h:MH),k < n->I k δ h->Rn (fz c b n δ h) Q
 | 0,k,δ,h,hk,_=>absurd hk (by lia)
 | n+1,k,δ,h,hk,hI=>by
  obtain⟨p,e1,q1,q2⟩:=step k δ h hI;unfold fz;rw[e1];dsimp only[Option.bind_some]
  by_cases z:p.1=true
  ·rw[HQ z];obtain⟨⟨f,δ',h'⟩,e2,q⟩:=q1 z;rw[e2];dsimp only[Option.bind_some];cases f with
   | nx=>obtain⟨k',hk',hI'⟩:=q;exact oC I step n k' δ' h' (by lia) hI'
   | ct=>obtain⟨k',hk',hI'⟩:=q;exact oC I step n k' δ' h' (by lia) hI'
   | bk=>exact⟨_,rfl,q⟩
   | rt d=>exact⟨_,rfl,q⟩
  ·rw[HS z];exact⟨_,rfl,q2 (by simpa using z)⟩
end Mi
namespace Mi
open PySem Sm L2 Pg Builtin.Str
noncomputable def DB(c:Nat):D:=.str (l4 [c])
theorem CH{d:Nat}{h:MH}(hd:d < 10):bt (.str "0123456789") (.int (d:Int)) h=some (DB (48+d),h):=by
 have:∀d < 10,gb (Str.ofString "0123456789").cps.toList ((d:Nat):Int)=some (48+d):=by decide+kernel
 show(if(Str.ofString "0123456789").length<=sizeLine then(gb (Str.ofString "0123456789").cps.toList (d:Int)).map λc=>(D.str ⟨#[c]⟩,h) else none)=_;rw[HQ (by decide+kernel),this d hd];rfl
theorem sQ:∀cs:List Nat,Str.join (Str.ofString "") (cs.map λd=>l4 [d])=l4 cs
 | []=>rfl
 | [d]=>rfl
 | d::e::r=>by
  show l4 [d]++Str.ofString ""++Str.join (Str.ofString "") ((e::r).map λd=>l4 [d])=_;rw[sQ (e::r),show l4 [d]++Str.ofString ""=l4 [d] from sL [d] [],sL];rfl
theorem va:∀cs:List Nat,((cs.map λd=>l4 [d]).map (·.length)).sum=cs.length
 | []=>rfl
 | d::r=>by simp only[HX,JK,HP];rw[va r,za];simp;lia
theorem lj{x:Str}{d:D}{ns:List Str}{ws:List (Nat×MO)}{h:MH}(e:bM d h=some (ns.map D.str,ws))(hl:(ns.map (·.length)).sum+ns.length*x.length<=16777216):cA (.str x) [d] h=some (.str (Str.join x ns),h):=by
 unfold cA;dsimp only;rw[e];dsimp only[Option.bind_some];rw[gU];dsimp only[Option.bind_some];rw[HQ hl]
noncomputable def zZ(i:Int):List Nat:=(cm i.natAbs).map (48+·)++(if i < 0 then[45] else[])
noncomputable def D8(i:Int):Str:=l4 (zZ i).reverse
theorem vk{h:MH}{i:Int}{o:Option D}{m:D}(hn:(cm i.natAbs).length < 99):Rn ((aj (gV (aE (ai Dz v0 (ki 0))) (cY (eM bW bL v2 (a1 (ks "-")))) b7) (aY (eM isStr cA (ks "") (a1 (qj v2 (qD kI (ki 1))))))) [some (.int i),some m,some (.ob h.length),o] (h++[.lst ((cm i.natAbs).map λd=>DB (48+d))])) (qR λp=>Rn (leave h p.1 p.2) λp=>p=(.str (D8 i),h)):=by
 have fin:∀(cs:List Nat),cs=zZ i->Rn ((aY (eM isStr cA (ks "") (a1 (qj v2 (qD kI (ki 1)))))) [some (.int i),some m,some (.ob h.length),o] (h++[.lst (cs.map DB)])) (qR λp=>Rn (leave h p.1 p.2) λp=>p=(.str (D8 i),h)):=by
  rintro cs rfl;nofun;refine dm ?_;nofun;refine⟨rfl,?_⟩;nofun;refine yx ?_;nofun;refine⟨rfl,_,_,km (bR rfl),?_⟩;nofun;rw[show i4 (.ob h.length)=true from rfl,HQ rfl,<-K2];refine rv (lj (ns:=(zZ i).reverse.map λd=>l4 [d]) (ws:=[]) ?_ ?_) ?_
  ·show some _=some _;rw[Jd];rfl
  ·rw[va,HH,Kb,show(Str.ofString "").length=0 from rfl];have:(zZ i).length<=100:=by unfold zZ;rw[HL,HH];split <;> simp <;> lia
   lia
  ·rw[sQ];nofun;exact⟨_,jC (λn z=>(nomatch z)) rfl,rfl⟩
 have e0:(cm i.natAbs).map (λd=>DB (48+d))=((cm i.natAbs).map (48+·)).map DB:=by rw[Jd];rfl
 rw[e0];nofun;refine⟨_,rfl,λc=>?_,λc=>?_⟩
 ·have c':i < 0:=IZ c;nofun;refine dm ?_;nofun;refine⟨bJ (bR rfl),?_⟩;nofun;refine rv (ba (bR rfl) (by rw[HH,HH,show sizeLine=16777216 from rfl];lia)) ?_;rw[iR rfl];refine il ?_;have:=fin ((cm i.natAbs).map (48+·)++[45]) (by unfold zZ;rw[HQ c']);rw[Ic] at this;exact this
 ·have c':¬i < 0:=Kc c;have:=fin ((cm i.natAbs).map (48+·)) (by unfold zZ;rw[HS c',Jh]);exact⟨_,rfl,il this⟩
theorem vj{i:Int}{h:MH}(hn:(cm i.natAbs).length < 99):bD [.int i] h=some (.str (D8 i),h):=by
 refine cq (jO ?_);nofun;refine rv (a:=(.int (i.natAbs:Int),h)) (by show some (D.int (if i < 0 then -i else i),h)=_;rw[show(if i < 0 then -i else i)=(i.natAbs:Int) by split <;> lia]) ?_;nofun;generalize hN:i.natAbs=n at hn;refine oC (λk δ h'=>∃(m:Nat)(pre:List Nat)(o:Option D),δ=[some (.int i),some (.int (m:Int)),some (.ob h.length),o]/\h'=h++[.lst (pre.map λd=>DB (48+d))]/\k=(cm n).length-pre.length/\(pre=[]/\m=n\/pre≠[]/\m=0/\pre=cm n\/pre≠[]/\m≠0/\pre++cm m=cm n)) ?_ 1000000 (cm n).length _ _ (by lia) ⟨n,[],none,rfl,rfl,by simp,.inl ⟨rfl,rfl⟩⟩;rintro k δ h' ⟨m,pre,o,rfl,rfl,rfl,hI⟩;nofun;refine(λ(body:(m≠0\/pre=[])->_)=>⟨_,rfl,λc=>⟨λ_=>body (.inl (by have:=IZ c;lia)),λz=>(nomatch z)⟩,λc=>?test⟩) ?body
 case test=>
  nofun;refine⟨!pre.isEmpty,by unfold pM;dsimp only;rw[bR rfl];simp,λz=>body (.inr (by simpa using z)),λz=>?_⟩;have m0:m=0:=by have:=Kc c;lia
  have p0:pre≠[]:=by intro e;rw[e] at z;cases z
  have e0:pre=cm n:=by
   rcases hI with q | q | q
   ·exact absurd q.1 p0
   ·exact q.2.2
   ·exact absurd m0 q.2.1
  subst e0;subst hN;exact il (vk hn)
 case body=>
  intro hb;have hp:pre++cm m=cm n:=by
   rcases hI with q | q | q
   ·rw[q.1,q.2];rfl
   ·rcases hb with z | z
    ·exact absurd q.2.1 z
    ·exact absurd z q.1
   ·exact q.2.2
  have hl:pre.length+(cm m).length=(cm n).length:=by rw[<-hp,HL]
  have hm:m % 10 < 10:=Nat.mod_lt _ (by decide);have hd:=List.length_pos_iff.mpr (zy m);have e1:∀H,kA [.int (m:Int),.int 10] H=some (.tup [.int ((m / 10:Nat):Int),.int ((m % 10:Nat):Int)],H):=λH=>rfl;nofun;refine rv (e1 _) ?_;nofun;refine dm ?_;nofun;refine⟨bJ (bR rfl),?_⟩;nofun;refine rv (CH hm) ?_;nofun;refine rv (ba (bR rfl) (by rw[HH,show sizeLine=16777216 from rfl];lia)) ?_;rw[iR rfl];nofun;refine⟨_,?_,m / 10,pre++[m % 10],_,rfl,by rw[Ic];rfl,rfl,?_⟩
  ·rw[HL,Jm];lia
  ·by_cases z:m < 10
   ·refine .inr (.inl ⟨by simp,by lia,?_⟩);rw[<-hp,fV z,Nat.mod_eq_of_lt z]
   ·refine .inr (.inr ⟨by simp,by lia,?_⟩);rw[<-hp,i8 z,IQ];rfl
theorem yj(i:Int):D8 i=Str.ofString (toString i):=by
 unfold D8 zZ
 by_cases z:i < 0
 ·rw[HQ z,List.reverse_append];obtain⟨m,rfl⟩:=Int.eq_negSucc_of_lt_zero z;have e1:toString (Int.negSucc m)="-"++toString ((m+1:Nat):Int):=rfl;have e2:=rW (m+1);rw[KH] at e2 ⊢;rw[e1,String.toList_append,Ic];have e3:=zb (a:=(toString ((m+1:Nat):Int)).toList.map Char.toNat) (b:=(cm (m+1)).reverse.map (48+·)) e2;rw[e3,<-K2];rfl
 ·rw[HS z,Jh,<-K2];obtain⟨n,rfl⟩:=IX (LZ.mp z);exact(rW n).symm
theorem zz{i:Int}(h:-99<=i/\i<=99):(cm i.natAbs).length < 99:=KQ (xi (k:=1) (show i.natAbs < 100 by lia)) (by decide)
theorem pQ{i:Int}{h:MH}(hi:-99<=i/\i<=99):bD [.int i] h=some (.str (Str.ofString (toString i)),h):=by rw[vj (zz hi),yj]
theorem dj{t:Term}{h:MH}(ht:xI t):bC [cp t] h=some (.str (cw t),h):=by
 obtain⟨w,i⟩:=t;obtain⟨hw,h0,h1⟩:=ht;dsimp only at hw h0 h1;have li:=(Sh.int ⟨h0,h1⟩).1;have lw:=hw.1;refine cq ?_;show Rn (bC [.tup [.str w,.int i]] h) _;refine bF ?_;nofun;refine⟨_,rfl,λy=>?_,λy=>?_⟩
 ·have y:w=Str.ofString "":=eq_of_beq y;nofun;refine rv (pQ ⟨h0,h1⟩) ?_;nofun;unfold cw;rw[HQ y]
 ·have y:w≠Str.ofString "":=by intro e;rw[e,IU] at y;cases y
  nofun;refine⟨_,rfl,λz=>?_,λz=>?_⟩
  ·have z:i=0:=eq_of_beq z;nofun;unfold cw;rw[HS y,HQ z]
  ·have z:i≠0:=by intro e;rw[e] at z;cases z
   have fin:∀(q:Str),q=(if 0 < i then Txt.mul (Str.ofString "+") 1 else Txt.mul (Str.ofString "+") 0)->q.length<=1->Rn (ar (.str w) (.str q) h) λp=>Rn (bD [.int i] p.2) λr=>Rn (ar p.1 r.1 r.2) λp=>p=(.str (cw (w,i)),h):=λq eq lq=>by
    refine rv (a9 (by lia)) ?_;refine rv (pQ ⟨h0,h1⟩) ?_;refine rv (a9 (by rw[Im];lia)) ?_;unfold cw;dsimp only;rw[HS y,HS z,eq]
   nofun;refine⟨_,rfl,λc=>?_,λc=>?_⟩
   ·have c':0 < i:=IZ c;nofun;refine(fin (Str.ofString "+") (by rw[HQ c'];decide+kernel) (by decide+kernel)).imp λp q=>?_;nofun;exact q
   ·have c':¬0 < i:=Kc c;nofun;refine(fin (Str.ofString "") (by rw[HS c'];decide+kernel) (by decide+kernel)).imp λp q=>?_;nofun;exact q
theorem se{x y:Str}(h:x.cps.toList=y.cps.toList):x=y:=tq h
theorem jH(x y z:Str):x++y++z=x++(y++z):=se (by rw[jf,jf,jf,jf,IQ])
theorem sY(x:Str):Str.empty++x=x:=se (by rw[jf];rfl)
theorem Ei{m:JM}{δ:DS}{h:MH}{Q:D×MH->Prop}(r:Rn (m δ h Str.empty) λp=>p.1.length<=sizeLine/\Q (.str p.1,p.2)):Rn (GP m δ h) Q:=av (r.imp λp ⟨a,q⟩=>⟨_,HQ a,q⟩)
theorem oD{e:EM}{r:JM}{δ:DS}{h:MH}{acc:Str}{Q:Str×MH->Prop}(q:Rn (e δ h) λp=>∃y,p.1=.str y/\(acc++y).length<=sizeLine/\Rn (r δ p.2 (acc++y)) Q):Rn (qc e r δ h acc) Q:=av (q.imp λp ⟨y,e,a,q⟩=>by rw[e];dsimp only;rw[HQ a];exact q)
theorem sW{y:Str}{h:MH}(a:y.length<=sizeLine):wY (.str y) h=some (.str y,h):=HQ a
theorem oo{l:Lock}{h:MH}(hl:tU l):c8 [bI l] h=some (.str (c5 l),h):=by
 obtain⟨w,t⟩:=l;obtain⟨hw,ht⟩:=hl;have a:=hw.1;have b:=(cV ht).1;have c:(Str.ofString ":").length=1:=by decide+kernel
 have z:sizeLine=16777216:=rfl;dsimp only at a b;refine cq ?_;show Rn (c8 [.tup [.str w,cp t]] h) _;refine bF ?_;nofun;refine Ei (oD ?_);nofun;refine rv (sW (by lia)) ⟨_,rfl,by rw[sY];lia,oD ?_⟩;rw[sY];nofun;refine⟨_,rfl,by rw[Im];lia,oD ?_⟩;nofun;refine rv (dj ht) ?_;nofun;refine rv (sW (by lia)) ⟨_,rfl,by rw[Im,Im];lia,?_⟩;refine⟨_,rfl,by show _<=_;rw[Im,Im];lia,?_⟩;rfl
noncomputable def uU:Row->List Str
 | .say w=>[w]
 | .call d ts=>d::ts.map cw
 | .within l _=>[c5 l]
 | .all ls _=>ls.map c5
 | .ask l _ _=>[c5 l]
 | .l6 s t _ _ _=>[cw s,cw t]
 | .either _ _=>[]
 | .again _=>[]
theorem rq(r:Row):Str.join (Str.ofString " ") (c9 r::uU r)=eB r:=by
 cases r with
 | say w=>show Str.ofString "say"++Str.ofString " "++w=Str.ofString "say "++w;rw[show Str.ofString "say"++Str.ofString " "=Str.ofString "say " by decide+kernel]
 | l6 s t a b c=>
  show Str.ofString "by"++Str.ofString " "++(cw s++Str.ofString " "++cw t)=Str.ofString "by "++cw s++Str.ofString " "++cw t;rw[show Str.ofString "by"++Str.ofString " "=Str.ofString "by " by decide+kernel,jH,jH,jH]
 | _=>rfl
noncomputable def m7:Row->List Lock
 | .within l _=>[l]
 | .all ls _=>ls
 | .ask l _ _=>[l]
 | _=>[]
theorem mK(r:Row)(h:MH):dX [aP r] h=some (.tup ((m7 r).map bI),h):=by
 refine cq ?_;refine bF ?_;cases r with
 | all _ _=>rw[aP];nofun;refine⟨true,by ac_nf,tt ?_⟩;nofun;rfl
 | within _ _=>rw[aP];nofun;refine⟨false,by ac_nf,ff ?_⟩;nofun;refine rv (a:=(.bl true,h)) (by ac_nf) ⟨true,rfl,tt ?_⟩;nofun;rfl
 | ask _ _ _=>rw[aP];nofun;refine⟨false,by ac_nf,ff ?_⟩;nofun;refine rv (a:=(.bl true,h)) (by ac_nf) ⟨true,rfl,tt ?_⟩;nofun;rfl
 | _=>rw[aP];nofun;refine⟨false,by ac_nf,ff ?_⟩;nofun;refine rv (a:=(.bl false,h)) (by ac_nf) ⟨false,rfl,ff ?_⟩;nofun;rfl
noncomputable def EL:Row->Bool
 | .say _=>true
 | .call _ _=>true
 | .l6 _ _ _ _ _=>true
 | _=>false
theorem eg(r:Row)(h:MH):bt (aP r) (.int 0) h=some (.str (c9 r),h):=m6 r h
theorem uT{r:Row}{h:MH}(hr:x6 r):bY [aP r] h=some (.lv ((uU r).map D.str),h):=by
 have oth:EL r=false->(∀l∈m7 r,tU l)->uU r=(m7 r).map c5->(m7 r).length<=4->bY [aP r] h=some (.lv ((uU r).map D.str),h):=λz hk ew h4=>by
  refine cq ?_;refine bF ?_;have t1:bZ (.str (c9 r)) (.str "say") h=some (.bl false,h):=by cases r <;> first |(cases z;done) | ac_nf
  have t2:bZ (.str (c9 r)) (.str "call") h=some (.bl false,h):=by cases r <;> first |(cases z;done) | ac_nf
  have t3:bZ (.str (c9 r)) (.str "by") h=some (.bl false,h):=by cases r <;> first |(cases z;done) | ac_nf
  walk_at "g";refine rv (eg _ _) ?_;walk_at "g";refine rv t1 ⟨false,rfl,ff ?_⟩;walk_at "g";refine rv (eg _ _) ?_;walk_at "g";refine rv t2 ⟨false,rfl,ff ?_⟩;walk_at "g";refine rv (eg _ _) ?_;walk_at "g";refine rv t3 ⟨false,rfl,ff ?_⟩;refine kZ (il (jN (mE (rv (a:=((m7 r).map λl=>.str (c5 l),h)) ?_ ?_))))
  ·exact g7 (t:=[]) (o:=none) bI (λl=>.str (c5 l)) (d:=.tup ((m7 r).map bI)) (by show dX [aP r] h=_;exact mK r h) rfl rfl (by lia) λl hl=>oo (hk l hl)
  ·refine yC ?_;rw[ew,Jd];rfl
 cases r with
 | within l b=>exact oth rfl (λx hx=>by rw[Ia.mp hx];exact hr) rfl (by show 1<=4;decide)
 | all ls b=>exact oth rfl hr.2.1 rfl hr.1
 | ask l a b=>exact oth rfl (λx hx=>by rw[Ia.mp hx];exact hr) rfl (by show 1<=4;decide)
 | either a b=>exact oth rfl (λx hx=>(nomatch hx)) rfl (Jq _)
 | again a=>exact oth rfl (λx hx=>(nomatch hx)) rfl (Jq _)
 | say w=>
  refine cq (bF ?_);rw[aP];nofun;refine⟨true,by ac_nf,tt ?_⟩;nofun;rfl
 | l6 s t a b c=>
  refine cq (bF ?_);rw[aP];nofun;refine⟨false,by ac_nf,ff ?_⟩;nofun;refine⟨false,by ac_nf,ff ?_⟩;nofun;refine⟨true,by ac_nf,tt ?_⟩;nofun;refine rv (dj hr.1) ?_;nofun;refine rv (dj hr.2) ?_;nofun;rfl
 | call d ts=>
  have hl:=hr.2.1;have e1:cE [none] (fU (ai bt v0 (ki 2))) (gN 0) dh (az bC (a1 v0)) (entry 1 [.tup [.str "call",.str d,.tup (ts.map cp)]]) h=some (ts.map λt=>.str (cw t),h):=
   g7 (t:=[]) (o:=none) cp (λt=>.str (cw t)) (d:=.tup (ts.map cp)) rfl rfl rfl (by lia) λt ht=>dj (hr.2.2 t ht)
  refine cq (bF ?_);rw[aP];nofun;refine⟨false,by ac_nf,ff ?_⟩;nofun;refine⟨true,by ac_nf,tt ?_⟩;refine jN (pV (mE (rv (a:=([.str d],h)) (by ac_nf) (mE (rv e1 ?_)))));refine rv (a:=(.lv ((d::ts.map cw).map D.str),h)) ?_ (DM (yC rfl));rw[HX,Jd];simp only[ar,oZ,cZ,Jc,HH,HP,Jg];rw[HQ (by rw[show sizeLine=16777216 from rfl];lia)];rfl
noncomputable def sg(g:List Row->List Str)(L:Nat):Nat->List (List Row)->List Str
 | _,[]=>[]
 | k,a::r=>g a++((if k=L then Str.ofString "end" else Str.ofString "or")::sg g L (k+1) r)
theorem vo(g:List Row->List Str)(L:Nat)(a:List Row):∀(k:Nat)(x:List (List Row)),sg g L k (x++[a])=sg g L k x++(g a++[if k+x.length=L then Str.ofString "end" else Str.ofString "or"])
 | k,[]=>by simp[sg]
 | k,y::x=>by
  rw[Jk,sg,sg,vo g L a (k+1) x,HP,show k+1+x.length=k+(x.length+1) by lia];simp
theorem vn{g:List Row->List Str}{m L:Nat}:∀(k:Nat)(x:List (List Row)),(∀a∈x,(g a).length<=m)->(sg g L k x).length<=x.length*(m+1)
 | k,[],_=>by simp[sg]
 | k,a::x,h=>by
  have h1:=h a HY;have h2:=vn (L:=L) (k+1) x λb hb=>h b (Ib _ hb);rw[sg,HL,HP,HP,Nat.succ_mul]
  lia
noncomputable def xW(g:List Row->List Str)(r:Row):List Str:=eB r::sg g (ab r).length 1 (ab r)
noncomputable def tL:Nat->List Row->List Str
 | 0,_=>[]
 | f+1,l=>l.flatMap (xW (tL f))
theorem zc{gl:Nat->List Row->List Ln}{g:List Row->List Str}(hg:∀k a,(gl k a).map (·.2)=g a)(n k:Nat)(r:Row):(bV gl n 0 k (ab r)++(if ab r=[] then[] else[xg n])).map (·.2)=sg g (ab r).length 1 (ab r):=by
 cases r <;> simp[ab,bV,sg,hg,Ag,xg]
theorem uZ:∀(f k:Nat)(l:List Row),(pJ f k l).map (·.2)=tL f l
 | 0,_,_=>rfl
 | f+1,k,l=>by
  show(bU (pJ f) k l).map (·.2)=l.flatMap (xW (tL f))
  induction l generalizing k with
  | nil=>rfl
  | cons r l ih=>
   rw[bU,Ic,ih,Kj];congr 1;unfold lx xW;rw[HX,zc (uZ f)]
theorem qK(f:Nat)(l:List Row):(tL f l).length<=5*ak l:=by
 have:=eA f 0 l;rw[<-HH (f:=(·.2)),uZ] at this;exact this
theorem wF{H g:MH}{xs:List D}{m:Nat}(hm:H.length<=m)(e:(H++g)[m]?=some (.lst xs))(h2:fY H.length (.lv xs)=true):leave H (.ob m) (H++g)=some (.lv xs,H):=by
 have h3:mh H.length (H++g) (.ob m)=.lv xs:=by
  unfold mh;dsimp only;rw[HS (Nat.not_lt.mpr hm),e]
 unfold leave;rw[h3,Jv (HN _),I9,h2,nV];rfl
theorem Ax{r:Row}(hr:x6 r):(∀x∈c9 r::uU r,x.length<=1000)/\(uU r).length<=4:=by
 have hs:(c9 r).length<=1000:=by cases r <;> (show(Str.ofString _).length<=1000;decide+kernel)
 have go:(∀x∈uU r,x.length<=1000)/\(uU r).length<=4->(∀x∈c9 r::uU r,x.length<=1000)/\(uU r).length<=4:=λh=>⟨λx hx=>(HR.mp hx).elim (λz=>z ▸ hs) (h.1 x),h.2⟩;have tm:∀{t:Term},xI t->(cw t).length<=1000:=λh=>Ie (cV h).1 (by decide);have lk:∀{l:Lock},tU l->(c5 l).length<=1000:=λh=>Ie (dP h).1 (by decide);refine go ?_;cases r with
 | say w=>exact⟨λx hx=>by rw[Ia.mp hx];exact Ie hr.1 (by decide),by show 1<=4;decide⟩
 | call d ts=>
  refine⟨λx hx=>(HR.mp hx).elim (λz=>by rw[z];exact Ie hr.1.1 (by decide)) λz=>?_,by show(ts.map cw).length+1<=4;rw[HH];have:=hr.2.1;lia⟩;obtain⟨t,ht,rfl⟩:=Ja.mp z;exact tm (hr.2.2 t ht)
 | within l b=>exact⟨λx hx=>by rw[Ia.mp hx];exact lk hr,by show 1<=4;decide⟩
 | ask l a b=>exact⟨λx hx=>by rw[Ia.mp hx];exact lk hr,by show 1<=4;decide⟩
 | all ls b=>
  refine⟨λx hx=>?_,by show(ls.map c5).length<=4;rw[HH];exact hr.1⟩;obtain⟨l,hl,rfl⟩:=Ja.mp hx;exact lk (hr.2.1 l hl)
 | l6 s t a b c=>exact⟨λx hx=>(HR.mp hx).elim (λz=>by rw[z];exact tm hr.1) λz=>by rw[Ia.mp z];exact tm hr.2,by show 2<=4;decide⟩
 | either a b=>exact⟨λx hx=>(nomatch hx),Jq _⟩
 | again a=>exact⟨λx hx=>(nomatch hx),Jq _⟩
theorem xc{α:Type}{f:α->D}{xs:List α}{i k:Nat}{x:D}(h:(fj k (xs.map f))[i]?=some x):∃a,xs[i]?=some a/\x=.tup [.int ((k+i:Nat):Int),f a]:=by
 rw[fi,Io] at h;cases e:xs[i]? with
 | none=>rw[e] at h;cases h
 | some a=>rw[e] at h;cases h;exact⟨a,rfl,rfl⟩
theorem jE{xs ys:List Str}{h:MH}(hl:xs.length+ys.length<=1000000):ar (.lv (xs.map D.str)) (.lv (ys.map D.str)) h=some (.lv ((xs++ys).map D.str),h):=by
 rw[Ic];exact i7 rfl (by rw[HH,HH];exact hl)
theorem oQ{a:List Row}:∀{x:List (List Row)},a∈x->ak a<=(x.map ak).sum
 | y::x,h=>by
  rw[HX,JK];rcases HR.mp h with rfl | h
  ·lia
  ·have:=oQ h;lia
theorem vJ{k:Nat}{m:AM}{δ:DS}{h:MH}{Q:List D×List (Nat×MO)×MH->Prop}(r:Rn (m δ h) λp=>∃d xs ws,p.1=[d]/\bM d p.2=some (xs,ws)/\Q (fj k xs,ws,p.2)):Rn (rn k m δ h) Q:=av (r.imp λp ⟨d,xs,ws,e1,e2,q⟩=>⟨_,by rw[e1];dsimp only;rw[e2];rfl,q⟩)
theorem jU:∀(f:Nat)(l:List Row)(h:MH),bb l<=f->uN f l->ak l<=1000->cn f [.tup (bH l)] h=some (.lv ((tL f l).map D.str),h)
 | 0,l,h,hn,_,_=>by
  exfalso;cases l with
  | nil=>rw[bb] at hn;lia
  | cons r rs=>rw[bb] at hn;lia
 | f+1,l,h,hn,hs,hk=>by
  refine cq ?_;unfold cn;refine jO ?_;nofun;refine k3 ?_;nofun;refine⟨_,_,rfl,?_⟩;rw[fe];refine cQ (λi δ h'=>h'=h++[.lst ((tL (f+1) (l.take i)).map D.str)]/\∃(o2 o3 o4 o5:Option D),δ=[some (.tup (l.map aP)),some (.ob h.length),o2,o3,o4,o5]) ⟨rfl,_,_,_,_,rfl⟩ (λ_ _ _ _ _=>rfl) ?_ ?_
  ·rintro i x δ h' hx ⟨rfl,o2,o3,o4,o5,rfl⟩;rw[Io] at hx;obtain⟨r,er,rfl⟩:=Ij.mp hx;obtain⟨hsr,hsl⟩:=hs r (HM er);obtain⟨hc1,ht1⟩:=nO er;have hcl:=jb l (i+1);have hcr:=lO r;have hnr:=ny (HM er);have eX:tL (f+1) (l.take (i+1))=tL (f+1) (l.take i)++xW (tL f) r:=by
    rw[ht1];show(l.take i++[r]).flatMap _=_;rw[KI,Kj,List.flatMap_nil,Jh];rfl
   rw[eX];have hXl:(tL (f+1) (l.take i)).length<=5000:=by have:=qK (f+1) (l.take i);lia
   generalize tL (f+1) (l.take i)=X at hXl;nofun;refine dm ?_;nofun;refine⟨bJ (bR rfl),?_⟩;nofun;refine dm ?_;nofun;refine⟨rfl,?_⟩;nofun;refine rv (eg r _) ?_;nofun;refine rv (uT hsr) ?_;obtain⟨w1,w2⟩:=Ax hsr;refine rv (jE (xs:=[c9 r]) (by rw[Jm];lia)) ?_;nofun;refine rv (dz (xs:=c9 r::uU r) (ws:=[]) w1 (by rw[HP];lia) rfl) ?_;rw[rq];nofun;refine rv (ba (bR rfl) (by rw[HH,show sizeLine=16777216 from rfl];lia)) ?_;rw[iR rfl];nofun;refine rv (oP r _) ?_;nofun;refine vJ ?_;nofun;refine⟨_,_,_,rfl,rfl,?_⟩;have hg:∀a∈ab r,(tL f a).length<=5000:=λa ha=>by
    have h1:=qK f a;have h2:=oQ ha
    lia
   refine cQ (λj δ h'=>h'=h++[.lst ((X++eB r::sg (tL f) (ab r).length 1 ((ab r).take j)).map D.str)]/\∃(o4 o5:Option D),δ=[some (.tup (l.map aP)),some (.ob h.length),some (aP r),some (.tup ((ab r).map wA)),o4,o5])
    ⟨by rw[Ic];rfl,_,_,rfl⟩ (λ_ _ _ _ _=>rfl) ?_ ?_
   ·rintro j y δ h' hy ⟨rfl,o4',o5',rfl⟩;obtain⟨t,et,rfl⟩:=xc hy;have htm:=HM et;have hjl:=(HJ.mp et).1;have h3:=sN r;have ht2:(ab r).take (j+1)=(ab r).take j++[t]:=by rw[JR,et];rfl
    have hlt:((ab r).take j).length=j:=by rw[Ih];lia
    have hsl2:=vn (g:=tL f) (m:=5000) (L:=(ab r).length) 1 ((ab r).take j) λa ha=>hg a (KA ha);have hct:ak t<=1000:=by have:=oQ htm;lia
    have ih:=λH=>jU f t H (by have:=nv htm;lia) (hsl t htm) hct;have hgt:=hg t htm;rw[ht2,vo,hlt];rw[hlt] at hsl2;generalize sg (tL f) (ab r).length 1 ((ab r).take j)=Y at hsl2;have hZ:(X++eB r::Y).length<=30000:=by rw[HL,HP];have:=Nat.mul_le_mul_right 5001 (show j<=3 by lia);lia
    have eZ:X++eB r::(Y++(tL f t++[if 1+j=(ab r).length then Str.ofString "end" else Str.ofString "or"]))=(X++eB r::Y)++(tL f t++[if 1+j=(ab r).length then Str.ofString "end" else Str.ofString "or"]):=by rw[IQ,Jk]
    rw[eZ];generalize X++eB r::Y=Z at hZ;nofun;refine dm ?_;nofun;refine⟨bJ (bR rfl),?_⟩;nofun;refine rv (ih _) ?_;nofun;refine rv (lr (bR rfl) (by rw[HH,HH];lia)) ?_;rw[iR rfl,<-Ic];nofun;refine dm ?_;nofun;refine⟨bJ (bR rfl),?_⟩;nofun;have fin:∀q:Str,q=(if 1+j=(ab r).length then Str.ofString "end" else Str.ofString "or")->h++[MO.lst ((Z++tL f t).map D.str++[.str q])]=h++[MO.lst ((Z++(tL f t++[if 1+j=(ab r).length then Str.ofString "end" else Str.ofString "or"])).map D.str)]:=λq e=>by rw[e,<-IQ,Ic (l₂:=[_])];rfl
    have hlz:((Z++tL f t).map D.str).length < sizeLine:=by rw[HH,HL,show sizeLine=16777216 from rfl];lia
    refine⟨_,rfl,λc=>?_,λc=>?_⟩
    ·have c':1+j=(ab r).length:=by have:=eq_of_beq c;rw[HH] at this;lia
     nofun;refine rv (ba (bR rfl) hlz) ?_;rw[iR rfl];nofun;exact⟨fin _ (by rw[HQ c']),_,_,rfl⟩
    ·have c':¬1+j=(ab r).length:=λe=>by rw[HH,<-e,IU] at c;cases c
     nofun;refine rv (ba (bR rfl) hlz) ?_;rw[iR rfl];nofun;exact⟨fin _ (by rw[HS c']),_,_,rfl⟩
   ·rintro δ h' ⟨rfl,o4',o5',rfl⟩;rw[cB,HH,I9];exact⟨rfl,_,_,_,_,rfl⟩
  ·rintro δ h' ⟨rfl,o2,o3,o4,o5,rfl⟩;rw[HH,I9];nofun;refine rv (wF (HN _) (bR rfl) ?_) rfl;show dA _ _=true;exact dR _ _
end Mi
namespace Pg
open PySem Sm L2
section
variable {fl:List Int} {odd:Int} {ps:List Str}
end
theorem Ez(n:Nat):Sh 1000 (Ag n).2:=show Sh 1000 (Str.ofString "or") from⟨by decide+kernel,by decide+kernel⟩
theorem xf:Sh 1000 (Str.ofString "end"):=⟨by decide+kernel,by decide+kernel⟩
theorem sM{g:Nat->List Row->List Ln}(n:Nat):∀(x:List (List Row)) (j k:Nat),(∀k,∀t∈x,∀y∈g k t,Sh 1000 y.2)->∀y∈bV g n j k x,Sh 1000 y.2
 | [],j,k,_,y,hy=>(nomatch hy)
 | t::x,j,k,h,y,hy=>by
  rw[bV] at hy;rcases Il.mp hy with z | z
  ·rcases Il.mp z with z | z
   ·split at z
    ·cases z
    ·rw[Ia.mp z];exact Ez n
   ·exact h k t (.head _) y z
  ·exact sM n x (j+1) (k+ak t) (λk u hu=>h k u (.tail _ hu)) y z
theorem sr{g:Nat->List Row->List Ln}:∀(l:List Row)(k:Nat),(∀r∈l,x6 r/\∀k,∀t∈ab r,∀y∈g k t,Sh 1000 y.2)->∀y∈bU g k l,Sh 1000 y.2
 | [],k,_,y,hy=>(nomatch hy)
 | r::rs,k,h,y,hy=>by
  rw[bU] at hy;rcases Il.mp hy with z | z
  ·rw[lx] at z;rcases HR.mp z with rfl | z
   ·exact(wN (h r (.head _)).1).up (by decide)
   ·rcases Il.mp z with z | z
    ·exact sM k (ab r) 0 (k+1) (h r (.head _)).2 y z
    ·split at z
     ·cases z
     ·rw[Ia.mp z];exact xf
  ·exact sr rs (k+cnt r) (λr hr=>h r (.tail _ hr)) y z
theorem qb:∀(f:Nat)(l:List Row)(k:Nat),uN f l->∀x∈pJ f k l,Sh 1000 x.2
 | 0,l,k,_,x,hx=>(nomatch hx)
 | f+1,l,k,hs,x,hx=>sr l k (λr hr=>⟨(hs r hr).1,λk t ht=>qb f t k ((hs r hr).2 t ht)⟩) x hx
theorem qp:∀(ds:List hW)(k:Nat),(∀d∈ds,Sh 8 d.1/\d.2.1.length<=3/\(∀x∈d.2.1,Sh 8 x)/\uN 8 d.2.2)->∀x∈bA 8 k ds,Sh 1000 x.2
 | [],k,_,x,hx=>(nomatch hx)
 | d::ds,k,h,x,hx=>by
  obtain⟨a,b,c,e⟩:=h d (.head _);rw[bA] at hx;rcases HR.mp hx with rfl | hx
  ·exact(rH a b c).up (by decide)
  ·rcases Il.mp hx with z | z
   ·exact qb 8 d.2.2 k e x z
   ·rcases HR.mp z with rfl | z
    ·exact xf
    ·exact qp ds (k+ak d.2.2) (λd hd=>h d (.tail _ hd)) x z
end Pg
namespace Mi
open PySem Sm L2 Pg
end Mi
namespace Mi
open PySem Sm L2 Pg Builtin.Str
noncomputable def uQ(d:hW):List Str:=fW d::(tL 8 d.2.2++[Str.ofString "end"])
noncomputable def xJ(P:Prog):List Str:=Str.join (Str.ofString " ") (Str.ofString "locks"::P.names)::P.aN.flatMap uQ
theorem qo:∀(k:Nat)(ds:List hW),(bA 8 k ds).map (·.2)=ds.flatMap uQ
 | _,[]=>rfl
 | k,d::ds=>by
  rw[bA,HX,Ic,HX,uZ,qo _ ds,Kj];unfold uQ t8;simp
theorem qY(P:Prog):(EG P).map (·.2)=xJ P:=by
 unfold EG xJ;rw[HX,qo];rfl
theorem wj{P:Prog}(hP:FT P):(∀x∈xJ P,x.length<=1000)/\(xJ P).length<=5000:=by
 have h1:=qp P.aN 0 hP.dd;have hl:=gH 8 0 P.aN;have hc:=hP.ct;have hd:=hP.dl;have e:=qY P;unfold EG at e;refine⟨λx hx=>?_,?_⟩
 ·rw[<-e] at hx;obtain⟨y,hy,rfl⟩:=Ja.mp hx;rcases HR.mp hy with rfl | hy
  ·have:Sh ((8+1)*(Str.ofString "locks"::P.names).length) (Str.join (Str.ofString " ") (Str.ofString "locks"::P.names)):=Sh.join dU λz hz=>(HR.mp hz).elim (λq=>by rw[q];exact⟨by decide+kernel,by decide+kernel⟩) (hP.nm z);have h2:=this.1;have h3:=hP.nl;rw[HP] at h2;show(Str.join _ _).length<=1000
   lia
  ·exact(h1 y hy).1
 ·rw[<-e,HH,HP];unfold iH at hl
  lia
theorem j5{P:Prog}{h:MH}(hP:FT P):cG [k4 P] h=some (.str (Str.join (Str.ofString "\n") (xJ P)),h):=by
 have hnl:=hP.nl;have hdl:=hP.dl;refine cq ?_;refine jO ?_;unfold k4;nofun;refine dm ?_;nofun;refine⟨rfl,?_⟩;nofun;refine rv (gZ (xs:=[.str "locks"]) (by rw[HH];simp;lia)) ?_;nofun;refine rv (dz (xs:=Str.ofString "locks"::P.names) (ws:=[]) (λx hx=>(HR.mp hx).elim (λq=>by rw[q];decide+kernel) λq=>Ie (hP.nm x q).1 (by decide)) (by rw[HP];lia) rfl) ?_;nofun;refine k3 ?_;nofun;refine⟨_,_,rfl,?_⟩;obtain⟨sh,ln⟩:=wj hP;unfold xJ at sh ln ⊢;generalize Str.join (Str.ofString " ") (Str.ofString "locks"::P.names)=L0 at sh ln ⊢;refine cQ (λi δ h'=>h'=h++[.lst ((L0::(P.aN.take i).flatMap uQ).map D.str)]/\∃(o4 o5 o6:Option D),δ=[some (.tup [.tup (P.names.map D.str),.tup (P.aN.map gK)]),some (.tup (P.names.map D.str)),some (.tup (P.aN.map gK)),some (.ob h.length),o4,o5,o6]) ⟨rfl,_,_,_,rfl⟩ (λ_ _ _ _ _=>rfl) ?_ ?_
 ·rintro i x δ h' hx ⟨rfl,o4,o5,o6,rfl⟩;rw[Io] at hx;obtain⟨d,ed,rfl⟩:=Ij.mp hx;have hdm:=HM ed;obtain⟨d1,d2,d3,d4⟩:=hP.dd d hdm;have et:P.aN.take (i+1)=P.aN.take i++[d]:=by rw[JR,ed];rfl
  have hpre:(L0::(P.aN.take i).flatMap uQ).length<=5000:=by
   have:=congrArg (λz=>(z.flatMap uQ).length) (JX i P.aN);simp only[KI,HL] at this;rw[HP] at ln ⊢
   lia
  have htl:=qK 8 d.2.2;have hcd:=r8 hdm;have hct:=hP.ct;rw[et,KI,Kj,List.flatMap_nil,Jh];have eZ:L0::((P.aN.take i).flatMap uQ++uQ d)=(L0::(P.aN.take i).flatMap uQ)++uQ d:=rfl;rw[eZ];generalize L0::(P.aN.take i).flatMap uQ=Z at hpre;unfold gK;nofun;refine dm ?_;nofun;refine⟨bJ (bR rfl),?_⟩;nofun;refine dm ?_;nofun;refine⟨rfl,?_⟩;nofun;refine rv (gZ (xs:=[.str "deed",.str d.1]) (by rw[HH];simp;lia)) ?_;nofun;refine rv (dz (xs:=Str.ofString "deed"::d.1::d.2.1) (ws:=[]) (λx hx=>(HR.mp hx).elim (λq=>by rw[q];decide+kernel) λq=>(HR.mp q).elim (λq=>by rw[q];exact Ie d1.1 (by decide)) λq=>Ie (d3 x q).1 (by decide)) (by rw[HP,HP];lia) rfl) ?_;nofun;refine rv (ba (bR rfl) (by rw[HH,show sizeLine=16777216 from rfl];lia)) ?_;rw[iR rfl];nofun;refine dm ?_;nofun;refine⟨bJ (bR rfl),?_⟩;nofun;refine rv (jU 8 d.2.2 _ (Ie (hP.fit.nd d hdm) (by decide)) d4 (by lia)) ?_;nofun;refine rv (lr (bR rfl) (by rw[HL,HH,HH];simp;lia)) ?_;rw[iR rfl];nofun;refine dm ?_;nofun;refine⟨bJ (bR rfl),?_⟩;nofun;refine rv (ba (bR rfl) (by rw[HL,HL,HH,HH,show sizeLine=16777216 from rfl];simp;lia)) ?_;rw[iR rfl];nofun;refine⟨?_,_,_,_,rfl⟩;unfold uQ fW;simp
 ·rintro δ h' ⟨rfl,o4,o5,o6,rfl⟩;rw[HH,I9];nofun;refine dm ?_;nofun;refine⟨rfl,?_⟩;nofun;refine rv (lj (km (bR rfl)) ?_) ?_
  ·have:=iP sh;have c:(Str.ofString "\n").length=1:=by decide+kernel
   rw[c]
   lia
  ·nofun;exact⟨_,jC (λn z=>(nomatch z)) rfl,rfl⟩
theorem zo{h:MH}{n:Nat}{ws:List Str}{w:Str}(e:h[n]?=some (.lst (ws.map D.str))):∃b,DA (.str w) (.ob n) h=some (.bl b,h):=by
 have hdc:de (.ob n) h=none:=by unfold de;dsimp only;rw[e]
 have p1:∀ws:List Str,nj (ws.map D.str)=some (ws.map PyData.str):=λws=>by
  induction ws with
  | nil=>rfl
  | cons x ws ih=>rw[HX];show(sC (.str x)).bind (λa=>(nj (ws.map D.str)).map λb=>a::b)=_;rw[ih];rfl
 have p2:∀ws:List Str,PyData.depthAll (ws.map PyData.str)=0:=λws=>by
  induction ws with
  | nil=>rfl
  | cons x ws ih=>rw[HX,PyData.depthAll,ih];rfl
 refine⟨(ws.map PyData.str).any λb=>PyData.eqv b (.str w),?_⟩;unfold DA inD;rw[hdc];show((bM (.ob n) h).bind λp=>(z8 h (.str w)).bind λa=>(nj p.1).bind λbs=>if a.depth<=60/\PyData.depthAll bs<=60 then some (bs.any λb=>PyData.eqv b a) else none).map _=_;rw[km e];show((nj (ws.map D.str)).bind λbs=>if(PyData.str w).depth<=60/\PyData.depthAll bs<=60 then some (bs.any λb=>PyData.eqv b (.str w)) else none).map _=_;rw[p1];dsimp only[Option.bind_some];rw[p2,HQ ⟨by simp[PyData.depth],Jq _⟩];rfl
theorem Cj:∀v∈[97,98,99,100,101,102,103,104,105,106,107,108,109,117,118,119,120,121,122],∀n∈[0,1,2,3,4,5,6,7],(Txt.mul ⟨#[v]⟩ (1+((n:Nat):Int))).length<=8/\PyData.strOk (Txt.mul ⟨#[v]⟩ (1+((n:Nat):Int)))=true:=by decide+kernel
theorem wz{v:Nat}{r:Int}{h:MH}(hv:v∈[97,98,99,100,101,102,103,104,105,106,107,108,109,117,118,119,120,121,122])(r0:0<=r)(r1:r < 8):∃x,Sh 8 x/\fh (.str ⟨#[v]⟩) (.int (1+r)) h=some (.str x,h):=by
 obtain⟨n,rfl⟩:=IX r0;have hn:n∈[0,1,2,3,4,5,6,7]:=by
  have:∀n < 8,n∈[0,1,2,3,4,5,6,7]:=by decide
  exact this n (by lia)
 obtain⟨a,b⟩:=Cj v hv n hn;refine⟨_,⟨a,b⟩,?_⟩;show(if(⟨#[v]⟩:Str).length<=1000/\0<=(1+(n:Int))/\(1+(n:Int))<=1000/\PyData.strOk (Txt.mul ⟨#[v]⟩ (1+(n:Int)))=true then some (D.str (Txt.mul ⟨#[v]⟩ (1+(n:Int))),h) else none)=_;rw[HQ ⟨by show 1<=1000;decide,by lia,by lia,b⟩]
section
variable {h h0:MH} {s c R:Nat} {cs:List Int} {Q:D×MH->Prop}
theorem E7(A:Sb s c cs h0 (R+1) h)(k:∀(v:Nat)(h1:MH),v∈[97,98,99,100,101,102,103,104,105,106,107,108,109,117,118,119,120,121,122]->Sb s c cs h0 R h1->Q (.str ⟨#[v]⟩,h1)):Rn (bo [.ob s,.str "abcdefghijklm"] h) Q:=by
 refine bF ?_;walk_at "g";refine rv (a:=(.int 13,h)) (by ac_nf) ?_;walk_at "g";refine dS A (by decide) (by decide) λr h' r0 r1 A1=>?_;have:∀n < 13,∃v∈[97,98,99,100,101,102,103,104,105,106,107,108,109,117,118,119,120,121,122],gb (Str.ofString "abcdefghijklm").cps.toList ((n:Nat):Int)=some v:=by decide+kernel
 obtain⟨n,rfl⟩:=IX r0;obtain⟨v,hv,ev⟩:=this n (by lia);refine rv (a:=(.str ⟨#[v]⟩,h')) (by show(if(Str.ofString "abcdefghijklm").length<=sizeLine then(gb (Str.ofString "abcdefghijklm").cps.toList (n:Int)).map λc=>(D.str ⟨#[c]⟩,h') else none)=_;rw[HQ (by decide+kernel),ev];rfl) ?_;walk_at "g";exact k v h' hv A1
theorem jd{ps:List Str}(A:Sb s c cs h0 (R+3) h)(hp:ps.length<=3)(hs:∀x∈ps,Sh 8 x)(k:∀(t:Term)(h1:MH),xI t->Sb s c cs h0 R h1->Q (cp t,h1)):Rn (aL [.ob s,.tup (ps.map D.str)] h) Q:=by
 refine bF ?_;nofun;refine rv (a:=(.tup ((Str.ofString ""::ps).map D.str),h)) (gZ (xs:=[.str ""]) (by rw[HH];simp;lia)) ?_;nofun;refine uG (R:=R+2) A (.inr rfl) (by simp) (by rw[HH,HP];lia) λx h1 hx A1=>?_;obtain⟨w,hw,rfl⟩:=Ja.mp hx;have hw8:Sh 8 w:=(HR.mp hw).elim (λq=>by rw[q];exact⟨by decide+kernel,by decide+kernel⟩) (hs w);nofun;refine dS (R:=R+1) A1 (by decide) (by decide) λr h2 r0 r1 A2=>?_;nofun;refine An (R:=R) (is:=[0,1,-1,99,-99,r-99]) (λi=>-99<=i/\i<=99) (λi hi=>by simp at hi;lia) A2 λi h3 hi _ A3=>?_;nofun;exact k (w,i) h3 ⟨hw8,hi⟩ A3
theorem lT{m:Nat}(A:Sb s c cs h0 (R+30) h)(C:Cl h)(hm:m<=6)(k:∀(ws:List Str)(h1:MH),ws.length=m->(∀x∈ws,Sh 8 x)->Sb s c cs h0 R h1->Cl h1->Q (.lv (ws.map D.str),h1)):Rn (bO [.ob s,.int m] h) Q:=by
 obtain⟨hs,hcl⟩:=A.S.lt;refine jO ?_;nofun;refine iB ?_;nofun;refine⟨(m:Int),rfl,by lia,by lia,?_⟩;refine cQ (λi δ h'=>∃(ws:List Str)(v4 v5:Option D)(hb:MH),δ=[some (.ob s),some (.int m),some (.lv ([Str.ofString "end",Str.ofString "or",Str.ofString "say",Str.ofString "locks",Str.ofString "deed",Str.ofString "call",Str.ofString "within",Str.ofString "ask",Str.ofString "all",Str.ofString "by",Str.ofString "either",Str.ofString "again"].map D.str)),some (.ob h.length),v4,v5]/\h'=hb++[.lst (ws.map D.str)]/\ws.length=i/\(∀x∈ws,Sh 8 x)/\Sb s c cs h (R+(30-5*i)) hb)
  ⟨[],_,_,h,rfl,rfl,rfl,λ_ z=>(nomatch z),A.S.sb⟩ (λ_ _ _ _ _=>rfl) ?_ ?_
 ·rintro i x δ h' hx ⟨ws,v4,v5,hb,rfl,rfl,hl,tk,B⟩;obtain⟨i',ei,rfl⟩:=Ij.mp (by rw[<-Io];exact hx);have hi:i < m:=by
   have:=(HJ.mp hx).1;rw[HH,IP] at this
   lia
  rw[Je,LQ hi] at ei;cases ei;have hbs:s < hb.length:=by rw[B.b.1];exact hs
  have hbc:c < hb.length:=by rw[B.b.1];exact hcl
  nofun;refine E7 (R:=R+(29-5*i)) ((B.S.more [.lst (ws.map D.str)]).le (by lia)).sb λv h1 hv A1=>?_;nofun;refine dS (R:=R+(28-5*i)) (A1.le (by lia)) (by decide) (by decide) λr h2 r0 r1 A2=>?_;nofun;obtain⟨w,hw,ew⟩:=wz (h:=h2) hv r0 r1;refine rv ew ?_;nofun;refine rv (a:=(.lv ((List.replicate 12 w).map D.str),h2)) (by ac_nf) ?_;nofun;refine rv (jE (by simp)) ?_;nofun;refine uG (R:=R+(27-5*i)) (A2.le (by lia)) (.inl rfl) (by simp) (by simp) λx h3 hx3 A3=>?_;obtain⟨w',hw',rfl⟩:=Ja.mp hx3;have w8:Sh 8 w':=by
   rcases Il.mp hw' with z | z
   ·have:∀x∈[Str.ofString "end",Str.ofString "or",Str.ofString "say",Str.ofString "locks",Str.ofString "deed",Str.ofString "call",Str.ofString "within",Str.ofString "ask",Str.ofString "all",Str.ofString "by",Str.ofString "either",Str.ofString "again"],x.length<=8/\PyData.strOk x=true:=by decide+kernel
    exact this w' z
   ·rw[List.eq_of_mem_replicate z];exact hw
  obtain⟨hb3,rfl,b3⟩:=A3.b.app hbs;have hl3:hb3.length=h.length:=b3.1.trans B.b.1;have S3:=A3.S.cut (by rw[b3.1];exact hbs) (by rw[b3.1];exact hbc);obtain⟨b,eb⟩:=zo (w:=w') (bR (a:=.lst (ws.map D.str)) hl3);have wl:(ws.map D.str).length < sizeLine:=by rw[HH,show sizeLine=16777216 from rfl];lia
  have ok:∀q:Str,Sh 8 q->∀x∈ws++[q],Sh 8 x:=λq hq x hx=>(Il.mp hx).elim (tk x) λz=>by rw[Ia.mp z];exact hq
  nofun;refine rv eb ⟨b,rfl,λ_=>?_,λ_=>?_⟩
  ·have:∀n < 6,∃v∈[97,98,99,100,101,102,103,104,105,106,107,108,109,117,118,119,120,121,122],gb (Str.ofString "uvwxyz").cps.toList ((n:Nat):Int)=some v:=by decide+kernel
   obtain⟨v',hv',ev'⟩:=this i (by lia);nofun;refine rv (a:=(.str ⟨#[v']⟩,hb3++[.lst (ws.map D.str)])) (by show(if(Str.ofString "uvwxyz").length<=sizeLine then(gb (Str.ofString "uvwxyz").cps.toList (i:Int)).map λc=>(D.str ⟨#[c]⟩,_) else none)=_;rw[HQ (by decide+kernel),ev'];rfl) ?_;nofun;refine dS (R:=R+(26-5*i)) ((S3.more [.lst (ws.map D.str)]).le (by lia)).sb (by decide) (by decide) λr' h4 r0' r1' A4=>?_;obtain⟨q,hq,eq⟩:=wz (h:=h4) hv' r0' r1';obtain⟨hb4,rfl,b4⟩:=A4.b.app (by rw[b3.1];exact hbs);have hl4:hb4.length=h.length:=b4.1.trans hl3;have S4:=A4.S.cut (by rw[b4.1,b3.1];exact hbs) (by rw[b4.1,b3.1];exact hbc);nofun;refine rv eq ?_;nofun;refine dm ?_;nofun;refine⟨bJ (bR hl4),?_⟩;nofun;refine rv (ba (bR hl4) wl) ?_;rw[iR hl4];nofun;exact⟨ws++[q],_,_,hb4,rfl,by rw[Ic];rfl,by rw[HL,hl];rfl,ok q hq,S4.le (by lia),(B.b.trans b3).trans b4⟩
  ·nofun;refine dm ?_;nofun;refine⟨bJ (bR hl3),?_⟩;nofun;refine rv (ba (bR hl3) wl) ?_;rw[iR hl3];nofun;exact⟨ws++[w'],_,_,hb3,rfl,by rw[Ic];rfl,by rw[HL,hl];rfl,ok w' w8,S3.le (by lia),B.b.trans b3⟩
 ·rintro δ h' ⟨ws,v4,v5,hb,rfl,rfl,hl,tk,B⟩;rw[HH,IP,Je] at hl B;have hlb:=B.b.1;have Cb:=C.but B.S B.b;nofun;have e1:leave h (.ob h.length) (hb++[.lst (ws.map D.str)])=some (.lv (ws.map D.str),hb):=by
   have t:mh h.length (hb++[.lst (ws.map D.str)]) (.ob h.length)=.lv (ws.map D.str):=by
    unfold mh;dsimp only;rw[HS (JY _),bR hlb]
   unfold leave;rw[t,<-hlb,Jv (HN _),I9,show fY hb.length (.lv (ws.map D.str))=true from dR _ _];have:(hb.all (ph hb.length))=true:=by rw[JH];exactλo ho=>Cb o ho
   rw[hlb] at this ⊢;rw[this,Bool.or_true];rfl
  exact rv e1 (k ws hb hl tk ⟨B.S.le (by lia),A.b.trans B.b⟩ Cb)
end
theorem yw{o i:EM}{v:D}{δ:DS}{h:MH}{Q:DS×MH->Prop}(r:Rn (o δ h) λp=>Rn (i δ p.2) λq=>Rn (nK p.1 q.1 v q.2) λh'=>Q (δ,h')):Rn (wQ o i v δ h) Q:=av (r.imp λ_ r=>av (r.imp λ_ r=>tX r))
noncomputable def md(N Ds:List Str)(Mn:List Int)(l:Int):MO:=.dct [(.inr (Str.ofString "names"),.tup (N.map D.str)),(.inr (Str.ofString "deeds"),.lv (Ds.map D.str)),(.inr (Str.ofString "many"),.lv (Mn.map D.int)),(.inr (Str.ofString "left"),.int l)]
section
variable {h:MH} {w:Nat} {N Ds:List Str} {Mn:List Int} {l:Int} (hw:h[w]?=some (md N Ds Mn l))
include hw
theorem pK:bt (.ob w) (.str (Str.ofString "names")) h=some (.tup (N.map D.str),h):=by simp only[bt,de,hw,md];rfl
theorem kF:bt (.ob w) (.str (Str.ofString "deeds")) h=some (.lv (Ds.map D.str),h):=by simp only[bt,de,hw,md];rfl
theorem xS:bt (.ob w) (.str (Str.ofString "many")) h=some (.lv (Mn.map D.int),h):=by simp only[bt,de,hw,md];rfl
theorem rT:bt (.ob w) (.str (Str.ofString "left")) h=some (.int l,h):=by simp only[bt,de,hw,md];rfl
theorem Aw(l':Int):mM (.ob w) (.str (Str.ofString "left")) (.int l') h=some (h.set w (md N Ds Mn l')):=by simp only[mM,hw,md];rfl
end
noncomputable def rh(ls:List Lock):List (D×D):=ls.map λl=>(bI l,.bl true)
theorem Bw(ls:List Lock)(l:Lock)(k:PyData):∃ls',qV (rh ls) k (bI l) (.bl true)=rh ls'/\(ls'=ls/\ls≠[]\/ls'=ls++[l]):=by
 unfold qV
 by_cases z:((rh ls).any λkv=>xN k kv.1)=true
 ·rw[HQ z];refine⟨ls,?_,.inl ⟨rfl,λe=>by rw[e] at z;cases z⟩⟩;unfold rh;rw[Jd];refine LP λx _=>?_;show(if xN k (bI x)=true then(bI x,D.bl true) else(bI x,D.bl true))=_
  split <;> rfl
 ·rw[HS z];exact⟨ls++[l],by unfold rh;rw[Ic];rfl,.inr rfl⟩
theorem wI{l:Lock}(hk:tU l):∃k,wJ (bI l)=some k:=by
 refine⟨.tuple [.str l.1,.tuple [.str l.2.1,.int l.2.2]],?_⟩;show(if cz 8 (.tuple [.str l.1,.tuple [.str l.2.1,.int l.2.2]])=true then some (PyData.tuple [.str l.1,.tuple [.str l.2.1,.int l.2.2]]) else none)=_;rw[HQ];simp[cz,hk.1.2,hk.2.1.2]
section
variable {h h0:MH} {s c R:Nat} {cs:List Int} {Q:D×MH->Prop}
theorem zK{w:Nat}{N Ds ps:List Str}{Mn:List Int}{l m:Int}(A:Sb s c cs h0 (R+20) h)(C:Cl h)(hw:h[w]?=some (md N Ds Mn l))(nw:w≠s)(n0:0 < N.length)(n6:N.length<=6)(hN:∀x∈N,Sh 8 x)(hp:ps.length<=3)(hs:∀x∈ps,Sh 8 x)(m1:1<=m)(m4:m<=4)
  (k:∀(ls:List Lock)(h1:MH),ls≠[]->ls.length<=4->(∀l∈ls,tU l)->Sb s c cs h0 R h1->Cl h1->Q (.tup (ls.map bI),h1)):Rn (dq [.ob s,.ob w,.tup (ps.map D.str),.int m] h) Q:=by
 obtain⟨sl,cl⟩:=A.S.lt;refine jO ?_;refine iX (pU (rv (a:=(.ob h.length,h++[.dcH []])) rfl (il ?_)));nofun;refine iB ?_;nofun;refine⟨m,rfl,by lia,by lia,?_⟩;refine cQ (λi δ h'=>∃(ls:List Lock)(v5:Option D)(hb:MH),δ=[some (.ob s),some (.ob w),some (.tup (ps.map D.str)),some (.int m),some (.ob h.length),v5]/\h'=hb++[.dcH (rh ls)]/\ls.length<=i/\(i≠0->ls≠[])/\(∀l∈ls,tU l)/\Sb s c cs h (R+(20-4*i)) hb)
  ⟨[],_,h,rfl,rfl,HN _,λz=>absurd rfl z,λ_ z=>(nomatch z),A.S.sb⟩ (λ_ _ _ _ _=>rfl) ?_ ?_
 ·rintro i x δ h' hx ⟨ls,v5,hb,rfl,rfl,hl,hne,hk,B⟩;have hi:i < 4:=by
   have:=(HJ.mp hx).1;rw[HH,IP] at this
   lia
  have hbs:s < hb.length:=by rw[B.b.1];exact sl
  have hbc:c < hb.length:=by rw[B.b.1];exact cl
  have hwb:(hb++[MO.dcH (rh ls)])[w]?=some (md N Ds Mn l):=by
   have e:=(B.b.2 w nw).trans hw;rw[HU (HJ.mp e).1];exact e
  nofun;refine yw ?_;nofun;refine rv (pK hwb) ?_;nofun;refine uG (R:=R+(19-4*i)) ((B.S.more [.dcH (rh ls)]).le (by lia)).sb (.inr rfl) (by rw[HH];exact n0) (by rw[HH];lia) λx h1 hx1 A1=>?_;obtain⟨nm,hnm,rfl⟩:=Ja.mp hx1;nofun;refine jd (R:=R+(16-4*i)) (A1.le (by lia)) hp hs λt h2 ht A2=>?_;nofun;obtain⟨hb2,rfl,b2⟩:=A2.b.app hbs;have hl2:hb2.length=h.length:=b2.1.trans B.b.1;have S2:=A2.S.cut (by rw[b2.1];exact hbs) (by rw[b2.1];exact hbc);have kt:tU (nm,t):=⟨hN nm hnm,ht⟩;obtain⟨ky,ek⟩:=wI kt;obtain⟨ls',e1,e2⟩:=Bw ls (nm,t) ky;have e3:nK (.ob h.length) (bI (nm,t)) (.bl true) (hb2++[.dcH (rh ls)])=some (hb2++[.dcH (rh ls')]):=by
   unfold nK;dsimp only;rw[bR hl2];dsimp only;rw[ek];dsimp only[Option.bind_some];rw[HQ (by unfold rh;rw[HH,show sizeLine=16777216 from rfl];lia),e1,iR hl2]
  refine rv e3 ?_;nofun;refine⟨ls',_,hb2,rfl,rfl,?_,λ_=>?_,?_,S2.le (by lia),B.b.trans b2⟩
  ·rcases e2 with⟨rfl,_⟩ | rfl
   ·lia
   ·rw[HL,Jm];lia
  ·rcases e2 with⟨rfl,z⟩ | rfl
   ·exact z
   ·simp
  ·rcases e2 with⟨rfl,_⟩ | rfl
   ·exact hk
   ·exactλy hy=>(Il.mp hy).elim (hk y) λz=>by rw[Ia.mp z];exact kt
 ·rintro δ h' ⟨ls,v5,hb,rfl,rfl,hl,hne,hk,B⟩;rw[HH,IP] at hl hne B;have hlb:=B.b.1;have Cb:=C.but B.S B.b;nofun;refine rv (a:=(.tup (ls.map bI),hb++[.dcH (rh ls)])) ?_ ?_
  ·show(rJ (.ob h.length) (hb++[.dcH (rh ls)])).map _=_;unfold rJ;dsimp only;rw[bR hlb];show some (D.tup ((rh ls).map (·.1)),_)=_;unfold rh;rw[Jd];rfl
  ·exact rv (lC hlb Cb (λn z=>(nomatch z)) (iI _ bI (λ_=>rfl) ls)) (k ls hb (hne (by lia)) (by lia) hk ⟨B.S.le (by lia),A.b.trans B.b⟩ Cb)
end
theorem St.as{s c R:Nat}{cs:List Int}{h h':MH}(S:St s c cs R h)(e1:h'[s]?=h[s]?)(e2:h'[c]?=h[c]?):St s c cs R h':=by
 obtain⟨n,t,e,r⟩:=S.st;exact⟨⟨n,t,e1.trans e,r⟩,e2.trans S.ce,S.ne⟩
theorem rK(n:Nat)(N Ds:List Str)(Mn:List Int)(l:Int):ph n (md N Ds Mn l)=true:=by
 show(dA n (N.map D.str)&&(dA n (Ds.map D.str)&&(dA n (Mn.map D.int)&&(true&&true))))=true;rw[dR,dR,tD];rfl
structure Fx(s c w:Nat)(N Ds:List Str)(Mn:List Int):Prop where
 ws:w≠s
 wc:w≠c
 n0:0 < N.length
 n6:N.length<=6
 nN:∀x∈N,Sh 8 x
 d0:0 < Ds.length
 d6:Ds.length<=6
 nD:∀x∈Ds,Sh 8 x
 ml:Mn.length=Ds.length
 m3:∀x∈Mn,0<=x/\x<=3
structure Wz(s c w:Nat)(cs:List Int)(N Ds:List Str)(Mn:List Int)(h0:MH)(R l:Nat)(h:MH):Prop where
 S:St s c cs R h
 o:h[w]?=some (md N Ds Mn l)
 b:h.length=h0.length/\∀k,k≠s->k≠w->h[k]?=h0[k]?
 C:Cl h
section
variable {s c w R R' l l':Nat} {cs:List Int} {N Ds:List Str} {Mn:List Int} {h h0 h1:MH}
theorem Wz.le(A:Wz s c w cs N Ds Mn h0 R l h)(q:R'<=R):Wz s c w cs N Ds Mn h0 R' l h:=⟨A.S.le q,A.o,A.b,A.C⟩
theorem Wz.nx(A:Wz s c w cs N Ds Mn h0 R l h)(ws:w≠s)(B:Sb s c cs h R' h1):Wz s c w cs N Ds Mn h0 R' l h1:=
 ⟨B.S,(B.b.2 w ws).trans A.o,⟨B.b.1.trans A.b.1,λk k1 k2=>(B.b.2 k k1).trans (A.b.2 k k1 k2)⟩,A.C.but B.S B.b⟩
theorem Wz.lt(A:Wz s c w cs N Ds Mn h0 R l h):s < h.length/\c < h.length/\w < h.length:=⟨A.S.lt.1,A.S.lt.2,(HJ.mp A.o).1⟩
theorem Wz.set(A:Wz s c w cs N Ds Mn h0 R l h)(ws:w≠s)(wc:w≠c)(l':Nat):Wz s c w cs N Ds Mn h0 R l' (h.set w (md N Ds Mn l')):=
 ⟨A.S.off ws wc,IT A.lt.2.2,⟨by rw[Jn];exact A.b.1,λk k1 k2=>by rw[IS (Jl k2)];exact A.b.2 k k1 k2⟩,A.C.set (rK _ _ _ _ _)⟩
theorem Wz.push(A:Wz s c w cs N Ds Mn h0 R l h){o:MO}(ho:ph (h.length+1) o=true):Wz s c w cs N Ds Mn (h++[o]) R l (h++[o]):=
 ⟨A.S.more _,by rw[HU A.lt.2.2];exact A.o,⟨rfl,λ_ _ _=>rfl⟩,A.C.snoc ho⟩
theorem Wz.pop{o:MO}(A:Wz s c w cs N Ds Mn h0 R l h)(B:Wz s c w cs N Ds Mn (h++[o]) R' l' h1):∃hb,h1=hb++[o]/\Wz s c w cs N Ds Mn h0 R' l' hb:=by
 obtain⟨a1,a2,a3⟩:=A.lt;have hl:h1.length=h.length+1:=by rw[B.b.1,HL];rfl
 have e1:h1=h1.take h.length++[o]:=by
  refine Kk λk=>?_
  by_cases z:k < h.length
  ·rw[HU (by rw[Ih];lia),Iq z]
  ·by_cases z2:k=h.length
   ·subst z2;rw[B.b.2 _ (by lia) (by lia),Ik (HN _),Ik (by rw[Ih];lia),Ih,show min h.length h1.length=h.length by lia]
   ·rw[Ip (by lia),Ip (by rw[HL,Ih];simp;lia)]
 have hlt:(h1.take h.length).length=h.length:=by rw[Ih];lia
 have gt:∀k,k < h.length->(h1.take h.length)[k]?=h1[k]?:=λk z=>Iq z;have S2:St s c cs R' (h1.take h.length):=B.S.as (gt s a1) (gt c a2);have w2:(h1.take h.length)[w]?=some (md N Ds Mn l'):=(gt w a3).trans B.o;have same:∀k,k≠s->k≠w->(h1.take h.length)[k]?=h[k]?:=λk k1 k2=>by
  by_cases z:k < h.length
  ·rw[gt k z,B.b.2 k k1 k2,HU z]
  ·rw[Ip (by lia),Ip (by lia)]
 refine⟨_,e1,S2,w2,⟨hlt.trans A.b.1,λk k1 k2=>(same k k1 k2).trans (A.b.2 k k1 k2)⟩,λx hx=>?_⟩;rw[hlt];obtain⟨k,hk⟩:=LI.mp hx
 by_cases z1:k=s
 ·subst z1;obtain⟨n,t,e,_⟩:=S2.st;rw[e] at hk;cases hk;show(true&&(decide (c < h.length)&&(true&&true)))=true;rw[IE a2];rfl
 ·by_cases z2:k=w
  ·subst z2;rw[w2] at hk;cases hk;exact rK _ _ _ _ _
  ·rw[same k z1 z2] at hk;exact A.C x (HM hk)
end
def G9(d:Nat)(r:Row):Prop:=x6 r/\(∀t∈ab r,∀g,uN g t)/\bz r<=6-d
section
variable (s c w:Nat) (cs:List Int) (N Ds:List Str) (Mn:List Int)
def Dr(f:Nat):Prop:=∀{h h0:MH} {R l d:Nat} {ps:List Str} {Q:D×MH->Prop},Wz s c w cs N Ds Mn h0 (R+60*l+1) l h->ps.length<=3->(∀x∈ps,Sh 8 x)->1<=d->d<=5->2*(6-d)<=f->
 (∀(rows:List Row)(l':Nat)(h':MH),(∀g,uN g rows)->bb rows<=6-d->l'+ak rows<=l->Wz s c w cs N Ds Mn h0 (R+60*l') l' h'->Q (.tup (bH rows),h'))->Rn (aB f [.ob s,.ob w,.tup (ps.map D.str),.int (d:Int)] h) Q
def Dl(f:Nat):Prop:=∀{h h0:MH} {R l d:Nat} {ps:List Str} {Q:D×MH->Prop},Wz s c w cs N Ds Mn h0 (R+60*l+50) l h->ps.length<=3->(∀x∈ps,Sh 8 x)->2<=d->d<=6->2*(6-d)+1<=f->
 (∀(r:Row)(l':Nat)(h':MH),G9 d r->l'+cnt r<=l+1->Wz s c w cs N Ds Mn h0 (R+60*l') l' h'->Q (aP r,h'))->Rn (aV f [.ob s,.ob w,.tup (ps.map D.str),.int (d:Int)] h) Q
end
theorem nJ{h:MH}{n:Nat}{xs:List D}(e:h[n]?=some (.lst xs)):dQ [.ob n] h=some (.tup xs,h):=by
 show(bM (.ob n) h).map _=_;rw[km e];rfl
theorem nu{d:Nat}(hd:d<=5):∀rows:List Row,(∀r∈rows,bz r<=5-d)->bb rows<=6-d
 | [],_=>by rw[bb];lia
 | r::rows,h=>by
  have h1:=h r HY;have h2:=nu hd rows λx hx=>h x (Ib _ hx);rw[bb]
  lia
theorem x8{rows:List Row}(h:∀r∈rows,x6 r/\∀t∈ab r,∀g,uN g t):∀g,uN g rows
 | 0=>trivial
 | g+1=>λr hr=>⟨(h r hr).1,λt ht=>(h r hr).2 t ht g⟩
theorem uD(l:List Row)(r:Row):ak (l++[r])=ak l+cnt r:=by
 induction l with
 | nil=>simp[ak]
 | cons x l ih=>rw[Jk,ak,ak,ih];lia
section
variable {s c w:Nat} {cs:List Int} {N Ds:List Str} {Mn:List Int} (X:Fx s c w N Ds Mn)
include X
theorem zd{f:Nat}(hrow:Dl s c w cs N Ds Mn f):Dr s c w cs N Ds Mn (f+1):=by
 intro h h0 R l d ps Q A hp hps d1 d5 hf k;obtain⟨sl,cl,wl⟩:=A.lt;unfold aB;refine jO ?_;nofun;refine iB ?_;nofun;obtain⟨v,m,hm,e1,e2⟩:∃v m:Int,(m=4\/m=13)/\(∀H,lH [.bl ((d:Int)==1)] H=some (.int v,H))/\∀H,bt (.lv [.int 4,.int 13]) (.int v) H=some (.int m,H):=by
  by_cases z:d=1
  ·subst z;exact⟨1,13,.inr rfl,λH=>rfl,λH=>rfl⟩
  ·exact⟨0,4,.inl rfl,λH=>by rw[show((d:Int)==1)=false from KD.mpr (by lia)];rfl,λH=>rfl⟩
 refine rv (e1 _) ?_;nofun;refine rv (e2 _) ?_;nofun;refine dS (R:=R+60*l) (A.S.more [.lst []]).sb (by lia) (by lia) λr h1 r0 r1 A1=>?_;obtain⟨hb1,rfl,b1⟩:=A1.b.app sl;have S1:=A1.S.cut (by rw[b1.1];exact sl) (by rw[b1.1];exact cl);have B1:=A.nx X.ws ⟨S1,b1⟩;nofun;refine⟨r,rfl,by lia,by lia,?_⟩;have hlh:h.length=h0.length:=A.b.1;refine cQ (λi δ h'=>∃(rows:List Row)(l1:Nat)(v5:Option D)(hb:MH),δ=[some (.ob s),some (.ob w),some (.tup (ps.map D.str)),some (.int (d:Int)),some (.ob h.length),v5]/\h'=hb++[.lst (rows.map aP)]/\rows.length<=i/\(∀r∈rows,G9 (d+1) r)/\l1+ak rows<=l/\Wz s c w cs N Ds Mn h0 (R+60*l1) l1 hb)
  ⟨[],l,_,hb1,rfl,rfl,HN _,λ_ z=>(nomatch z),by simp[ak],B1⟩ (λ_ _ _ _ _=>rfl) ?_ ?_
 ·rintro i x δ h' hx ⟨rows,l1,v5,hb,rfl,rfl,hl,hg,hc,B⟩;have hi:i < 13:=by
   have:=(HJ.mp hx).1;rw[HH,IP] at this
   lia
  obtain⟨bs,bc,bw⟩:=B.lt;have hlb:hb.length=h.length:=B.b.1.trans hlh.symm;have hw1:(hb++[MO.lst (rows.map aP)])[w]?=some (md N Ds Mn l1):=by rw[HU bw];exact B.o
  nofun;refine rv (rT hw1) ?_;nofun;refine⟨_,rfl,λz=>?_,λz=>?_⟩
  ·have z':0 < l1:=by have:=IZ z;lia
   nofun;refine rv (rT hw1) ?_;nofun;rw[show((l1:Int)-1)=((l1-1:Nat):Int) by lia];refine rv (Aw hw1 _) ?_;rw[List.set_append_left _ _ bw];have B2:=B.set X.ws X.wc (l1-1);generalize hb.set w (md N Ds Mn ((l1-1:Nat):Int))=hb2 at B2;have hlb2:hb2.length=h.length:=B2.b.1.trans hlh.symm;have clr:ph (hb2.length+1) (.lst (rows.map aP))=true:=by show dA _ _=true;rw[<-fe];exact cD _ _
   nofun;refine dm ?_;nofun;refine⟨bJ (bR hlb2),?_⟩;nofun;refine hrow (R:=R) (d:=d+1) (l:=l1-1) ((B2.push clr).le (by lia)) hp hps (by lia) (by lia) (by lia) λq l2 h2 gq hq B3=>?_;obtain⟨hb3,rfl,B4⟩:=B2.pop B3;have hlb3:hb3.length=h.length:=B4.b.1.trans hlh.symm;nofun;refine rv (ba (bR hlb3) (by rw[HH,show sizeLine=16777216 from rfl];lia)) ?_;rw[iR hlb3];nofun;refine⟨rows++[q],l2,_,hb3,rfl,by rw[Ic];rfl,by rw[HL,Jm];lia,λy hy=>(Il.mp hy).elim (hg y) λz=>by rw[Ia.mp z];exact gq,by rw[uD];lia,B4⟩
  ·nofun;exact⟨rows,l1,_,hb,rfl,rfl,by lia,hg,hc,B⟩
 ·rintro δ h' ⟨rows,l1,v5,hb,rfl,rfl,hl,hg,hc,B⟩;have hlb:hb.length=h.length:=B.b.1.trans hlh.symm;nofun;refine rv (nJ (bR hlb)) ?_;refine rv (lC hlb B.C (λn z=>(nomatch z)) (by show dA _ _=true;rw[<-fe];exact cD _ _)) ?_;rw[<-fe];exact k rows l1 hb (x8 λr hr=>⟨(hg r hr).1,(hg r hr).2.1⟩) (nu d5 rows λr hr=>by have:=(hg r hr).2.2;lia) hc B
end
theorem kq{ws:W}{g:GM}{e:EM}:∀{xs:List D} {δ:DS} {h:MH} (J:Nat->List D->DS->MH->Prop),J 0 [] δ h->(∀i ys δ h,J i ys δ h->kj ws h=true)->
  (∀i x ys δ h,xs[i]?=some x->J i ys δ h->Rn (g x δ h) λq=>Rn (e q.1 q.2) λy=>J (i+1) (ys++[y.1]) q.1 y.2)->Rn (c7 ws g dh e xs δ h) λp=>∃δ',J xs.length p.1 δ' p.2
 | [],δ,h,J,hJ,hc,_=>by
  unfold c7;rw[HQ (hc 0 [] δ h hJ)];exact⟨_,rfl,δ,hJ⟩
 | x::xs,δ,h,J,hJ,hc,ht=>by
  obtain⟨q,e1,y,e2,hy⟩:=ht 0 x [] δ h rfl hJ;obtain⟨p,e3,δ',hp⟩:=kq (ws:=ws) (g:=g) (e:=e) (xs:=xs) (δ:=q.1) (h:=y.2) (λi ys δ h=>J (i+1) (y.1::ys) δ h) hy (λi ys δ h=>hc (i+1) (y.1::ys) δ h) λi x ys δ h hx hJ=>ht (i+1) x (y.1::ys) δ h hx hJ;unfold c7;rw[HQ (hc 0 [] δ h hJ),e1];dsimp only[Option.bind_some];have e4:dh q.1 q.2=some (true,q.2):=rfl;rw[e4];dsimp only[Option.bind_some];rw[HQ rfl,e2];dsimp only[Option.bind_some];rw[e3];exact⟨_,rfl,δ',hp⟩
abbrev zV:SM:=(aj (gV (qL (aE (ai bZ v4 (ks "all"))) (aE (ai wX (az gJ (a1 v8)) (ki 1)))) (aY (az bK (a3 (ks "all") v8 (ai bt v7 (ki 0))))) b7)
  (aj (gV (xG (aE (ai bZ v4 (ks "all"))) (aE (ai bZ v4 (ks "within")))) (aY (az bK (a3 (ks "within") (ai bt v8 (ki 0)) (ai bt v7 (ki 0))))) b7)
  (aj (gV (aE (ai bZ v4 (ks "ask"))) (aY (az bK (a4 (ks "ask") (ai bt v8 (ki 0)) (ai bt v7 (ki 0)) (ai bt v7 (ki 1))))) b7)
  (aj (gV (aE (ai bZ v4 (ks "by"))) (aY (ai ar (az bK (a3 (ks "by") (az aL (a2 v0 v2)) (az aL (a2 v0 v2)))) (az dQ (a1 v7)))) b7)
  (aY (ai ar (az bK (a1 v4)) (az dQ (a1 (rD v7 BR (BS (ai ar (ki 1) (az lH (a1 (ai bZ v4 (ks "either")))))))))))))))
section
variable {s c w:Nat} {cs:List Int} {N Ds:List Str} {Mn:List Int} (X:Fx s c w N Ds Mn)
include X
theorem ym{h h0:MH}{R l1 d dI:Nat}{ps:List Str}{so:Str}{a b e:List Row}{l0:Lock}{ls:List Lock}{v5 v6:Option D}{Q:D×MH->Prop}(A:Wz s c w cs N Ds Mn h0 (R+60*l1+6) l1 h)(hp:ps.length<=3)(hps:∀x∈ps,Sh 8 x)
  (hso:so∈[Str.ofString "within",Str.ofString "all",Str.ofString "ask",Str.ofString "by",Str.ofString "either",Str.ofString "again"]) (hk:∀l∈l0::ls,tU l) (h4:(l0::ls).length<=4)
  (k:∀(r:Row)(h':MH),x6 r->(∀t∈ab r,t=a\/t=b\/t=e)->cnt r<=1+(ak a+ak b+ak e)->bz r<=max (bb a) (max (bb b) (bb e))->Wz s c w cs N Ds Mn h0 (R+60*l1) l1 h'->Q (aP r,h')):
  Rn (zV [some (.ob s),some (.ob w),some (.tup (ps.map D.str)),some (.int (dI:Int)),some (.str so),v5,v6,some (.lv [.tup (bH a),.tup (bH b),.tup (bH e)]),some (.tup (bI l0::ls.map bI))] h) (qR Q):=by
 have A0:Wz s c w cs N Ds Mn h0 (R+60*l1) l1 h:=A.le (by lia);have hk0:=hk l0 HY;have wi:Q (.tup [.str (Str.ofString "within"),bI l0,.tup (bH a)],h):=by
  have:=k (.within l0 a) h hk0 (λt ht=>.inl (Ia.mp ht)) (by rw[cnt];lia) (by rw[bz];lia) A0;rw[aP] at this;exact this
 unfold zV;simp only[HR,Ks,K8] at hso;rcases hso with rfl | rfl | rfl | rfl | rfl | rfl
 ·nofun;refine⟨false,by ac_nf,ff (ff ?_)⟩;nofun;refine⟨false,by ac_nf,ff ?_⟩;nofun;refine⟨true,by ac_nf,tt ?_⟩;nofun;refine rv (a:=(.tup (bH a),h)) rfl ?_;nofun;exact wi
 ·nofun;refine⟨true,by ac_nf,tt ?_⟩;nofun;refine⟨_,rfl,λz=>?_,λz=>?_⟩
  ·nofun;refine rv (a:=(.tup (bH a),h)) rfl ?_;nofun;have:=k (.all (l0::ls) a) h ⟨h4,hk,by simp⟩ (λt ht=>.inl (Ia.mp ht)) (by rw[cnt];lia) (by rw[bz];lia) A0;rw[aP] at this;exact this
  ·nofun;refine⟨true,by ac_nf,tt (tt ?_)⟩;nofun;refine rv (a:=(.tup (bH a),h)) rfl ?_;nofun;exact wi
 ·nofun;refine⟨false,by ac_nf,ff (ff ?_)⟩;nofun;refine⟨false,by ac_nf,ff ?_⟩;nofun;refine⟨false,by ac_nf,ff ?_⟩;nofun;refine⟨true,by ac_nf,tt ?_⟩;nofun;refine rv (a:=(.tup (bH a),h)) rfl ?_;nofun;refine rv (a:=(.tup (bH b),h)) rfl ?_;nofun;have:=k (.ask l0 a b) h hk0 (λt ht=>by simp only[ab,HR,Ks,K8] at ht;rcases ht with z | z <;> simp[z]) (by rw[cnt];lia) (by rw[bz];lia) A0;rw[aP] at this;exact this
 ·nofun;refine⟨false,by ac_nf,ff (ff ?_)⟩;nofun;refine⟨false,by ac_nf,ff ?_⟩;nofun;refine⟨false,by ac_nf,ff ?_⟩;nofun;refine⟨false,by ac_nf,ff ?_⟩;nofun;refine⟨true,by ac_nf,tt ?_⟩;nofun;refine jd (R:=R+60*l1+3) A.S.sb hp hps λt1 h1 ht1 A1=>?_;nofun;refine jd (R:=R+60*l1) A1 hp hps λt2 h2 ht2 A2=>?_;nofun;refine rv (a:=(.tup [.tup (bH a),.tup (bH b),.tup (bH e)],h2)) rfl ?_;refine rv (gZ (by simp)) ?_;have:=k (.l6 t1 t2 a b e) h2 ⟨ht1,ht2⟩ (λt ht=>by simp only[ab,HR,Ks,K8] at ht;exact ht) (by rw[cnt];lia) (by rw[bz];lia) (A.nx X.ws A2);rw[aP] at this;nofun;exact this
 ·nofun;refine⟨false,by ac_nf,ff (ff ?_)⟩;nofun;refine⟨false,by ac_nf,ff ?_⟩;nofun;refine⟨false,by ac_nf,ff ?_⟩;nofun;refine⟨false,by ac_nf,ff ?_⟩;nofun;refine⟨false,by ac_nf,ff ?_⟩;have:=k (.either a b) h trivial (λt ht=>by simp only[ab,HR,Ks,K8] at ht;rcases ht with z | z <;> simp[z]) (by rw[cnt];lia) (by rw[bz];lia) A0;rw[aP] at this;refine kZ (il (jN (rv (a:=(.tup [.str (Str.ofString "either"),.tup (bH a),.tup (bH b)],h)) (by ac_nf) ?_)));exact this
 ·nofun;refine⟨false,by ac_nf,ff (ff ?_)⟩;nofun;refine⟨false,by ac_nf,ff ?_⟩;nofun;refine⟨false,by ac_nf,ff ?_⟩;nofun;refine⟨false,by ac_nf,ff ?_⟩;nofun;refine⟨false,by ac_nf,ff ?_⟩;have:=k (.again a) h trivial (λt ht=>.inl (Ia.mp ht)) (by rw[cnt];lia) (by rw[bz];lia) A0;rw[aP] at this;refine kZ (il (jN (rv (a:=(.tup [.str (Str.ofString "again"),.tup (bH a)],h)) (by ac_nf) ?_)));exact this
end
section
variable {s c w:Nat} {cs:List Int} {N Ds:List Str} {Mn:List Int} (X:Fx s c w N Ds Mn)
include X
theorem yl{f:Nat}(hlot:Dr s c w cs N Ds Mn f):Dl s c w cs N Ds Mn (f+1):=by
 intro h h0 R l d ps Q A hp hps d2 d6 hf k;have d0:=X.d0;have dd6:=X.d6;unfold aV;refine bF ?_;nofun;refine uG (R:=R+60*l+49) A.S.sb (.inl rfl) (by simp) (by simp) λx h1 hx A1=>?_;obtain⟨so,hso,rfl⟩:=Ja.mp (show x∈[Str.ofString "say",Str.ofString "call",Str.ofString "within",Str.ofString "all",Str.ofString "ask",Str.ofString "by",Str.ofString "either",Str.ofString "again"].map D.str from hx);have B1:=A.nx X.ws A1;clear hx;nofun;refine⟨_,rfl,λz=>?_,λz=>?_⟩
 ·clear z hso;nofun;refine rv (kF B1.o) ?_;nofun;refine dS (R:=R+60*l+48) B1.S.sb (by rw[HH];lia) (by rw[HH];lia) λr h2 r0 r1 A2=>?_;rw[HH] at r1;obtain⟨n,rfl⟩:=IX r0;have B2:=B1.nx X.ws A2;have hnM:n < Mn.length:=by rw[X.ml];lia
  have eM:=Iz hnM;have eD:Ds[n]?=some (Ds[n]'(by lia)):=Iz _;obtain⟨m0,m3⟩:=X.m3 Mn[n] (K3 hnM);have hnd:=X.nD (Ds[n]'(by lia)) (K3 _);generalize Mn[n]=mm at eM m0 m3;generalize Ds[n]'(by lia)=nm at eD hnd;nofun;refine iB ?_;nofun;refine rv (xS B2.o) ?_;nofun;refine rv (wW eM) ?_;nofun;refine⟨mm,rfl,by lia,by lia,?_⟩;obtain⟨⟨ys,h3⟩,e3,δ',ts,o0,hy,htl,hts,-,A3⟩:=kq (ws:=[]) (g:=gN 0) (e:=az aL (a2 v2 v1)) (xs:=(List.range mm.toNat).map λ(k:Nat)=>D.int (k:Int)) (δ:=[none,some (.tup (ps.map D.str)),some (.ob s)]) (h:=h2)
   (λi ys δ h'=>∃(ts:List Term)(o0:Option D),ys=ts.map cp/\ts.length=i/\(∀t∈ts,xI t)/\δ=[o0,some (.tup (ps.map D.str)),some (.ob s)]/\Sb s c cs h2 (R+60*l+(48-3*i)) h') ⟨[],_,rfl,rfl,λ_ z=>(nomatch z),rfl,A2.S.sb⟩ (λ_ _ _ _ _=>rfl) (by
    rintro i x ys δ h' hx ⟨ts,o0,rfl,htl,hts,rfl,A3⟩;have hi:i < 3:=by
     have:=(HJ.mp hx).1;rw[HH,IP] at this
     lia
    nofun;refine jd (R:=R+60*l+(48-3*(i+1))) (A3.le (by lia)) hp hps λt h4 ht A4=>?_;exact⟨ts++[t],_,by rw[Ic];rfl,by rw[HL,htl];rfl,λy hy=>(Il.mp hy).elim (hts y) λz=>by rw[Ia.mp z];exact ht,rfl,A4⟩)
  rw[HH,IP] at htl A3;dsimp only at hy e3 A3;subst hy;have htl3:ts.length<=3:=by lia
  have B3:=B2.nx X.ws A3;refine rv e3 ⟨by dsimp only;rw[HH,show sizeLine=16777216 from rfl];lia,?_⟩;nofun;refine rv (kF B3.o) ?_;nofun;refine rv (wW eD) ?_;nofun;refine rv (a:=(.tup (ts.map cp),h3)) rfl ?_;nofun;have:=k (.call nm ts) l h3 ⟨⟨hnd,htl3,hts⟩,λt ht=>(nomatch ht),by rw[bz];lia⟩ (by rw[cnt];lia) (B3.le (by lia));rw[aP] at this;exact this
 ·have hnc:so≠Str.ofString "call":=λe=>by rw[e,IU] at z;cases z
  clear z;refine kZ (il ?_);refine sA (so=Str.ofString "say"\/5 < d) ?_ (λz=>?_) (λz=>?_)
  ·nofun;refine⟨_,rfl,λy=>?_,λy=>?_⟩
   ·exact dT (.inl (eq_of_beq y)) _
   ·have y:so≠Str.ofString "say":=by intro e;rw[e,IU] at y;cases y
    nofun;refine⟨_,rfl,?_⟩;rw[show decide ((5:Int) < (d:Int))=decide (so=Str.ofString "say"\/5 < d) by rw[Bool.eq_iff_iff];simp[y];lia]
  ·nofun;refine rv (kF B1.o) ?_;nofun;refine vI ?_;nofun;refine rv (pK B1.o) ?_;nofun;refine⟨_,_,_,rfl,rfl,?_⟩;nofun;refine rv (jE (by have:=X.n6;lia)) ?_;nofun;refine uG (R:=R+60*l) ((B1.S.le (by lia)).sb) (.inl rfl) (by rw[HH,HL];lia) (by rw[HH,HL];have:=X.n6;lia) λx h2 hx A2=>?_;obtain⟨q,hq,rfl⟩:=Ja.mp hx;nofun;have:=k (.say q) l h2 ⟨(Il.mp hq).elim (X.nD q) (X.nN q),λt ht=>(nomatch ht),by rw[bz];lia⟩ (by rw[cnt];lia) (B1.nx X.ws A2);rw[aP] at this;exact this
  ·have hs5:d<=5:=by lia
   have hns:so≠Str.ofString "say":=λe=>z (.inl e);have hso6:so∈[Str.ofString "within",Str.ofString "all",Str.ofString "ask",Str.ofString "by",Str.ofString "either",Str.ofString "again"]:=((HR.mp ((HR.mp hso).resolve_left hns)).resolve_left hnc);refine iX (pU (mE ?_));refine vL ?_;refine iB ?_;nofun;refine⟨3,rfl,by decide,by decide,?_⟩;obtain⟨⟨ys,h3⟩,e3,δ',lots,l1,o0,hy,hll,hlg,hlc,-,B3⟩:=kq (ws:=[]) (g:=gN 0) (e:=az (aB f) (a4 v3 v4 v2 v1)) (xs:=(List.range (3:Int).toNat).map λ(k:Nat)=>D.int (k:Int)) (δ:=[none,some (.int (d:Int)),some (.tup (ps.map D.str)),some (.ob s),some (.ob w)]) (h:=h1)
    (λi ys δ h'=>∃(lots:List (List Row)) (l1:Nat) (o0:Option D),ys=lots.map (λt=>.tup (bH t))/\lots.length=i/\(∀t∈lots,(∀g,uN g t)/\bb t<=6-d)/\l1+(lots.map ak).sum<=l/\δ=[o0,some (.int (d:Int)),some (.tup (ps.map D.str)),some (.ob s),some (.ob w)]/\Wz s c w cs N Ds Mn h0 (R+(40-i)+60*l1) l1 h') ⟨[],l,_,rfl,rfl,λ_ z=>(nomatch z),by simp,rfl,B1.le (by lia)⟩ (λ_ _ _ _ _=>rfl) (by
     rintro i x ys δ h' hx ⟨lots,l1,o0,rfl,hll,hlg,hlc,rfl,B3⟩;have hi:i < 3:=by
      have:=(HJ.mp hx).1;rw[HH,IP] at this;exact this
     nofun;refine hlot (R:=R+(40-(i+1))) (l:=l1) (B3.le (by lia)) hp hps (by lia) hs5 (by lia) λrows l2 h4 g1 g2 g3 B4=>?_;exact⟨lots++[rows],l2,_,by rw[Ic];rfl,by rw[HL,hll];rfl,λy hy=>(Il.mp hy).elim (hlg y) λz=>by rw[Ia.mp z];exact⟨g1,g2⟩,by rw[Ic,Kw];simp;lia,rfl,B4⟩)
   rw[HH,IP] at hll B3;dsimp only at hy e3 B3;subst hy
   match lots,hll,hlg,hlc,e3 with
   | [a,b,e],_,hlg,hlc,e3=>
    refine rv e3 ⟨by show 3<=sizeLine;decide,?_⟩;obtain⟨ga1,ga2⟩:=hlg a (by simp);obtain⟨gb1,gb2⟩:=hlg b (by simp);obtain⟨ge1,ge2⟩:=hlg e (by simp);have hlc':l1+(ak a+(ak b+(ak e+0)))<=l:=hlc;have B3':Wz s c w cs N Ds Mn h0 (R+60*l1+37) l1 h3:=B3.le (by lia);refine il (iX (pU ?_));nofun;refine dS (R:=R+60*l1+36) B3'.S.sb (by decide) (by decide) λr h4 r0 r1 A4=>?_;have B4:=B3'.nx X.ws A4;nofun;refine zK (R:=R+60*l1+16) B4.S.sb B4.C B4.o X.ws X.n0 X.n6 X.nN hp hps (by lia) (by lia) λls h5 hne hl4 hk A5 C5=>?_;have B5:=B4.nx X.ws A5;cases ls with
    | nil=>exact absurd rfl hne
    | cons l0 ls=>
     refine il ?_;exact ym X (R:=R) (d:=d) (a:=a) (b:=b) (e:=e) (B5.le (by lia)) hp hps hso6 hk hl4 λq h6 q1 q2 q3 q4 B6=>k q l1 h6 ⟨q1,λt ht=>by rcases q2 t ht with rfl | rfl | rfl <;> assumption,by lia⟩ (by lia) B6
theorem z6:∀f,Dr s c w cs N Ds Mn f/\Dl s c w cs N Ds Mn f
 | 0=>⟨λ_ _ _ _ _ z _=>absurd z (by lia),λ_ _ _ _ _ z _=>absurd z (by lia)⟩
 | f+1=>let⟨a,b⟩:=z6 f;⟨zd X b,yl X a⟩
end
theorem yz{m:zO}{δ:DS}{h:MH}{Q:D×MH->Prop}(r:Rn (m δ h) λp=>p.1.length<=15/\Q (.ob p.2.length,p.2++[.dct (lh [] p.1)])):Rn (rE m δ h) Q:=av (r.imp λp ⟨a,q⟩=>⟨_,HQ a,q⟩)
theorem x3{ws:List Str}{h:MH}(hl:ws.length < 64):oX [.lv (ws.map D.str)] h=some (.lv ((gd ws).map D.str),h):=by
 unfold oX;dsimp only[cZ,Option.bind_some];rw[gU];dsimp only[Option.bind_some];rw[HQ hl]
section
variable {s c w R l:Nat} {cs:List Int} {N Ds:List Str} {Mn:List Int} {h1 hb1:MH} {o:MO}
theorem Wz.out(sl:s < hb1.length)(cl:c < hb1.length)(C:Cl hb1)(ew:w=hb1.length)(A:Wz s c w cs N Ds Mn (hb1++[o]) R l h1):∃hb o',h1=hb++[o']/\St s c cs R hb/\mS s hb1 hb/\Cl hb:=by
 have hl:h1.length=hb1.length+1:=by rw[A.b.1,HL];rfl
 have e1:h1=h1.take hb1.length++[md N Ds Mn l]:=by
  refine Kk λk=>?_
  by_cases z:k < hb1.length
  ·rw[HU (by rw[Ih];lia),Iq z]
  ·by_cases z2:k=hb1.length
   ·subst z2;rw[<-ew,A.o,Ik (by rw[Ih];lia),Ih,show w-min w h1.length=0 by lia];rfl
   ·rw[Ip (by lia),Ip (by rw[HL,Ih];simp;lia)]
 have hlt:(h1.take hb1.length).length=hb1.length:=by rw[Ih];lia
 have gt:∀k,k < hb1.length->(h1.take hb1.length)[k]?=h1[k]?:=λk z=>Iq z;have S2:St s c cs R (h1.take hb1.length):=A.S.as (gt s sl) (gt c cl);have b2:mS s hb1 (h1.take hb1.length):=⟨hlt,λk k1=>by
  by_cases z:k < hb1.length
  ·rw[gt k z,A.b.2 k k1 (by lia),HU z]
  ·rw[Ip (by lia),Ip (by lia)]⟩
 exact⟨_,_,e1,S2,b2,C.but S2 b2⟩
end
section
variable {h h0:MH} {s c R:Nat} {cs:List Int} {Q:D×MH->Prop}
theorem uF(A:Sb s c cs h0 (R+4000) h)(C:Cl h)(k:∀(P:Prog)(h1:MH),FT P->Sb s c cs h0 R h1->Cl h1->Q (k4 P,h1)):Rn (cH [.ob s] h) Q:=by
 obtain⟨sl,cl⟩:=A.S.lt;refine jO ?_;nofun;refine dS (R:=R+3990) ((A.S.le (by lia)).sb) (by decide) (by decide) λn1 h1 n10 n11 A1=>?_;have C1:=C.but A1.S A1.b;obtain⟨n1,rfl⟩:=IX n10;nofun;rw[show(1:Int)+(n1:Int)=((1+n1:Nat):Int) by lia];refine lT (R:=R+3960) A1 C1 (by lia) λns h2 nl nk A2 C2=>?_;nofun;refine rv (x3 (by lia)) ?_;nofun;refine rv (a:=(.tup ((gd ns).map D.str),h2)) rfl ?_;have pN:=fC ns;have lN:(gd ns).length=1+n1:=by rw[pN.length_eq,nl]
 have kN:∀x∈gd ns,Sh 8 x:=λx hx=>nk x (pN.mem_iff.mp hx);generalize gd ns=N at lN kN;nofun;refine dS (R:=R+3950) (A2.le (by lia)) (by decide) (by decide) λn2 h3 n20 n21 A3=>?_;have C3:=C.but A3.S A3.b;obtain⟨n2,rfl⟩:=IX n20;nofun;rw[show(1:Int)+(n2:Int)=((1+n2:Nat):Int) by lia];refine lT (R:=R+3920) A3 C3 (by lia) λDs h4 dl dk A4 C4=>?_;nofun;refine k3 ?_;nofun;refine⟨_,_,rfl,?_⟩;obtain⟨⟨ys,h5⟩,e5,δ',Mn,o0,hy,hml,hms,-,A5⟩:=kq (ws:=[]) (g:=gN 0) (e:=az aF (a2 v1 (ki 4))) (xs:=Ds.map D.str) (δ:=[none,some (.ob s)]) (h:=h4)
  (λi ys δ h'=>∃(Mn:List Int)(o0:Option D),ys=Mn.map D.int/\Mn.length=i/\(∀t∈Mn,0<=t/\t<=3)/\δ=[o0,some (.ob s)]/\Sb s c cs h (R+(3920-i)) h') ⟨[],_,rfl,rfl,λ_ z=>(nomatch z),rfl,A4⟩ (λ_ _ _ _ _=>rfl) (by
   rintro i x ys δ h' hx ⟨Mn,o0,rfl,hml,hms,rfl,A5⟩;have hi:i < 6:=by
    have:=(HJ.mp hx).1;rw[HH] at this
    lia
   nofun;refine dS (R:=R+(3920-(i+1))) (A5.le (by lia)) (by decide) (by decide) λt h6 t0 t1 A6=>?_;exact⟨Mn++[t],_,by rw[Ic];rfl,by rw[HL,hml];rfl,λy hy=>(Il.mp hy).elim (hms y) λz=>by rw[Ia.mp z];lia,rfl,A6⟩)
 rw[HH] at hml A5;dsimp only at hy e5 A5;subst hy;have C5:=C.but A5.S A5.b;refine rv e5 ⟨by dsimp only;rw[HH,show sizeLine=16777216 from rfl];lia,?_⟩;nofun;refine yz ?_;refine ko ?_;nofun;refine⟨.inr (Str.ofString "names"),rfl,ko ?_⟩;nofun;refine⟨.inr (Str.ofString "deeds"),rfl,ko ?_⟩;nofun;refine⟨.inr (Str.ofString "many"),rfl,ko ?_⟩;nofun;refine An (R:=R+3900) (is:=[3,10,30,60]) (λi=>0<=i/\i<=60) (by decide) (A5.le (by lia)) λli h6 hli _ A6=>?_;obtain⟨l0,rfl⟩:=IX hli.1;have hl0:l0<=60:=by lia
 have C6:=C.but A6.S A6.b;refine⟨.inr (Str.ofString "left"),rfl,Bl ⟨by show 4<=15;decide,?_⟩⟩;have em:MO.dct (lh [] [(.inr (Str.ofString "names"),.tup (N.map D.str)),(.inr (Str.ofString "deeds"),.lv (Ds.map D.str)),(.inr (Str.ofString "many"),.lv (Mn.map D.int)),(.inr (Str.ofString "left"),.int (l0:Int))])=md N Ds Mn l0:=by ac_nf
 dsimp only;rw[em];have h6l:h6.length=h.length:=A6.b.1;have X:Fx s c h6.length N Ds Mn:=⟨by lia,by lia,by lia,by lia,kN,by lia,by lia,dk,hml,hms⟩;have W0:Wz s c h6.length cs N Ds Mn (h6++[md N Ds Mn l0]) (R+3900) l0 (h6++[md N Ds Mn l0]):=⟨A6.S.more _,bR rfl,⟨rfl,λ_ _ _=>rfl⟩,C6.snoc (rK _ _ _ _ _)⟩;have wl:(h6++[md N Ds Mn (l0:Int)]).length=h6.length+1:=by rw[HL];rfl
 nofun;rw[wl];refine Bm ?_;nofun;refine⟨_,_,_,_,_,_,rfl,rfl,rfl,?_⟩;refine cQ (λi δ h'=>∃(dds:List hW)(l1:Nat)(v6 v7 v8:Option D)(hw:MH),δ=[some (.ob s),some (.tup (N.map D.str)),some (.lv (Ds.map D.str)),some (.lv (Mn.map D.int)),some (.ob h6.length),some (.ob (h6.length+1)),v6,v7,v8]/\h'=hw++[.lst (dds.map gK)]/\dds.length=i/\(∀d∈dds,Sh 8 d.1/\d.2.1.length<=3/\(∀x∈d.2.1,Sh 8 x)/\(∀g,uN g d.2.2)/\bb d.2.2<=5)/\l1+(dds.map λd=>ak d.2.2).sum<=l0/\Wz s c h6.length cs N Ds Mn (h6++[md N Ds Mn l0]) (R+40*(6-i)+60*l1) l1 hw)
  ⟨[],l0,_,_,_,_,rfl,rfl,rfl,λ_ z=>(nomatch z),by simp,W0.le (by lia)⟩ (λ_ _ _ _ _=>rfl) ?_ ?_
 ·rintro i x δ h' hx ⟨dds,l1,v6,v7,v8,hw,rfl,rfl,hl,hg,hc,B⟩;rw[kE,Io,Io] at hx;obtain⟨y,hy,hx⟩:=JN.mp hx;obtain⟨nm,enm,rfl⟩:=Ij.mp hy;obtain⟨y,hy,rfl⟩:=Ij.mp hx;obtain⟨mm,emm,rfl⟩:=Ij.mp hy;obtain⟨m0,m3⟩:=hms mm (HM emm);have hnm:=dk nm (HM enm);have hi:i < 6:=by have:=(HJ.mp enm).1;lia
  obtain⟨mm,rfl⟩:=IX m0;have hwl:hw.length=h6.length+1:=B.b.1.trans wl;have clr:ph (hw.length+1) (.lst (dds.map gK))=true:=by show dA _ _=true;exact iI _ gK (tx _) dds
  have Bp:=B.push clr;nofun;refine lT (R:=R+40*(6-(i+1))+60*l1+1) ((Bp.S.le (by lia)).sb) Bp.C (by lia) λps h7 pl pk A7 C7=>?_;have B7:=Bp.nx X.ws A7;nofun;refine rv (a:=(.tup (ps.map D.str),h7)) rfl ?_;nofun;refine dm ?_;nofun;refine⟨bJ (xs:=dds.map gK) ((B7.b.2 _ (by lia) (by lia)).trans (bR hwl)),?_⟩;nofun;refine(z6 X 20).1 (R:=R+40*(6-(i+1))) (l:=l1) (d:=1) B7 (by lia) pk (by decide) (by decide) (by decide) λrows l2 h8 g1 g2 g3 B8=>?_;obtain⟨hw8,rfl,B9⟩:=B.pop B8;have hwl8:hw8.length=h6.length+1:=B9.b.1.trans wl;nofun;refine rv (ba (bR hwl8) (by rw[HH,show sizeLine=16777216 from rfl];lia)) ?_;rw[iR hwl8];nofun;refine⟨dds++[(nm,ps,rows)],l2,_,_,_,hw8,rfl,by rw[Ic];rfl,by rw[HL,hl];rfl,λd hd=>(Il.mp hd).elim (hg d) λz=>by rw[Ia.mp z];exact⟨hnm,by show ps.length<=3;lia,pk,g1,by lia⟩,by rw[Ic,Kw];simp;lia,B9⟩
 ·rintro δ h' ⟨dds,l1,v6,v7,v8,hw,rfl,rfl,hl,hg,hc,B⟩;rw[gk,HH,HH] at hl B;have hwl:hw.length=h6.length+1:=B.b.1.trans wl;obtain⟨sl6,cl6⟩:=A6.S.lt;obtain⟨hb,o',rfl,S9,b9,C9⟩:=B.out sl6 cl6 C6 rfl;have hbl:hb.length=h.length:=b9.1.trans h6l;nofun;refine rv (nJ (bR hwl)) ?_;nofun;rw[IQ];refine rv (lC hbl C9 (λn z=>(nomatch z)) (zF _ ⟨N,dds⟩)) ?_;refine k ⟨N,dds⟩ hb ⟨⟨λd hd=>Ie (hg d hd).2.2.2.2 (by decide),Ie (show _<=l0 by dsimp only;lia) (by lia),by dsimp only;lia⟩,by dsimp only;lia,by dsimp only;lia,kN,λd hd=>let⟨a,b,c,e,_⟩:=hg d hd;⟨a,b,c,e 8⟩,Ie (show _<=l0 by dsimp only;lia) (by lia)⟩ ⟨S9.le (by lia),A.b.trans (A6.b.trans b9)⟩ C9
end
theorem uX{xs:List Ln}{h:MH}(hl:xs.length<=100000):cI [.lv (xs.map nC)] h=some (.lv ((xs.map (·.2)).map D.str),h):=by
 refine cq (bF (jN (mE (rv (a:=(xs.map λx=>.str x.2,h)) ?_ ?_))))
 ·exact uJ (t:=[]) (o:=none) (o2:=none) (λx:Ln=>.int x.1) (λx=>.str x.2) (λx=>.str x.2) (d:=.lv (xs.map nC)) rfl rfl rfl hl λx _=>rfl
 ·refine yC ?_;rw[Jd];rfl
theorem law_true(ns:List Int)(hn:ns.length<=63):∃h',tN [.ro (ns.map D.int)] []=some (.bl true,h'):=by
 have Cl0:∀cs:List Int,Cl [.lst (cs.map D.int),.lst [.int 0,.ob 0,.int 0]]:=λcs o ho=>by
  rcases HR.mp ho with rfl | ho
  ·exact iI _ D.int (λ_=>rfl) _
  ·rw[Ia.mp ho];rfl
 have e:Rn (tN [.ro (ns.map D.int)] []) λp=>p.1=.bl true:=by
  obtain⟨cs,ed,S0⟩:=rG ns hn 20000 (by decide);refine bF ?_;nofun;refine rv ed ?_;nofun;refine iB ?_;nofun;refine⟨4,rfl,by decide,by decide,?_⟩;refine cQ (λi δ h=>∃(v2 v3 v4 v5:Option D),δ=[some (.ro (ns.map D.int)),some (.ob 1),v2,v3,v4,v5]/\St 1 0 cs (4000*(5-i)) h/\Cl h) ⟨_,_,_,_,rfl,S0,Cl0 cs⟩ (λ_ _ _ _ _=>rfl) ?_ ?_
  ·rintro i x δ h hx ⟨v2,v3,v4,v5,rfl,S,C⟩;have hi:i < 4:=by
    have:=(HJ.mp hx).1;rw[HH,IP] at this;exact this
   nofun;refine uF (R:=4000*(5-(i+1))) ((S.le (by lia)).sb) C λP h1 hP A1 C1=>?_;obtain⟨sh,ln⟩:=wj hP;have eL:=wD hP h1;have eS:=j5 (h:=h1) hP;have eT:cI [.lv ((EG P).map nC)] h1=some (.lv ((xJ P).map D.str),h1):=by
    rw[uX (by rw[<-HH (f:=(·.2)),qY];lia),qY]
   have eJ:cA (.str (Str.ofString "\n")) [.lv ((xJ P).map D.str)] h1=some (.str (Str.join (Str.ofString "\n") (xJ P)),h1):=lj (ws:=[]) rfl (by
    have:=iP sh;have c:(Str.ofString "\n").length=1:=by decide+kernel
    rw[c]
    lia)
   generalize Str.join (Str.ofString "\n") (xJ P)=T at eS eJ;nofun;refine iB ?_;nofun;refine⟨2,rfl,by decide,by decide,?_⟩;refine cQ (λj δ h'=>h'=h1/\∃(v4 v5:Option D),δ=[some (.ro (ns.map D.int)),some (.ob 1),some x,some (k4 P),v4,v5]) ⟨rfl,_,_,rfl⟩ (λ_ _ _ _ _=>rfl) ?_ ?_
   ·rintro j y δ h' hy ⟨rfl,v4,v5,rfl⟩;nofun;refine rv eS ?_;nofun;refine rv (a:=(.bl true,h')) rfl ⟨true,rfl,ff ?_⟩;nofun;refine dm ?_;nofun;refine⟨rfl,?_⟩;nofun;refine rv eL ?_;nofun;refine rv eT ?_;nofun;refine rv eJ ?_;nofun;refine⟨false,by rw[IU];rfl,ff ?_⟩;nofun;exact⟨rfl,_,_,rfl⟩
   ·rintro δ h' ⟨rfl,v4,v5,rfl⟩;exact⟨_,_,_,_,rfl,A1.S,C1⟩
  ·rintro δ h ⟨v2,v3,v4,v5,rfl,S,C⟩;nofun
 obtain⟨⟨_,h'⟩,e1,rfl⟩:=e;exact⟨h',e1⟩
end Mi
open PySem PySem.W PyProof.Rows
theorem Mi.GJ:defOf Mi.view "law"=some (Hd.ng "law" Mi.jL,[]):=by ac_nf
theorem Mi.hp:PySem.Program.theDef Mi.pw "law"=some (L2.i9 Mi.jL,L2.eC Mi.jL,L2.ag Mi.jL):=by ac_nf
theorem PySem.Challenge.cw_neverstuck_k79_programs_shown_holds : PySem.Challenge.rw_neverstuck_k79_programs_shown.Holds := by
 refine holds_law Mi.Ba λBa=>?_;refine PySem.W.holds_open (q:=Mi.view) (loose:=["SHAPES"]) (Xt:=Mi.Xt) (XP:=XL Mi.view []) (Yf:=Mi.Yf) (Ya:=Mi.ya) (YP:=λw h=>Hd.tabAt h "SHAPES"=Mi.ya w) (N:=20000) (d:=Hd.ng "law" Mi.jL) (kwd:=[]) Mi.left (λ_ _ e=>e) (λ_ _ _ y k=>Hd.qJ k y) (λs e=>xl_of s (Ig.mp e).1) XL.keeps Mi.GJ Mi.hp (by ac_nf) (λs e=>recFacts_of (Ig.mp e).2) (by ac_nf) Ba (by decide+kernel) ⟨rfl,rfl,rfl,rfl,rfl,by decide+kernel⟩ (by w_witness2) ?_;exact Hd.CF (k:=28) (by ac_nf) (by ac_nf) ⟨rfl,by decide,by decide⟩ λw s₀ mg mb h G Y=>Mi.all_mk G.T Y Mi.law_true
