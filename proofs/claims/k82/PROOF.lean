import PyProof.Rows.All
import Wide.All
import OpenK.AllK
import Wide.FinOn
import Lean
import PyProof.EqAt
import PyProof.EqKinds
import PyProof.TupleCall
import PyProof.AttrMissHeap
import KE.KDictOf
import PyProof.ConsumeWalk
import PyProof.ZipIter
import PyProof.EnumMake
import KE.KEqDict
import KE.KDictSum
import KE.KItemsList
import PyProof.CallStr
import PyProof.FString
import PyProof.FString5
import PyProof.FactsAll.tuple_2
import PyProof.FactsAll.zip_1
import PyProof.ListMulRoad
import PyProof.ListRange
import PyProof.MeetsStr
import PyProof.NeKinds
import PyProof.Rows.ReprOcc
import PyProof.Rows.RuleDivmod
import PyProof.Rows.SortShell
import PyProof.Rows.StrWeight2
import PyProof.StrCalls2
import PyProof.StrCalls5
import PyProof.StrWalks
import PySem.Challenge.RW_neverstuck_k82_weavings_written
set_option Elab.async false
set_option linter.all false
set_option maxRecDepth 100000
set_option maxHeartbeats 4000000
set_option compiler.small 0
set_option compiler.extract_closed false
set_option compiler.reuse false
noncomputable section
set_option hygiene false
local macro_rules | `(tactic| walk_at "aa") => `(tactic| (intro pins s σ H x y v u Q I rx ry hh;obtain ⟨ρ,h,d,e,z,h',S,rd,re,ee,k⟩:=hh))
local macro_rules | `(tactic| walk_at "ab") => `(tactic| (obtain ⟨⟨x,h1⟩,e1,e2⟩:=bnd e))
local macro_rules | `(tactic| walk_at "ac") => `(tactic| (intro X hP hw hK hc i pins s σ H E I hf st hg;subst hP hw hK))
local macro_rules | `(tactic| walk_at "ad") => `(tactic| (intro pins s σ H xs us Q I r hh;obtain ⟨ρ,h,ds,z,h',S,l,ee,k⟩:=hh))
local macro_rules | `(tactic| walk_at "ae") => `(tactic| (intro pins s σ H x xs v us Q I rx rs hh;obtain ⟨ρ,h,d,ds,z,h',S,rd,l,ee,k⟩:=hh))
local macro_rules | `(tactic| walk_at "af") => `(tactic| (refine ⟨ρ,δ,h,x,h1,R,S,e1,fun v H1 ⟨ρ1,T1,S1,r1⟩=>?_⟩))
local macro_rules | `(tactic| walk_at "ag") => `(tactic| (obtain ⟨f0,f1,f2,f3,f4,f5⟩:=hf it (by simp)))
local macro_rules | `(tactic| walk_at "ah") => `(tactic| (intro pins s σ H Q I h))
local macro_rules | `(tactic| walk_at "ai") => `(tactic| (dsimp only [Option.bind_some]))
local macro_rules | `(tactic| walk_at "aj") => `(tactic| (rw [if_pos c] at ee;cases ee))
local macro_rules | `(tactic| walk_at "ak") => `(tactic| (rw [if_neg c] at ee;cases ee))
local macro_rules | `(tactic| walk_at "al") => `(tactic| (intro pins s σ H x y v u Q I rx ry h))
set_option hygiene true
abbrev FR:=PySem.W.Frag
namespace Hd
open PySem PySem.W PySem.Spec PyProof.Rows
noncomputable def pJ:List Value->Option (List Int)
 | []=>some []
 | .int i _::r=>(pJ r).map fun is=>i::is
 | _=>none
noncomputable def pL (v:Value) (t:String):Bool:=match v with
 | .type s=>decide (s=t)
 | _=>false
noncomputable def rowAt (h:Heap) (e:DictEntry):Option (Str×Int×List Int):=match e.key with
 | .str x _=>match e.val with
  | .ref t=>match h.get? t with
   | some u=>if pL u.cls "tuple"&&u.dict.isNone then (match u.data with
     | .seq its _=>if its.size≤100 then (pJ its.toList).map fun is=>(x,e.hash,is) else none
     | _=>none) else none
   | none=>none
  | _=>none
 | _=>none
noncomputable def fy (h:Heap):List DictEntry->Option (List (Str×Int×List Int))
 | []=>some []
 | e::r=>(rowAt h e).bind fun x=>(fy h r).map fun xs=>x::xs
noncomputable def tabAt (h:Heap) (nm:Str):Option (List (Str×Int×List Int)):=match h.nsMap mainGlobals nm with
 | some (.ref a)=>if a==sysModules then none else (match h.get? a with
  | some o=>if pL o.cls "dict"&&o.dict.isNone&&decide (o.slots=#[]) then (match o.data with
    | .dict es _=>fy h es.toList
    | _=>none) else none
  | none=>none)
 | _=>none
theorem ue (row:String) (h0:∀w:World,(fencedOpening treeTable p w N).map (fun s₀=>(topFrom treeTable p (w.withFollow row false) N s₀).map (fun s=>(openSeen q loose (importedModules p.main.body) Xt true s,Yf s)))=some (some (openGood q loose,Ya (w.withFollow row false)))) (h1:∀w:World,(fencedOpening treeTable p w N).map (fun s₀=>(topFrom treeTable p (w.withFollow row true) N s₀).map (fun s=>(openSeen q loose (importedModules p.main.body) Xt true s,Yf s)))=some (some (openGood q loose,Ya (w.withFollow row true)))):LeftO p q loose Xt Yf Ya N true:=fun w=>by
 obtain ⟨s₀,a,b0⟩:=Option.map_eq_some_iff.mp (h0 w);obtain ⟨s₁,a1,b1⟩:=Option.map_eq_some_iff.mp (h1 w);have e:=World.withFollow_self w row;unfold openEnds;cases hb:w.params.followText row <;> rw [hb] at e
 ·rw [a];rw [e] at b0;exact b0
 ·rw [a1];rw [e] at b1;exact b1
end Hd
namespace Mi
open PySem
abbrev pw:Program:=PySem.Challenge.pw_neverstuck_k82_weavings_written
noncomputable def top (i:Nat):Stmt:=pw.main.body.getD i (.Pass ⟨0,0,0,0⟩)
noncomputable def view:Program:={pw with main:={pw.main with body:=[top 1,top 2,top 4,top 5,top 6,top 8,top 9,top 10,top 12,top 13,top 14,top 15,top 16,top 17,top 18]}}
end Mi
local macro_rules | `(tactic| walk_at "s") => `(tactic| exact ⟨rfl, rfl, rfl, by decide +kernel, rfl, by decide +kernel, by decide +kernel⟩)
namespace Mi
open PySem PySem.W PyProof.Rows
abbrev Xt:Shared->Bool:=fun s=>xlAt view [] s&&recOk (RowW.records (OpenRow.toRowW PySem.Challenge.rw_neverstuck_k82_weavings_written.row)) s
abbrev Yf:Shared->Unit:=fun _=>()
theorem left:LeftO pw view ([]:List Str) Xt Yf (fun _:World=>()) 20000:=fun w=>by kernel_rfl
theorem qe:PySem.Challenge.rw_neverstuck_k82_weavings_written.wellSaid=true:=by
 unfold OpenLaw.wellSaid
 repeat (with_reducible refine look_both ?_ (by decide+kernel))
 unfold OpenRow.wellSaid
 repeat (with_reducible refine look_both ?_ (by decide+kernel))
 unfold OpenRow.partSaid
 repeat (with_reducible refine look_both ?_ (by decide+kernel))
 unfold looksOpen
 repeat (with_reducible refine look_both ?_ (by decide+kernel))
 decide+kernel
end Mi
namespace L2
open PySem PySem.Spec PyProof.Rows
abbrev Key:=Sum Int Str
noncomputable def gH:Key->Value->Bool
 | .inl k,v=>Value.isInt k v
 | .inr x,v=>Value.isStrOf x v
noncomputable def va (w:World):Key->Int
 | .inl k=>hashInt k
 | .inr x=>hashStr w x
theorem aA:∀{k:Key} {v:Value},gH k v=true->(∃i t,k=Sum.inl i∧v=Value.int i t)∨(∃x t,k=Sum.inr x∧v=Value.str x t)
 | .inl i,v,h=>by
  obtain ⟨t,e⟩:=Value.isInt_shape (k:=i) (v:=v) h;exact .inl ⟨i,t,rfl,e⟩
 | .inr x,v,h=>by
  obtain ⟨t,e⟩:=Value.isStrOf_shape (x:=x) (v:=v) h;exact .inr ⟨x,t,rfl,e⟩
theorem kU (i:Int) (t:Tok):gH (.inl i) (.int i t)=true:=by simp [gH,Value.isInt]
theorem kT (x:Str) (t:Tok):gH (.inr x) (.str x t)=true:=by simp [gH,Value.isStrOf]
theorem rH (a b:Int):decide ((Sum.inl a:Key)=Sum.inl b)=(a==b):=by
 by_cases e:a=b
 ·subst e;simp
 ·have h:¬(Sum.inl a:Key)=Sum.inl b:=fun q=>e (Sum.inl.inj q);rw [decide_eq_false h];exact (beq_eq_false_iff_ne.mpr e).symm
theorem rD (a b:Str):decide ((Sum.inr a:Key)=Sum.inr b)=decide (a=b):=by
 by_cases e:a=b
 ·subst e;simp
 ·have h:¬(Sum.inr a:Key)=Sum.inr b:=fun q=>e (Sum.inr.inj q);rw [decide_eq_false h,decide_eq_false e]
theorem rG (a:Int) (b:Str):decide ((Sum.inl a:Key)=Sum.inr b)=false:=decide_eq_false (fun q=>nomatch q)
theorem rE (a:Str) (b:Int):decide ((Sum.inr a:Key)=Sum.inl b)=false:=decide_eq_false (fun q=>nomatch q)
noncomputable def aK (prog:Program) (w:World):PySem.KeyKind prog w Key where
 is:=gH
 hash:=va w
 inj:=fun v a b ha hb=>by
  rcases aA ha with ⟨i,t,rfl,rfl⟩ | ⟨x,t,rfl,rfl⟩
  ·rcases aA hb with ⟨j,u,rfl,e⟩ | ⟨y,u,rfl,e⟩
   ·injection e with e1 _;rw [e1]
   ·exact nomatch e
  ·rcases aA hb with ⟨j,u,rfl,e⟩ | ⟨y,u,rfl,e⟩
   ·exact nomatch e
   ·injection e with e1 _;rw [e1]
 byValue:=fun k v h=>by
  rcases aA h with ⟨i,t,rfl,rfl⟩ | ⟨x,t,rfl,rfl⟩ <;> rfl
 pyHash:=fun hv h=>by
  rcases aA hv with ⟨i,t,rfl,rfl⟩ | ⟨x,t,rfl,rfl⟩
  ·exact wpAny_pyHash_int h
  ·exact wpAny_pyHash_str h
 eqBool:=fun hu hv h=>by
  rcases aA hu with ⟨i,t,rfl,rfl⟩ | ⟨x,t,rfl,rfl⟩
  ·rcases aA hv with ⟨j,u,rfl,rfl⟩ | ⟨y,u,rfl,rfl⟩
   ·rw [rH] at h;exact wpAny_eqBool_int h
   ·rw [rG] at h;exact SeqAt.EqAt.int_str i t y u _ _ _ _ h
  ·rcases aA hv with ⟨j,u,rfl,rfl⟩ | ⟨y,u,rfl,rfl⟩
   ·rw [rE] at h;exact SeqAt.EqAt.str_int x t j u _ _ _ _ h
   ·rw [rD] at h;exact wpAny_eqBool_str h
 «strs»:=fun k x t v h=>by
  rcases aA h with ⟨i,u,rfl,e⟩ | ⟨y,u,rfl,e⟩
  ·exact nomatch e
  ·injection e with e1 _
   subst e1;cases v <;> rfl
theorem i9 (prog:Program) (w:World) (i:Int) (t:Tok):(aK prog w).is (.inl i) (.int i t)=true:=kU i t
theorem i8 (prog:Program) (w:World) (x:Str) (t:Tok):(aK prog w).is (.inr x) (.str x t)=true:=kT x t
inductive V where
 | non | bl (b:Bool) | int (i:Int) | str (x:Str) | byt (b:Array UInt8) | flt (b:UInt64) | ref (a:Addr) | ty (n:String)
 deriving DecidableEq
def RelV:V->Value->Prop
 | .non,u=>u=Value.none
 | .bl b,u=>u=Value.bool b
 | .int i,u=>∃t,u=Value.int i t
 | .str x,u=>∃t,u=Value.str x t
 | .byt b,u=>∃t,u=Value.bytes b t
 | .flt b,u=>∃t,u=Value.float b t
 | .ref a,u=>u=Value.ref a
 | .ty n,u=>u=Value.type n
abbrev Vals:List V->List Value->Prop:=Paired RelV
theorem Vals.length (r:Vals xs us):xs.length=us.length:=Paired.length r
theorem Vals.get:∀{xs:List V} {us:List Value} {i:Nat} {x:V},Vals xs us->xs[i]?=some x->∃u,us[i]?=some u∧RelV x u
 | _,_,_,_,.nil,e=>by simp at e
 | _,_,0,_,.cons r _,e=>by simp at e;subst e;exact ⟨_,rfl,r⟩
 | _,_,i+1,x,.cons _ t,e=>by
  obtain ⟨u,h1,h2⟩:=Vals.get (i:=i) (x:=x) t (by simpa using e);exact ⟨u,by simpa using h1,h2⟩
theorem Vals.set (r:RelV x u):∀{xs:List V} {us:List Value} (i:Nat),Vals xs us->Vals (xs.set i x) (us.set i u)
 | _,_,_,.nil=>.nil
 | _,_,0,.cons _ t=>.cons r t
 | _,_,i+1,.cons q t=>.cons q (Vals.set r i t)
theorem Vals.append:∀{xs ys:List V} {us ws:List Value},Vals xs us->Vals ys ws->Vals (xs++ys) (us++ws)
 | _,_,_,_,.nil,s=>s
 | _,_,_,_,.cons r t,s=>.cons r (Vals.append t s)
theorem Vals.take:∀{xs:List V} {us:List Value} (n:Nat),Vals xs us->Vals (xs.take n) (us.take n)
 | _,_,0,_=>.nil
 | _,_,_+1,.nil=>.nil
 | _,_,n+1,.cons r t=>.cons r (Vals.take n t)
theorem Vals.drop:∀{xs:List V} {us:List Value} (n:Nat),Vals xs us->Vals (xs.drop n) (us.drop n)
 | _,_,0,r=>r
 | _,_,_+1,.nil=>.nil
 | _,_,n+1,.cons _ t=>Vals.drop n t
def fZ:Option V->Option Value->Prop
 | some v,some u=>RelV v u
 | none,none=>True
 | _,_=>False
def KV {κ:Type}:List (κ×V)->List (κ×Value)->Prop:=Paired fun (p:κ×V) (q:κ×Value)=>p.1=q.1∧RelV p.2 q.2
noncomputable def kV:Key->V
 | .inl i=>.int i
 | .inr x=>.str x
inductive HO where
 | lst (xs:List V)
 | tup (xs:List V)
 | dK (kvs:List (Key×V)) | dT (kvs:List (List Key×V))
 | set (S:Int->Bool) (n:Nat)
 | ins (C dx:Addr) (fs:List (Str×V))
 | own (x:Addr)
 | xd (fs:List (Str×V))
 | met (f x:Addr)
 | rng (lo hi:Int)
 | frz (o:Obj) (u:HO)
 | tbl (ps:Array Value)
 | ext (φ:Heap->Prop)
abbrev Hp:=Addr->Option HO
noncomputable def upd (H:Hp) (a:Addr) (o:HO):Hp:=fun b=>if b=a then some o else H b
theorem az:upd H a o a=some o:=by unfold upd;rw [if_pos rfl]
theorem ai (h:b≠a):upd H a o b=H b:=by unfold upd;rw [if_neg h]
theorem tY {H:Hp} {a b:Addr} {o u:HO} (h:H a=some o) (h':H b=some u) (d:o≠u):a≠b:=by
 intro e;subst e;rw [h] at h';exact d (Option.some.inj h')
theorem ak {H:Hp} {a b:Addr} {o:HO} (h:H a=some o) (h':H b=none):a≠b:=by
 intro e;subst e;rw [h] at h';cases h'
def iP (h:Heap) (a:Addr) (items:Array Value):Prop:=∃o,h.get? a=some o∧o.cls=.type "tuple"∧(∃n,o.data=.seq items n)∧o.dict=none
theorem iP.tup (x:iP h a items):IsTup h a items:=let ⟨o,e,c,d,_⟩:=x;⟨o,e,c,d⟩
theorem iP.new (h:Heap) (items:Array Value):iP (h.push {cls:=.type "tuple",data:=.seq items}) h.objs.size items:=⟨_,Heap.get?_push_size _ rfl,rfl,⟨_,rfl⟩,rfl⟩
section
variable (P:Program) (w:World)
def aC (H:Hp) (h:Heap) (a:Addr):HO->Prop
 | .lst xs=>xs.length≤sizeLine∧∃(its:List Value) (n:Nat),Vals xs its∧h.get? a=some {cls:=.type "list",data:=.seq its.toArray n}
 | .tup xs=>xs.length≤sizeLine∧∃its:List Value,Vals xs its∧iP h a its.toArray
 | .dK kvs=>kvs.length≤sizeLine∧(a==sysModules)=false∧∃vs,KV kvs vs∧h.DictOf (aK P w) a vs
 | .dT kvs=>kvs.length≤sizeLine∧(a==sysModules)=false∧∃xs:List (List Key×Addr×Value),
   Paired (fun (p:List Key×V) (q:List Key×Addr×Value)=>p.1=q.1∧H q.2.1=some (.tup (p.1.map kV))∧RelV p.2 q.2.2) kvs xs∧
   ∃o es ep,h.get? a=some o∧o.ExactDict∧o.data=.dict es ep∧es.toList=xs.map (entryOfKey (tupleKind (aK P w)))∧(xs.map (·.1)).Nodup
 | .set S n=>h.SetOf (intKind P w) a S n
 | .ins C dx fs=>H dx=some (.own a)∧fs.length≤1000∧dx≠a∧h.get? a=some (PySem.W.instObj C dx)∧
   ∃mA,h.Ns1 dx mA∧(∀f,fZ (fs.lookup f) (mA f))∧PySem.Within mA (fs.map (·.1))
 | .own _=>∃o,h.get? a=some o
 | .xd fs=>∃mA,h.Ns1 a mA∧∀f,fZ (fs.lookup f) (mA f)
 | .rng lo hi=>∃t u v,h.get? a=some {cls:=.type "range",data:=.fields #[.int lo t,.int hi u,.int 1 v]}
 | .frz o u=>h.get? a=some o∧aC H h a u
 | .tbl ps=>h.get? a=some {cls:=.none,data:=.fields ps}
 | .met f x=>h.get? a=some (PySem.W.methodObj (.ref f) (.ref x))
 | .ext φ=>φ h∧(∃o,h.get? a=some o)∧∀h1 h2:Heap,φ h1->(∀o,h1.get? a=some o->h2.get? a=some o)->φ h2
def HOk (H:Hp) (h:Heap):Prop:=∀a o,H a=some o->aC P w H h a o
end
theorem aC.lt (x:aC P w H h a o):a < h.objs.size:=by
 cases o with
 | lst xs=>obtain ⟨_,_,_,_,e⟩:=x;exact Heap.lt_size e
 | tup xs=>obtain ⟨_,_,_,p⟩:=x;exact p.tup.lt
 | dK kvs=>obtain ⟨_,_,_,_,o,_,_,e,_⟩:=x;exact Heap.lt_size e
 | dT kvs=>obtain ⟨_,_,_,_,o,_,_,e,_⟩:=x;exact Heap.lt_size e
 | set S n=>obtain ⟨o,_,_,_,e,_⟩:=x;exact Heap.lt_size e
 | ins C dx fs=>obtain ⟨_,_,_,e,_⟩:=x;exact Heap.lt_size e
 | own y=>obtain ⟨_,e⟩:=x;exact Heap.lt_size e
 | xd fs=>obtain ⟨_,⟨_,_,_,e,_⟩,_⟩:=x;exact Heap.lt_size e
 | rng lo hi=>obtain ⟨_,_,_,e⟩:=x;exact Heap.lt_size e
 | frz ob u=>obtain ⟨e,_⟩:=x;exact Heap.lt_size e
 | tbl ps=>exact Heap.lt_size (show h.get? a=some _ from x)
 | met f y=>exact Heap.lt_size (show h.get? a=some _ from x)
 | ext φ=>obtain ⟨_,⟨_,e⟩,_⟩:=x;exact Heap.lt_size e
theorem Paired.rq:∀{l₁:List α} {l₂:List β},Paired F l₁ l₂->(∀a b,F a b->G a b)->Paired G l₁ l₂
 | _,_,.nil,_=>.nil
 | _,_,.cons r t,f=>.cons (f _ _ r) (Paired.rq t f)
theorem aC.iY (x:aC P w H h a o) (k:∀b u,(b=a∨H b=some (.own a))->h.get? b=some u->h'.get? b=some u)
  (ho:∀b,H b=some (.own a)->H' b=some (.own a)) (ht:∀b xs,H b=some (.tup xs)->H' b=some (.tup xs)):aC P w H' h' a o:=by
 induction o with
 | lst xs=>obtain ⟨z,its,n,r,e⟩:=x;exact ⟨z,its,n,r,k _ _ (.inl rfl) e⟩
 | tup xs=>obtain ⟨z,its,r,ob,e,c⟩:=x;exact ⟨z,its,r,ob,k _ _ (.inl rfl) e,c⟩
 | dK kvs=>obtain ⟨z,y,vs,r,ob,es,ep,e,c⟩:=x;exact ⟨z,y,vs,r,ob,es,ep,k _ _ (.inl rfl) e,c⟩
 | dT kvs=>
  obtain ⟨z,y,xs,r,ob,es,ep,e,c⟩:=x;exact ⟨z,y,xs,Paired.rq r fun p q z=>⟨z.1,ht _ _ z.2.1,z.2.2⟩,ob,es,ep,k _ _ (.inl rfl) e,c⟩
 | set S n=>obtain ⟨ob,es,ep,t,e,c⟩:=x;exact ⟨ob,es,ep,t,k _ _ (.inl rfl) e,c⟩
 | ins C dx fs=>
  obtain ⟨d,z,ne,e,mA,⟨od,es,ep,e2,c⟩,r⟩:=x;exact ⟨ho _ d,z,ne,k _ _ (.inl rfl) e,mA,⟨od,es,ep,k _ _ (.inr d) e2,c⟩,r⟩
 | own y=>obtain ⟨ob,e⟩:=x;exact ⟨ob,k _ _ (.inl rfl) e⟩
 | xd fs=>obtain ⟨mA,⟨od,es,ep,e,c⟩,r⟩:=x;exact ⟨mA,⟨od,es,ep,k _ _ (.inl rfl) e,c⟩,r⟩
 | rng lo hi=>obtain ⟨t,u,v,e⟩:=x;exact ⟨t,u,v,k _ _ (.inl rfl) e⟩
 | frz ob u ih=>obtain ⟨e,q⟩:=x;exact ⟨k _ _ (.inl rfl) e,ih q⟩
 | tbl ps=>
  have e:h.get? a=some {cls:=.none,data:=.fields ps}:=x;show h'.get? a=some {cls:=.none,data:=.fields ps};exact k a _ (.inl rfl) e
 | met f y=>
  have e:h.get? a=some (PySem.W.methodObj (.ref f) (.ref y)):=x;show h'.get? a=some (PySem.W.methodObj (.ref f) (.ref y));exact k a _ (.inl rfl) e
 | ext φ=>obtain ⟨p,⟨o,e⟩,st⟩:=x;exact ⟨st _ _ p fun o q=>k _ _ (.inl rfl) q,⟨o,k _ _ (.inl rfl) e⟩,st⟩
theorem HOk.lt (x:HOk P w H h) (e:H a=some o):a < h.objs.size:=(x a o e).lt
theorem HOk.fresh (x:HOk P w H h) (e:h.objs.size≤a):H a=none:=by
 cases q:H a with
 | none=>rfl
 | some u=>exact absurd (Nat.lt_of_lt_of_le (x.lt q) e) (Nat.lt_irrefl _)
theorem HOk.kept (x:HOk P w H h) (k:∀b u,h.get? b=some u->h'.get? b=some u):HOk P w H h':=fun a o e=>
 (x a o e).iY (fun b u _ q=>k b u q) (fun _ q=>q) fun _ _ q=>q
theorem HOk.laid (x:HOk P w H h) (k:∀b u,h.get? b=some u->h'.get? b=some u) (hp:h.objs.size≤a) (new:aC P w (upd H a o) h' a o):HOk P w (upd H a o) h':=fun b u e=>by
 have hn:=x.fresh hp
 by_cases hb:b=a
 ·subst hb;rw [az] at e;cases e;exact new
 ·rw [ai hb] at e;exact (x b u e).iY (fun c v _ q=>k c v q) (fun c q=>by rw [ai (ak q hn)];exact q) fun c xs q=>by rw [ai (ak q hn)];exact q
def Rd (H:Hp) (a:Addr) (u:HO):Prop:=H a=some u∨∃o,H a=some (.frz o u)
theorem Rd.ok (r:Rd H a u) (x:HOk P w H h):aC P w H h a u:=by
 rcases r with r | ⟨o,r⟩
 ·exact x a u r
 ·obtain ⟨_,q⟩:=x a _ r;exact q
def Mut:Option HO->Prop
 | some (.lst _)=>True
 | some (.dK _)=>True
 | some (.dT _)=>True
 | some (.set _ _)=>True
 | some (.ins _ _ _)=>True
 | some (.ext _)=>True
 | _=>False
theorem HOk.write (ok:HOk P w H h) (mu:Mut (H x)) (he:e=x∨H e=some (.own x)) (k:∀b u,b≠e->h.get? b=some u->h'.get? b=some u) (heo:∃u,h'.get? e=some u)
  (new:aC P w (upd H x o') h' x o'):HOk P w (upd H x o') h':=fun b u q=>by
 have nown:∀c y,H c=some (.own y)->c≠x:=fun c y r z=>by subst z;rw [r] at mu;exact mu
 have ntup:∀c xs,H c=some (.tup xs)->c≠x:=fun c xs r z=>by subst z;rw [r] at mu;exact mu
 by_cases hb:b=x
 ·subst hb;rw [az] at q;cases q;exact new
 ·rw [ai hb] at q
  by_cases hbe:b=e
  ·have q':H b=some (.own x):=by
    rcases he with z | z
    ·exact absurd (hbe.trans z) hb
    ·rw [hbe];exact z
   rw [q] at q';cases q';obtain ⟨v,hv⟩:=heo;exact ⟨v,by rw [hbe];exact hv⟩
  ·refine (ok b u q).iY (fun c v hc r=>k c v ?_ r) (fun c r=>by rw [ai (nown c b r)];exact r) fun c xs r=>by rw [ai (ntup c xs r)];exact r
   rcases hc with rfl | hc
   ·exact hbe
   ·rintro rfl;rcases he with z | z
    ·exact nown c b hc z
    ·rw [hc] at z;cases z;exact hb rfl
structure Un (fs ex:List Addr) (H H':Hp) (h h':Heap):Prop where
 keep:∀b o,h.get? b=some o->H b=none->b∉fs->b∉ex->h'.get? b=some o
 slot:∀b o,h.get? b=some o->H b=none->b∈fs->b∉ex->∃sl,h'.get? b=some {o with slots:=sl}
 free:∀b o,h.get? b=some o->H b=none->b∉ex->H' b=none
 there:∀b o,h.get? b=some o->b∉ex->∃o',h'.get? b=some o'
 tups:∀b xs,H b=some (.tup xs)->H' b=some (.tup xs)
 frzs:∀b o u,H b=some (.frz o u)->H' b=some (.frz o u)
 tbls:∀b ps,H b=some (.tbl ps)->∃more,H' b=some (.tbl (ps++more))
theorem Un.any (u:Un fs ex H H1 h h1) (q:h.get? b=some ob) (n:H b=none) (hx:b∉ex):∃sl,h1.get? b=some {ob with slots:=sl}:=by
 by_cases hb:b∈fs
 ·exact u.slot b ob q n hb hx
 ·exact ⟨ob.slots,u.keep b ob q n hb hx⟩
theorem Un.kept (k:∀b u,h.get? b=some u->h'.get? b=some u):Un fs ex H H h h':=
 ⟨fun b ob q _ _ _=>k b ob q,fun b ob q _ _ _=>⟨ob.slots,k b ob q⟩,fun _ _ _ n _=>n,fun b ob q _=>⟨ob,k b ob q⟩,fun _ _ q=>q,fun _ _ _ q=>q,fun _ ps q=>⟨#[],by rw [q];simp⟩⟩
theorem Un.refl:Un fs ex H H h h:=Un.kept fun _ _ q=>q
theorem Un.laid (k:∀b u,h.get? b=some u->h'.get? b=some u) (hp:h.objs.size≤a) (hn:H a=none):Un fs ex H (upd H a o) h h' where
 keep:=fun b u q _ _ _=>k b u q
 slot:=fun b u q _ _ _=>⟨u.slots,k b u q⟩
 free:=fun b u q n _=>by rw [ai (Nat.ne_of_lt (Nat.lt_of_lt_of_le (Heap.lt_size q) hp))];exact n
 there:=fun b u q _=>⟨u,k b u q⟩
 tups:=fun b xs q=>by rw [ai (ak q hn)];exact q
 frzs:=fun b u xs q=>by rw [ai (ak q hn)];exact q
 tbls:=fun b ps q=>⟨#[],by rw [ai (ak q hn),q];simp⟩
theorem Un.write (mu:Mut (H x)) (he:e=x∨H e=some (.own x)) (k:∀b u,b≠e->h.get? b=some u->h'.get? b=some u) (heo:∃u,h'.get? e=some u):Un fs ex H (upd H x o) h h':=by
 have hx:∀b,H b=none->b≠x:=fun b n z=>by subst z;rw [n] at mu;exact mu
 have hb:∀b,H b=none->b≠e:=fun b n z=>by
  subst z;rcases he with r | r
  ·exact hx b n r
  ·rw [n] at r;cases r
 have hm:∀b u,H b=some u->¬Mut (some u)->b≠x:=fun b u q nm z=>by subst z;rw [q] at mu;exact nm mu
 refine ⟨fun b u q n _ _=>k b u (hb b n) q,fun b u q n _ _=>⟨u.slots,k b u (hb b n) q⟩,fun b u q n _=>by rw [ai (hx b n)];exact n,fun b u q _=>?_,
  fun b xs q=>by rw [ai (hm b _ q fun z=>z)];exact q,fun b u xs q=>by rw [ai (hm b _ q fun z=>z)];exact q,fun b ps q=>⟨#[],by rw [ai (hm b _ q fun z=>z),q];simp⟩⟩
 by_cases hbe:b=e
 ·subst hbe;exact heo
 ·exact ⟨u,k b u hbe q⟩
noncomputable def trk (h:Heap) (H:Hp):List Addr:=(List.range h.objs.size).filter fun a=>(H a).isSome
noncomputable def iA (h:Heap) (H:Hp):Heap:=PySem.W.hideAll h (trk h H)
theorem kY (h:Heap) (H:Hp):(iA h H).objs.size=h.objs.size:=PySem.W.hideAll_size _ _
theorem mM (e:h.get? b=some o) (n:H b=none):(iA h H).get? b=some o:=
 PySem.W.hideAll_get _ e fun hm=>by
  have q:(H b).isSome=true:=(List.mem_filter.mp hm).2;rw [n] at q;simp at q
theorem oH (e:(iA h H).get? b=some o):h.get? b=some o∧H b=none:=by
 have e':h.get? b=some o:=PySem.W.of_hideAll (trk h H) e;refine ⟨e',?_⟩;cases q:H b with
 | none=>rfl
 | some x=>
  have hm:b∈trk h H:=List.mem_filter.mpr ⟨List.mem_range.mpr (Heap.lt_size e'),by simp [q]⟩;have z:(iA h H).get? b=none:=PySem.W.hideAll_none (trk h H) hm;rw [z] at e;cases e
structure Mod (K:FR) (mg:Str->Option Value) (base:Heap):Prop where
 kin:K.In base
 glob:base.Ns mainGlobals mg
 blt:∃mb,base.Ns builtinsNs mb∧∀x:Str,x≠"__name__"->mb x=bootBuiltins x
 nolimit:base.NoLimit
structure Cx where
 prog:Program
 w:World
 K:FR
 mg:Str->Option Value
 base:Heap
 A:Around
 N:List Str
 s₀:Shared
 H₀:Hp
 env:Env
 outer:List Env
 stack:List Env
 ex:List Addr
 fn:Str->Bool
 calm:Bool
 pn:List (Addr×Obj)
 xe:Value->Shared->Prop
noncomputable def frs (l:List Env):List Addr:=l.filterMap (·.frame)
abbrev Cx.fs (X:Cx):List Addr:=frs X.outer
def Vis (sc:Scope) (x:Str):Prop:=sc.names.lookup x=some .local∨sc.names.lookup x=some .cell∨sc.names.lookup x=some .free
def Loc (sc:Scope) (x:Str):Prop:=sc.names.lookup x=some .local∨sc.names.lookup x=some .cell
def Look (env:Env) (h:Heap) (m:Str->Option Value) (x:Str) (u:Value):Prop:=
 (env.kindOf x=some .local∧m x=some u)∨((env.kindOf x=some .cell∨env.kindOf x=some .free)∧∃c,env.cells.lookup x=some c∧h.IsCell c (some u))
structure Cx.Ok (X:Cx):Prop where
 mod:Mod X.K X.mg X.base
 kind:X.env.scope.kind=.function
 glob:X.env.globals=mainGlobals
 blt:X.env.builtins=builtinsNs
 above:X.s₀.heap.objs.size≤X.env.locals
 inj:∀x y c,X.env.cells.lookup x=some c->X.env.cells.lookup y=some c->x=y
 has:∀x,(X.env.kindOf x=some .cell∨X.env.kindOf x=some .free)->∃c,X.env.cells.lookup x=some c
 cab:∀x c,X.fn x=true->X.env.cells.lookup x=some c->X.s₀.heap.objs.size≤c
 hd:X.calm=true->X.A.handled=none
 frames:X.A.frames=some X.stack
 stk:X.stack=X.outer∨(X.stack=X.env::X.outer∧X.env.frame=some X.env.locals)
 exf:∀b∈X.ex,b≠X.env.locals∧∀x c,X.env.cells.lookup x=some c->c≠b
 bs:∀b o,X.base.get? b=some o->X.s₀.heap.get? b=some o∧X.H₀ b=none
 bsz:X.base.objs.size≤X.s₀.heap.objs.size
 noex:∀b o,X.base.get? b=some o->b∉X.ex
 exfs:∀b∈X.ex,b∉X.fs
 fO:X.s₀.heap.FunFrames X.base X.outer
 frf:∀b∈X.fs,X.H₀ b=none
structure Inv (X:Cx) (pins:List (Addr×Obj)) (σ:List (Option V)) (H:Hp) (s:Shared):Prop where
 ok:X.Ok
 os:s.os=X.s₀.os
 bare:AllBare s.gens
 base:Un X.fs X.ex X.H₀ H X.s₀.heap s.heap
 loc:∃m,s.heap.Ns X.env.locals m∧∀(i:Nat) (x:Str) (v:V),X.N[i]?=some x->σ[i]?=some (some v)->Vis X.env.scope x->∃u,RelV v u∧Look X.env s.heap m x u
 cell:∀x c,X.env.cells.lookup x=some c->∃v,s.heap.IsCell c v
 free:H X.env.locals=none
 freeC:∀x c,X.env.cells.lookup x=some c->H c=none
 pin:∀p∈X.pn++pins,s.heap.get? p.1=some p.2∧H p.1=none∧p.1≠X.env.locals∧p.1∉X.fs∧∀v,p.2.data≠.cell v
 hok:HOk X.prog X.w H s.heap
 len:σ.length=X.N.length
section
variable {X:Cx} {pins:List (Addr×Obj)} {σ:List (Option V)} {H H':Hp} {s:Shared} {h':Heap}
theorem Cx.Ok.u3 (ok:X.Ok) (e:X.base.get? b=some o):b∉X.fs:=fun hb=>by
 have:=(ok.fO.mem hb).1;rw [e] at this;cases this
theorem Inv.bs (I:Inv X pins σ H s):∀b o,X.base.get? b=some o->s.heap.get? b=some o∧H b=none:=fun b o e=>
 ⟨I.base.keep b o (I.ok.bs b o e).1 (I.ok.bs b o e).2 (I.ok.u3 e) (I.ok.noex b o e),I.base.free b o (I.ok.bs b o e).1 (I.ok.bs b o e).2 (I.ok.noex b o e)⟩
theorem Inv.bk (I:Inv X pins σ H s):∀b o,X.base.get? b=some o->s.heap.get? b=some o:=fun b o e=>(I.bs b o e).1
theorem Inv.mod (I:Inv X pins σ H s):Mod X.K X.mg X.base:=I.ok.mod
theorem Inv.kIn (I:Inv X pins σ H s):X.K.In s.heap:=I.ok.mod.kin.keeps I.bk
theorem Inv.lt (I:Inv X pins σ H s):X.env.locals < s.heap.objs.size:=let ⟨_,hn,_⟩:=I.loc;hn.lt
theorem Inv.sz (I:Inv X pins σ H s):X.s₀.heap.objs.size≤s.heap.objs.size:=Nat.le_trans I.ok.above (Nat.le_of_lt I.lt)
theorem Inv.uZ (I:Inv X pins σ H s) (h:s.heap.objs.size≤a):a∉X.fs:=fun hb=>by
 obtain ⟨_,o,ho,_⟩:=I.ok.fO.mem hb;exact absurd (Nat.lt_of_lt_of_le (Heap.lt_size ho) (Nat.le_trans I.sz h)) (Nat.lt_irrefl _)
theorem Inv.cne (I:Inv X pins σ H s):∀x c,X.env.cells.lookup x=some c->c≠X.env.locals:=fun x c e z=>by
 obtain ⟨v,o,ho,hd⟩:=I.cell x c e;obtain ⟨m,⟨o',es,ep,ho',hd',_⟩,_⟩:=I.loc;rw [z,ho'] at ho;cases ho;rw [hd'] at hd;cases hd
theorem Inv.fO (I:Inv X pins σ H s):s.heap.FunFrames X.base X.outer:=by
 have all:∀(l:List Env),(∀b∈frs l,b∈X.fs)->X.s₀.heap.FunFrames X.base l->s.heap.FunFrames X.base l:=by
  intro l
  induction l with
  | nil=>intro _ _;trivial
  | cons env r ih=>
   intro hs hl;obtain ⟨hk,⟨L,o,hf,hn,ho,hd⟩,hr⟩:=hl;have hL:L∈X.fs:=hs L (by unfold frs;rw [List.filterMap_cons,hf];exact List.mem_cons_self);obtain ⟨sl,e⟩:=I.base.slot L o ho (I.ok.frf L hL) hL fun z=>I.ok.exfs L z hL;exact ⟨hk,⟨L,_,hf,hn,e,hd⟩,ih (fun b hb=>hs b (by unfold frs;rw [List.filterMap_cons,hf];exact List.mem_cons_of_mem _ hb)) hr⟩
 exact all X.outer (fun _ hb=>hb) I.ok.fO
theorem Inv.stack (I:Inv X pins σ H s):s.heap.FunFrames X.base X.stack:=by
 rcases I.ok.stk with e | ⟨e,hf⟩
 ·rw [e];exact I.fO
 ·rw [e];obtain ⟨m,hn,_⟩:=I.loc;refine .cons (by rw [I.ok.kind];decide) hf hn ?_ I.fO;exact Heap.get?_none_of_le (Nat.le_trans I.ok.bsz I.ok.above)
theorem Inv.fm (I:Inv X pins σ H s):∀b∈frs X.stack,b∈X.env.locals::X.fs:=fun b hb=>by
 rcases I.ok.stk with e | ⟨e,hf⟩
 ·rw [e] at hb;exact List.mem_cons_of_mem _ hb
 ·rw [e] at hb;unfold frs at hb;rw [List.filterMap_cons,hf] at hb;exact hb
theorem Inv.j0 (I:Inv X pins σ H s):∀b∈frs X.stack,H b=none:=fun b hb=>by
 rcases List.mem_cons.mp (I.fm b hb) with e | hb
 ·rw [e];exact I.free
 ·obtain ⟨_,o,ho,_⟩:=I.ok.fO.mem hb;exact I.base.free b o ho (I.ok.frf b hb) fun z=>I.ok.exfs b z hb
theorem Inv.step {g':Array GenState} {t':Nat} {d':Drawn} {ch:List Addr} (I:Inv X pins σ H s)
  (hch:∀b∈ch,(b∈X.ex∨X.s₀.heap.objs.size≤b)∧b≠X.env.locals∧(∀x c,X.env.cells.lookup x=some c->c≠b)∧∀p∈X.pn++pins,p.1≠b)
  (keep:∀b o,b≠X.env.locals->b∉X.fs->b∉ch->s.heap.get? b=some o->H b=none->h'.get? b=some o)
  (slot:∀b o,b≠X.env.locals->b∈X.fs->b∉ch->s.heap.get? b=some o->H b=none->∃sl,h'.get? b=some {o with slots:=sl}) (free:∀b o,b∉ch->s.heap.get? b=some o->H b=none->H' b=none)
  (there:∀b o,b∉ch->s.heap.get? b=some o->∃o',h'.get? b=some o')
  (tups:∀b xs,H b=some (.tup xs)->H' b=some (.tup xs)) (frzs:∀b o u,H b=some (.frz o u)->H' b=some (.frz o u)) (tbls:∀b ps,H b=some (.tbl ps)->∃more,H' b=some (.tbl (ps++more)))
  (ns:∀m,s.heap.Ns X.env.locals m->h'.Ns X.env.locals m) (hok:HOk X.prog X.w H' h') (hg:AllBare g'):
  Inv X pins σ H' {s with heap:=h',gens:=g',drawn:=d',toks:=t'}:=by
 have neL:∀b o,X.s₀.heap.get? b=some o->b≠X.env.locals:=fun b o e=>Nat.ne_of_lt (Nat.lt_of_lt_of_le (Heap.lt_size e) I.ok.above);have neC:∀b o,X.s₀.heap.get? b=some o->b∉X.ex->b∉ch:=fun b o e hx hb=>by
  rcases (hch b hb).1 with z | z
  ·exact hx z
  ·exact absurd (Nat.lt_of_lt_of_le (Heap.lt_size e) z) (Nat.lt_irrefl _)
 have cellK:∀x c,X.env.cells.lookup x=some c->∀v,s.heap.IsCell c v->h'.IsCell c v:=fun x c e v ⟨o,ho,hd⟩=>by
  have nch:c∉ch:=fun z=>(hch c z).2.2.1 x c e rfl
  by_cases hc:c∈X.fs
  ·obtain ⟨sl,q⟩:=slot c o (I.cne x c e) hc nch ho (I.freeC x c e);exact ⟨_,q,hd⟩
  ·exact ⟨o,keep c o (I.cne x c e) hc nch ho (I.freeC x c e),hd⟩
 refine ⟨I.ok,I.os,hg,⟨fun b o e n hb hx=>?_,fun b o e n hb hx=>?_,fun b o e n hx=>?_,fun b o e hx=>?_,fun b xs e=>tups b xs (I.base.tups b xs e),fun b o xs e=>frzs b o xs (I.base.frzs b o xs e),fun b ps e=>?_⟩,?_,fun x c e=>?_,?_,fun x c e=>?_,fun p hp=>?_,hok,I.len⟩
 ·exact keep b o (neL b o e) hb (neC b o e hx) (I.base.keep b o e n hb hx) (I.base.free b o e n hx)
 ·obtain ⟨sl,e1⟩:=I.base.slot b o e n hb hx;obtain ⟨sl',e2⟩:=slot b _ (neL b o e) hb (neC b o e hx) e1 (I.base.free b o e n hx);exact ⟨sl',e2⟩
 ·obtain ⟨o',e1⟩:=I.base.there b o e hx;exact free b o' (neC b o e hx) e1 (I.base.free b o e n hx)
 ·obtain ⟨o',e1⟩:=I.base.there b o e hx;exact there b o' (neC b o e hx) e1
 ·obtain ⟨m1,e1⟩:=I.base.tbls b ps e;obtain ⟨m2,e2⟩:=tbls b _ e1;exact ⟨m1++m2,by rw [e2,Array.append_assoc]⟩
 ·obtain ⟨m,hn,hl⟩:=I.loc;refine ⟨m,ns m hn,fun i x v e1 e2 e3=>?_⟩;obtain ⟨u,r,l⟩:=hl i x v e1 e2 e3;refine ⟨u,r,?_⟩;rcases l with l | ⟨k,c,e,z⟩
  ·exact .inl l
  ·exact .inr ⟨k,c,e,cellK x c e _ z⟩
 ·obtain ⟨v,z⟩:=I.cell x c e;exact ⟨v,cellK x c e v z⟩
 ·obtain ⟨m,⟨o,_,_,ho,_⟩,_⟩:=I.loc;exact free _ o (fun z=>(hch _ z).2.1 rfl) ho I.free
 ·obtain ⟨v,o,ho,hd⟩:=I.cell x c e;exact free c o (fun z=>(hch c z).2.2.1 x c e rfl) ho (I.freeC x c e)
 ·obtain ⟨e,n,ne,nf,d⟩:=I.pin p hp;have nch:p.1∉ch:=fun z=>(hch p.1 z).2.2.2 p hp rfl;exact ⟨keep p.1 p.2 ne nf nch e n,free p.1 p.2 nch e n,ne,nf,d⟩
theorem Inv.un {t':Nat} (I:Inv X pins σ H s) (u:Un X.fs [] H H' s.heap h') (hok:HOk X.prog X.w H' h'):Inv X pins σ H' {s with heap:=h',toks:=t'}:=by
 obtain ⟨m,⟨o,es,ep,ho,r⟩,_⟩:=id I.loc;obtain ⟨sl,hL⟩:=u.any ho I.free (by simp);exact I.step (g':=s.gens) (d':=s.drawn) (ch:=[]) (fun _ z=>nomatch z) (fun b o _ hb _ e n=>u.keep b o e n hb (by simp)) (fun b o _ hb _ e n=>u.slot b o e n hb (by simp)) (fun b o _ e n=>u.free b o e n (by simp)) (fun b o _ e=>u.there b o e (by simp)) u.tups u.frzs u.tbls (fun m' hm=>by
  obtain ⟨o',es',ep',ho',r'⟩:=hm;rw [ho] at ho';cases ho';exact ⟨_,es',ep',hL,r'⟩) hok I.bare
theorem Inv.call {g':Array GenState} {t':Nat} {d':Drawn} {ch:List Addr} (I:Inv X pins σ H s) (u:Un (frs X.stack) ch H H' s.heap h') (hok:HOk X.prog X.w H' h') (hg:AllBare g')
  (hch:∀b∈ch,(b∈X.ex∨X.s₀.heap.objs.size≤b)∧b≠X.env.locals∧(∀x c,X.env.cells.lookup x=some c->c≠b)∧∀p∈X.pn++pins,p.1≠b):
  Inv X pins σ H' {s with heap:=h',gens:=g',drawn:=d',toks:=t'}:=by
 obtain ⟨m,⟨o,es,ep,ho,r⟩,_⟩:=id I.loc;obtain ⟨sl,hL⟩:=u.any ho I.free fun z=>(hch _ z).2.1 rfl;exact I.step (ch:=ch) hch (fun b o hL hb hc e n=>u.keep b o e n (fun z=>(List.mem_cons.mp (I.fm b z)).elim hL hb) hc) (fun b o _ _ hc e n=>u.any e n hc) (fun b o hc e n=>u.free b o e n hc) (fun b o hc e=>u.there b o e hc) u.tups u.frzs u.tbls (fun m' hm=>by
  obtain ⟨o',es',ep',ho',r'⟩:=hm;rw [ho] at ho';cases ho';exact ⟨_,es',ep',hL,r'⟩) hok hg
theorem Inv.turned {t':Nat} {it:Addr} (I:Inv X pins σ H s) (k:∀b o,b≠it->s.heap.get? b=some o->h'.get? b=some o) (hn:H it=none) (hL:it≠X.env.locals)
  (h1:it∈X.ex∨X.s₀.heap.objs.size≤it) (h2:∀x c,X.env.cells.lookup x=some c->c≠it) (h3:∀p∈X.pn++pins,p.1≠it):Inv X pins σ H {s with heap:=h',toks:=t'}:=by
 have nit:∀b u,H b=some u->b≠it:=fun b u e z=>by rw [z,hn] at e;cases e
 refine I.step (g':=s.gens) (d':=s.drawn) (ch:=[it]) (fun b hb=>?_) (fun b o _ _ hc e _=>k b o (fun z=>hc (by simp [z])) e) (fun b o _ _ hc e _=>⟨o.slots,k b o (fun z=>hc (by simp [z])) e⟩) (fun _ _ _ _ n=>n)
  (fun b o hc e=>⟨o,k b o (fun z=>hc (by simp [z])) e⟩) (fun _ _ e=>e) (fun _ _ _ e=>e) (fun b ps e=>⟨#[],by rw [e];simp⟩) (fun m hm=>?_) (fun b u e=>?_) I.bare
 ·have e:b=it:=by simpa using hb
  subst e;exact ⟨h1,hL,h2,h3⟩
 ·obtain ⟨o,es,ep,ho,r⟩:=hm;exact ⟨o,es,ep,k _ o (Ne.symm hL) ho,r⟩
 ·refine (I.hok b u e).iY (fun c v hc q=>k c v ?_ q) (fun _ q=>q) fun _ _ q=>q;rcases hc with z | z
  ·rw [z];exact nit b u e
  ·exact nit c _ z
theorem Inv.tok (I:Inv X pins σ H s) (t:Nat):Inv X pins σ H {s with toks:=t}:=I.un (h':=s.heap) (t':=t) Un.refl I.hok
theorem Inv.kept (I:Inv X pins σ H s) (k:∀b u,s.heap.get? b=some u->h'.get? b=some u):Inv X pins σ H {s with heap:=h',toks:=t'}:=I.un (Un.kept k) (I.hok.kept k)
theorem Inv.laid (I:Inv X pins σ H s) (k:∀b u,s.heap.get? b=some u->h'.get? b=some u) (hp:s.heap.objs.size≤a) (new:aC X.prog X.w (upd H a o) h' a o):
  Inv X pins σ (upd H a o) {s with heap:=h',toks:=t'}:=I.un (Un.laid k hp (I.hok.fresh hp)) (I.hok.laid k hp new)
theorem Inv.write (I:Inv X pins σ H s) (mu:Mut (H x)) (he:e=x∨H e=some (.own x)) (k:∀b u,b≠e->s.heap.get? b=some u->h'.get? b=some u) (heo:∃u,h'.get? e=some u) (new:aC X.prog X.w (upd H x o) h' x o):Inv X pins σ (upd H x o) {s with heap:=h',toks:=t'}:=I.un (Un.write mu he k heo) (I.hok.write mu he k heo new)
theorem Inv.j6 (I:Inv X pins σ H s) (h:∀p∈pins',s.heap.get? p.1=some p.2∧H p.1=none∧p.1≠X.env.locals∧p.1∉X.fs∧∀v,p.2.data≠.cell v):Inv X pins' σ H s:=
 ⟨I.ok,I.os,I.bare,I.base,I.loc,I.cell,I.free,I.freeC,fun p hp=>(List.mem_append.mp hp).elim (fun z=>I.pin p (List.mem_append_left _ z)) (h p),I.hok,I.len⟩
theorem i7 {N:List Str} (hN:N.Nodup) {i j:Nat} {x:Str} (a:N[i]?=some x) (b:N[j]?=some x):i=j:=by
 obtain ⟨h1,e1⟩:=List.getElem?_eq_some_iff.mp a;obtain ⟨h2,e2⟩:=List.getElem?_eq_some_iff.mp b;exact (List.getElem_inj hN).mp (e1.trans e2.symm)
theorem kI {M:Model} {A:Around} {E:Value->Shared->Prop} {i:Nat} {x:Str} {v:V} {u:Value} {Q:Unit->Shared->Prop} (I:Inv X pins σ H s) (hN:X.N.Nodup) (hi:X.N[i]?=some x) (hx:Loc X.env.scope x) (r:RelV v u)
  (h:∀s',Inv X pins (σ.set i (some v)) H s'->(∃a,Heap.SameBut a s.heap s'.heap∧(a=X.env.locals∨X.env.cells.lookup x=some a))->Q () s') (hf:X.fn x=true∨X.env.scope.names.lookup x=some .local:=by first | exact .inl rfl | exact .inr rfl | assumption):wpAny M A (storeName X.env x u) Q E s:=by
 obtain ⟨m,hn,hl⟩:=id I.loc;have hcls:(X.env.scope.kind==.class||(X.env.scope.kind==.module&&X.env.locals !=X.env.globals))=false:=by rw [I.ok.kind];rfl
 have hiσ:i < σ.length:=by rw [I.len];exact (List.getElem?_eq_some_iff.mp hi).1
 have cne:=I.cne;have tracked:∀{a:Addr} {h':Heap},(∃o,s.heap.get? a=some o∧H a=none)->Heap.SameBut a s.heap h'->HOk X.prog X.w H h':=fun {a h'} ha hs b ob e=>by
  obtain ⟨_,_,hfree⟩:=ha;refine (I.hok b ob e).iY (fun c w' hc q=>(hs.2 c ?_).trans q) (fun _ q=>q) fun _ _ q=>q;rintro rfl;rcases hc with rfl | hc
  ·rw [hfree] at e;cases e
  ·rw [hfree] at hc;cases hc
 rcases hx with hk | hk
 ·refine wpAny_storeName_local hk hn (fun h' hn' hs=>?_) hcls;obtain ⟨oL,_,_,hoL,_⟩:=id hn;refine h _ ⟨I.ok,I.os,I.bare,⟨fun b o e n hb hx=>?_,fun b o e n hb hx=>?_,I.base.free,fun b o e hx=>?_,I.base.tups,I.base.frzs,I.base.tbls⟩,⟨_,hn',fun j y v' e1 e2 e3=>?_⟩,fun y c e=>?_,I.free,I.freeC,fun p hp=>?_,tracked ⟨oL,hoL,I.free⟩ hs,by simpa using I.len⟩ ⟨_,hs,.inl rfl⟩
  ·exact (hs.2 b (Nat.ne_of_lt (Nat.lt_of_lt_of_le (Heap.lt_size e) I.ok.above))).trans (I.base.keep b o e n hb hx)
  ·obtain ⟨sl,e1⟩:=I.base.slot b o e n hb hx;exact ⟨sl,(hs.2 b (Nat.ne_of_lt (Nat.lt_of_lt_of_le (Heap.lt_size e) I.ok.above))).trans e1⟩
  ·obtain ⟨o',e1⟩:=I.base.there b o e hx;exact ⟨o',(hs.2 b (Nat.ne_of_lt (Nat.lt_of_lt_of_le (Heap.lt_size e) I.ok.above))).trans e1⟩
  ·by_cases hj:j=i
   ·subst hj;rw [hi] at e1;cases e1;rw [List.getElem?_set_self hiσ] at e2;cases e2;exact ⟨u,r,.inl ⟨hk,by simp⟩⟩
   ·rw [List.getElem?_set_ne (Ne.symm hj)] at e2;obtain ⟨u',r',q⟩:=hl j y v' e1 e2 e3;refine ⟨u',r',?_⟩;rcases q with ⟨k,e⟩ | ⟨k,c,e,z⟩
    ·refine .inl ⟨k,?_⟩;have:y≠x:=fun e=>hj (i7 hN e1 (e ▸ hi));simp [this,e]
    ·exact .inr ⟨k,c,e,z.sameBut hs (cne y c e)⟩
  ·obtain ⟨w',z⟩:=I.cell y c e;exact ⟨w',z.sameBut hs (cne y c e)⟩
  ·obtain ⟨e,n,ne,nf,d⟩:=I.pin p hp;exact ⟨(hs.2 p.1 ne).trans e,n,ne,nf,d⟩
 ·have hfn:X.fn x=true:=by
   rcases hf with z | z
   ·exact z
   ·rw [z] at hk;cases hk
  obtain ⟨c,hc⟩:=I.ok.has x (.inl hk);obtain ⟨w',z⟩:=I.cell x c hc;refine wpAny_storeName_cell I.ok.kind hk hc z (fun h' hc' hs=>?_);obtain ⟨oc,hoc,hocd⟩:=id z;refine h {s with heap:=h'} ⟨I.ok,I.os,I.bare,⟨fun b o e n hb hx=>?_,fun b o e n hb hx=>?_,I.base.free,fun b o e hx=>?_,I.base.tups,I.base.frzs,I.base.tbls⟩,⟨m,hn.sameBut hs (Ne.symm (cne x c hc)),fun j y v' e1 e2 e3=>?_⟩,fun y c' e=>?_,I.free,I.freeC,fun p hp=>?_,tracked ⟨oc,hoc,I.freeC x c hc⟩ hs,by simpa using I.len⟩ ⟨c,hs,.inr hc⟩
  ·exact (hs.2 b (Nat.ne_of_lt (Nat.lt_of_lt_of_le (Heap.lt_size e) (I.ok.cab x c hfn hc)))).trans (I.base.keep b o e n hb hx)
  ·obtain ⟨sl,e1⟩:=I.base.slot b o e n hb hx;exact ⟨sl,(hs.2 b (Nat.ne_of_lt (Nat.lt_of_lt_of_le (Heap.lt_size e) (I.ok.cab x c hfn hc)))).trans e1⟩
  ·obtain ⟨o',e1⟩:=I.base.there b o e hx;exact ⟨o',(hs.2 b (Nat.ne_of_lt (Nat.lt_of_lt_of_le (Heap.lt_size e) (I.ok.cab x c hfn hc)))).trans e1⟩
  ·by_cases hj:j=i
   ·subst hj;rw [hi] at e1;cases e1;rw [List.getElem?_set_self hiσ] at e2;cases e2;exact ⟨u,r,.inr ⟨.inl hk,c,hc,hc'⟩⟩
   ·rw [List.getElem?_set_ne (Ne.symm hj)] at e2;obtain ⟨u',r',q⟩:=hl j y v' e1 e2 e3;refine ⟨u',r',?_⟩;rcases q with q | ⟨k,c',e,z'⟩
    ·exact .inl q
    ·refine .inr ⟨k,c',e,z'.sameBut hs ?_⟩;rintro rfl;exact hj (i7 hN e1 (I.ok.inj _ _ _ e hc ▸ hi))
  ·by_cases hcc:c'=c
   ·subst hcc;exact ⟨_,hc'⟩
   ·obtain ⟨w2,z2⟩:=I.cell y c' e;exact ⟨w2,z2.sameBut hs hcc⟩
  ·obtain ⟨e,n,ne,nf,d⟩:=I.pin p hp;refine ⟨(hs.2 p.1 ?_).trans e,n,ne,nf,d⟩;intro q;rw [q,hoc] at e;have q':oc=p.2:=Option.some.inj e;exact d w' (by rw [←q'];exact hocd)
theorem iX (I:Inv X pins σ H s) (hN:X.N.Nodup) (hi:X.N[i]?=some x) (hx:Loc X.env.scope x) (r:RelV v u) (h:∀s',Inv X pins (σ.set i (some v)) H s'->Q () s') (hf:X.fn x=true∨X.env.scope.names.lookup x=some .local:=by first | exact .inl rfl | exact .inr rfl | assumption):wpAny M A (storeName X.env x u) Q E s:=
 kI I hN hi hx r (fun s' I' _=>h s' I') hf
theorem Inv.call' (I:Inv X pins σ H s) (ho:s'.os=s.os) (u:Un (frs X.stack) ch H H' s.heap s'.heap) (hok:HOk X.prog X.w H' s'.heap) (hg:AllBare s'.gens) (hch:∀b∈ch,(b∈X.ex∨X.s₀.heap.objs.size≤b)∧b≠X.env.locals∧(∀x c,X.env.cells.lookup x=some c->c≠b)∧∀p∈X.pn++pins,p.1≠b):Inv X pins σ H' s':=by
 obtain ⟨h',g',d',t',o'⟩:=s';have e:o'=s.os:=ho;subst e;exact I.call (g':=g') (t':=t') (d':=d') u hok hg hch
end
abbrev XK:=Value->Option Addr->Hp->Prop
abbrev St:=List (Option V)
abbrev VK:=V->Hp->Prop
abbrev TE:=St->Hp->VK->Prop
abbrev TT:=St->Hp->(Bool->Hp->Prop)->Prop
abbrev TA:=St->Hp->(List V->Hp->Prop)->Prop
structure Ends where
 nx:St->Hp->Prop
 rt:VK
 bk:St->Hp->Prop:=fun _ _=>False
 ct:St->Hp->Prop:=fun _ _=>False
abbrev TS:=Ends->St->Hp->Prop
inductive EPi (X:Cx) (pins:List (Addr×Obj)) (σ:St) (Q:VK) (u:Value) (s':Shared):Prop where
 | mk (v H'):Inv X pins σ H' s'->RelV v u->Q v H'->EPi X pins σ Q u s'
def EP (X:Cx) (pins:List (Addr×Obj)) (σ:St) (Q:VK) (u:Value) (s':Shared):Prop:=EPi X pins σ Q u s'
def TP (X:Cx) (pins:List (Addr×Obj)) (σ:St) (Q:Bool->Hp->Prop) (b:Bool) (s':Shared):Prop:=∃H',Inv X pins σ H' s'∧Q b H'
inductive APi (X:Cx) (pins:List (Addr×Obj)) (σ:St) (Q:List V->Hp->Prop) (us:List Value) (s':Shared):Prop where
 | mk (vs H'):Inv X pins σ H' s'->Vals vs us->Q vs H'->APi X pins σ Q us s'
def AP (X:Cx) (pins:List (Addr×Obj)) (σ:St) (Q:List V->Hp->Prop) (us:List Value) (s':Shared):Prop:=APi X pins σ Q us s'
def SP (X:Cx) (pins:List (Addr×Obj)) (D:Ends) (f:Flow) (s':Shared):Prop:=
 match f with
 | .next=>∃σ' H',Inv X pins σ' H' s'∧D.nx σ' H'
 | .brk=>∃σ' H',Inv X pins σ' H' s'∧D.bk σ' H'
 | .cont=>∃σ' H',Inv X pins σ' H' s'∧D.ct σ' H'
 | .ret u=>∃v σ' H',Inv X pins σ' H' s'∧RelV v u∧D.rt v H'
def PE (X:Cx) (e:Expr) (t:TE):Prop:=
 ∀(pins:List (Addr×Obj)) (s:Shared) (σ:St) (H:Hp) (Q:VK),Inv X pins σ H s->t σ H Q->wpAny (model X.prog X.w) X.A (eval e X.env) (EP X pins σ Q) X.xe s
def PT (X:Cx) (e:Expr) (t:TT):Prop:=
 ∀(pins:List (Addr×Obj)) (s:Shared) (σ:St) (H:Hp) (Q:Bool->Hp->Prop),Inv X pins σ H s->t σ H Q->wpAny (model X.prog X.w) X.A (isTrue e X.env (eval e X.env)) (TP X pins σ Q) X.xe s
def PW (X:Cx) (e:Expr) (t:TT):Prop:=
 ∀(whole:Sem Value) (pins:List (Addr×Obj)) (s:Shared) (σ:St) (H:Hp) (Q:Bool->Hp->Prop),Inv X pins σ H s->t σ H Q->wpAny (model X.prog X.w) X.A (isTrue e X.env whole) (TP X pins σ Q) X.xe s
theorem PW.pt (h:PW X e t):PT X e t:=h _
def PA (X:Cx) (es:List Expr) (t:TA):Prop:=
 ∀(pos:Pos) (pins:List (Addr×Obj)) (s:Shared) (σ:St) (H:Hp) (Q:List V->Hp->Prop),Inv X pins σ H s->t σ H Q->wpAny (model X.prog X.w) X.A (spliced (backTo pos (starEach es X.env))) (AP X pins σ Q) X.xe s
def PS (X:Cx) (st:Stmt) (t:TS):Prop:=
 ∀(pins:List (Addr×Obj)) (s:Shared) (σ:St) (H:Hp) (D:Ends),Inv X pins σ H s->t D σ H->wpAny (model X.prog X.w) X.A (exec st X.env) (SP X pins D) X.xe s
def PSs (X:Cx) (st:List Stmt) (t:TS):Prop:=
 ∀(pins:List (Addr×Obj)) (s:Shared) (σ:St) (H:Hp) (D:Ends),Inv X pins σ H s->t D σ H->wpAny (model X.prog X.w) X.A (execs st X.env) (SP X pins D) X.xe s
theorem thn (h:wpAny M A t Q E s) (hQ:∀a s,Q a s->Q' a s):wpAny M A t Q' E s:=wpAny_mono h hQ fun _ _ x=>x
section
variable {X:Cx}
def ur (i:Nat):TE:=fun σ H Q=>∃v,σ[i]?=some (some v)∧Q v H
def tC (v:V):TE:=fun _ H Q=>Q v H
theorem qP (hN:X.N[i]?=some x) (hv:Vis X.env.scope x) (hd:(x==("__debug__":Str))=false:=by decide) (hcd:(x==("__classdict__":Str))=false:=by decide):PE X (.Name x pos) (ur i):=by
 walk_at "ah";obtain ⟨v,e,h⟩:=h;obtain ⟨m,hn,hl⟩:=I.loc;obtain ⟨u,r,l⟩:=hl i x v hN e hv;have fin:EP X pins σ Q u s:=⟨v,H,I,r,h⟩;rcases l with ⟨hk,hm⟩ | ⟨hk,c,hc,hcell⟩
 ·exact wpAny_Name (wpAny_loadName_local I.ok.kind hk hn hm fin) hd
 ·rcases hk with hk | hk
  ·exact wpAny_Name (wpAny_loadName_cell I.ok.kind hk hc hcell fin) hd
  ·exact wpAny_Name (wpAny_loadName_free I.ok.kind hk hc hcell fin hcd) hd
theorem qW {i j pos}:PE X (.Constant (.int i) j pos) (tC (.int i)):=fun _ _ _ H _ I h=>wpAny_Constant_int ⟨.int i,H,I.tok _,⟨_,rfl⟩,h⟩
theorem tQ {b j pos}:PE X (.Constant (.bool b) j pos) (tC (.bl b)):=fun _ _ _ H _ I h=>Constant_bool ⟨.bl b,H,I,rfl,h⟩
theorem qU {j pos}:PE X (.Constant .none j pos) (tC .non):=fun _ _ _ H _ I h=>Constant_none ⟨.non,H,I,rfl,h⟩
theorem qR {x j pos}:PE X (.Constant (.str x) j pos) (tC (.str x)):=fun _ _ _ H _ I h=>Calls.Constant_str ⟨.str x,H,I.tok _,⟨_,rfl⟩,h⟩
def Gl (X:Cx) (x:Str):Prop:=X.env.kindOf x=some .globalImplicit
theorem j8 (I:Inv X pins σ H s) (hg:Gl X x) (hm:X.mg x=some u) (h:Q u s) (hd:(x==("__debug__":Str))=false:=by decide):wpAny (model X.prog X.w) X.A (eval (.Name x pos) X.env) Q E s:=
 Calls.Name_function_global I.ok.kind hg (Calls.loadGlobal_global (by rw [I.ok.glob];exact I.mod.glob.keeps I.bk) hm h) hd
theorem fL (I:Inv X pins σ H s) (hg:Gl X x) (hm:X.mg x=none) (hv:bootBuiltins x=some u) (h:Q u s) (hn:x≠"__name__":=by decide) (hd:(x==("__debug__":Str))=false:=by decide):wpAny (model X.prog X.w) X.A (eval (.Name x pos) X.env) Q E s:=by
 obtain ⟨mb,h1,h2⟩:=I.mod.blt;exact Calls.Name_function_global I.ok.kind hg (Calls.loadGlobal_builtin (by rw [I.ok.glob];exact I.mod.glob.keeps I.bk) hm (by rw [I.ok.blt];exact h1.keeps I.bk) ((h2 x hn).trans hv) h) hd
theorem oz (hg:Gl X x) (hm:X.mg x=some u) (r:RelV v u) (hd:(x==("__debug__":Str))=false:=by decide):PE X (.Name x pos) (tC v):=
 fun _ _ _ H _ I h=>j8 I hg hm ⟨v,H,I,r,h⟩ hd
theorem oD (hg:Gl X x) (hm:X.mg x=none) (hv:bootBuiltins x=some u) (r:RelV v u) (hn:x≠"__name__":=by decide) (hd:(x==("__debug__":Str))=false:=by decide):PE X (.Name x pos) (tC v):=
 fun _ _ _ H _ I h=>fL I hg hm hv ⟨v,H,I,r,h⟩ hn hd
variable {a b:Expr} {ta tb:TE} {pos:Pos}
variable {tA tB':TT} {rest:List Expr}
def jw (t u:TT):TT:=fun σ H Q=>t σ H fun c H1=>if c=true then u σ H1 Q else Q false H1
def tOr (t u:TT):TT:=fun σ H Q=>t σ H fun c H1=>if c=true then Q true H1 else u σ H1 Q
def g7 (t:TT):TT:=fun σ H Q=>t σ H fun c H1=>Q (!c) H1
theorem n6 (ha:PT X a tA):PW X (.BoolOp .And [a] pos) tA:=by
 intro wh pins s σ H Q I h;refine isTrue_and (thn (ha pins s σ H Q I h) fun c s1 e=>?_);cases c with
 | true=>exact isTrue_and_nil e
 | false=>exact e
theorem qC (ha:PT X a tA):PW X (.BoolOp .Or [a] pos) tA:=by
 intro wh pins s σ H Q I h;refine isTrue_or (thn (ha pins s σ H Q I h) fun c s1 e=>?_);cases c with
 | false=>exact isTrue_or_nil e
 | true=>exact e
theorem qD (ha:PT X a tA) (hb:PW X (.BoolOp .And (b::rest) pos) tB'):PW X (.BoolOp .And (a::b::rest) pos) (jw tA tB'):=by
 intro wh pins s σ H Q I h;refine isTrue_and (thn (ha pins s σ H _ I h) fun c s1 ⟨H1,I1,q1⟩=>?_);cases c with
 | true=>exact hb wh pins s1 σ H1 Q I1 q1
 | false=>exact ⟨H1,I1,q1⟩
theorem tJ (ha:PT X a tA) (hb:PW X (.BoolOp .Or (b::rest) pos) tB'):PW X (.BoolOp .Or (a::b::rest) pos) (tOr tA tB'):=by
 intro wh pins s σ H Q I h;refine isTrue_or (thn (ha pins s σ H _ I h) fun c s1 ⟨H1,I1,q1⟩=>?_);cases c with
 | true=>exact ⟨H1,I1,q1⟩
 | false=>exact hb wh pins s1 σ H1 Q I1 q1
theorem qE (ha:PT X a tA):PT X (.UnaryOp .Not a pos) (g7 tA):=by
 walk_at "ah";exact isTrue_not (ha pins s σ H (fun c H1=>Q (!c) H1) I h)
def sV (ta tb:TE):TE:=fun σ H Q=>ta σ H fun x H1=>∃c,x=.bl c∧if c=true then tb σ H1 Q else Q (.bl false) H1
def sP (ta:TE):TE:=fun σ H Q=>ta σ H fun x H1=>∃c,x=.bl c∧Q (.bl (!c)) H1
theorem qS {op} (h:PE X a t):PE X (.BoolOp op [a] pos) t:=fun pins s σ H Q I hw=>BoolOp_one (h pins s σ H Q I hw)
theorem qY (ha:PE X a ta) (hb:PE X (.BoolOp .And (b::rest) pos) tb):PE X (.BoolOp .And (a::b::rest) pos) (sV ta tb):=by
 walk_at "ah";refine BoolOp_and (thn (ha pins s σ H _ I h) fun v s1 ⟨x,H1,I1,r1,q1⟩=>?_);obtain ⟨c,rfl,q1⟩:=q1;cases r1;refine wpAny_truthy_bool ?_;cases c with
 | true=>exact hb pins s1 σ H1 Q I1 q1
 | false=>exact ⟨.bl false,H1,I1,rfl,q1⟩
theorem qT (ha:PE X a ta):PE X (.UnaryOp .Not a pos) (sP ta):=by
 walk_at "ah";refine UnaryOp_ (thn (ha pins s σ H _ I h) fun v s1 ⟨x,H1,I1,r1,q1⟩=>?_);obtain ⟨c,rfl,q1⟩:=q1;cases r1;exact not_of (wpAny_truthy_bool ⟨.bl (!c),H1,I1,rfl,q1⟩)
def tIf (t:TT) (ta tb:TE):TE:=fun σ H Q=>t σ H fun c H1=>if c=true then ta σ H1 Q else tb σ H1 Q
theorem md (hc:PT X c tA) (ha:PE X a ta) (hb:PE X b tb):PE X (.IfExp c a b pos) (tIf tA ta tb):=by
 walk_at "ah";refine wpAny_IfExp (thn (hc pins s σ H _ I h) fun d s1 ⟨H1,I1,q1⟩=>?_);cases d with
 | true=>exact ha pins s1 σ H1 Q I1 q1
 | false=>exact hb pins s1 σ H1 Q I1 q1
end
def SqL (K:FR) (H:Hp) (a:Addr) (xs:List V):Prop:=
 Rd H a (.lst xs)∨
  ∃(o:Obj) (its:Array Value) (n:Nat),K.lookup a=some o∧o.cls=.type "list"∧o.dict=none∧o.data=.seq its n∧its.size≤sizeLine∧Vals xs its.toList
def SqT (K:FR) (H:Hp) (a:Addr) (xs:List V):Prop:=
 Rd H a (.tup xs)∨
  ∃(o:Obj) (its:Array Value) (n:Nat),K.lookup a=some o∧o.cls=.type "tuple"∧o.data=.seq its n∧its.size≤sizeLine∧Vals xs its.toList∧o.dict=none
noncomputable def vk:Value->Option V
 | .none=>some .non
 | .bool b=>some (.bl b)
 | .int i _=>some (.int i)
 | .str x _=>some (.str x)
 | .bytes b _=>some (.byt b)
 | .float b _=>some (.flt b)
 | .ref a=>some (.ref a)
 | .type n=>some (.ty n)
 | _=>none
theorem RelV.abs (r:RelV x u):vk u=some x:=by
 cases x with
 | non=>cases r;rfl
 | bl _=>cases r;rfl
 | int _=>obtain ⟨t,rfl⟩:=r;rfl
 | str _=>obtain ⟨t,rfl⟩:=r;rfl
 | byt _=>obtain ⟨t,rfl⟩:=r;rfl
 | flt _=>obtain ⟨t,rfl⟩:=r;rfl
 | ref _=>cases r;rfl
 | ty _=>cases r;rfl
theorem RelV.inj (r:RelV x u) (q:RelV y u):x=y:=Option.some.inj (r.abs.symm.trans q.abs)
theorem Vals.inj:∀{xs ys:List V} {us:List Value},Vals xs us->Vals ys us->xs=ys
 | _,_,_,.nil,.nil=>rfl
 | _,_,_,.cons r t,.cons r' t'=>by rw [r.inj r',Vals.inj t t']
theorem SqL.of {K:FR} (h:H a=some (.lst xs)):SqL K H a xs:=.inl (.inl h)
theorem Inv.list (I:Inv X pins σ H s) (h:SqL X.K H a xs):∃its:List Value,Vals xs its∧PlainL s.heap a its.toArray∧xs.length≤sizeLine:=by
 rcases h with h | ⟨o,its,n,hk,hc,hd,hs,hz,r⟩
 ·obtain ⟨z,its,n,r,e⟩:=h.ok I.hok;exact ⟨its,r,⟨_,n,e,rfl,rfl,rfl⟩,z⟩
 ·refine ⟨its.toList,r,⟨o,n,I.kIn a o hk,hc,hd,by simpa using hs⟩,?_⟩;have e:=r.length;simp only [Array.length_toList] at e
  lia
theorem Inv.tuple (I:Inv X pins σ H s) (h:SqT X.K H a xs):∃its:List Value,Vals xs its∧IsTup s.heap a its.toArray∧xs.length≤sizeLine:=by
 rcases h with h | ⟨o,its,n,hk,hc,hs,hz,r,_⟩
 ·obtain ⟨z,its,r,p⟩:=h.ok I.hok;exact ⟨its,r,p.tup,z⟩
 ·refine ⟨its.toList,r,⟨o,I.kIn a o hk,hc,n,by simpa using hs⟩,?_⟩;have e:=r.length;simp only [Array.length_toList] at e
  lia
theorem Inv.jb (I:Inv X pins σ H s) (h:SqL X.K H a xs) (h':SqL X.K H a ys):xs=ys:=by
 obtain ⟨its,r,⟨o,n,e,_,_,d⟩,_⟩:=I.list h;obtain ⟨its',r',⟨o',n',e',_,_,d'⟩,_⟩:=I.list h';rw [e] at e';cases e';rw [d] at d';injection d' with d1 _
 have:its=its':=by simpa using congrArg Array.toList d1
 subst this;exact r.inj r'
theorem Inv.gy (I:Inv X pins σ H s) (h:SqT X.K H a xs) (h':SqT X.K H a ys):xs=ys:=by
 obtain ⟨its,r,⟨o,e,_,n,d⟩,_⟩:=I.tuple h;obtain ⟨its',r',⟨o',e',_,n',d'⟩,_⟩:=I.tuple h';rw [e] at e';cases e';rw [d] at d';injection d' with d1 _
 have:its=its':=by simpa using congrArg Array.toList d1
 subst this;exact r.inj r'
abbrev Cx.f7 (X:Cx) (E:Value->Shared->Prop):Cx:={X with xe:=E}
abbrev Cx.nox (X:Cx):Cx:=X.f7 fun _ _=>False
theorem Cx.Ok.f7 {X:Cx} (ok:X.Ok) (E:Value->Shared->Prop):(X.f7 E).Ok:=
 ⟨ok.mod,ok.kind,ok.glob,ok.blt,ok.above,ok.inj,ok.has,ok.cab,ok.hd,ok.frames,ok.stk,ok.exf,ok.bs,ok.bsz,ok.noex,ok.exfs,ok.fO,ok.frf⟩
theorem Cx.Ok.cx {X:Cx} {E:Value->Shared->Prop} (ok:(X.f7 E).Ok):X.Ok:=
 ⟨ok.mod,ok.kind,ok.glob,ok.blt,ok.above,ok.inj,ok.has,ok.cab,ok.hd,ok.frames,ok.stk,ok.exf,ok.bs,ok.bsz,ok.noex,ok.exfs,ok.fO,ok.frf⟩
theorem Inv.f7 (I:Inv X pins σ H s) (E:Value->Shared->Prop):Inv (X.f7 E) pins σ H s:=⟨I.ok.f7 E,I.os,I.bare,I.base,I.loc,I.cell,I.free,I.freeC,I.pin,I.hok,I.len⟩
theorem Inv.cx (I:Inv (X.f7 E) pins σ H s):Inv X pins σ H s:=⟨I.ok.cx,I.os,I.bare,I.base,I.loc,I.cell,I.free,I.freeC,I.pin,I.hok,I.len⟩
theorem SP.cx (h:SP (X.f7 E) pins D f s'):SP X pins D f s':=by
 cases f with
 | next=>obtain ⟨σ',H',I,q⟩:=h;exact ⟨σ',H',I.cx,q⟩
 | brk=>obtain ⟨σ',H',I,q⟩:=h;exact ⟨σ',H',I.cx,q⟩
 | cont=>obtain ⟨σ',H',I,q⟩:=h;exact ⟨σ',H',I.cx,q⟩
 | ret u=>obtain ⟨v,σ',H',I,r,q⟩:=h;exact ⟨v,σ',H',I.cx,r,q⟩
theorem PSs.nox {st:List Stmt} {t:TS} (h:PSs X.nox st t):PSs X st t:=fun pins s σ H D I hw=>
 wpAny_mono (h pins s σ H D (I.f7 _) hw) (fun _ _ q=>q.cx) fun _ _ z=>False.elim z
section
variable {X:Cx} {st:Stmt} {rest:List Stmt} {t u:TS} {e:Expr} {te:TE} {pos:Pos}
def sQ:TS:=fun D σ H=>D.nx σ H
def sM (t u:TS):TS:=fun D σ H=>t {D with nx:=u D} σ H
theorem oh:PSs X [] sQ:=fun _ _ σ H _ I h=>wpAny_execs_nil ⟨σ,H,I,h⟩
theorem lZ (h1:PS X st t) (h2:PSs X rest u):PSs X (st::rest) (sM t u):=by
 intro pins s σ H D I h;refine wpAny_execs_cons (thn (h1 pins s σ H {D with nx:=u D} I h) fun f s1 q=>?_);cases f with
 | next=>
  obtain ⟨σ',H',I',q⟩:=q;exact h2 pins s1 σ' H' D I' q
 | ret v=>exact q
 | brk=>exact q
 | cont=>exact q
theorem og (h1:PS X st t):PSs X [st] t:=by
 intro pins s σ H D I h;refine wpAny_execs_cons (thn (h1 pins s σ H D I h) fun f s1 q=>?_);cases f with
 | next=>exact wpAny_execs_nil q
 | ret v=>exact q
 | brk=>exact q
 | cont=>exact q
theorem Inv.quiet (I:Inv X pins σ H s):interactive X.env=false:=by simp [interactive,I.ok.kind]
def sS (te:TE):TS:=fun D σ H=>te σ H fun _ H1=>D.nx σ H1
theorem om (he:PE X e te) (hs:swapsWith e none pos.line X.env=pure false:=by rfl):PS X (.Expr e pos) (sS te):=by
 intro pins s σ H D I h;exact wpAny_Expr_any (thn (he pins s σ H _ I h) fun v s1 ⟨x,H1,I1,r1,q1⟩=>⟨σ,H1,I1,q1⟩) I.quiet hs
def uv (te:TE):TS:=fun D σ H=>te σ H D.rt
theorem qG (he:PE X e te):PS X (.Return (some e) pos) (uv te):=by
 intro pins s σ H D I h;exact wpAny_Return_some (thn (he pins s σ H _ I h) fun v s1 ⟨x,H1,I1,r1,q1⟩=>⟨x,σ,H1,I1,r1,q1⟩)
def uz (c:TT) (t u:TS):TS:=fun D σ H=>c σ H fun b H1=>if b=true then t D σ H1 else u D σ H1
theorem tK (hc:PT X c tc) (ha:PSs X a t) (hb:PSs X b u):PS X (.If c a b pos) (uz tc t u):=by
 intro pins s σ H D I h;refine wpAny_If (thn (hc pins s σ H _ I h) fun d s1 ⟨H1,I1,q1⟩=>?_);cases d with
 | true=>exact ha pins s1 σ H1 D I1 q1
 | false=>exact hb pins s1 σ H1 D I1 q1
def pY:TS:=fun _ _ _=>False
theorem l4:PS X st pY:=fun _ _ _ _ _ _ h=>h.elim
end
abbrev TG:=V->St->Hp->(St->Hp->Prop)->Prop
abbrev TGs:=List V->St->Hp->(St->Hp->Prop)->Prop
def PG (X:Cx) (target:Expr) (t:TG):Prop:=
 ∀(pins:List (Addr×Obj)) (s:Shared) (σ:St) (H:Hp) (v:V) (u:Value) (Q:St->Hp->Prop),Inv X pins σ H s->RelV v u->t v σ H Q->
  wpAny (model X.prog X.w) X.A (assign target X.env u) (fun _ s'=>∃σ' H',Inv X pins σ' H' s'∧Q σ' H') X.xe s
def PGs (X:Cx) (ts:List Expr) (t:TGs):Prop:=
 ∀(pins:List (Addr×Obj)) (s:Shared) (σ:St) (H:Hp) (vs:List V) (us:List Value) (Q:St->Hp->Prop),Inv X pins σ H s->Vals vs us->t vs σ H Q->
  wpAny (model X.prog X.w) X.A (assignInOrder ((assignEach ts X.env).map (·.2)) us) (fun _ s'=>∃σ' H',Inv X pins σ' H' s'∧Q σ' H') X.xe s
abbrev ua:=V->V->V->Hp->(Hp->Prop)->Prop
def su (X:Cx) (t:ua):Prop:=
 ∀(pins:List (Addr×Obj)) (s:Shared) (σ:St) (H:Hp) (o i v:V) (ov iv u:Value) (Q:Hp->Prop),Inv X pins σ H s->RelV o ov->RelV i iv->RelV v u->t o i v H Q->
  wpAny (model X.prog X.w) X.A (setItem ov iv u) (fun _ s'=>∃H',Inv X pins σ H' s'∧Q H') X.xe s
def mN (i:Nat):TG:=fun v σ H Q=>Q (σ.set i (some v)) H
theorem ox (hN:X.N.Nodup) (hi:X.N[i]?=some x) (hx:Loc X.env.scope x) (hf:X.fn x=true∨X.env.scope.names.lookup x=some .local:=by first | exact .inl rfl | exact .inr rfl | assumption):PG X (.Name x pos) (mN i):=by
 intro pins s σ H v u Q I r h;exact wpAny_assign_Name (iX I hN hi hx r (fun s' I'=>⟨_,H,I',h⟩) hf)
noncomputable def vf:TGs:=fun vs σ H Q=>vs=[]∧Q σ H
def t6 (t:TG) (u:TGs):TGs:=fun vs σ H Q=>∃v r,vs=v::r∧t v σ H fun σ' H'=>u r σ' H' Q
theorem ow:PGs X [] vf:=by
 intro pins s σ H vs us Q I r h;obtain ⟨e,h⟩:=h;subst e;cases r;exact assignInOrder_nil ⟨σ,H,I,h⟩
theorem l7 (h1:PG X e t) (h2:PGs X es u) (hs:(assignEach (e::es) X.env).map (·.2)=assign e X.env::(assignEach es X.env).map (·.2):=by rfl):PGs X (e::es) (t6 t u):=by
 intro pins s σ H vs us Q I r h;obtain ⟨v,vr,e1,h⟩:=h;subst e1;cases r with
 | cons r rr=>
  rw [hs];refine assignInOrder_cons (thn (h1 pins s σ H _ _ _ I r h) fun _ s1 ⟨σ1,H1,I1,q1⟩=>?_);exact h2 pins s1 σ1 H1 _ _ Q I1 rr q1
def ve (K:FR) (n:Nat) (t:TGs):TG:=fun v σ H Q=>∃a xs,v=.ref a∧SqT K H a xs∧xs.length=n∧t xs σ H Q
theorem qN (hc:X.calm=true) (h:PGs X es t) (hn:(assignEach es X.env).length=n:=by rfl) (hst:(assignEach es X.env).findIdx? (·.1)=none:=by rfl):PG X (.Tuple es k pos) (ve X.K n t):=by
 intro pins s σ H v u Q I r hw;obtain ⟨a,xs,e1,hq,hl,hw⟩:=hw;subst e1;cases r;obtain ⟨its,rv,ht,hz⟩:=I.tuple hq;refine assign_Tuple_tuple (I.ok.hd hc) ht (by simp [hn,←hl,rv.length]) hst fun h' hx=>?_;have I1:Inv X pins σ H {s with heap:=h'}:=I.kept (t':=s.toks) fun b o e=>hx b o (Nat.ne_of_lt (Heap.lt_size e)) e;exact h pins _ σ H xs _ Q I1 (by simpa using rv) hw
def jf (to ti:TE) (t:ua):TG:=fun v σ H Q=>to σ H fun o H1=>ti σ H1 fun i H2=>t o i v H2 fun H3=>Q σ H3
theorem qO (ho:PE X o to) (hi:PE X i ti) (hs:su X t) (ha:∀v,assign (.Subscript o i pos) X.env v=(do
   let ov←holding [v] (eval o X.env);let iv←holding [v,ov] (eval i X.env)
   standAt pos
   holding [v,ov,iv] (setItem ov iv v)
   release [v,ov,iv] []):=by intro _;rfl):PG X (.Subscript o i pos) (jf to ti t):=by
 intro pins s σ H v u Q I r h;rw [ha];refine wpAny_bind (wpAny_holding (thn (ho pins s σ H _ I h) fun ov s1 ⟨x,H1,I1,r1,q1⟩=>?_));refine wpAny_bind (wpAny_holding (thn (hi pins s1 σ H1 _ I1 q1) fun iv s2 ⟨y,H2,I2,r2,q2⟩=>?_));refine wpAny_bind (wpAny_standAt (wpAny_bind (wpAny_holding (thn (hs pins s2 σ H2 x y v ov iv u _ I2 r1 r2 r q2) fun _ s3 ⟨H3,I3,q3⟩=>?_))));exact wpAny_release ⟨σ,H3,I3,q3⟩
def pZ (te:TE) (g:TG):TS:=fun D σ H=>te σ H fun x H1=>g x σ H1 D.nx
theorem qI (he:PE X e te) (hg:PG X tg g) (hs:swapsWithSole [tg] e pos.line X.env=pure false:=by rfl) (hw:swappedStores [tg] e X.env=pure none:=by rfl) (h1:(assignEach [tg] X.env).map (·.2)=[assign tg X.env]:=by rfl):PS X (.Assign [tg] e pos) (pZ te g):=by
 intro pins s σ H D I h;refine wpAny_Assign_stores (thn (he pins s σ H _ I h) fun v s1 ⟨x,H1,I1,r1,q1⟩=>?_) hs hw;rw [h1];exact thn (hg pins s1 σ H1 x v _ I1 r1 q1) fun _ s2 q=>q
theorem qF (hN:X.N.Nodup) (hi:X.N[i]?=some x) (hx:Loc X.env.scope x) (he:PE X e te) (hs:swapsWith e (some (.Name x pos')) pos.line X.env=pure false:=by rfl) (hf:X.fn x=true∨X.env.scope.names.lookup x=some .local:=by first | exact .inl rfl | exact .inr rfl | assumption):
  PS X (.Assign [.Name x pos'] e pos) (pZ te (mN i)):=by
 intro pins s σ H D I h;refine wpAny_Assign_Name (thn (he pins s σ H _ I h) fun v s1 ⟨y,H1,I1,r1,q1⟩=>?_) hs;exact iX I1 hN hi hx r1 (fun s2 I2=>⟨_,H1,I2,q1⟩) hf
def lI (c:TT) (tb:TS):TS:=fun D σ H=>∃W:Nat->St->Hp->Prop,(∃m,W m σ H)∧∀m σ H,W m σ H->
 c σ H fun b H1=>if b=true then ∃N:St->Hp->Prop,(∀σ' H',N σ' H'->∃m',m' < m∧W m' σ' H')∧tb {D with nx:=N,ct:=N,bk:=D.nx} σ H1 else D.nx σ H1
theorem l3 (hp:PassesOwn (model X.prog X.w) X.A X.env X.xe) (hc:PT X c tc) (hb:PSs X body tb):PS X (.While c body [] pos) (lI tc tb):=by
 intro pins s σ H D I h;obtain ⟨W,⟨m0,w0⟩,turn⟩:=h;refine wpAny_While (codeAny_whileLoop (fun n s'=>∃σ' H',Inv X pins σ' H' s'∧W n σ' H') ?_ m0 ⟨σ,H,I,w0⟩);rintro n s1 ⟨σ1,H1,I1,w1⟩;refine wpAny_passesOwn hp (thn (hc pins s1 σ1 H1 _ I1 (turn n σ1 H1 w1)) fun b s2 ⟨H2,I2,q2⟩=>?_);cases b with
 | true=>
  obtain ⟨N,hN,q2⟩:=q2;rw [if_pos rfl];refine wpAny_passesOwn hp (thn (hb pins s2 σ1 H2 _ I2 q2) fun f s3 q3=>?_);cases f with
  | next=>
   obtain ⟨σ3,H3,I3,n3⟩:=q3;obtain ⟨m',hm,w3⟩:=hN σ3 H3 n3;exact ⟨m',hm,σ3,H3,I3,w3⟩
  | cont=>
   obtain ⟨σ3,H3,I3,n3⟩:=q3;obtain ⟨m',hm,w3⟩:=hN σ3 H3 n3;exact ⟨m',hm,σ3,H3,I3,w3⟩
  | brk=>exact q3
  | ret v=>exact q3
 | false=>
  rw [if_neg Bool.false_ne_true];exact wpAny_execs_nil ⟨σ1,H2,I2,q2⟩
structure It where
 go:Nat->Hp->Prop
 yld:Nat->Hp->V->Hp->Prop
 stop:Nat->Hp->Prop
def cR (X:Cx) (pins:List (Addr×Obj)) (H:Hp) (b:Addr):Prop:=
 H b=none∧b≠X.env.locals∧b∉X.fs∧(b∈X.ex∨X.s₀.heap.objs.size≤b)∧(∀x c,X.env.cells.lookup x=some c->c≠b)∧∀p∈X.pn++pins,p.1≠b
theorem Inv.kZ (I:Inv X pins σ H s) (hb:s.heap.objs.size≤b) (hn:H' b=none):cR X pins H' b:=by
 refine ⟨hn,Nat.ne_of_gt (Nat.lt_of_lt_of_le I.lt hb),I.uZ hb,.inr (Nat.le_trans I.sz hb),fun x c e z=>?_,fun p hp z=>?_⟩
 ·obtain ⟨v,q⟩:=I.cell x c e;exact absurd (Nat.lt_of_lt_of_le q.lt (by rw [z];exact hb)) (Nat.lt_irrefl _)
 ·exact absurd (Nat.lt_of_lt_of_le (Heap.lt_size (I.pin p hp).1) (by rw [z];exact hb)) (Nat.lt_irrefl _)
structure Turn (P:Program) (w:World) (K:FR) (tg:Expr) (J:It) (fp:List Addr) (it:Addr) (tn:Nat->Heap->Prop):Prop where
 mem:it∈fp
 obj:∀i h,tn i h->∀b∈fp,∃o,h.get? b=some o∧∀v,o.data≠.cell v
 keep:∀i h h',tn i h->(∀b∈fp,∀o,h.get? b=some o->h'.get? b=some o)->tn i h'
 item:∀(X:Cx),X.prog=P->X.w=w->X.K=K->X.calm=true->∀(i:Nat) (pins:List (Addr×Obj)) (s:Shared) (σ:St) (H:Hp) (E:Value->Shared->Prop),Inv X pins σ H s->(∀b∈fp,cR X pins H b)->tn i s.heap->J.go i H->
  wpAny (model P w) X.A (pyNext (.ref it)) (fun r s1=>∃u,r=some u∧
   wpAny (model P w) X.A (letOwnedTupleGo tg (.ref it) u) (fun _ s2=>∃x H',Inv X pins σ H' s2∧RelV x u∧J.yld i H x H'∧tn (i+1) s2.heap∧∀b∈fp,H' b=none) E s1) E s
 done:∀(X:Cx),X.prog=P->X.w=w->X.K=K->X.calm=true->∀(i:Nat) (pins:List (Addr×Obj)) (s:Shared) (σ:St) (H:Hp) (E:Value->Shared->Prop),Inv X pins σ H s->(∀b∈fp,cR X pins H b)->tn i s.heap->J.stop i H->
  wpAny (model P w) X.A (pyNext (.ref it)) (fun r s1=>r=none∧Inv X pins σ H s1) E s
 self:∀(A:Around) (i:Nat) (s:Shared) (Q:Value->Shared->Prop) (E:Value->Shared->Prop),tn i s.heap->Q (.ref it) s->wpAny (model P w) A (pyIter (.ref it)) Q E s
abbrev TI:=St->Hp->(It->Hp->Prop)->Prop
def PIE (X:Cx) (pins:List (Addr×Obj)) (σ:St) (tg:Expr) (R:It->Hp->Prop) (itv:Value) (s2:Shared):Prop:=
 ∃(it:Addr) (fp:List Addr) (tn:Nat->Heap->Prop) (J:It) (H':Hp),itv=.ref it∧Inv X pins σ H' s2∧Turn X.prog X.w X.K tg J fp it tn∧tn 0 s2.heap∧(∀b∈fp,cR X pins H' b)∧R J H'
def PI (X:Cx) (tg iter:Expr) (wi:TI):Prop:=
 ∀(pins:List (Addr×Obj)) (s:Shared) (σ:St) (H:Hp) (R:It->Hp->Prop),Inv X pins σ H s->wi σ H R->
  wpAny (model X.prog X.w) X.A (eval iter X.env) (fun v s1=>wpAny (model X.prog X.w) X.A (pyIter v) (PIE X pins σ tg R) X.xe s1) X.xe s
theorem ke (ho:s.heap.get? it=some o) (hc:o.cls=.type n) (hd:o.data=.fields vs) (hn:["enumerate","zip","dict_itemiterator","dict_reverseitemiterator","odict_iterator","itertools.zip_longest","itertools.pairwise"].contains n=false) (hQ:Q () s):wpAny M A (letOwnedTupleGo tg (.ref it) u) Q E s:=by
 unfold letOwnedTupleGo;cases tg <;> first
  | exact wpAny_pure hQ
  | (cases u <;> first
    | exact wpAny_pure hQ
    | (refine wpAny_bind (wpAny_load ho ?_);rw [hc,hd];show wpAny M A (if (["enumerate","zip","dict_itemiterator","dict_reverseitemiterator","odict_iterator","itertools.zip_longest","itertools.pairwise"].contains n&&vs[0]?==some (rawInt _))=true then _ else _) Q E s;rw [if_neg (by intro h;rw [hn,Bool.false_and] at h;cases h)];exact wpAny_pure hQ))
noncomputable def Itl (K:FR) (a:Addr):It:=
 ⟨fun i H=>∃xs x,SqL K H a xs∧xs[i]?=some x,fun i H x H'=>H'=H∧∀xs,SqL K H a xs->xs[i]?=some x,fun i H=>∃xs,SqL K H a xs∧xs.length≤i⟩
noncomputable def Itt (K:FR) (a:Addr):It:=
 ⟨fun i H=>∃xs x,SqT K H a xs∧xs[i]?=some x,fun i H x H'=>H'=H∧∀xs,SqT K H a xs->xs[i]?=some x,fun i H=>∃xs,SqT K H a xs∧xs.length≤i⟩
noncomputable def Itr (lo:Int) (n:Nat):It:=⟨fun i _=>i < n,fun i H x H'=>H'=H∧x=.int (lo+i),fun i _=>n≤i⟩
theorem kD {P:Program} {w:World} {K:FR} {tg:Expr} (a it:Addr):Turn P w K tg (Itl K a) [it] it (fun i h=>h.IsListIter it a i) where
 mem:=by simp
 obj:=fun i h st b hb=>by
  have e:b=it:=by simpa using hb
  subst e;obtain ⟨o,e,c,d⟩:=st;exact ⟨o,e,fun v z=>by rw [d] at z;cases z⟩
 keep:=fun i h h' st k=>st.at fun o e=>k it (by simp) o e
 item:=by
  walk_at "ac";obtain ⟨xs,x,hq,hx⟩:=hg;obtain ⟨its,rv,p,hz⟩:=I.list hq;obtain ⟨u,hu,ru⟩:=rv.get hx;walk_at "ag";refine wpAny_pyNext_list_item st p.isList (x:=u) (by simpa using hu) fun h' st' sb=>?_;have I1:Inv X pins σ H {s with heap:=h'}:=I.turned (t':=s.toks) (fun b o hb e=>(sb.2 b hb).trans e) f0 f1 f3 f4 f5;obtain ⟨o,e,c,d⟩:=id st';exact ⟨u,rfl,ke (s:={s with heap:=h'}) e c d (by decide) ⟨x,H,I1,ru,⟨rfl,fun ys hy=>by rw [I.jb hy hq];exact hx⟩,st',fun b hb=>(hf b hb).1⟩⟩
 done:=by
  walk_at "ac";obtain ⟨xs,hq,hx⟩:=hg;obtain ⟨its,rv,p,hz⟩:=I.list hq;walk_at "ag";have hl:=rv.length;exact wpAny_pyNext_list_end (I.ok.hd hc) st p.isList (by simp;lia) fun h' eb=>⟨rfl,I.turned (t':=s.toks) (fun b o hb e=>eb b o hb e) f0 f1 f3 f4 f5⟩
 self:=fun _ _ _ _ _ st h=>wpAny_pyIter_listiter st h
theorem ju {P:Program} {w:World} {K:FR} {tg:Expr} (a it:Addr):Turn P w K tg (Itt K a) [it] it (fun i h=>h.IsTupleIter it a i) where
 mem:=by simp
 obj:=fun i h st b hb=>by
  have e:b=it:=by simpa using hb
  subst e;obtain ⟨o,e,c,d⟩:=st;exact ⟨o,e,fun v z=>by rw [d] at z;cases z⟩
 keep:=fun i h h' st k=>st.at fun o e=>k it (by simp) o e
 item:=by
  walk_at "ac";obtain ⟨xs,x,hq,hx⟩:=hg;obtain ⟨its,rv,p,hz⟩:=I.tuple hq;obtain ⟨u,hu,ru⟩:=rv.get hx;walk_at "ag";refine wpAny_pyNext_tuple_item st (show s.heap.IsTuple a its.toArray from p) (x:=u) (by simpa using hu) fun h' st' sb=>?_;have I1:Inv X pins σ H {s with heap:=h'}:=I.turned (t':=s.toks) (fun b o hb e=>(sb.2 b hb).trans e) f0 f1 f3 f4 f5;obtain ⟨o,e,c,d⟩:=id st';exact ⟨u,rfl,ke (s:={s with heap:=h'}) e c d (by decide) ⟨x,H,I1,ru,⟨rfl,fun ys hy=>by rw [I.gy hy hq];exact hx⟩,st',fun b hb=>(hf b hb).1⟩⟩
 done:=by
  walk_at "ac";obtain ⟨xs,hq,hx⟩:=hg;obtain ⟨its,rv,p,hz⟩:=I.tuple hq;walk_at "ag";have hl:=rv.length;exact wpAny_pyNext_tuple_end (I.ok.hd hc) st (show s.heap.IsTuple a its.toArray from p) (by simp;lia) fun h' eb=>⟨rfl,I.turned (t':=s.toks) (fun b o hb e=>eb b o hb e) f0 f1 f3 f4 f5⟩
 self:=fun _ _ _ _ _ st h=>wpAny_pyIter_tupleiter st h
theorem jv {P:Program} {w:World} {K:FR} {tg:Expr} (it:Addr) (lo:Int) (n:Nat):Turn P w K tg (Itr lo n) [it] it (fun i h=>IsRangeIter h it (lo+(i:Nat)*1) ((n:Int)-(i:Nat)) 1) where
 mem:=by simp
 obj:=fun i h st b hb=>by
  have e:b=it:=by simpa using hb
  subst e;exact ⟨_,st,fun v z=>by
   have z':Data.fields _=Data.cell v:=z;cases z'⟩
 keep:=fun i h h' st k=>k it (by simp) _ st
 item:=by
  walk_at "ac";walk_at "ag";have W:=Walks.range (prog:=X.prog) (w:=X.w) (I.ok.hd hc) it lo 1 n;refine W.item i s _ _ hg st fun v h' tk hv st' kk=>?_;obtain ⟨t,rfl⟩:=hv;have I1:Inv X pins σ H {s with heap:=h',toks:=tk}:=I.turned (fun b o hb e=>kk b o (by simpa using hb) e) f0 f1 f3 f4 f5;refine ⟨_,rfl,ke (s:={s with heap:=h',toks:=tk}) (n:="range_iterator") st' rfl rfl (by decide) ⟨.int (lo+i),H,I1,⟨t,?_⟩,⟨rfl,rfl⟩,st',fun b hb=>(hf b hb).1⟩⟩;rw [Int.mul_one]
 done:=by
  walk_at "ac";walk_at "ag";exact wpAny_pyNext_range_end (I.ok.hd hc) st (by have:n≤i:=hg;lia) fun h' eb=>⟨rfl,I.turned (t':=s.toks) (fun b o hb e=>eb b o hb e) f0 f1 f3 f4 f5⟩
 self:=fun _ _ _ _ _ st h=>wpAny_pyIter_rangeiter st h
theorem lV {pins:List (Addr×Obj)} {σ:St} {H:Hp} {s:Shared} {R:It->Hp->Prop} {E:Value->Shared->Prop} {lo hi:Int} {t u v:Tok} {tk:Nat} (I:Inv X pins σ H s) (h1:-(2^62)≤lo) (h2:lo < 2^62) (h3:-(2^62)≤hi) (h4:hi < 2^62)
  (q:R (Itr lo (hi-lo).toNat) H):wpAny (model X.prog X.w) X.A (pyIter (.ref s.heap.objs.size)) (PIE X pins σ tg R) E {s with heap:=s.heap.push {cls:=.type "range",data:=.fields #[.int lo t,.int hi u,.int 1 v]},toks:=tk}:=by
 refine wpAny_pyIter_range (IsRange.new ..) (small_one h1 h2 h3 h4) ?_;have I1:Inv X pins σ H {s with heap:=s.heap.push {cls:=.type "range",data:=.fields #[.int lo t,.int hi u,.int 1 v]},toks:=tk}:=I.kept fun b o e=>Heap.get?_push_of_some _ e;refine ⟨(s.heap.push {cls:=.type "range",data:=.fields #[.int lo t,.int hi u,.int 1 v]}).objs.size,[(s.heap.push {cls:=.type "range",data:=.fields #[.int lo t,.int hi u,.int 1 v]}).objs.size],_,_,H,rfl,
  I1.kept (t':=tk) fun b o e=>Heap.get?_push_of_some _ e,jv _ lo (hi-lo).toNat,?_,fun b hb=>?_,q⟩
 ·have e1:lo+((0:Nat):Int)*1=lo:=by simp
  have e2:(((hi-lo).toNat:Nat):Int)-((0:Nat):Int)=Builtin.Range.rangeSize lo hi 1:=by rw [rangeSize_one];split <;> lia
  show IsRangeIter _ _ (lo+((0:Nat):Int)*1) ((((hi-lo).toNat:Nat):Int)-((0:Nat):Int)) 1;rw [e1,e2];exact Heap.get?_push_size _ rfl
 ·have e:b=(s.heap.push {cls:=.type "range",data:=.fields #[.int lo t,.int hi u,.int 1 v]}).objs.size:=by simpa using hb
  subst e;exact I1.kZ (Nat.le_refl _) (I1.hok.fresh (Nat.le_refl _))
def t5 (ta:TA):TI:=fun σ H R=>ta σ H fun vs H1=>∃j:Int,vs=[.int j]∧-(2^62)≤j∧j < 2^62∧R (Itr 0 j.toNat) H1
theorem kN {a:Expr} {ta:TA} {p pos:Pos} (hg:Gl X "range") (hm:X.mg "range"=none) (ha:PA X [a] ta) (hs:starEach [a] X.env=[(false,eval a X.env)]:=by rfl):PI X tg (.Call (.Name "range" p) [a] [] pos) (t5 ta):=by
 intro pins s σ H R I h;refine Call_ (fL I hg hm boot_range (PyProof.Rows.callWith_type1 (thn (ha pos pins s σ H _ I h) fun us s1 ⟨vs,H1,I1,r1,q1⟩=>?_) hs rfl));obtain ⟨j,e,q1,q2,q⟩:=q1;subst e;cases r1 with
 | cons r rr=>
  cases rr;obtain ⟨t,rfl⟩:=r;exact call_range_1 (lV I1 (by lia) (by lia) q1 q2 (by simpa using q))
def sR (wi:TI) (g:TG) (tb:TS):TS:=fun D σ H=>wi σ H fun J H1=>∃W:Nat->Nat->St->Hp->Prop,(∃m,W 0 m σ H1)∧∀i m σ H,W i m σ H->
 (J.stop i H∧D.nx σ H)∨(J.go i H∧∃N:St->Hp->Prop,(∀σ' H',N σ' H'->∃m',m' < m∧W (i+1) m' σ' H')∧∀x H',J.yld i H x H'->g x σ H' fun σ2 H2=>tb {D with nx:=N,ct:=N,bk:=D.nx} σ2 H2)
noncomputable def fD (fp:List Addr) (h:Heap):List (Addr×Obj):=fp.filterMap fun b=>(h.get? b).map fun o=>(b,o)
theorem cg (hb:b∈fp) (e:h.get? b=some o):(b,o)∈fD fp h:=List.mem_filterMap.mpr ⟨b,hb,by rw [e];rfl⟩
theorem kO (hp:p∈fD fp h):p.1∈fp∧h.get? p.1=some p.2:=by
 obtain ⟨b,hb,e⟩:=List.mem_filterMap.mp hp;cases q:h.get? b with
 | none=>rw [q] at e;cases e
 | some o=>
  rw [q] at e;have e':(b,o)=p:=Option.some.inj e;subst e';exact ⟨hb,q⟩
theorem Inv.pinned (I:Inv X pins σ H s) (hf:∀b∈fp,cR X pins H b) (ho:∀b∈fp,∃o,s.heap.get? b=some o∧∀v,o.data≠.cell v):Inv X (pins++fD fp s.heap) σ H s:=
 I.j6 fun p hp=>(List.mem_append.mp hp).elim (fun z=>I.pin p (List.mem_append_right _ z)) fun z=>by
  obtain ⟨hb,e⟩:=kO z;obtain ⟨f0,f1,f2,_⟩:=hf p.1 hb;obtain ⟨o,e',d⟩:=ho p.1 hb;rw [e] at e';cases e';exact ⟨e,f0,f1,f2,d⟩
theorem Inv.c6 (I:Inv X (pins++pl) σ H s):Inv X pins σ H s:=I.j6 fun p hp=>I.pin p (List.mem_append_right _ (List.mem_append_left _ hp))
theorem qH (hp:PassesOwn (model X.prog X.w) X.A X.env X.xe) (hc:X.calm=true) (hi:PI X tg iter wi) (hg:PG X tg g) (hb:PSs X body tb) (hs:∀x,foldedSetIterable iter X.env x=pure x:=by intro _;rfl):PS X (.For tg iter body [] pos) (sR wi g tb):=by
 intro pins s σ H D I h;refine wpAny_For (thn (hi pins s σ H _ I h) fun v s1 h1=>thn h1 fun itv s2 h2=>?_) hs;obtain ⟨it,fp,tn,J,H2,e,I2,T,st2,f2,W,⟨m0,w0⟩,turn⟩:=h2;subst e;have stat:∀{H':Hp},(∀b∈fp,H' b=none)->∀b∈fp,cR X pins H' b:=fun hn b hb=>⟨hn b hb,(f2 b hb).2⟩;refine codeAny_forLoop_any (fun n s'=>∃i σ' H',Inv X pins σ' H' s'∧tn i s'.heap∧(∀b∈fp,H' b=none)∧W i n σ' H') ?_ m0 ⟨0,σ,H2,I2,st2,fun b hb=>(f2 b hb).1,w0⟩;rintro n s3 ⟨i,σ3,H3,I3,st3,fr3,w3⟩;rcases turn i n σ3 H3 w3 with ⟨stop,qn⟩ | ⟨go,N,hN,step⟩
 ·refine wpAny_passesOwn hp (thn (T.done X rfl rfl rfl hc i pins s3 σ3 H3 X.xe I3 (stat fr3) st3 stop) fun r s4 ⟨hr,I4⟩=>?_);subst hr;exact wpAny_execs_nil ⟨σ3,H3,I4,qn⟩
 ·refine wpAny_passesOwn hp (thn (T.item X rfl rfl rfl hc i pins s3 σ3 H3 X.xe I3 (stat fr3) st3 go) fun r s4 ⟨u,hr,h4⟩=>?_);subst hr;refine wpAny_passesOwn hp (thn h4 fun _ s5 ⟨x,H5,I5,r5,y5,st5,fr5⟩=>?_);have I5':=I5.pinned (stat fr5) (T.obj _ _ st5);refine wpAny_passesOwn hp (thn (hg _ s5 σ3 H5 x u _ I5' r5 (step x H5 y5)) fun _ s6 ⟨σ6,H6,I6,q6⟩=>?_);refine wpAny_passesOwn hp (thn (hb _ s6 σ6 H6 _ I6 q6) fun f s7 q7=>?_);have again:∀{σ7:St} {H7:Hp},Inv X (pins++fD fp s5.heap) σ7 H7 s7->N σ7 H7->∃m,m < n∧∃i σ' H',Inv X pins σ' H' s7∧tn i s7.heap∧(∀b∈fp,H' b=none)∧W i m σ' H':=fun {σ7 H7} I7 n7=>by
   obtain ⟨m',hm,w7⟩:=hN σ7 H7 n7;refine ⟨m',hm,i+1,σ7,H7,I7.c6,T.keep _ _ _ st5 fun b hb o e=>(I7.pin (b,o) (List.mem_append_right _ (List.mem_append_right _ (cg hb e)))).1,fun b hb=>?_,w7⟩;obtain ⟨o,e,d⟩:=T.obj _ _ st5 b hb;exact (I7.pin (b,o) (List.mem_append_right _ (List.mem_append_right _ (cg hb e)))).2.1
  cases f with
  | next=>obtain ⟨σ7,H7,I7,n7⟩:=q7;exact again I7 n7
  | cont=>obtain ⟨σ7,H7,I7,n7⟩:=q7;exact again I7 n7
  | brk=>obtain ⟨σ7,H7,I7,q7⟩:=q7;exact ⟨σ7,H7,I7.c6,q7⟩
  | ret v=>obtain ⟨x7,σ7,H7,I7,r7,q7⟩:=q7;exact ⟨x7,σ7,H7,I7.c6,r7,q7⟩
abbrev R2:=V->V->Hp->VK->Prop
def OpR (X:Cx) (f:Value->Value->Sem Value) (r:R2):Prop:=
 ∀(pins:List (Addr×Obj)) (s:Shared) (σ:St) (H:Hp) (x y:V) (v u:Value) (Q:VK),Inv X pins σ H s->RelV x v->RelV y u->r x y H Q->
  wpAny (model X.prog X.w) X.A (f v u) (EP X pins σ Q) X.xe s
def UnR (X:Cx) (f:Value->Sem Value) (r:V->Hp->VK->Prop):Prop:=
 ∀(pins:List (Addr×Obj)) (s:Shared) (σ:St) (H:Hp) (x:V) (v:Value) (Q:VK),Inv X pins σ H s->RelV x v->r x H Q->
  wpAny (model X.prog X.w) X.A (f v) (EP X pins σ Q) X.xe s
def bT (X:Cx) (f:Value) (r:List V->Hp->VK->Prop):Prop:=
 ∀(pins:List (Addr×Obj)) (s:Shared) (σ:St) (H:Hp) (xs:List V) (us:List Value) (Q:VK),Inv X pins σ H s->Vals xs us->r xs H Q->
  wpAny (model X.prog X.w) X.A (call f us) (EP X pins σ Q) X.xe s
def vm (X:Cx) (r:V->Hp->(Bool->Hp->Prop)->Prop):Prop:=
 ∀(pins:List (Addr×Obj)) (s:Shared) (σ:St) (H:Hp) (x:V) (v:Value) (Q:Bool->Hp->Prop),Inv X pins σ H s->RelV x v->r x H Q->
  wpAny (model X.prog X.w) X.A (truthy v) (TP X pins σ Q) X.xe s
def tOp (r:R2) (ta tb:TE):TE:=fun σ H Q=>ta σ H fun x H1=>tb σ H1 fun y H2=>r x y H2 Q
def tUn (r:V->Hp->VK->Prop) (ta:TE):TE:=fun σ H Q=>ta σ H fun x H1=>r x H1 Q
def rI (C:Int->Int->Prop) (g:Int->Int->V):R2:=fun x y H Q=>∃i j,x=.int i∧y=.int j∧C i j∧Q (g i j) H
def rI0 (g:Int->Int->V):R2:=fun x y H Q=>∃i j,x=.int i∧y=.int j∧Q (g i j) H
def rU (g:Int->V):V->Hp->VK->Prop:=fun x H Q=>∃i,x=.int i∧Q (g i) H
theorem sk (ha:PE X a ta) (hb:PE X b tb) {pins:List (Addr×Obj)} {s:Shared} {σ:St} {H:Hp} {R:V->V->Hp->Prop} (I:Inv X pins σ H s)
  (h:ta σ H fun x H1=>tb σ H1 fun y H2=>R x y H2) {Q:Value->Shared->Prop} {f:Value->Value->Sem Value}
  (hf:∀v u s2 x y H2,Inv X pins σ H2 s2->RelV x v->RelV y u->R x y H2->wpAny (model X.prog X.w) X.A (f v u) Q X.xe s2):
  wpAny (model X.prog X.w) X.A (eval a X.env) (fun v s₁=>wpAny (model X.prog X.w) X.A (eval b X.env) (fun u s₂=>wpAny (model X.prog X.w) X.A (f v u) Q X.xe s₂) X.xe s₁) X.xe s:=by
 refine thn (ha pins s σ H _ I h) fun v s1 ⟨x,H1,I1,r1,q1⟩=>?_;refine thn (hb pins s1 σ H1 _ I1 q1) fun u s2 ⟨y,H2,I2,r2,q2⟩=>?_;exact hf v u s2 x y H2 I2 r1 r2 q2
theorem tN {op:Operator} {r:R2} (ho:OpR X (binaryOp op) r) (ha:PE X a ta) (hb:PE X b tb):PE X (.BinOp a op b pos) (tOp r ta tb):=by
 walk_at "ah";exact wpAny_BinOp (sk ha hb I h fun v u s2 x y H2 I2 rx ry q=>ho pins s2 σ H2 x y v u Q I2 rx ry q)
theorem tL (ho:UnR X (unaryOp op) r) (ha:PE X a ta):PE X (.UnaryOp op a pos) (tUn r ta):=by
 walk_at "ah";exact UnaryOp_ (thn (ha pins s σ H _ I h) fun v s1 ⟨x,H1,I1,r1,q1⟩=>ho pins s1 σ H1 x v Q I1 r1 q1)
theorem opI {f:Value->Value->Sem Value} {C:Int->Int->Prop} {g:Int->Int->Int}
  (rule:∀(i j:Int) (t u:Tok) (s:Shared) (Q:Value->Shared->Prop) (E:Value->Shared->Prop),C i j->Q (.int (g i j) s.toks) {s with toks:=s.toks+1}->wpAny (model X.prog X.w) X.A (f (.int i t) (.int j u)) Q E s):
  OpR X f (rI C fun i j=>.int (g i j)):=by
 walk_at "al";obtain ⟨i,j,rfl,rfl,hc,q⟩:=h;obtain ⟨t,rfl⟩:=rx;obtain ⟨t',rfl⟩:=ry;exact rule i j t t' s _ _ hc ⟨.int (g i j),H,I.tok _,⟨_,rfl⟩,q⟩
theorem uY {f:Value->Value->Sem Value} {g:Int->Int->Int}
  (rule:∀(i j:Int) (t u:Tok) (s:Shared) (Q:Value->Shared->Prop) (E:Value->Shared->Prop),Q (.int (g i j) s.toks) {s with toks:=s.toks+1}->wpAny (model X.prog X.w) X.A (f (.int i t) (.int j u)) Q E s):
  OpR X f (rI0 fun i j=>.int (g i j)):=by
 walk_at "al";obtain ⟨i,j,rfl,rfl,q⟩:=h;obtain ⟨t,rfl⟩:=rx;obtain ⟨t',rfl⟩:=ry;exact rule i j t t' s _ _ ⟨.int (g i j),H,I.tok _,⟨_,rfl⟩,q⟩
theorem rm {f:Value->Value->Sem Value} {g:Int->Int->Bool}
  (rule:∀(i j:Int) (t u:Tok) (s:Shared) (Q:Value->Shared->Prop) (E:Value->Shared->Prop),Q (.bool (g i j)) s->wpAny (model X.prog X.w) X.A (f (.int i t) (.int j u)) Q E s):
  OpR X f (rI0 fun i j=>.bl (g i j)):=by
 walk_at "al";obtain ⟨i,j,rfl,rfl,q⟩:=h;obtain ⟨t,rfl⟩:=rx;obtain ⟨t',rfl⟩:=ry;exact rule i j t t' s _ _ ⟨.bl (g i j),H,I,rfl,q⟩
def vo (i j:Int):Prop:=0 < j∧j < 1073741824
def vn (i j:Int):Prop:=0≤j∧j≤1000000∧i.natAbs < 2^64
def sx (i j:Int):Prop:=(-(2^64) < i∧i < 2^64)∨(-(2^64) < j∧j < 2^64)
theorem sx.ok (h:sx i j):IntMulOk i j:=by
 rcases h with ⟨h1,h2⟩ | ⟨h1,h2⟩
 ·exact .of_left (intBits_le_64 h1 h2)
 ·exact .of_right (intBits_le_64 h1 h2)
theorem rl:OpR X (binaryOp .Add) (rI0 fun i j=>.int (i+j)):=uY fun _ _ _ _ _ _ _ q=>add_int q
theorem rg:OpR X (binaryOp .Mult) (rI sx fun i j=>.int (i*j)):=opI fun _ _ _ _ _ _ _ hc q=>mul_int q hc.ok
theorem rh:OpR X (binaryOp .Mod) (rI (fun _ j=>0 < j) fun i j=>.int (i % j)):=opI fun i j _ _ _ _ _ hc q=>by
 have h1:(0:Int) < j:=hc;exact mod_int' (by lia) (by rw [Int.fmod_eq_emod_of_nonneg i (by lia)];exact q)
theorem rf:OpR X (binaryOp .Pow) (rI vn fun i j=>.int (i^j.toNat)):=opI fun _ _ _ _ _ _ _ hc q=>pow_int_small hc.1 hc.2.1 hc.2.2 q
theorem unI {f:Value->Sem Value} {g:Int->Int}
  (rule:∀(i:Int) (t:Tok) (s:Shared) (Q:Value->Shared->Prop) (E:Value->Shared->Prop),Q (.int (g i) s.toks) {s with toks:=s.toks+1}->wpAny (model X.prog X.w) X.A (f (.int i t)) Q E s):
  UnR X f (rU fun i=>.int (g i)):=by
 intro pins s σ H x v Q I rx h;obtain ⟨i,rfl,q⟩:=h;obtain ⟨t,rfl⟩:=rx;exact rule i t s _ _ ⟨.int (g i),H,I.tok _,⟨_,rfl⟩,q⟩
theorem pT:UnR X (unaryOp .USub) (rU fun i=>.int (-i)):=unI fun _ _ _ _ _ q=>neg_int q
theorem rR (I:Inv X pins σ H s) (q:Q (.bl k) H) (e:k=k'):EP X pins σ Q (.bool k') s:=by
 subst e;exact ⟨.bl k,H,I,rfl,q⟩
theorem tV:OpR X (compareOp .Lt) (rI0 fun i j=>.bl (decide (i < j))):=rm fun _ _ _ _ _ _ _ q=>lt_int q
theorem tW:OpR X (compareOp .Gt) (rI0 fun i j=>.bl (decide (j < i))):=rm fun _ _ _ _ _ _ _ q=>gt_int q
theorem tX:OpR X (compareOp .GtE) (rI0 fun i j=>.bl (decide (j≤i))):=rm fun _ _ _ _ _ _ _ q=>ge_int q
theorem rj:OpR X (compareOp .Is) (fun x y H Q=>y=.non∧Q (.bl (decide (x=.non))) H):=by
 walk_at "al";obtain ⟨rfl,q⟩:=h;cases ry;refine is_none_gen (rR I q ?_);cases x <;> first
  | (cases rx;rfl)
  | (obtain ⟨t,rfl⟩:=rx;rfl)
theorem aJ (b:Expr) (h:op≠.In:=by decide) (h2:op≠.NotIn:=by decide):behindInMarks op b=false:=by
 have e1:(op==CmpOp.In)=false:=by cases op <;> first | rfl | exact absurd rfl h
 have e2:(op==CmpOp.NotIn)=false:=by cases op <;> first | rfl | exact absurd rfl h2
 cases b <;> simp [behindInMarks,e1,e2]
theorem oB {op:CmpOp} {r:R2} (ho:OpR X (compareOp op) r) (ha:PE X a ta) (hb:PE X b tb) (hm:behindInMarks op b=false):PE X (.Compare a [op] [b] pos) (tOp r ta tb):=by
 walk_at "ah";exact wpAny_Compare1 (sk ha hb I h fun v u s2 x y H2 I2 rx ry q=>ho pins s2 σ H2 x y v u Q I2 rx ry q) hm
def sL (t:TE):TT:=fun σ H Q=>t σ H fun x H'=>∃k,x=.bl k∧Q k H'
theorem oa (ho:OpR X (compareOp op) r) (ha:PE X a ta) (hb:PE X b tb) (hm:behindInMarks op b=false):PT X (.Compare a [op] [b] pos) (sL (tOp r ta tb)):=by
 intro pins s σ H Q I h;refine wpAny_isTrue_Compare1 (thn (ha pins s σ H _ I h) fun v s1 ⟨x,H1,I1,r1,q1⟩=>thn (hb pins s1 σ H1 _ I1 q1) fun u s2 ⟨y,H2,I2,r2,q2⟩=>
  thn (ho pins s2 σ H2 x y v u _ I2 r1 r2 q2) fun c s3 ⟨z,H3,I3,r3,k,e,q3⟩=>?_) hm
 subst e;cases r3;exact wpAny_truthy_bool ⟨H3,I3,q3⟩
def so (K:FR) (x:V) (H:Hp) (k:Bool):Prop:=
 match x with
 | .non=>k=false
 | .bl b=>k=b
 | .int i=>k=(i !=0)
 | .str y=>y.length≤sizeLine∧k=((y.length:Int) !=0)
 | .byt y=>y.size≤sizeLine∧k=((y.size:Int) !=0)
 | .ref p=>(∃xs,SqL K H p xs∧k=!xs.isEmpty)∨(∃xs,SqT K H p xs∧k=!xs.isEmpty)∨∃kvs,H p=some (.dK kvs)∧k=!kvs.isEmpty
 | _=>False
theorem jL (r:KV kvs vs):(!vs.isEmpty)=!kvs.isEmpty:=by
 cases r <;> rfl
theorem fN (r:Vals xs its):(!its.toArray.isEmpty)=!xs.isEmpty:=by
 cases r <;> simp
theorem cZ:(sizeLine:Nat) < 2^63:=by rw [sizeLine_eq];decide
theorem pW:vm X (fun x H Q=>∃k,so X.K x H k∧Q k H):=by
 intro pins s σ H x v Q I rx h;obtain ⟨k,e,q⟩:=h;have hl:=cZ;have hs:sizeLine=16777216:=sizeLine_eq;cases x with
 | non=>
  cases rx;have e':k=false:=e;subst e';exact truthy_none ⟨H,I,q⟩
 | bl b=>
  cases rx;have e':k=b:=e;subst e';exact wpAny_truthy_bool ⟨H,I,q⟩
 | int i=>
  obtain ⟨t,rfl⟩:=rx;have e':k=(i !=0):=e;subst e';exact PySem.P.truthy_int ⟨H,I,q⟩
 | str y=>
  obtain ⟨t,rfl⟩:=rx;obtain ⟨hy,e'⟩:y.length≤sizeLine∧k=((y.length:Int) !=0):=e;subst e';exact PySem.P.truthy_str (by lia) ⟨H,I.tok _,q⟩
 | byt y=>
  obtain ⟨t,rfl⟩:=rx;obtain ⟨hy,e'⟩:y.size≤sizeLine∧k=((y.size:Int) !=0):=e;subst e';exact PySem.W.truthy_bytes (by lia) ⟨H,I.tok _,q⟩
 | ref p=>
  cases rx;have e':(∃xs,SqL X.K H p xs∧k=!xs.isEmpty)∨(∃xs,SqT X.K H p xs∧k=!xs.isEmpty)∨∃kvs,H p=some (.dK kvs)∧k=!kvs.isEmpty:=e;rcases e' with ⟨xs,hx,e'⟩ | ⟨xs,hx,e'⟩ | ⟨kvs,hx,e'⟩
  ·subst e';obtain ⟨its,r,pl,hz⟩:=I.list hx;have hlen:=r.length;exact wpAny_truthy_list pl.isList (by simp only [List.size_toArray];lia) ⟨H,I.tok _,by rw [fN r];exact q⟩
  ·subst e';obtain ⟨its,r,pl,hz⟩:=I.tuple hx;have hlen:=r.length;exact truthy_tuple pl (by simp only [List.size_toArray];lia) ⟨H,I.tok _,by rw [fN r];exact q⟩
  ·subst e';obtain ⟨hz,hS,vs,r,m⟩:kvs.length≤sizeLine∧(p==sysModules)=false∧∃vs,KV kvs vs∧s.heap.DictOf (aK X.prog X.w) p vs:=I.hok p _ hx;have hlen:kvs.length=vs.length:=Paired.length r;exact wpAny_truthy_dict hS m (by lia) ⟨H,I.tok _,by rw [jL r];exact q⟩
 | _=>exact (show False from e).elim
theorem lY (ha:PE X a ta) (he:∀whole,isTrue a X.env whole=(do let v←whole;standAt a.pos;holding [v] (truthy v))):
  PT X a (fun σ H Q=>ta σ H fun x H'=>∃k,so X.K x H' k∧Q k H'):=by
 walk_at "ah";exact isTrue_plain (thn (ha pins s σ H _ I h) fun v s1 ⟨x,H1,I1,r1,q1⟩=>pW pins s1 σ H1 x v Q I1 r1 q1) (he _)
theorem jI:OpR X (binaryOp .Add) (fun x y H Q=>∃i j,x=.str i∧y=.str j∧i.length+j.length≤sizeLine∧Q (.str (i++j)) H):=by
 walk_at "al";obtain ⟨i,j,rfl,rfl,hz,q⟩:=h;obtain ⟨t,rfl⟩:=rx;obtain ⟨t',rfl⟩:=ry;exact add_str (fun t' tk=>⟨.str (i++j),H,I.tok _,⟨_,rfl⟩,q⟩) hz
theorem vals1 (r:Vals [x] us):∃u,us=[u]∧RelV x u:=by
 cases r with
 | cons r1 r2=>cases r2;exact ⟨_,rfl,r1⟩
theorem vals2 (r:Vals [x,y] us):∃u w',us=[u,w']∧RelV x u∧RelV y w':=by
 cases r with
 | cons r1 r2=>
  cases r2 with
  | cons r3 r4=>cases r4;exact ⟨_,_,rfl,r1,r3⟩
theorem nj:bT X (.builtin "abs") (fun xs H Q=>∃i,xs=[.int i]∧Q (.int (if i < 0 then -i else i)) H):=by
 intro pins s σ H xs us Q I r h;obtain ⟨i,rfl,q⟩:=h;obtain ⟨u,rfl,t,rfl⟩:=vals1 r;exact call_abs_int fun u tk=>⟨.int (if i < 0 then -i else i),H,I.tok _,⟨_,rfl⟩,q⟩
theorem iH:bT X (.type "str") (fun xs H Q=>∃i,xs=[.int i]∧i.natAbs.log2 < 1920∧Q (.str (toString i)) H):=by
 intro pins s σ H xs us Q I r h;obtain ⟨i,rfl,hz,q⟩:=h;obtain ⟨u,rfl,t,rfl⟩:=vals1 r;exact PySem.P.str_of_int hz ⟨.str _,H,I.tok _,⟨_,rfl⟩,q⟩
theorem jn:bT X (.builtin "divmod") (fun xs H Q=>∃i j,xs=[.int i,.int j]∧vo i j∧∀p,H p=none->Q (.ref p) (upd H p (.tup [.int (i / j),.int (i % j)]))):=by
 intro pins s σ H xs us Q I r h;obtain ⟨i,j,rfl,⟨h1,h2⟩,q⟩:=h;obtain ⟨u,w',rfl,⟨t,rfl⟩,⟨t',rfl⟩⟩:=vals2 r;refine divmod_int (by lia) ?_ (.inl (PyProof.noPylong_small (by lia)));rw [Int.fdiv_eq_ediv_of_nonneg i (by lia),Int.fmod_eq_emod_of_nonneg i (by lia)];have hn:H s.heap.objs.size=none:=I.hok.fresh (Nat.le_refl _);refine ⟨.ref s.heap.objs.size,_,?_,rfl,q _ hn⟩;refine I.laid (fun b o e=>Heap.get?_push_of_some _ e) (Nat.le_refl _) ⟨by simp only [List.length_cons,List.length_nil];rw [sizeLine_eq];decide,[.int (i / j) s.toks,.int (i % j) (s.toks+1)],.cons ⟨_,rfl⟩ (.cons ⟨_,rfl⟩ .nil),?_⟩;exact ⟨_,Heap.get?_push_size s.heap rfl,rfl,⟨0,rfl⟩,rfl⟩
structure ObjM (h:Heap) (x dx C:Addr) (mA:Str->Option Value):Prop where
 obj:h.get? x=some (PySem.W.instObj C dx)
 ns:h.Ns1 dx mA
 ne:dx≠x
theorem kP {h:Heap} {dx:Addr} {mA:Str->Option Value} (n:h.Ns1 dx mA):∃od,h.get? dx=some od∧∀name,PySem.W.lookIn name od=some (mA name):=by
 obtain ⟨o,es,ep,ho,hd,hk,_,hm⟩:=n;refine ⟨o,ho,fun name=>?_⟩;have e:=hm name;unfold nsFind findBy at e;rw [←Array.find?_toList] at e;unfold PySem.W.lookIn;rw [hd];dsimp only
 split
 ·rename_i y q;rw [q] at e;exact congrArg some e
 ·rename_i q;rw [q] at e;have a:es.toList.any (·.refKey)=false:=by
   rw [List.any_eq_false];intro y hy;obtain ⟨z,t,hkey⟩:=hk y (Array.mem_toList_iff.mp hy);simp [DictEntry.refKey,hkey]
  have a':¬es.toList.any (·.refKey)=true:=by rw [a];exact Bool.false_ne_true
  rw [if_neg a'];exact congrArg some e
theorem ObjM.look (I:ObjM h x dx C mA):∃od,PySem.W.InstAt h x (PySem.W.instObj C dx) C (some od)∧∀name,PySem.W.lookIn name od=some (mA name):=
 let ⟨od,ho,hl⟩:=kP I.ns
 ⟨od,⟨I.obj,rfl,rfl,ho⟩,hl⟩
section
variable {prog:Program} {w:World} {A:Around} {E:Value->Shared->Prop} {s:Shared} {K:FR} {x dx C f:Addr} {mA:Str->Option Value} {name:Str} {v:Value}
end
theorem fZ.some_of (r:fZ (some v) o):∃u,o=some u∧RelV v u:=by
 cases o with
 | none=>exact (show False from r).elim
 | some u=>exact ⟨u,rfl,r⟩
theorem oS (hok:HOk P w H h) (e:H a=some (.ins C dx fs)):∃mA,ObjM h a dx C mA∧(∀f,fZ (fs.lookup f) (mA f))∧PySem.Within mA (fs.map (·.1))∧fs.length≤1000∧H dx=some (.own a):=by
 obtain ⟨d,z,ne,ob,mA,n,r,q⟩:=(show aC P w H h a (.ins C dx fs) from hok a _ e);exact ⟨mA,⟨ob,n,ne⟩,r,q,z,d⟩
structure Cls (K:FR) (C:Addr):Prop where
 pg:PySem.W.plainGet K C Str.empty=true
 hd:PySem.W.hasDictIn K C=true
 po:PySem.W.plainOver K C=true
 sa:PySem.W.findIn K (.ref C) "__setattr__"=some (some (.builtin "object.__setattr__"))
theorem Cls.get {K:FR} {C:Addr} (c:Cls K C) (f:Str):PySem.W.plainGet K C f=true:=c.pg
inductive TyOf (K:FR) (H:Hp):V->Value->Prop where
 | non:TyOf K H .non (.type "NoneType")
 | bl (x:Bool):TyOf K H (.bl x) (.type "bool")
 | int (i:Int):TyOf K H (.int i) (.type "int")
 | str (x:Str):TyOf K H (.str x) (.type "str")
 | flt (x:UInt64):TyOf K H (.flt x) (.type "float")
 | lst {a:Addr} {xs:List V} (e:H a=some (.lst xs)):TyOf K H (.ref a) (.type "list")
 | frz {a:Addr} {o:Obj} {xs:List V} (e:H a=some (.frz o (.lst xs))):TyOf K H (.ref a) (.type "list")
 | tup {a:Addr} {xs:List V} (e:H a=some (.tup xs)):TyOf K H (.ref a) (.type "tuple")
 | dK {a:Addr} {kvs:List (Key×V)} (e:H a=some (.dK kvs)):TyOf K H (.ref a) (.type "dict")
 | dT {a:Addr} {kvs:List (List Key×V)} (e:H a=some (.dT kvs)):TyOf K H (.ref a) (.type "dict")
 | ins {a C dx:Addr} {fs:List (Str×V)} (e:H a=some (.ins C dx fs)) (cl:Cls K C) (ha:PySem.W.findIn K (.ref C) "__class__"=some (some (.builtin "object.__class__")))
   (hn:PySem.W.specialIn K (.builtin "object.__class__") "__get__"=some (some (.builtin "getset_descriptor.__get__"))) (htk:PySem.W.takesIn K (.builtin "object.__class__")=some true)
   (hm:PySem.W.mroIn K C (.type "object")=some true):TyOf K H (.ref a) (.ref C)
theorem kW (I:Inv X pins σ H s) (rx:RelV x u) (ty:TyOf X.K H x t) (e:PySem.W.kitOne X.K t c=some b) (h:∀tk,Q (.bool b) {s with toks:=tk}):
  wpAny (model X.prog X.w) A (call (.builtin "isinstance") [u,c]) Q E s:=by
 cases ty with
 | non=>cases (show u=Value.none from rx);exact PySem.W.kia_one PySem.W.kitx_none I.kIn True.intro e (fun z=>nomatch z) h
 | bl y=>cases (show u=Value.bool y from rx);exact PySem.W.kia_one PySem.W.kitx_bool I.kIn True.intro e (fun z=>nomatch z) h
 | int i=>obtain ⟨t,q⟩:=(show ∃t,u=Value.int i t from rx);cases q;exact PySem.W.kia_one PySem.W.kitx_int I.kIn True.intro e (fun z=>nomatch z) h
 | str y=>obtain ⟨t,q⟩:=(show ∃t,u=Value.str y t from rx);cases q;exact PySem.W.kia_one PySem.W.kitx_str I.kIn True.intro e (fun z=>nomatch z) h
 | flt y=>obtain ⟨t,q⟩:=(show ∃t,u=Value.float y t from rx);cases q;exact PySem.W.kia_one PySem.W.kitx_float I.kIn True.intro e (fun z=>nomatch z) h
 | @lst a xs ea=>
  cases (show u=Value.ref a from rx);obtain ⟨_,_,n,_,h1⟩:=(show aC X.prog X.w H s.heap a (.lst xs) from I.hok a _ ea);exact PySem.W.kia_one PySem.W.kitx_list I.kIn ⟨_,h1,rfl⟩ e (fun z=>nomatch z) h
 | @frz a ob xs ea=>
  cases (show u=Value.ref a from rx);obtain ⟨_,_,_,n,_,h1⟩:=(show aC X.prog X.w H s.heap a (.frz ob (.lst xs)) from I.hok a _ ea);exact PySem.W.kia_one PySem.W.kitx_list I.kIn ⟨_,h1,rfl⟩ e (fun z=>nomatch z) h
 | @tup a xs ea=>
  cases (show u=Value.ref a from rx);obtain ⟨_,_,_,p⟩:=(show aC X.prog X.w H s.heap a (.tup xs) from I.hok a _ ea);obtain ⟨o,h1,h2,_⟩:=p;exact PySem.W.kia_one PySem.W.kitx_tuple I.kIn ⟨o,h1,h2⟩ e (fun z=>nomatch z) h
 | @dK a kvs ea=>
  cases (show u=Value.ref a from rx);obtain ⟨_,_,vs,_,p⟩:=(show aC X.prog X.w H s.heap a (.dK kvs) from I.hok a _ ea);obtain ⟨o,es,ep,h1,h2,_⟩:=p;exact PySem.W.kia_one PySem.W.kitx_dict I.kIn ⟨o,h1,h2.1⟩ e (fun z=>nomatch z) h
 | @dT a kvs ea=>
  cases (show u=Value.ref a from rx);obtain ⟨_,_,xs,_,o,es,ep,h1,h2,_⟩:=(show aC X.prog X.w H s.heap a (.dT kvs) from I.hok a _ ea);exact PySem.W.kia_one PySem.W.kitx_dict I.kIn ⟨o,h1,h2.1⟩ e (fun z=>nomatch z) h
 | @ins a C dx fs ea cl ha hn htk hm=>
  cases (show u=Value.ref a from rx);obtain ⟨mA,O,_⟩:=oS I.hok ea;obtain ⟨od,J,_⟩:=O.look;exact PySem.W.kia_one (PySem.W.kitx_own (cl.get _) cl.hd ha hn htk hm) I.kIn J e (fun z=>nomatch z) h
structure Room (k:Nat) (A:Around):Prop where
 hd:A.handled=none
 dp:A.depth+3*k+5 < recursionLimit
 un:A.units+16*k+200 < cLine
theorem Room.mono (r:Room k A) (h:j≤k):Room j A:=⟨r.hd,by have:=r.dp;lia,by have:=r.un;lia⟩
theorem Room.deeper (r:Room (k+1) A) (env:Env):Room k (A.deeper env):=
 ⟨r.hd,by have:=r.dp;show A.depth+1+3*k+5 < _;lia,by have:=r.un;show A.units+3+16*k+200 < _;lia⟩
theorem Room.depth (r:Room k A):A.depth < recursionLimit:=by have:=r.dp;lia
theorem Room.units (r:Room k A):A.units+64 < cLine:=by have:=r.un;lia
def uw:TA:=fun _ H Q=>Q [] H
def sT (ta:TE) (tr:TA):TA:=fun σ H Q=>ta σ H fun x H1=>tr σ H1 fun xs H2=>Q (x::xs) H2
theorem qZ:PA X [] uw:=fun _ _ _ _ H Q I h=>Calls.spliced_nil ⟨[],H,I,.nil,h⟩
theorem oF (ha:PE X e te) (hr:PA X es t) (hs:starEach (e::es) X.env=(false,eval e X.env)::starEach es X.env:=by rfl):PA X (e::es) (sT te t):=by
 intro pos pins s σ H Q I h;rw [hs];show wpAny _ _ (spliced ((false,eval e X.env)::backTo pos (starEach es X.env))) _ _ s;refine Calls.spliced_cons (thn (ha pins s σ H _ I h) fun u s1 ⟨x,H1,I1,r1,q1⟩=>?_);exact thn (hr pos pins s1 σ H1 _ I1 q1) fun us s2 ⟨xs,H2,I2,r2,q2⟩=>⟨x::xs,H2,I2,.cons r1 r2,q2⟩
def uu (t:TA):TE:=fun σ H Q=>t σ H fun xs H1=>xs.length≤sizeLine∧∀p,H1 p=none->Q (.ref p) (upd H1 p (.tup xs))
def uy (t:TA):TE:=fun σ H Q=>t σ H fun xs H1=>xs.length≤sizeLine∧∀p,H1 p=none->Q (.ref p) (upd H1 p (.lst xs))
theorem qQ {x1} (h:PA X es t):PE X (.Tuple es x1 pos) (uu t):=by
 intro pins s σ H Q I hq;refine wpAny_Tuple_spliced (thn (h pos pins s σ H _ I hq) fun us s1 ⟨xs,H1,I1,r,z,q⟩=>⟨by rw [←r.length];exact z,?_⟩);have hf:H1 s1.heap.objs.size=none:=I1.hok.fresh (Nat.le_refl _);refine ⟨.ref s1.heap.objs.size,upd H1 s1.heap.objs.size (.tup xs),I1.laid (t':=s1.toks) (fun b u e=>Heap.get?_push_of_some _ e) (Nat.le_refl _) ?_,rfl,q _ hf⟩;exact ⟨z,us,r,⟨_,Heap.get?_push_size _ rfl,rfl,⟨_,rfl⟩,rfl⟩⟩
theorem qV (h:PA X es t):PE X (.List es pos) (uy t):=by
 intro pins s σ H Q I hq;refine wpAny_List_spliced (thn (h pos pins s σ H _ I hq) fun us s1 ⟨xs,H1,I1,r,z,q⟩=>⟨by rw [←r.length];exact z,?_⟩);have hf:H1 s1.heap.objs.size=none:=I1.hok.fresh (Nat.le_refl _);refine ⟨.ref s1.heap.objs.size,upd H1 s1.heap.objs.size (.lst xs),I1.laid (t':=s1.toks) (fun b u e=>Heap.get?_push_of_some _ e) (Nat.le_refl _) ?_,rfl,q _ hf⟩;exact ⟨z,us,0,r,Heap.get?_push_size _ rfl⟩
abbrev Sp:=List V->Hp->VK->XK->Prop
abbrev CXT:=List Env->Hp->Shared->XK->Value->Shared->Prop
structure Env0 (P:Program) (w:World) (K:FR) (mg:Str->Option Value) (base:Heap) (A:Around) (outer:List Env) (s:Shared) (H:Hp):Prop where
 frames:A.frames=some outer
 mod:Mod K mg base
 bs:∀b o,base.get? b=some o->s.heap.get? b=some o∧H b=none
 bsz:base.objs.size≤s.heap.objs.size
 fO:s.heap.FunFrames base outer
 frf:∀b∈frs outer,H b=none
 hok:HOk P w H s.heap
 bare:AllBare s.gens
def CE (outer:List Env) (P:Program) (w:World) (H:Hp) (s:Shared) (Q:VK) (u:Value) (s':Shared):Prop:=
 ∃v H',s'.os=s.os∧AllBare s'.gens∧Un (frs outer) [] H H' s.heap s'.heap∧HOk P w H' s'.heap∧RelV v u∧Q v H'
def CR (CX:CXT) (outer:List Env) (P:Program) (w:World) (H:Hp) (s:Shared) (Q:VK) (E:XK) (r:Result) (s':Shared):Prop:=
 match r with
 | .ok (.ret u)=>CE outer P w H s Q u s'
 | .ok _=>False
 | .error e=>CX outer H s E e s'
structure FnOk (P:Program) (w:World) (K:FR) (mg:Str->Option Value) (base:Heap) (CX:CXT) (k:Nat) (f:Addr) (fd:FuncData) (ps:List Str) (sp:Sp):Prop where
 len:∀vs H Q E,sp vs H Q E->vs.length=ps.length
 run:∀(A:Around) (outer:List Env) (s:Shared) (H:Hp) (args:Args) (us:List Value) (vs:List V) (Q:VK) (E:XK),Room k A->Env0 P w K mg base A outer s H->BindsTo s fd args (ps.zip us)->Vals vs us->sp vs H Q E->
  codeAny (model P w) A (.call (.ref f) args) (CR CX outer P w H s Q E) s
theorem FnOk.imp {P:Program} {w:World} {K:FR} {mg:Str->Option Value} {base:Heap} {CX:CXT} {k:Nat} {f:Addr} {fd:FuncData} {ps:List Str} {sp sp':Sp} (F:FnOk P w K mg base CX k f fd ps sp)
  (h:∀vs H Q E,sp' vs H Q E->sp vs H Q E):FnOk P w K mg base CX k f fd ps sp':=
 ⟨fun vs H Q E q=>F.len vs H Q E (h _ _ _ _ q),fun A outer s H args us vs Q E hr he hb hv hs=>F.run A outer s H args us vs Q E hr he hb hv (h _ _ _ _ hs)⟩
theorem Inv.vh (I:Inv X pins σ H s):Env0 X.prog X.w X.K X.mg X.base X.A X.stack s H:=
 ⟨I.ok.frames,I.ok.mod,I.bs,Nat.le_trans I.ok.bsz I.sz,I.stack,I.j0,I.hok,I.bare⟩
theorem Inv.after (I:Inv X pins σ H s) (h:CE X.stack X.prog X.w H s Q u s'):EP X pins σ Q u s':=by
 obtain ⟨v,H',os,bare,un,hok,r,q⟩:=h;obtain ⟨hh,g,d,t,os'⟩:=s';obtain rfl:os'=s.os:=os;exact ⟨v,H',I.call (h':=hh) (g':=g) (d':=d) (t':=t) (ch:=[]) un hok bare (fun b z=>absurd z (by simp)),r,q⟩
def sU (sp:Sp) (dvs:List V) (E:XK) (t:TA):TE:=fun σ H Q=>t σ H fun vs H1=>sp (vs++dvs) H1 Q E
def Binds (K:FR) (fd:FuncData) (ps:List Str) (ds:List Value):Prop:=
 ∀(s:Shared) (us:List Value),K.In s.heap->(us++ds).length=ps.length->BindsTo s fd ⟨us,[]⟩ (ps.zip (us++ds))
theorem Binds.all {K:FR} {fd:FuncData} {ps:List Str} (h:∀us:List Value,us.length=ps.length->bindArgs fd ⟨us,[]⟩=pure (ps.zip us)):Binds K fd ps []:=fun s us _ hl=>by
 rw [List.append_nil] at hl ⊢;exact .of_eq (h us hl)
def Passes (CX:CXT) (X:Cx) (E:XK):Prop:=∀(pins:List (Addr×Obj)) (σ:St) (H:Hp) (s:Shared) (e:Value) (s':Shared),Inv X pins σ H s->CX X.stack H s E e s'->X.xe e s'
theorem qg (F:FnOk X.prog X.w X.K X.mg X.base CX k f fd ps sp) (hr:Room k X.A) (hb:Binds X.K fd ps ds) (hd:Vals dvs ds) (hx:Passes CX X E) (I:Inv X pins σ H s) (r:Vals vs us) (h:sp (vs++dvs) H Q E):wpAny (model X.prog X.w) X.A (call (.ref f) us) (EP X pins σ Q) X.xe s:=by
 have r2:Vals (vs++dvs) (us++ds):=r.append hd;have hl:(us++ds).length=ps.length:=by rw [←r2.length];exact F.len _ _ _ _ h
 refine wpAny_call (codeAny_mono (F.run X.A X.stack s H ⟨us,[]⟩ (us++ds) (vs++dvs) Q E hr I.vh (hb s us I.kIn hl) r2 h) fun r s' hq=>?_);cases r with
 | error e=>exact hx pins σ H s e s' I hq
 | ok fl=>
  cases fl with
  | ret u=>exact I.after hq
  | next=>exact False.elim hq
  | brk=>exact False.elim hq
  | cont=>exact False.elim hq
theorem oC (F:FnOk X.prog X.w X.K X.mg X.base CX k f fd ps sp) (hr:Room k X.A) (hg:Gl X x) (hm:X.mg x=some (.ref f)) (hk:PySem.W.keepIn X.K (.ref f)=true) (hb:Binds X.K fd ps ds) (hd:Vals dvs ds) (hx:Passes CX X E)
  (ha:PA X (e::es) t) (hdb:(x==("__debug__":Str))=false:=by decide) (he:starEach (e::es) X.env=(false,eval e X.env)::starEach es X.env:=by rfl) (hpl:(backTo pos (starEach es X.env)).any (·.1)=false:=by rfl):
  PE X (.Call (.Name x p) (e::es) [] pos) (sU sp dvs E t):=by
 walk_at "ah";refine wpAny_Call_Name_kw (j8 I hg hm ?_ hdb);refine PySem.W.callWith_K (h₀:=X.base) I.ok.mod.kin hk (thn (ha pos pins s σ H _ I h) fun us s1 ⟨vs,H1,I1,r,q⟩=>⟨I1.kIn,?_⟩) he hpl;exact qg F hr hb hd hx I1 r q
structure FnScope (N P:List Str) (sc:Scope):Prop where
 kind:sc.kind=.function
 co:sc.isCoroutine=false
 gen:sc.isGenerator=false
 nd:N.Nodup
 pre:N.take P.length=P
 par:∀x∈P,sc.names.lookup x=some .local∨sc.names.lookup x=some .cell
 nofree:∀y∈sc.names,y.2≠.free
theorem gM {kindOf:Str->Option NameKind} {x:Str}:∀{binds:List (Str×Value)} {m:Str->Option Value},(∀v,(x,v)∉binds)->bindL kindOf binds m x=m x
 | [],_,_=>rfl
 | (n,v)::r,m,h=>by
  unfold bindL;rw [gM fun w hw=>h w (List.mem_cons_of_mem _ hw)]
  split
  ·have:x≠n:=by rintro rfl;exact h v List.mem_cons_self
   simp [this]
  ·rfl
theorem gP {kindOf:Str->Option NameKind} {x:Str}:∀{binds:List (Str×Value)} {m:Str->Option Value},(∀v,(x,v)∉binds)->bindC kindOf binds m x=m x
 | [],_,_=>rfl
 | (n,v)::r,m,h=>by
  unfold bindC;rw [gP fun w hw=>h w (List.mem_cons_of_mem _ hw)]
  split
  ·rfl
  ·have:x≠n:=by rintro rfl;exact h v List.mem_cons_self
   simp [this]
theorem gO {kindOf:Str->Option NameKind} {x:Str} {v:Value}:∀{P:List Str} {vs:List Value} {i:Nat} {m:Str->Option Value},P.Nodup->P[i]?=some x->vs[i]?=some v->kindOf x=some .local->
  bindL kindOf (P.zip vs) m x=some v
 | [],_,_,_,_,h,_,_=>by simp at h
 | _::_,[],_,_,_,_,h,_=>by simp at h
 | p::P,w::vs,0,m,nd,h1,h2,hk=>by
  simp at h1 h2;subst h1;subst h2;show bindL kindOf ((p,w)::P.zip vs) m p=_;unfold bindL;rw [gM fun v hv=>(List.nodup_cons.mp nd).1 (List.of_mem_zip hv).1,if_pos hk];simp
 | p::P,w::vs,i+1,m,nd,h1,h2,hk=>by
  show bindL kindOf ((p,w)::P.zip vs) m x=_;unfold bindL;exact gO (i:=i) (List.nodup_cons.mp nd).2 (by simpa using h1) (by simpa using h2) hk
theorem gQ {kindOf:Str->Option NameKind} {x:Str} {v:Value}:∀{P:List Str} {vs:List Value} {i:Nat} {m:Str->Option Value},P.Nodup->P[i]?=some x->vs[i]?=some v->kindOf x≠some .local->
  bindC kindOf (P.zip vs) m x=some v
 | [],_,_,_,_,h,_,_=>by simp at h
 | _::_,[],_,_,_,_,h,_=>by simp at h
 | p::P,w::vs,0,m,nd,h1,h2,hk=>by
  simp at h1 h2;subst h1;subst h2;show bindC kindOf ((p,w)::P.zip vs) m p=_;unfold bindC;rw [gP fun v hv=>(List.nodup_cons.mp nd).1 (List.of_mem_zip hv).1,if_neg hk];simp
 | p::P,w::vs,i+1,m,nd,h1,h2,hk=>by
  show bindC kindOf ((p,w)::P.zip vs) m x=_;unfold bindC;exact gQ (i:=i) (List.nodup_cons.mp nd).2 (by simpa using h1) (by simpa using h2) hk
noncomputable def start (N:List Str) (vs:List V):St:=vs.map some++List.replicate (N.length-vs.length) none
abbrev jQ (CX:CXT) (P:Program) (w:World) (K:FR) (mg:Str->Option Value) (base:Heap) (N:List Str) (qual:Str) (scope:Scope) (f:Addr) (cd:Value) (A:Around) (outer:List Env) (s:Shared) (H:Hp) (E:XK):Cx where
 prog:=P
 w:=w
 K:=K
 mg:=mg
 base:=base
 A:=A.deeper (envOfC qual scope s.heap.objs.size f cd)
 N:=N
 s₀:=s
 H₀:=H
 env:=envOfC qual scope s.heap.objs.size f cd
 outer:=outer
 stack:=envOfC qual scope s.heap.objs.size f cd::outer
 ex:=[]
 calm:=true
 fn:=fun _=>true
 pn:=[]
 xe:=fun e s'=>wpAny (model P w) (A.deeper (envOfC qual scope s.heap.objs.size f cd)) (leaving (envOfC qual scope s.heap.objs.size f cd) e) (fun _ s''=>CX outer H s E e s'') (fun e' s''=>CX outer H s E e' s'') s'
theorem jm {sc:Scope} {n:Nat} {x:Str} (h:sc.names.lookup x=some .cell):∃c,(cellsFrom n sc.names []).lookup x=some c:=by
 have q:=PySem.W.cellsFrom_some sc.names n [] (.inl h);exact Option.isSome_iff_exists.mp q
theorem kX {CX:CXT} {P:Program} {w:World} {K:FR} {mg:Str->Option Value} {base:Heap} {N ps:List Str} {qual:Str} {scope:Scope} {f:Addr} {cd:Value} {A:Around} {outer:List Env} {s s1:Shared} {H:Hp} {E:XK} {us:List Value} {vs:List V}
  (S:FnScope N ps scope) (hd:A.handled=none) (e0:Env0 P w K mg base A outer s H) (hl:vs.length=ps.length) (r:Vals vs us)
  (x:InCallC s s.heap.objs.size (bindL (envOfC qual scope s.heap.objs.size f cd).kindOf (ps.zip us) fun _=>none) (cellsFrom (s.heap.objs.size+1) scope.names []) (bindC (envOfC qual scope s.heap.objs.size f cd).kindOf (ps.zip us) fun _=>none) s1):
  Inv (jQ CX P w K mg base N qual scope f cd A outer s H E) [] (start N vs) H s1:=by
 have hpl:ps.length≤N.length:=by have:=congrArg List.length S.pre;rw [List.length_take] at this;lia
 obtain ⟨h1,tk,rfl,hk⟩:=x.done;have noA:∀b:Addr,b∉(jQ CX P w K mg base N qual scope f cd A outer s H E).ex:=fun b z=>absurd (show b∈([]:List Addr) from z) (by simp);refine ⟨⟨e0.mod,S.kind,rfl,rfl,Nat.le_refl _,fun y z c h1 h2=>?_,fun y hy=>?_,fun y c _ h=>?_,fun _=>hd,Around.frames_deeper e0.frames,.inr ⟨rfl,rfl⟩,fun b z=>absurd z (noA b),e0.bs,e0.bsz,fun b _ _=>noA b,fun b z=>absurd z (noA b),e0.fO,e0.frf⟩,
  rfl,e0.bare,Un.kept hk,⟨_,x.toInCall.ns,fun i y v h1 h2 h3=>?_⟩,fun y c h=>⟨_,x.cell y c h⟩,e0.hok.fresh (Nat.le_refl _),fun y c h=>?_,fun p hp=>absurd (show p∈([]:List (Addr×Obj)) from hp) (by simp),e0.hok.kept hk,?_⟩
 ·exact name_of_addr x.apart (PySem.mem_of_lookup h1) (PySem.mem_of_lookup h2)
 ·have hy:scope.names.lookup y=some .cell∨scope.names.lookup y=some .free:=hy;rcases hy with hy | hy
  ·exact jm hy
  ·exact absurd rfl (S.nofree _ (PySem.mem_of_lookup hy))
 ·exact Nat.le_of_lt (x.above y c (PySem.mem_of_lookup h))
 ·have hi:i < vs.length:=by
   unfold start at h2
   by_cases hi:i < vs.length
   ·exact hi
   ·rw [List.getElem?_append_right (by simpa using hi)] at h2;rw [List.getElem?_replicate] at h2
    split at h2 <;> cases h2
  have ha:vs[i]?=some v:=by
   unfold start at h2;rw [List.getElem?_append_left (by simpa using hi),List.getElem?_map] at h2;cases e:vs[i]? with
   | none=>rw [e] at h2;cases h2
   | some a=>rw [e] at h2;cases h2;rfl
  obtain ⟨u,hu,rv⟩:=r.get ha;have hp:ps[i]?=some y:=by
   rw [←S.pre,List.getElem?_take_of_lt (by lia)];exact h1
  have ndP:ps.Nodup:=by rw [←S.pre];exact S.nd.sublist (List.take_sublist _ _)
  refine ⟨u,rv,?_⟩;rcases S.par y (List.mem_of_getElem? hp) with k | k
  ·exact .inl ⟨k,gO ndP hp hu k⟩
  ·obtain ⟨c,e⟩:=jm (n:=s.heap.objs.size+1) k;refine .inr ⟨.inl k,c,e,?_⟩;have q:=x.cell y c e;rw [gQ ndP hp hu (by show scope.names.lookup y≠_;rw [k];decide)] at q;exact q
 ·exact e0.hok.fresh (Nat.le_of_lt (x.above y c (PySem.mem_of_lookup h)))
 ·unfold start;show _=N.length;rw [List.length_append,List.length_map,List.length_replicate]
  lia
theorem t7 {CX:CXT} {P:Program} {w:World} {K:FR} {mg:Str->Option Value} {base:Heap} {k:Nat} {f:Addr} {name qual:Str} {params:Arguments} {body:List Stmt} {scope:Scope} {dV kV doc pm cdv ct oc:Value} {an od:Option Addr}
  {osl:Array (Option Value)} {N ps:List Str} {sp:Sp} (lk:K.lookup f=some ⟨oc,od,.func (PySem.W.fnOf name qual params body scope dV kV doc pm an cdv ct),osl⟩) (hcd:PySem.W.codeIn K cdv qual=true) (S:FnScope N ps scope)
  (len:∀vs H Q E,sp vs H Q E->vs.length=ps.length)
  (hbody:∀(A:Around) (outer:List Env) (s:Shared) (H:Hp) (vs:List V) (Q:VK) (E:XK),Room k (A.deeper (envOfC qual scope s.heap.objs.size f cdv))->sp vs H Q E->
   ∃t,PSs (jQ CX P w K mg base N qual scope f cdv A outer s H E) body t∧t {nx:=fun _ H'=>Q .non H',rt:=Q} (start N vs) H):
  FnOk P w K mg base CX (k+1) f (PySem.W.fnOf name qual params body scope dV kV doc pm an cdv ct) ps sp:=by
 refine ⟨len,fun A outer s H args us vs Q E hr e0 hb r hsp=>?_⟩;have hl:=len _ _ _ _ hsp;have KX:K.In s.heap:=e0.mod.kin.keeps fun b o e=>(e0.bs b o e).1;have lim:s.heap.NoLimit:=e0.mod.nolimit.keeps fun b o e=>(e0.bs b o e).1;have hkind:∀y∈ps.zip us,scope.names.lookup y.1=some .local∨(scope.names.lookup y.1=some .cell∧((cellsFrom (s.heap.objs.size+1) scope.names []).lookup y.1).isSome=true):=fun ⟨n,v⟩ hy=>by
  rcases S.par n (List.of_mem_zip hy).1 with q | q
  ·exact .inl q
  ·exact .inr ⟨q,PySem.W.cellsFrom_some _ _ _ (.inl q)⟩
 refine codeAny_call_function hr.depth (KX _ _ lk) rfl S.co S.gen rfl (PySem.W.codeRec_of KX hcd) (hb _ _ _ _ ?_);refine wpAny_newFunctionEnv_cells S.kind hkind fun env he s1 x=>?_;subst he;refine ⟨lim.keeps x.toInCall.keep,codeAny_func ?_⟩;obtain ⟨t,ht,hq⟩:=hbody A outer s H vs Q E (hr.deeper _) hsp;have I:Inv (jQ CX P w K mg base N qual scope f cdv A outer s H E) [] (start N vs) H s1:=kX S hr.hd e0 hl r x;refine wpAny_mono (ht [] s1 (start N vs) H _ I hq) (fun fl s' hs=>?_) fun e s' hs=>hs;have fin:∀{σ':St} {H':Hp} {v:V} {u:Value},Inv (jQ CX P w K mg base N qual scope f cdv A outer s H E) [] σ' H' s'->RelV v u->Q v H'->CE outer P w H s Q u s':=
  fun {σ' H' v u} J rv q=>⟨v,H',J.os,J.bare,J.base,J.hok,rv,q⟩
 cases fl with
 | ret u=>
  obtain ⟨v,σ',H',J,rv,q⟩:=hs;exact fin J rv q
 | next=>
  obtain ⟨σ',H',J,q⟩:=hs;exact fin (v:=V.non) (u:=Value.none) J rfl q
 | brk=>
  obtain ⟨_,_,_,q⟩:=hs;exact False.elim q
 | cont=>
  obtain ⟨_,_,_,q⟩:=hs;exact False.elim q
section
variable {X:Cx} {x:Str} {p pos:Pos} {e:Expr} {es:List Expr} {t:TA} {id T:String} {r:List V->Hp->VK->Prop}
def tCB (r:List V->Hp->VK->Prop) (t:TA):TE:=fun σ H Q=>t σ H fun vs H1=>r vs H1 Q
theorem mh (hc:bT X (.builtin id) r) (hg:Gl X x) (hm:X.mg x=none) (hv:bootBuiltins x=some (.builtin id)) (ha:PA X (e::es) t) (hn:x≠"__name__":=by decide) (hdb:(x==("__debug__":Str))=false:=by decide)
  (he:starEach (e::es) X.env=(false,eval e X.env)::starEach es X.env:=by rfl) (hpl:(backTo pos (starEach es X.env)).any (·.1)=false:=by rfl):PE X (.Call (.Name x p) (e::es) [] pos) (tCB r t):=by
 walk_at "ah";refine wpAny_Call_Name_kw (fL I hg hm hv ?_ hn hdb);exact PyProof.Rows.callWith_builtin1 (thn (ha pos pins s σ H _ I h) fun us s1 ⟨vs,H1,I1,r1,q1⟩=>hc pins s1 σ H1 vs us Q I1 r1 q1) he hpl
theorem gE (hc:bT X (.type T) r) (hg:Gl X x) (hm:X.mg x=none) (hv:bootBuiltins x=some (.type T)) (ha:PA X (e::es) t) (hn:x≠"__name__":=by decide) (hdb:(x==("__debug__":Str))=false:=by decide)
  (he:starEach (e::es) X.env=(false,eval e X.env)::starEach es X.env:=by rfl) (hpl:(backTo pos (starEach es X.env)).any (·.1)=false:=by rfl):PE X (.Call (.Name x p) (e::es) [] pos) (tCB r t):=by
 walk_at "ah";refine wpAny_Call_Name_kw (fL I hg hm hv ?_ hn hdb);exact PyProof.Rows.callWith_type1 (thn (ha pos pins s σ H _ I h) fun us s1 ⟨vs,H1,I1,r1,q1⟩=>hc pins s1 σ H1 vs us Q I1 r1 q1) he hpl
end
end L2
namespace HT
open PySem PyProof.Rows
section
open PySem.SeqAt
open PySem.AutoSeq1 (wpAny_loadPart')
open PySem.MeetsSeq PySem.MeetsSeq2 PySem.MeetsSeq3
end
theorem pb (ht:IsTup s.heap t vs.toArray) (hb:IsTup s.heap b ws.toArray) (hv:vs≠[]) (h1:ws=[]->Q (.ref t) s) (h2:ws≠[]->Q (.ref s.heap.objs.size) {s with heap:=s.heap.push {cls:=.type "tuple",data:=.seq (vs++ws).toArray}}) (hsz:vs.length+ws.length≤sizeLine):wpAny (model prog w) A (binaryOp .Add (.ref t) (.ref b)) Q E s:=by
 obtain ⟨⟨cls,dd,data,sl⟩,ho,hc,n,hd⟩:=id ht;obtain ⟨⟨cls2,dd2,data2,sl2⟩,ho2,hc2,n2,hd2⟩:=id hb;simp only at hc hd hc2 hd2;subst hc hd hc2 hd2;have e:vs.toArray++ws.toArray=(vs++ws).toArray:=by simp
 by_cases hw:ws=[]
 ·exact concat_meets ⟨_,ho,rfl⟩ ⟨_,ho2,rfl⟩ noFill_tuple_add seq_tuple_add PySem.F.slot_tuple_add PySem.F.entry_tuple_add (PySem.F.args_tuple_add_2 _ _)
   (tuple_addW1 t b vs.toArray ws.toArray n n2 dd dd2 sl sl2 (by simpa using hv) (by simp [hw])) ⟨ho,ho2,h1 hw⟩
 ·refine concat_meets ⟨_,ho,rfl⟩ ⟨_,ho2,rfl⟩ noFill_tuple_add seq_tuple_add PySem.F.slot_tuple_add PySem.F.entry_tuple_add (PySem.F.args_tuple_add_2 _ _)
   (tuple_addW2 t b vs.toArray ws.toArray n n2 dd dd2 sl sl2 (by simpa using hv) (by simpa using hw) (by rw [List.size_toArray,List.size_toArray];exact hsz)) ⟨ho,ho2,?_⟩
  rw [e];exact h2 hw
noncomputable def sIx (n d:Nat):Option Int->Nat
 | none=>d
 | some v=>if v < 0 then (v+(n:Int)).toNat else min v.toNat n
theorem qf (n d:Nat) (hd:d≤n) (o:Option Int):sIx n d o≤n:=by
 cases o with
 | none=>exact hd
 | some v=>
  show (if v < 0 then (v+(n:Int)).toNat else min v.toNat n)≤n
  by_cases hv:v < 0
  ·rw [if_pos hv];lia
  ·rw [if_neg hv];exact Nat.min_le_right _ _
theorem kl (v:Int) (n d:Nat):(if v < 0 then max (v+(n:Int)) 0 else min v (n:Int))=((sIx n d (some v):Nat):Int):=by
 show (if v < 0 then max (v+(n:Int)) 0 else min v (n:Int))=(((if v < 0 then (v+(n:Int)).toNat else min v.toNat n):Nat):Int)
 by_cases hv:v < 0
 ·simp only [if_pos hv];lia
 ·simp only [if_neg hv];lia
theorem jW (lo hi:Option Int) (n:Nat):Builtin.Slice.sliceAdjust lo hi 1 (n:Int)=(((sIx n 0 lo:Nat):Int),((sIx n n hi:Nat):Int)):=by
 have h1:¬((1:Int) < 0):=by lia
 unfold Builtin.Slice.sliceAdjust;simp only [h1,if_false];refine Prod.ext ?_ ?_
 ·cases lo with
  | none=>rfl
  | some v=>exact kl v n 0
 ·cases hi with
  | none=>rfl
  | some v=>exact kl v n n
theorem jH (i j:Nat):Builtin.Slice.slicePlaces (i:Int) (j:Int) 1=j-i:=by
 unfold Builtin.Slice.slicePlaces;have h1:(1:Int) > 0:=by lia
 simp only [h1,if_true,Int.ediv_one]
 split <;> lia
theorem fq (p:IsPart v o) (h:Q o s):wpAny (model prog w) A (Builtin.Slice.slicePartIndex v) Q E s:=by
 cases p with
 | none=>exact slicePart_none h
 | int i t=>exact slicePart_int h
theorem bN {sl:Addr} {vl vu:Value} {lo hi:Option Int} {n:Nat} {Q:Int×Int×Nat->Shared->Prop} (hs:s.heap.IsSliceOf sl vl vu .none) (pl:IsPart vl lo) (pu:IsPart vu hi)
  (h:Q (((sIx n 0 lo:Nat):Int),1,sIx n n hi-sIx n 0 lo) s):wpAny (model prog w) A (Builtin.Slice.sliceApplied (.ref sl) (pure (n:Int))) Q E s:=by
 obtain ⟨os,hos,hcs,hds⟩:=id hs;unfold Builtin.Slice.sliceApplied Builtin.Slice.sliceFields;refine wpAny_bind (wpAny_bind (wpAny_field hos hds (x:=vl) rfl (wpAny_bind (wpAny_field hos hds (x:=vu) rfl (wpAny_bind (wpAny_field hos hds (x:=.none) rfl (wpAny_pure ?_)))))));refine wpAny_bind (slicePart_none ?_);show wpAny _ _ (if ((1:Int)==0)=true then _ else _) _ _ s;rw [if_neg (by decide)];refine wpAny_bind (fq pl (wpAny_bind (fq pu (wpAny_bind (wpAny_pure ?_)))));show wpAny _ _ (match Builtin.Slice.sliceAdjust lo hi 1 (n:Int) with | (lo,hi)=>pure (lo,(1:Int),Builtin.Slice.slicePlaces lo hi 1)) _ _ s;rw [jW lo hi n];show wpAny _ _ (pure (((sIx n 0 lo:Nat):Int),(1:Int),Builtin.Slice.slicePlaces ((sIx n 0 lo:Nat):Int) ((sIx n n hi:Nat):Int) 1)) _ _ s;rw [jH];exact wpAny_pure h
theorem l6 (xs:Array Value) (i k:Nat):((List.range k).filterMap fun (m:Nat)=>xs[((i:Int)+(m:Int)*1).toNat]?).toArray=((xs.toList.drop i).take k).toArray:=by
 have e:(fun (m:Nat)=>xs[((i:Int)+(m:Int)*1).toNat]?)=fun m=>xs[i+m]?:=by
  funext m
  have:((i:Int)+(m:Int)*1).toNat=i+m:=by lia
  rw [this]
 rw [e];have:=pick_run xs i k;rw [List.filterMap_map] at this;have e2:((fun x=>xs[x]?)∘fun x=>i+x)=fun m=>xs[i+m]?:=rfl;rw [e2] at this;rw [this]
theorem dk {t sl:Addr} {items:Array Value} {vl vu:Value} {lo hi:Option Int} {Q:Value->Shared->Prop} (ht:IsTup s.heap t items) (hs:s.heap.IsSliceOf sl vl vu .none) (pl:IsPart vl lo) (pu:IsPart vu hi)
  (hw:¬(sIx items.size 0 lo=0∧sIx items.size items.size hi=items.size))
  (h:Q (.ref s.heap.objs.size) {s with heap:=s.heap.push {cls:=.type "tuple",data:=.seq ((items.toList.drop (sIx items.size 0 lo)).take (sIx items.size items.size hi-sIx items.size 0 lo)).toArray}})
  (hsz:items.size≤sizeLine):wpAny (model prog w) A (getItem (.ref t) (.ref sl)) Q E s:=by
 have htake:sizeOk (.seq ((items.toList.drop (sIx items.size 0 lo)).take (sIx items.size items.size hi-sIx items.size 0 lo)).toArray):=by
  show ((items.toList.drop (sIx items.size 0 lo)).take (sIx items.size items.size hi-sIx items.size 0 lo)).toArray.size≤sizeLine;rw [List.size_toArray,List.length_take,List.length_drop,Array.length_toList]
  lia
 have hj:sIx items.size items.size hi≤items.size:=qf _ _ (Nat.le_refl _) hi;obtain ⟨os,hos,hcs,hds⟩:=id hs;have hTs:s.TypeIs (.ref sl) "slice":=⟨os,hos,hcs⟩;unfold getItem
 try with_reducible refine wpAny_holding ?_
 first | refine wpAny_bind (wpAny_pure ?_) | skip
 refine wpAny_bind (wpAny_sequenceKey ht.typeIs (by decide) ?_);refine wpAny_bind (wpAny_callSpecial?_slot (name:=Str.ofString "__getitem__") ht.typeIs PyProof.Rows.slot_tuple_getitem
  (wpAny_call_entry PyProof.Rows.slot_tuple_getitem ht.typeIs entry_tuple_getitem ?_ (args_tuple_getitem _ _)))
 show wpAny _ _ (Builtin.Tuple.tupleItemsOf (.ref t) >>=_) _ _ s;refine wpAny_bind (tupleItemsOf_ ht ?_);refine wpAny_bind (wpAny_typeOf hTs ?_);rw [if_pos (by decide)];refine wpAny_bind (bN hs pl pu ?_);have hno:¬((((sIx items.size 0 lo:Nat):Int)==0&&(1:Int)==1&&(sIx items.size items.size hi-sIx items.size 0 lo)==items.size)=true):=by
  intro q;rw [Bool.and_eq_true,Bool.and_eq_true] at q;have q1:((sIx items.size 0 lo:Nat):Int)=0:=eq_of_beq q.1.1;have q2:sIx items.size items.size hi-sIx items.size 0 lo=items.size:=eq_of_beq q.2;exact hw ⟨by lia,by lia⟩
 show wpAny _ _ (if (((sIx items.size 0 lo:Nat):Int)==0&&(1:Int)==1&&(sIx items.size items.size hi-sIx items.size 0 lo)==items.size)=true then _ else _) _ _ s;rw [if_neg hno,l6]
 first
  | exact wpAny_bind (m:=Builtin.Tuple.tupleExact _) (wpAny_newObj_type (wpAny_pure ⟨_,rfl,wpAny_pure h⟩) htake)
  | exact wpAny_bind (m:=Builtin.Tuple.tupleExact _) (wpAny_newObj_type (wpAny_bind (wpAny_pure (wpAny_pure ⟨_,rfl,wpAny_pure h⟩))) htake)
  | exact wpAny_bind (wpAny_bind (m:=Builtin.Tuple.tupleExact _) (wpAny_newObj_type (wpAny_pure (wpAny_pure ⟨_,rfl,wpAny_pure h⟩)) htake))
  | exact wpAny_bind (wpAny_bind (m:=Builtin.Tuple.tupleExact _) (wpAny_newObj_type (wpAny_pure ⟨_,rfl,wpAny_pure h⟩) htake))
end HT
namespace L2
open PySem PySem.Spec PyProof.Rows
abbrev TO:=St->Hp->(Option Int->Hp->Prop)->Prop
def PO (X:Cx) (e:Option Expr) (t:TO):Prop:=
 ∀(pins:List (Addr×Obj)) (s:Shared) (σ:St) (H:Hp) (Q:Option Int->Hp->Prop),Inv X pins σ H s->t σ H Q->
  wpAny (model X.prog X.w) X.A (evalPart e X.env) (fun u s'=>∃o H',Inv X pins σ H' s'∧IsPart u o∧Q o H') X.xe s
noncomputable def nF:TO:=fun _ H Q=>Q none H
def sO (t:TE):TO:=fun σ H Q=>t σ H fun x H1=>∃i,x=.int i∧Q (some i) H1
section
variable {X:Cx} {e:Expr} {te:TE} {lo hi:Option Expr} {tl th:TO} {pos p2:Pos}
theorem oq:PO X none nF:=by
 walk_at "ah";rw [evalPart_none];exact wpAny_pure ⟨none,H,I,.none,h⟩
theorem oo (h:PE X e te):PO X (some e) (sO te):=by
 intro pins s σ H Q I hw;rw [evalPart_some];refine thn (h pins s σ H _ I hw) fun u s1 ⟨x,H1,I1,r1,q1⟩=>?_;obtain ⟨i,rfl,q⟩:=q1;obtain ⟨t,rfl⟩:=r1;exact ⟨some i,H1,I1,.int i t,q⟩
def SlR (X:Cx) (r:V->Option Int->Option Int->Hp->VK->Prop):Prop:=
 ∀(pins:List (Addr×Obj)) (s:Shared) (σ:St) (H:Hp) (x:V) (v vl vu:Value) (lo hi:Option Int) (sl:Addr) (Q:VK),Inv X pins σ H s->RelV x v->s.heap.IsSliceOf sl vl vu .none->IsPart vl lo->IsPart vu hi->r x lo hi H Q->
  ∃T id,typeLookup (.type T) "__getitem__"=pure (some (.builtin id))∧s.TypeIs v T∧wpAny (model X.prog X.w) X.A (getItem v (.ref sl)) (EP X pins σ Q) X.xe s
def tSl (r:V->Option Int->Option Int->Hp->VK->Prop) (te:TE) (tl th:TO):TE:=fun σ H Q=>te σ H fun x H1=>tl σ H1 fun l H2=>th σ H2 fun u H3=>r x l u H3 Q
theorem l8 (hr:SlR X r) (he:PE X e te) (hl:PO X lo tl) (hu:PO X hi th):PE X (.Subscript e (.Slice lo hi none p2) pos) (tSl r te tl th):=by
 walk_at "ah";refine Subscript_ (thn (he pins s σ H _ I h) fun v s1 ⟨x,H1,I1,r1,q1⟩=>?_);refine wpAny_Slice (thn (hl pins s1 σ H1 _ I1 q1) fun vl s2 ⟨l,H2,I2,pl,q2⟩=>thn (hu pins s2 σ H2 _ I2 q2) fun vu s3 ⟨u,H3,I3,pu,q3⟩=>?_);rw [evalPart_none];refine wpAny_pure ?_;have I4:Inv X pins σ H3 {s3 with heap:=s3.heap.push {cls:=.type "slice",data:=.fields #[vl,vu,.none]}}:=I3.kept (t':=s3.toks) fun b ob q=>Heap.get?_push_of_some _ q;obtain ⟨T,id,hT,ht,hg⟩:=hr pins {s3 with heap:=s3.heap.push {cls:=.type "slice",data:=.fields #[vl,vu,.none]}} σ H3 x v vl vu l u s3.heap.objs.size Q I4 r1 (Heap.IsSliceOf.new ..) pl pu q3;show wpAny (model X.prog X.w) X.A (subscriptTail e (.Slice lo hi none p2) v (.ref s3.heap.objs.size)) (EP X pins σ Q) X.xe {s3 with heap:=s3.heap.push {cls:=.type "slice",data:=.fields #[vl,vu,.none]}};exact tail_any (ops:=[.ref s3.heap.objs.size,v]) ht hT hg (by with_unfolding_all rfl)
noncomputable def fS (xs:List V) (lo hi:Option Int):List V:=(xs.drop (HT.sIx xs.length 0 lo)).take (HT.sIx xs.length xs.length hi-HT.sIx xs.length 0 lo)
theorem eF (xs:List V) (lo hi:Option Int):(fS xs lo hi).length≤xs.length:=by
 unfold fS;rw [List.length_take,List.length_drop]
 lia
def uN (K:FR):V->Option Int->Option Int->Hp->VK->Prop:=fun x lo hi H Q=>∃a xs,x=.ref a∧SqT K H a xs∧
 ¬(HT.sIx xs.length 0 lo=0∧HT.sIx xs.length xs.length hi=xs.length)∧∀p,H p=none->Q (.ref p) (upd H p (.tup (fS xs lo hi)))
theorem p5:SlR X (uN X.K):=by
 intro pins s σ H x v vl vu lo hi sl Q I rx hs pl pu h;obtain ⟨a,xs,rfl,hx,hw,q⟩:=h;cases rx;obtain ⟨its,r,ht,hz⟩:=I.tuple hx;have hlen:its.toArray.size=xs.length:=by rw [List.size_toArray];exact r.length.symm
 refine ⟨"tuple",_,PyProof.Rows.slot_tuple_getitem.lookup,ht.typeIs,?_⟩;refine HT.dk ht hs pl pu (by rw [hlen];exact hw) ?_ (by rw [hlen];exact hz);rw [hlen];refine ⟨.ref s.heap.objs.size,_,I.laid (t':=s.toks) (o:=.tup (fS xs lo hi)) (fun b ob q=>Heap.get?_push_of_some _ q) (Nat.le_refl _) ?_,rfl,q _ (I.hok.fresh (Nat.le_refl _))⟩;exact ⟨Nat.le_trans (eF xs lo hi) hz,_,(r.drop (HT.sIx xs.length 0 lo)).take (HT.sIx xs.length xs.length hi-HT.sIx xs.length 0 lo),iP.new _ _⟩
def tI (K:FR):R2:=fun x y H Q=>∃a b xs ys,x=.ref a∧y=.ref b∧SqT K H a xs∧SqT K H b ys∧xs≠[]∧xs.length+ys.length≤sizeLine∧
 (ys=[]->Q (.ref a) H)∧(ys≠[]->∀p,H p=none->Q (.ref p) (upd H p (.tup (xs++ys))))
theorem Vals.eZ (r:Vals xs us):us=[]↔xs=[]:=by
 cases r with
 | nil=>simp
 | cons _ _=>simp
theorem oG:OpR X (binaryOp .Add) (tI X.K):=by
 walk_at "al";obtain ⟨a,b,xs,ys,rfl,rfl,ha,hb,hx,hz,q1,q2⟩:=h;cases rx;cases ry;obtain ⟨its,r1,p1,_⟩:=I.tuple ha;obtain ⟨its2,r2,p2,_⟩:=I.tuple hb;refine HT.pb p1 p2 (fun z=>hx (r1.eZ.mp z)) (fun z=>⟨.ref a,H,I,rfl,q1 (r2.eZ.mp z)⟩) (fun z=>?_) (by rw [←r1.length,←r2.length];exact hz);refine ⟨.ref s.heap.objs.size,_,I.laid (t':=s.toks) (o:=.tup (xs++ys)) (fun b ob q=>Heap.get?_push_of_some _ q) (Nat.le_refl _) ?_,rfl,q2 (fun w=>z (r2.eZ.mpr w)) _ (I.hok.fresh (Nat.le_refl _))⟩;exact ⟨by rw [List.length_append];exact hz,_,r1.append r2,iP.new _ _⟩
end
noncomputable def ixN (n:Nat) (i:Int):Option Nat:=if 0≤i then (if i < n then some i.toNat else none) else if -(n:Int)≤i then some (i+n).toNat else none
noncomputable def atI {α:Type} (xs:List α) (i:Int):Option α:=(ixN xs.length i).bind fun j=>xs[j]?
theorem kc (h:ixN n i=some j):seqIndex? i n=some j∧j < n∧-(n:Int)≤i∧i < n:=by
 unfold ixN at h
 by_cases h0:0≤i
 ·rw [if_pos h0] at h
  by_cases h1:i < n
  ·rw [if_pos h1] at h;have e:i.toNat=j:=Option.some.inj h;exact ⟨by rw [seqIndex_of h0 h1,e],by lia,by lia,h1⟩
  ·rw [if_neg h1] at h;cases h
 ·rw [if_neg h0] at h
  by_cases h1:-(n:Int)≤i
  ·rw [if_pos h1] at h;have e:(i+n).toNat=j:=Option.some.inj h;exact ⟨by rw [seqIndex_neg (by lia) h1,e],by lia,h1,by lia⟩
  ·rw [if_neg h1] at h;cases h
theorem fg (h:atI xs i=some v):∃j,seqIndex? i xs.length=some j∧xs[j]?=some v∧j < xs.length∧-(xs.length:Int)≤i∧i < xs.length:=by
 unfold atI at h;cases e:ixN xs.length i with
 | none=>rw [e] at h;cases h
 | some j=>
  rw [e] at h;obtain ⟨h1,h2,h3,h4⟩:=kc e;exact ⟨j,h1,h,h2,h3,h4⟩
theorem iO {α:Type} {xs:List α} {j:Nat} {v:α} (h:xs[j]?=some v):atI xs (j:Int)=some v:=by
 have hj:j < xs.length:=(List.getElem?_eq_some_iff.mp h).1;have e:ixN xs.length (j:Int)=some j:=by
  unfold ixN;rw [if_pos (by lia),if_pos (by lia)];simp
 unfold atI;rw [e];exact h
def dF (b:Expr):Prop:=∀o i,subscripted b false o i=operate [o,i] (getItem o i)
def IxR (X:Cx) (r:R2):Prop:=
 ∀(value slice:Expr) (pins:List (Addr×Obj)) (s:Shared) (σ:St) (H:Hp) (x y:V) (v u:Value) (Q:VK),Inv X pins σ H s->RelV x v->RelV y u->r x y H Q->
  subscripted slice false v u=operate [v,u] (getItem v u)->wpAny (model X.prog X.w) X.A (subscriptTail value slice v u) (EP X pins σ Q) X.xe s
def MtR (X:Cx) (id:String) (r:V->List V->Hp->VK->Prop):Prop:=
 ∀(pins:List (Addr×Obj)) (s:Shared) (σ:St) (H:Hp) (x:V) (xs:List V) (v:Value) (us:List Value) (Q:VK),Inv X pins σ H s->RelV x v->Vals xs us->r x xs H Q->
  wpAny (model X.prog X.w) X.A (call (.builtin id) (v::us)) (EP X pins σ Q) X.xe s
section
variable {X:Cx} {a b:Expr} {ta tb:TE} {pos:Pos}
theorem tO (hr:IxR X r) (ha:PE X a ta) (hb:PE X b tb) (hs:dF b):PE X (.Subscript a b pos) (tOp r ta tb):=by
 walk_at "ah";exact Subscript_ (sk ha hb I h fun v u s2 x y H2 I2 rx ry q=>hr a b pins s2 σ H2 x y v u Q I2 rx ry q (hs _ _))
def uU (K:FR):R2:=fun x y H Q=>∃p xs i v,x=.ref p∧y=.int i∧SqL K H p xs∧atI xs i=some v∧Q v H
def uS (K:FR):R2:=fun x y H Q=>∃p xs i v,x=.ref p∧y=.int i∧SqT K H p xs∧atI xs i=some v∧Q v H
def uT:R2:=fun x y H Q=>∃z i c,x=.str z∧y=.int i∧z.length≤sizeLine∧atI z.cps.toList i=some c∧Q (.str ⟨#[c]⟩) H
theorem oQ:IxR X (uU X.K):=by
 intro value slice pins s σ H x y v u Q I rx ry h hs;obtain ⟨p,xs,i,z,rfl,rfl,hq,he,q⟩:=h;cases rx;obtain ⟨t,rfl⟩:=ry;obtain ⟨its,r,pl,hz⟩:=I.list hq;obtain ⟨j,h1,h2,h3,h4,h5⟩:=fg he;obtain ⟨w,ew,rw'⟩:=r.get h2;have hl:=r.length;have hn:=cZ;have fin:EP X pins σ Q w s:=⟨z,H,I,rw',q⟩
 by_cases h0:0≤i
 ·have hj:i.toNat=j:=by
   rw [seqIndex_of h0 h5] at h1;exact Option.some.inj h1
  exact item_listR pl.isList h0 (by lia) (by rw [hj];simpa using ew) fin hs
 ·have hj:(i+(its.toArray.size:Int)).toNat=j:=by
   rw [seqIndex_neg (by lia) h4] at h1;rw [List.size_toArray,←hl];exact Option.some.inj h1
  exact subscriptTail_builtinR (x:=w) pl.isList.typeIs slot_list_getitem.lookup
   (wpAny_getItem_list_neg (Q:=fun r s'=>r=w∧EP X pins σ Q r s') pl.isList (by lia) (by rw [List.size_toArray] <;> lia) (by lia) (by rw [hj];simpa using ew) ⟨rfl,fin⟩) hs
theorem rJ:IxR X (uS X.K):=by
 intro value slice pins s σ H x y v u Q I rx ry h hs;obtain ⟨p,xs,i,z,rfl,rfl,hq,he,q⟩:=h;cases rx;obtain ⟨t,rfl⟩:=ry;obtain ⟨its,r,pl,hz⟩:=I.tuple hq;obtain ⟨j,h1,h2,h3,h4,h5⟩:=fg he;obtain ⟨w,ew,rw'⟩:=r.get h2;have hl:=r.length;have hn:=cZ;have fin:EP X pins σ Q w s:=⟨z,H,I,rw',q⟩;exact subscriptTail_builtinR (x:=w) pl.typeIs slot_tuple_getitem.lookup
  (getItem_tuple (j:=j) (Q:=fun r s'=>r=w∧EP X pins σ Q r s') pl (by lia) (by lia) (by rw [List.size_toArray,←hl];exact h1) (by simpa using ew) ⟨rfl,fin⟩) hs
theorem rK:IxR X uT:=by
 intro value slice pins s σ H x y v u Q I rx ry h hs;obtain ⟨z,i,c,rfl,rfl,hz,he,q⟩:=h;obtain ⟨t,rfl⟩:=rx;obtain ⟨t',rfl⟩:=ry;obtain ⟨j,h1,h2,h3,h4,h5⟩:=fg he;have hl:z.cps.toList.length=z.length:=by simp [Str.length]
 rw [hl] at h1 h4 h5;have hn:=cZ;exact tail_any (typeIs_str s z t) slot_str_getitem.lookup (getItem_str (c:=c) (by
  have e1:decide (i < -(2^63:Int))=false:=decide_eq_false (by lia);have e2:decide (i≥2^63)=false:=decide_eq_false (by lia);rw [e1,e2,Bool.or_false]) (by rw [h1];simpa using h2) ⟨.str ⟨#[c]⟩,H,I.tok _,⟨_,rfl⟩,q⟩) hs
theorem jK (its:List Value) (n j:Nat) (u:Value):Obj.mapSeq (·.setIfInBounds j u) {cls:=.type "list",data:=.seq its.toArray n}={cls:=.type "list",data:=.seq (its.set j u).toArray n}:=by
 simp [Obj.mapSeq]
theorem Inv.lst (I:Inv X pins σ H s) (h:H p=some (.lst xs)):
  ∃(its:List Value) (n:Nat),Vals xs its∧s.heap.get? p=some {cls:=.type "list",data:=.seq its.toArray n}∧xs.length≤sizeLine:=by
 obtain ⟨z,its,n,r,e⟩:=I.hok p _ h;exact ⟨its,n,r,e,z⟩
theorem Inv.rA {pins:List (Addr×Obj)} {σ:St} {H:Hp} {s:Shared} {p:Addr} {xs ys:List V} {its its':List Value} {n n':Nat} {f:Obj->Obj} (I:Inv X pins σ H s) (h:H p=some (.lst xs))
  (ho:s.heap.get? p=some {cls:=.type "list",data:=.seq its.toArray n}) (hf:f {cls:=.type "list",data:=.seq its.toArray n}={cls:=.type "list",data:=.seq its'.toArray n'}) (r:Vals ys its') (hz:ys.length≤sizeLine) (t:Nat):
  Inv X pins σ (upd H p (.lst ys)) {s with heap:=s.heap.update p f,toks:=t}:=by
 have e:(s.heap.update p f).get? p=some {cls:=.type "list",data:=.seq its'.toArray n'}:=by
  rw [Heap.get?_update_self f ho (by rw [hf] <;> rfl),hf]
 refine I.write (x:=p) (e:=p) (by rw [h];trivial) (.inl rfl) (fun b u hb q=>(Heap.get?_update_other _ _ (Ne.symm hb)).trans q) ⟨_,e⟩ ?_;exact ⟨hz,its',n',r,e⟩
def tH:V->V->V->Hp->(Hp->Prop)->Prop:=fun o i v H Q=>∃p xs k j,o=.ref p∧i=.int k∧H p=some (.lst xs)∧ixN xs.length k=some j∧Q (upd H p (.lst (xs.set j v)))
theorem set_list:su X tH:=by
 intro pins s σ H o i v ov iv u Q I ro ri rv h;obtain ⟨p,xs,k,j,rfl,rfl,hp,hj,q⟩:=h;cases ro;obtain ⟨t,rfl⟩:=ri;obtain ⟨its,n,r,ho,hz⟩:=I.lst hp;obtain ⟨h1,h2,h3,h4⟩:=kc hj;have hl:=r.length;have hn:=cZ;have I':Inv X pins σ (upd H p (.lst (xs.set j v))) {s with heap:=s.heap.update p (Obj.mapSeq (·.setIfInBounds j u))}:=
  I.rA hp ho (jK its n j u) (r.set rv j) (by rw [List.length_set];exact hz) s.toks
 by_cases h0:0≤k
 ·have hk:k.toNat=j:=by
   rw [seqIndex_of h0 h4] at h1;exact Option.some.inj h1
  exact PySem.W.ki_setAt ho h0 (by lia) (by rw [List.size_toArray,←hl];exact h4) (by rw [hk];exact ⟨_,I',q⟩)
 ·have hk:(k+(its.toArray.size:Int)).toNat=j:=by
   rw [seqIndex_neg (by lia) h3] at h1;rw [List.size_toArray,←hl];exact Option.some.inj h1
  exact PySem.W.ki_setBack ho (by lia) (by rw [List.size_toArray,←hl];exact h3) (by lia) (by rw [hk];exact ⟨_,I',q⟩)
theorem hE (lo hi:Option Int) (n:Nat):(sliceBounds lo hi none n).1=((HT.sIx n 0 lo:Nat):Int)∧(sliceBounds lo hi none n).2.1=((HT.sIx n n hi:Nat):Int)∧(sliceBounds lo hi none n).2.2=1:=by
 refine ⟨?_,?_,rfl⟩
 ·cases lo with
  | none=>simp [sliceBounds,HT.sIx]
  | some i=>
   simp only [sliceBounds,HT.sIx,Option.getD_none,show (1:Int) > 0 by decide,if_true]
   by_cases h:i < 0
   ·simp only [h,if_true] <;> lia
   ·simp only [h,if_false] <;> lia
 ·cases hi with
  | none=>simp [sliceBounds,HT.sIx]
  | some i=>
   simp only [sliceBounds,HT.sIx,Option.getD_none,show (1:Int) > 0 by decide,if_true]
   by_cases h:i < 0
   ·simp only [h,if_true] <;> lia
   ·simp only [h,if_false] <;> lia
theorem f9 (its:List Value) (lo hi:Option Int):slicePick its.toArray lo hi none=((its.drop (HT.sIx its.length 0 lo)).take (HT.sIx its.length its.length hi-HT.sIx its.length 0 lo)).toArray:=by
 obtain ⟨h1,h2,h3⟩:=hE lo hi its.toArray.size;unfold slicePick;rw [h1,h2,h3];simp only [sliceRange_one,pick_run,List.size_toArray] <;> rfl
def uP (K:FR):V->Option Int->Option Int->Hp->VK->Prop:=fun x lo hi H Q=>∃a xs,x=.ref a∧SqL K H a xs∧∀p,H p=none->Q (.ref p) (upd H p (.lst (fS xs lo hi)))
theorem nJ:SlR X (uP X.K):=by
 intro pins s σ H x v vl vu lo hi sl Q I rx hs pl pu h;obtain ⟨a,xs,rfl,hx,q⟩:=h;cases rx;obtain ⟨its,r,ht,hz⟩:=I.list hx;have hlen:=r.length;refine ⟨"list",_,slot_list_getitem.lookup,ht.isList.typeIs,?_⟩;refine wpAny_getItem_list_slice ht.isList hs pl pu .none (by simp) ?_ (by rw [List.size_toArray] <;> lia);rw [f9,←hlen];refine ⟨.ref s.heap.objs.size,_,I.laid (t':=s.toks) (o:=.lst (fS xs lo hi)) (fun b ob q=>Heap.get?_push_of_some _ q) (Nat.le_refl _) ?_,rfl,q _ (I.hok.fresh (Nat.le_refl _))⟩;exact ⟨Nat.le_trans (eF xs lo hi) hz,_,0,(r.drop (HT.sIx xs.length 0 lo)).take (HT.sIx xs.length xs.length hi-HT.sIx xs.length 0 lo),Heap.get?_push_size _ rfl⟩
theorem iK:bT X (.builtin "len") (fun xs H Q=>∃p ys,xs=[.ref p]∧(SqL X.K H p ys∨SqT X.K H p ys)∧Q (.int ys.length) H):=by
 intro pins s σ H xs us Q I r h;obtain ⟨p,ys,rfl,hq,q⟩:=h;obtain ⟨u,rfl,rx⟩:=vals1 r;cases rx;have hn:=cZ;rcases hq with hq | hq
 ·obtain ⟨its,r',pl,hz⟩:=I.list hq;have hlen:=r'.length;exact Calls.call_len_list pl.isList (by simp only [List.size_toArray] <;> lia) ⟨.int ys.length,H,I.tok _,⟨s.toks+1,by rw [List.size_toArray,hlen]⟩,q⟩
 ·obtain ⟨its,r',pl,hz⟩:=I.tuple hq;have hlen:=r'.length;exact len_tuple pl (by simp only [List.size_toArray] <;> lia) ⟨.int ys.length,H,I.tok _,⟨s.toks+1,by rw [List.size_toArray,hlen]⟩,q⟩
theorem iJ:bT X (.builtin "len") (fun xs H Q=>∃z,xs=[.str z]∧z.length≤sizeLine∧Q (.int z.length) H):=by
 intro pins s σ H xs us Q I r h;obtain ⟨z,rfl,hz,q⟩:=h;obtain ⟨u,rfl,t,rfl⟩:=vals1 r;have hn:=cZ;exact len_str (by lia) ⟨.int z.length,H,I.tok _,⟨_,rfl⟩,q⟩
theorem iI:bT X (.type "list") (fun xs H Q=>∃p ys,xs=[.ref p]∧(SqL X.K H p ys∨SqT X.K H p ys)∧∀l,H l=none->Q (.ref l) (upd H l (.lst ys))):=by
 intro pins s σ H xs us Q I r h;obtain ⟨p,ys,rfl,hq,q⟩:=h;obtain ⟨u,rfl,rx⟩:=vals1 r;cases rx;have fin:∀(its:List Value),Vals ys its->ys.length≤sizeLine->∀(h':Heap) (c':Nat),(∀b o',s.heap.get? b=some o'->h'.get? b=some o')->
   h'.get? s.heap.objs.size=some {cls:=.type "list",dict:=none,data:=.seq its.toArray c',slots:=#[]}->EP X pins σ Q (.ref s.heap.objs.size) {s with heap:=h'}:=fun its r' hz h' c' kp e=>
  ⟨.ref s.heap.objs.size,_,I.laid (t':=s.toks) kp (Nat.le_refl _) (show aC X.prog X.w _ h' _ (.lst ys) from ⟨hz,its,c',r',e⟩),rfl,q _ (I.hok.fresh (Nat.le_refl _))⟩
 rcases hq with hq | hq
 ·obtain ⟨its,r',pl,hz⟩:=I.list hq;have hlen:=r'.length;obtain ⟨o,ho,hc,n,hd⟩:=pl.isList;exact call_list_seq p (.inl rfl) ho hc hd (fun h' c' kp e=>fin its r' hz h' c' kp e) (by simp only [List.size_toArray] <;> lia)
 ·obtain ⟨its,r',pl,hz⟩:=I.tuple hq;have hlen:=r'.length;obtain ⟨o,ho,hc,n,hd⟩:=pl;exact call_list_seq p (.inr rfl) ho hc hd (fun h' c' kp e=>fin its r' hz h' c' kp e) (by simp only [List.size_toArray] <;> lia)
theorem gq:bT X (.type "tuple") (fun xs H Q=>∃p ys,xs=[.ref p]∧((SqL X.K H p ys∧∀l,H l=none->Q (.ref l) (upd H l (.tup ys)))∨(SqT X.K H p ys∧Q (.ref p) H))):=by
 intro pins s σ H xs us Q I r h;obtain ⟨p,ys,rfl,h⟩:=h;obtain ⟨u,rfl,rx⟩:=vals1 r;cases rx;rcases h with ⟨hq,q⟩ | ⟨hq,q⟩
 ·obtain ⟨its,r',pl,hz⟩:=I.list hq;have hlen:=r'.length;refine call_tuple_list pl.isList (fun h' kp=>?_) (by simp only [List.size_toArray] <;> lia);have I1:Inv X pins σ H {s with heap:=h'}:=I.kept (t':=s.toks) kp;have I2:Inv X pins σ (upd H h'.objs.size (.tup ys)) {s with heap:=h'.push {cls:=.type "tuple",data:=.seq its.toArray}}:=
   I1.laid (t':=s.toks) (fun b o e=>Heap.get?_push_of_some _ e) (Nat.le_refl _) (show aC X.prog X.w _ _ _ (.tup ys) from ⟨hz,its,r',iP.new _ _⟩)
  exact ⟨.ref h'.objs.size,_,I2,rfl,q _ (I1.hok.fresh (Nat.le_refl _))⟩
 ·obtain ⟨its,r',pl,hz⟩:=I.tuple hq;exact call_tuple_same pl ⟨.ref p,H,I,rfl,q⟩
def tyV (K:FR) (T:String) (x:V) (H:Hp):Prop:=match x with
 | .str _=>T="str"
 | .int _=>T="int"
 | .ref p=>(T="list"∧∃xs,SqL K H p xs)∨(T="tuple"∧∃o,K.lookup p=some o∧o.cls=.type "tuple"∧o.dict=none)∨
   (T="dict"∧((∃kvs,H p=some (.dK kvs))∨∃kvs,H p=some (.dT kvs)))∨(T="set"∧∃S n,H p=some (.set S n))
 | _=>False
theorem pV (I:Inv X pins σ H s) (r:RelV x v) (ty:tyV X.K T x H):
  s.TypeIs v T∧∀a,v=.ref a->∃ob,s.heap.get? a=some ob∧ob.dict=none:=by
 cases x with
 | str z=>
  obtain ⟨t,rfl⟩:=r;cases (show T="str" from ty);exact ⟨typeIs_str s z t,fun _ e=>nomatch e⟩
 | int i=>
  obtain ⟨t,rfl⟩:=r;cases (show T="int" from ty);exact ⟨typeIs_int s i t,fun _ e=>nomatch e⟩
 | ref p=>
  cases r;rcases ty with ⟨rfl,xs,hq⟩ | ⟨rfl,o,hk,hc,hd⟩ | ⟨rfl,hk⟩ | ⟨rfl,S,n,hk⟩
  ·obtain ⟨its,_,pl,_⟩:=I.list hq;refine ⟨pl.isList.typeIs,fun a e=>?_⟩;cases e;obtain ⟨o,n,e,c,hd,_⟩:=pl;exact ⟨o,e,hd⟩
  ·refine ⟨⟨o,I.kIn p o hk,hc⟩,fun a e=>?_⟩;cases e;exact ⟨o,I.kIn _ o hk,hd⟩
  ·have z:∃o,s.heap.get? p=some o∧o.ExactDict:=by
    rcases hk with ⟨kvs,hk⟩ | ⟨kvs,hk⟩
    ·obtain ⟨_,_,_,_,o,_,_,e,ex,_⟩:=I.hok p _ hk;exact ⟨o,e,ex⟩
    ·obtain ⟨_,_,_,_,o,_,_,e,ex,_⟩:=I.hok p _ hk;exact ⟨o,e,ex⟩
   obtain ⟨o,e,ex⟩:=z;refine ⟨⟨o,e,ex.1⟩,fun a e2=>?_⟩;cases e2;exact ⟨o,e,ex.2.1⟩
  ·obtain ⟨o,_,_,_,e,ex,_⟩:=I.hok p _ hk;refine ⟨⟨o,e,ex.1⟩,fun a e2=>?_⟩;cases e2;exact ⟨o,e,ex.2.1⟩
 | _=>exact False.elim ty
def tBM (K:FR) (T:String) (r:V->List V->Hp->VK->Prop) (to:TE) (t:TA):TE:=fun σ H Q=>to σ H fun x H1=>tyV K T x H1∧t σ H1 fun xs H2=>r x xs H2 Q
variable {o e:Expr} {es:List Expr} {to:TE} {t:TA} {name:Str} {apos cpos:Pos} {T id:String} {r:V->List V->Hp->VK->Prop}
theorem tP (pa:PlainAttrs T) (slot:Slot T name id) (hty:typeOf (.builtin id)=pure (.type "method_descriptor")) (hm:MtR X id r) (ho:PE X o to) (ha:PA X (e::es) t)
  (hbase:attributeBase o name X.env (eval o X.env)=eval o X.env:=by rfl)
  (hfew:((backTo cpos (starEach (e::es) X.env)).all (fun x=>!x.1)&&(backToKw cpos (keywordEach [] X.env)).all (fun x=>x.1.isSome)
   &&decide ((e::es).length+([]:List Keyword).length+(if ([]:List Keyword).isEmpty then 0 else 1) < 30))=true:=by rfl)
  (hline:(apos.endLine==cpos.line)=true:=by rfl) (hs:starEach (e::es) X.env=(false,eval e X.env)::starEach es X.env:=by rfl) (hplain:(backTo cpos (starEach es X.env)).any (·.1)=false:=by rfl):
  PE X (.Call (.Attribute o name apos) (e::es) [] cpos) (tBM X.K T r to t):=by
 walk_at "ah";refine wpAny_Call_method_late hbase hfew hline rfl (thn (ho pins s σ H _ I h) fun v s1 ⟨x,H1,I1,r1,ty,q1⟩=>?_);obtain ⟨h1,h2⟩:=pV I1 r1 ty;refine ⟨T,id,pa,slot,hty,h1,h2,?_⟩;have hA:=ha cpos pins s1 σ H1 _ I1 q1;rw [hs] at hA ⊢;refine Calls.callWith_builtin (by show (false||(backTo cpos (starEach es X.env)).any (·.1))=false;rw [hplain] <;> rfl) (Calls.evalArgs_plain ?_);exact thn hA fun us s2 ⟨vs,H2,I2,r2,q2⟩=>hm pins s2 σ H2 x vs v us Q I2 r1 r2 q2
end
def MtM (X:Cx) (id:String) (r:V->List V->Hp->VK->Prop):Prop:=
 ∀(pins:List (Addr×Obj)) (s:Shared) (σ:St) (H:Hp) (x:V) (xs:List V) (v:Value) (us:List Value) (Q:VK),Inv X pins σ H s->RelV x v->Vals xs us->r x xs H Q->
  wpAny (model X.prog X.w) X.A (call (.builtin id) (v::us)) (EP X pins σ Q) X.xe s
theorem Vals.one:∀{x:V} {us:List Value},Vals [x] us->∃u,us=[u]∧RelV x u
 | _,_,.cons r .nil=>⟨_,rfl,r⟩
theorem Vals.two:∀{x y:V} {us:List Value},Vals [x,y] us->∃u v,us=[u,v]∧RelV x u∧RelV y v
 | _,_,_,.cons r (.cons q .nil)=>⟨_,_,rfl,r,q⟩
theorem Inv.u4 {its its':List Value} {n:Nat} {f:Array Value->Array Value} {t':Nat} (I:Inv X pins σ H s) (hH:H l=some (.lst xs))
  (e:s.heap.get? l=some {cls:=.type "list",data:=.seq its.toArray n}) (hf:f its.toArray=its'.toArray) (hv:Vals ys its') (hz:ys.length≤sizeLine):
  Inv X pins σ (upd H l (.lst ys)) {s with heap:=s.heap.update l (Obj.mapSeq f),toks:=t'}:=by
 have q:=PySem.IsL.update e f;rw [hf] at q;refine I.write (x:=l) (e:=l) (by rw [hH];exact trivial) (.inl rfl) (fun b' u hb hu=>(Heap.get?_update_other s.heap (Obj.mapSeq f) (Ne.symm hb)).trans hu) ⟨_,q⟩ ?_;exact ⟨hz,its',_,hv,q⟩
theorem Inv.tZ (I:Inv X pins σ H s) (hv:Vals ys its) (hz:ys.length≤sizeLine):
  Inv X pins σ (upd H s.heap.objs.size (.lst ys)) {s with heap:=s.heap.push {cls:=.type "list",data:=.seq its.toArray},toks:=t'}:=
 I.laid (fun _ _ q=>Heap.get?_push_of_some _ q) (Nat.le_refl _) ⟨hz,its,0,hv,Heap.get?_push_size _ rfl⟩
theorem Inv.fresh (I:Inv X pins σ H s):H s.heap.objs.size=none:=I.hok.fresh (Nat.le_refl _)
theorem Inv.rB (I:Inv X pins σ H s) (hH:H l=some (.lst xs)):xs.length≤sizeLine∧∃(its:List Value) (n:Nat),Vals xs its∧xs.length=its.length∧s.heap.get? l=some {cls:=.type "list",data:=.seq its.toArray n}:=by
 obtain ⟨z,its,n,r,e⟩:=I.hok l _ hH;exact ⟨z,its,n,r,r.length,e⟩
def n5:V->List V->Hp->VK->Prop:=fun x vs H Q=>∃l xs y,x=.ref l∧vs=[y]∧H l=some (.lst xs)∧xs.length < sizeLine∧Q .non (upd H l (.lst (xs++[y])))
theorem gF:MtM X "list.append" n5:=by
 intro pins s σ H x vs v us Q I rx rv h;obtain ⟨l,xs,y,rfl,rfl,hH,hz,q⟩:=h;cases rx;obtain ⟨u,rfl,ru⟩:=rv.one;obtain ⟨z,its,n,r,hl,e⟩:=I.rB hH;refine call_meets F.slot_list_append ⟨_,e,rfl⟩ F.entry_list_append (F.args_list_append_2 _ _) (PySem.list_append l its.toArray n u (by rw [List.size_toArray];lia)) ⟨e,?_⟩;refine ⟨.non,_,I.u4 (its':=its++[u]) hH e (by simp) (r.append (.cons ru .nil)) ?_,rfl,q⟩;rw [List.length_append,List.length_singleton]
 lia
def uV:R2:=fun x y H Q=>∃l b xs zs,x=.ref l∧y=.ref b∧H l=some (.lst xs)∧H b=some (.lst zs)∧xs.length+zs.length≤sizeLine∧∀p,H p=none->Q (.ref p) (upd H p (.lst (xs++zs)))
theorem rk:OpR X (binaryOp .Add) uV:=by
 walk_at "al";obtain ⟨l,b,xs,zs,rfl,rfl,hH,hB,hz,q⟩:=h;cases rx;cases ry;obtain ⟨z,its,n,r,hl,e⟩:=I.rB hH;obtain ⟨z2,its2,n2,r2,hl2,e2⟩:=I.rB hB;refine PySem.P.add_list e e2 ?_ (by rw [List.size_toArray,List.size_toArray];lia);have ea:its.toArray++its2.toArray=(its++its2).toArray:=by simp
 rw [ea];exact ⟨.ref _,_,I.tZ (t':=s.toks) (r.append r2) (by rw [List.length_append];lia),rfl,q _ I.fresh⟩
section
variable {κ:Type} [DecidableEq κ]
noncomputable def cv (kvs:List (κ×V)) (k:κ):Option V:=(kvs.find? fun kv=>decide (kv.1=k)).map (·.2)
noncomputable def putK (kvs:List (κ×V)) (k:κ) (v:V):List (κ×V):=
 if (kvs.any fun kv=>decide (kv.1=k))=true then kvs.map (fun kv=>if kv.1=k then (kv.1,v) else kv) else kvs++[(k,v)]
theorem fj {p:κ×V} {r:List (κ×V)} {k:κ} (e:p.1=k):cv (p::r) k=some p.2:=by simp [cv,List.find?_cons,e]
theorem c5 {p:κ×V} {r:List (κ×V)} {k:κ} (e:¬p.1=k):cv (p::r) k=cv r k:=by simp [cv,List.find?_cons,e]
theorem iR (k:κ):∀kvs:List (κ×V),(kvs.any fun kv=>decide (kv.1=k))=(cv kvs k).isSome
 | []=>rfl
 | p::r=>by
  rw [List.any_cons]
  by_cases e:p.1=k
  ·simp only [fj e,decide_eq_true e,Bool.true_or,Option.isSome_some]
  ·rw [c5 e,decide_eq_false e,Bool.false_or];exact iR k r
theorem eC (kvs:List (κ×V)) (k:κ) (v:V):(putK kvs k v).length≤kvs.length+1:=by
 unfold putK
 split
 ·rw [List.length_map];lia
 ·rw [List.length_append,List.length_cons,List.length_nil];lia
theorem fZ.bP (r:fZ o u):o.isSome=u.isSome:=by
 cases o with
 | none=>cases u with
  | none=>rfl
  | some _=>exact (show False from r).elim
 | some _=>cases u with
  | none=>exact (show False from r).elim
  | some _=>rfl
theorem KV.val {kvs:List (κ×V)} {vs:List (κ×Value)} (r:KV kvs vs) (k:κ):fZ (cv kvs k) (valueAt vs k):=by
 unfold KV at r
 induction r with
 | nil=>exact True.intro
 | @cons p q ps qs h t ih=>
  obtain ⟨h1,h2⟩:=h
  by_cases e:p.1=k
  ·have e':q.1=k:=h1.symm.trans e;have b:valueAt (q::qs) k=some q.2:=by simp [valueAt,List.find?_cons,e']
   rw [fj e,b];exact h2
  ·have e':¬q.1=k:=fun z=>e (h1.trans z);have b:valueAt (q::qs) k=valueAt qs k:=by simp [valueAt,List.find?_cons,e']
   rw [c5 e,b];exact ih
theorem KV.any (r:KV kvs vs) (k:κ):(kvs.any fun kv=>decide (kv.1=k))=vs.any fun kv=>decide (kv.1=k):=by
 unfold KV at r
 induction r with
 | nil=>rfl
 | cons h t ih=>rw [List.any_cons,List.any_cons,ih,h.1]
theorem KV.qi (r:KV kvs vs) (k:κ) (ry:RelV y u):
  KV (kvs.map fun kv=>if kv.1=k then (kv.1,y) else kv) (vs.map fun kv=>if kv.1=k then (kv.1,u) else kv):=by
 unfold KV at r ⊢
 induction r with
 | nil=>exact .nil
 | @cons p q ps qs h t ih=>
  rw [List.map_cons,List.map_cons];refine .cons ?_ ih;obtain ⟨h1,h2⟩:=h
  by_cases e:p.1=k
  ·rw [if_pos e,if_pos (h1.symm.trans e)];exact ⟨h1,ry⟩
  ·rw [if_neg e,if_neg (fun z=>e (h1.trans z))];exact ⟨h1,h2⟩
theorem KV.put (r:KV kvs vs) (k:κ) (ry:RelV y u):KV (putK kvs k y) (stored vs k u):=by
 unfold putK stored;rw [r.any k]
 by_cases e:(vs.any fun kv=>decide (kv.1=k))=true
 ·rw [if_pos e,if_pos e];exact r.qi k ry
 ·rw [if_neg e,if_neg e];exact Paired.snoc r ⟨rfl,ry⟩
theorem KV.length (r:KV kvs vs):kvs.length=vs.length:=Paired.length r
end
theorem jc (r:RelV (kV k) u):(aK P w).is k u=true:=by
 cases k with
 | inl i=>obtain ⟨t,e⟩:=(show ∃t,u=Value.int i t from r);subst e;exact i9 P w i t
 | inr x=>obtain ⟨t,e⟩:=(show ∃t,u=Value.str x t from r);subst e;exact i8 P w x t
theorem gJ:∀{ks:List Key} {us:List Value},Vals (ks.map kV) us->ItemsAre (aK P w) ks us
 | [],_,r=>by rw [List.map_nil] at r;cases r;exact .nil
 | k::ks,_,r=>by
  rw [List.map_cons] at r;cases r with
  | cons h t=>exact .cons (jc h) (gJ t)
abbrev KT (H:Hp):List (List Key×V)->List (List Key×Addr×Value)->Prop:=Paired fun p q=>p.1=q.1∧H q.2.1=some (.tup (p.1.map kV))∧RelV p.2 q.2.2
theorem KT.val {H:Hp} {kvs:List (List Key×V)} {xs:List (List Key×Addr×Value)} (r:KT H kvs xs) (k:List Key):fZ (cv kvs k) ((atKey xs k).map (·.2)):=by
 induction r with
 | nil=>exact True.intro
 | @cons p q ps qs h t ih=>
  obtain ⟨h1,_,h2⟩:=h
  by_cases e:p.1=k
  ·have e':q.1=k:=h1.symm.trans e;have b:atKey (q::qs) k=some q.2:=by simp [atKey,List.find?_cons,e']
   rw [fj e,b];exact h2
  ·have e':¬q.1=k:=fun z=>e (h1.trans z);have b:atKey (q::qs) k=atKey qs k:=by simp [atKey,List.find?_cons,e']
   rw [c5 e,b];exact ih
theorem KT.qi (r:KT H kvs xs) (k:List Key) (ry:RelV y u):
  KT H (kvs.map fun kv=>if kv.1=k then (kv.1,y) else kv) (xs.map (putAt k u)):=by
 induction r with
 | nil=>exact .nil
 | @cons p q ps qs h t ih=>
  rw [List.map_cons,List.map_cons];refine .cons ?_ ih;obtain ⟨h1,h2,h3⟩:=h;unfold putAt
  by_cases e:p.1=k
  ·rw [if_pos e,if_pos (h1.symm.trans e)];exact ⟨h1,h2,ry⟩
  ·rw [if_neg e,if_neg (fun z=>e (h1.trans z))];exact ⟨h1,h2,h3⟩
theorem KT.put (r:KT H kvs xs) (k:List Key) (hb:H b=some (.tup (k.map kV))) (ry:RelV y u):
  KT H (putK kvs k y) (storedH xs k b u):=by
 have e:(kvs.any fun kv=>decide (kv.1=k))=(atKey xs k).isSome:=by
  rw [iR,(r.val k).bP,Option.isSome_map]
 unfold putK storedH;rw [e]
 by_cases q:(atKey xs k).isSome=true
 ·rw [if_pos q,if_pos q];exact r.qi k ry
 ·rw [if_neg q,if_neg q];exact Paired.snoc r ⟨rfl,hb,ry⟩
theorem KT.keeps (r:KT H kvs xs) (ht:∀b ys,H b=some (.tup ys)->H' b=some (.tup ys)):KT H' kvs xs:=
 Paired.rq r fun _ _ z=>⟨z.1,ht _ _ z.2.1,z.2.2⟩
theorem px (ok:HOk P w H h) (e:Rd H a u):aC P w H h a u:=e.ok ok
theorem gK (ok:HOk P w H h) (e:Rd H a (.dK kvs)):kvs.length≤sizeLine∧(a==sysModules)=false∧∃vs,KV kvs vs∧h.DictOf (aK P w) a vs:=
 show aC P w H h a (.dK kvs) from px ok e
theorem mX (ok:HOk P w H h) (e:H a=some (.dK kvs)):kvs.length≤sizeLine∧(a==sysModules)=false∧∃vs,KV kvs vs∧h.DictOf (aK P w) a vs:=gK ok (.inl e)
theorem fM (ok:HOk P w H h) (e:H a=some (.tup (ks.map kV))):(tupleKind (aK P w)).is h ks a:=by
 obtain ⟨_,its,r,o,h1,h2,⟨n,h3⟩,_⟩:=(show aC P w H h a (.tup (ks.map kV)) from ok a _ e);exact ⟨o,its.toArray,n,h1,h2,h3,by simpa using gJ r⟩
theorem ji (ok:HOk P w H h) (e:Rd H a (.dT kvs)):kvs.length≤sizeLine∧(a==sysModules)=false∧
  ∃xs,KT H kvs xs∧h.DictOfH (tupleKind (aK P w)) a xs:=by
 obtain ⟨z,y,xs,r,o,es,ep,h1,h2,h3,h4,h5⟩:=(show aC P w H h a (.dT kvs) from px ok e);refine ⟨z,y,xs,r,o,es,ep,h1,h2,h3,h4,fun x hx=>?_,h5⟩;have all:∀{l:List (List Key×V)} {m:List (List Key×Addr×Value)},KT H l m->∀x∈m,(tupleKind (aK P w)).is h x.1 x.2.1:=by
  intro l m q
  induction q with
  | nil=>intro x hx;exact nomatch hx
  | @cons p q ps qs hq t ih=>
   intro x hx;rcases List.mem_cons.mp hx with e | hx
   ·subst e;exact fM ok (by rw [←hq.1];exact hq.2.1)
   ·exact ih x hx
 exact all r x hx
theorem t8 (ok:HOk P w H h) (e:H a=some (.dT kvs)):kvs.length≤sizeLine∧(a==sysModules)=false∧
  ∃xs,KT H kvs xs∧h.DictOfH (tupleKind (aK P w)) a xs:=ji ok (.inl e)
def gr (H:Hp) (a:Addr) (y:V) (r:Option V):Prop:=
 (∃kvs k,Rd H a (.dK kvs)∧y=kV k∧r=cv kvs k)∨∃kvs k b,Rd H a (.dT kvs)∧y=.ref b∧H b=some (.tup (k.map kV))∧r=cv kvs k
def ph (H:Hp) (a:Addr) (y v:V) (H':Hp):Prop:=
 (∃kvs k,H a=some (.dK kvs)∧y=kV k∧kvs.length < sizeLine∧H'=upd H a (.dK (putK kvs k v)))∨
 ∃kvs k b,H a=some (.dT kvs)∧y=.ref b∧H b=some (.tup (k.map kV))∧kvs.length < sizeLine∧H'=upd H a (.dT (putK kvs k v))
theorem gr.k {H:Hp} {a:Addr} {kvs:List (Key×V)} {k:Key} (e:H a=some (.dK kvs)):gr H a (kV k) (cv kvs k):=.inl ⟨kvs,k,.inl e,rfl,rfl⟩
theorem ph.k {H:Hp} {a:Addr} {kvs:List (Key×V)} {k:Key} {v:V} (e:H a=some (.dK kvs)) (hl:kvs.length < sizeLine):ph H a (kV k) v (upd H a (.dK (putK kvs k v))):=.inl ⟨kvs,k,e,rfl,hl,rfl⟩
theorem k8 (hu:A.units+1 < cLine) (I:Inv X pins σ H s) (g:gr H a y (some v)) (ry:RelV y u) (h:∀w' s',Inv X pins σ H s'->RelV v w'->Q w' s'):
  wpAny (model X.prog X.w) A (getItem (.ref a) u) Q E s:=by
 rcases g with ⟨kvs,k,e,ey,l⟩ | ⟨kvs,k,b,e,ey,eb,l⟩
 ·subst ey;obtain ⟨z,hd,vs,rel,dd⟩:=gK I.hok e;obtain ⟨w',hw,rw'⟩:=fZ.some_of (v:=v) (o:=valueAt vs k) (by rw [l];exact rel.val k);exact wpAny_getItem_of (jc ry) dd.mapOf hw (h w' _ (I.tok _) rw')
 ·subst ey;cases (show u=Value.ref b from ry);obtain ⟨z,hd,xs,rel,dd⟩:=ji I.hok e;obtain ⟨w',hw,rw'⟩:=fZ.some_of (v:=v) (o:=(atKey xs k).map (·.2)) (by rw [l];exact rel.val k);obtain ⟨p,hp,hp2⟩:=Option.map_eq_some_iff.mp hw;refine wpAny_getItem_heap (tupleKind_room_in1 hu) (fM I.hok eb) dd hp ?_;rw [hp2];exact h w' _ (I.tok _) rw'
theorem vi (hu:A.units+1 < cLine) (I:Inv X pins σ H s) (g:gr H a y o) (ry:RelV y u) (h:∀s',Inv X pins σ H s'->Q (.bool o.isSome) s'):
  wpAny (model X.prog X.w) A (compareOp .In u (.ref a)) Q E s:=by
 rcases g with ⟨kvs,k,e,ey,l⟩ | ⟨kvs,k,b,e,ey,eb,l⟩
 ·subst ey;obtain ⟨z,hd,vs,rel,dd⟩:=gK I.hok e;refine wpAny_in_of (jc ry) hd dd.mapOf ?_;rw [←(rel.val k).bP,←l];exact h _ (I.tok _)
 ·subst ey;cases (show u=Value.ref b from ry);obtain ⟨z,hd,xs,rel,dd⟩:=ji I.hok e;refine wpAny_in_heap (tupleKind_room_in1 hu) (fM I.hok eb) hd dd ?_;have q:=(rel.val k).bP;rw [Option.isSome_map] at q;rw [←q,←l];exact h _ (I.tok _)
theorem oY (hu:A.units+1 < cLine) (I:Inv X pins σ H s) (g:gr H a y o) (ry:RelV y u) (h:∀s',Inv X pins σ H s'->Q (.bool (!o.isSome)) s'):
  wpAny (model X.prog X.w) A (compareOp .NotIn u (.ref a)) Q E s:=by
 rcases g with ⟨kvs,k,e,ey,l⟩ | ⟨kvs,k,b,e,ey,eb,l⟩
 ·subst ey;obtain ⟨z,hd,vs,rel,dd⟩:=gK I.hok e;refine wpAny_notIn_of (jc ry) hd dd.mapOf ?_;rw [←(rel.val k).bP,←l];exact h _ (I.tok _)
 ·subst ey;cases (show u=Value.ref b from ry);obtain ⟨z,hd,xs,rel,dd⟩:=ji I.hok e;refine wpAny_notIn_heap (tupleKind_room_in1 hu) (fM I.hok eb) hd dd ?_;have q:=(rel.val k).bP;rw [Option.isSome_map] at q;rw [←q,←l];exact h _ (I.tok _)
theorem ki (I:Inv X pins σ H s) (mu:Mut (H a)) (hs:Heap.SameBut a s.heap h') (he:∃q,h'.get? a=some q) (new:aC X.prog X.w (upd H a ob) h' a ob):
  Inv X pins σ (upd H a ob) {s with heap:=h',toks:=t'}:=
 I.write (x:=a) (e:=a) mu (.inl rfl) (fun b q hb z=>(hs.2 b hb).trans z) he new
theorem sg (z:kvs.length≤sizeLine) (hd:(a==sysModules)=false) (rel:KV kvs vs) (dd:h'.DictOf (aK P w) a vs):
  aC P w H' h' a (.dK kvs):=⟨z,hd,vs,rel,dd⟩
theorem k7 (hu:A.units+1 < cLine) (I:Inv X pins σ H s) (g:ph H a y v H') (ry:RelV y u) (rv:RelV v r) (h:∀s',Inv X pins σ H' s'->Q () s'):
  wpAny (model X.prog X.w) A (setItem (.ref a) u r) Q E s:=by
 rcases g with ⟨kvs,k,e,ey,l,eH⟩ | ⟨kvs,k,b,e,ey,eb,l,eH⟩
 ·subst ey eH;obtain ⟨z,hd,vs,rel,dd⟩:=mX I.hok e;have hz:vs.length≤sizeLine:=by rw [←rel.length];exact z
  have hl:(putK kvs k v).length≤sizeLine:=by have:=eC kvs k v;lia
  refine wpAny_setItem_pairs (hsz:=hz) (jc ry) dd fun h' dd' hs=>h _ ?_;have he:∃q,h'.get? a=some q:=let ⟨q,_,_,hq,_⟩:=dd';⟨q,hq⟩;exact ki I (by rw [e];exact True.intro) hs he (sg hl hd (rel.put k rv) dd')
 ·subst ey eH;cases (show u=Value.ref b from ry);obtain ⟨z,hd,xs,rel,dd⟩:=t8 I.hok e;have hz:xs.length≤sizeLine:=by rw [←Paired.length rel];exact z
  have hl:(putK kvs k v).length≤sizeLine:=by have:=eC kvs k v;lia
  refine wpAny_setItem_heap (hsz:=hz) (tupleKind_room_in1 hu) (fM I.hok eb) dd fun h' dd' hs=>h _ ?_;obtain ⟨q,es,ep,hq,h2,h3,h4,_,h5⟩:=dd';refine ki I (by rw [e];exact True.intro) hs ⟨q,hq⟩ ⟨hl,hd,_,(rel.put k eb rv).keeps fun c ys ec=>?_,q,es,ep,hq,h2,h3,h4,h5⟩;rw [ai (tY ec e (fun z=>nomatch z))];exact ec
theorem t9 (I:Inv X pins σ H s) (e:Rd H a (.dK kvs)) (h:∀t s',Inv X pins σ H s'->Q (.int kvs.length t) s'):wpAny (model X.prog X.w) A (call (.builtin "len") [.ref a]) Q E s:=by
 obtain ⟨z,hd,vs,rel,dd⟩:=gK I.hok e;refine call_len_dict hd dd (by rw [←rel.length];rw [sizeLine_eq] at z;lia) ?_;rw [←rel.length];exact h _ _ (I.tok _)
theorem jj (I:Inv X pins σ H s) (g:gr H a y o):s.TypeIs (.ref a) "dict":=by
 rcases g with ⟨kvs,k,e,_,_⟩ | ⟨kvs,k,b,e,_,_,_⟩
 ·obtain ⟨_,_,vs,_,dd⟩:=gK I.hok e;exact dd.typeIs
 ·obtain ⟨_,_,xs,_,dd⟩:=ji I.hok e;exact dd.typeIs
end L2
namespace Att
open PySem PySem.W PySem.Calls PyProof.Rows
theorem eU:∀(ns:List Int) (vs:List Value),WellAll P h vs (ns.map WData.int)->IntsAre vs ns:=by
 intro ns
 induction ns with
 | nil=>
  intro vs w;rw [List.map_nil] at w;cases w;exact .nil
 | cons n ns ih=>
  intro vs w;rw [List.map_cons] at w;cases w with
  | cons a b=>
   cases a;exact .cons _ _ (ih _ b)
theorem kK {l:OpenLaw} {n:Nat} (hn:l.most=some n) {P:Params} {h:Heap} {args:List WData} {vals:List Value}
  (hpre:l.row.toRowW.claim.pre args=true) (hwl:WellAll P h vals args):
  ∃a vs ns,vals=[Value.ref a]∧args=[WData.list (ns.map WData.int)]∧h.get? a=some {cls:=.type "list",data:=.seq vs.toArray}∧IntsAre vs ns∧ns.length≤n:=by
 have hsh:WShape.hasAll [] args [.list .int]=true:=(pre_splitW hpre).1;have hc:l.pre.holds [] {args:=args}=true:=(pre_splitW hpre).2;obtain ⟨d,r,rfl,h1,h2⟩:=hasAllW_cons hsh;obtain rfl:=hasAllW_nil h2;obtain ⟨xs,rfl,h3⟩:=hasW_list h1;obtain ⟨ns,rfl⟩:=items_int h3;have hlen:ns.length≤n:=by
  unfold OpenLaw.pre at hc;have h4:(WTm.not (.lt (.lit (.int (n:Int))) (.len (.arg 0)))).holds [] {args:=[.list (ns.map .int)]}=true:=by
   have h4:=(holds_andW hc).1;rw [hn] at h4;exact h4
  have h5:=condW_of h4 (w_not (w_lt w_lit (w_len_list (w_arg rfl))));rw [List.length_map] at h5;refine Nat.le_of_not_lt fun q=>?_;have q':(n:Int) < ((ns.length:Nat):Int):=by lia
  first
   | (rw [decide_eq_true q'] at h5;exact absurd h5 (by decide))
   | (simp at h5;lia)
 cases hwl with
 | cons w1 w2=>
  cases w2;cases w1 with
  | list ho hall=>exact ⟨_,_,ns,rfl,rfl,ho,eU ns _ hall,hlen⟩
theorem kM (l:OpenLaw) (args:List WData):l.row.toRowW.claim.post args (.bool true) args=true:=
 postW_of (r:=l.row.toRowW) (X:=(true==true))
  (show WShape.has [] (.bool true) .bool=true by first | rfl | decide | simp [WShape.has,WShape.arms,WShape.armsAll])
  (show (WTm.eq .res (.lit (.bool true))).value [] {args:=args,res:=some (.bool true),after:=args}=some (.bool (true==true)) from w_eq_bool (w_res rfl) w_lit) rfl
theorem jq {l:OpenLaw} {n:Nat} {q:Program} {loose:List Str} {XP:(Str->Option Value)->Heap->Prop} {YP:World->Heap->Prop} {d:DefRec}
  (hn:l.most=some n) (hdf:d.params.defaults=[])
  (call:∀(w:World) (s₀ s₁:Shared) (mg mb:Str->Option Value) (fa:Addr) (o:Obj) (pm cd doc:Value) (a:Addr) (vs:List Value) (ns:List Int),
   Ground q loose [] XP w s₀ mg mb s₁.heap->YP w s₁.heap->
   s₁.heap.get? fa=some o->o.data=.func (docDef d.name d.params d.body d.scope pm cd doc)->s₁.heap.CodeRec cd d.name->mg d.name=some (.ref fa)->
   s₁.heap.get? a=some {cls:=.type "list",data:=.seq vs.toArray}->IntsAre vs ns->ns.length≤n->s₁.gens=#[]->
   codeAny (model l.prog w) callerA (.call (.ref fa) ⟨[.ref a],[]⟩) (fun r s'=>r=.ok (.ret (.bool true))∧OldK s₁.heap s'.heap∧s'.os=s₁.os∧AllBare s'.gens) s₁):
  WalkO q loose XP YP l.row.toRowW d [] (fun f vs=>PySem.call f vs):=by
 intro w s₀ s₁ mg mb G Y fa o pm cd doc dV kV ho hd hcd hD hmg hg args vals as hpre hlay hrd hwl hlo;obtain rfl:dV=.none:=Dflts.none hD hdf;obtain rfl:kV=.none:=Dflts.noKw hD;obtain ⟨a,vs,ns,rfl,rfl,hobj,hints,hlen⟩:=kK hn hpre hwl;refine enter_call (codeAny_mono (call w s₀ s₁ mg mb fa o pm cd doc a vs ns G Y ho (fd_plain hd) hcd hmg hobj hints hlen hg) fun r s' hq=>?_);obtain ⟨rfl,h2,h3,h4⟩:=hq;exact ⟨.inl ⟨.bool true,.bool true,[],rfl,fun _=>rfl,.bool true,kM l _,fun _=>⟨List.Pairwise.nil,fun _ hm=>(nomatch hm)⟩⟩,h2,h3,h4⟩
section
variable {prog:Program} {w:World} {A:Around} {E:Value->Shared->Prop} {s:Shared} {K:Frag}
end
end Att
namespace L2
open PySem PySem.Spec PyProof.Rows
theorem gx:∀{vs:List Value} {ns:List Int},IntsAre vs ns->Vals (ns.map V.int) vs
 | _,_,.nil=>.nil
 | _,_,.cons n t h=>.cons ⟨t,rfl⟩ (gx h)
def ub (H:Hp):Prop:=∀b,H b=none∨∃o xs,H b=some (.frz o (.lst xs))
theorem mI {P:Program} {w:World} {K:FR} {mg mb:Str->Option Value} {CX:CXT} {k:Nat} {fa a:Addr} {fd:FuncData} {x:Str} {sp:Sp} {s₁:Shared} {vs:List Value} {ns:List Int}
  (KX:K.In s₁.heap) (hns:s₁.heap.Ns mainGlobals mg) (hb:s₁.heap.Ns builtinsNs mb) (hbb:∀x:Str,x≠"__name__"->mb x=bootBuiltins x) (hlim:s₁.heap.NoLimit) (hg:s₁.gens=#[])
  (ha:s₁.heap.get? a=some {cls:=.type "list",data:=.seq vs.toArray}) (hi:IntsAre vs ns) (hl:ns.length≤sizeLine) (hr:Room k callerA)
  (F:∀base:Heap,K.In base->base.Ns mainGlobals mg->FnOk P w K mg base CX k fa fd [x] sp) (hbind:∀(s:Shared) (u:Value),BindsTo s fd ⟨[u],[]⟩ [(x,u)])
  (hsp:∀H:Hp,ub H->SqL K H a (ns.map V.int)->sp [.ref a] H (fun v _=>v=.bl true) fun _ _ _=>False)
  (hCX:∀H e s',CX [] H s₁ (fun _ _ _=>False) e s'->False):
  codeAny (model P w) callerA (.call (.ref fa) ⟨[.ref a],[]⟩) (fun r s'=>r=.ok (.ret (.bool true))∧OldK s₁.heap s'.heap∧s'.os=s₁.os∧AllBare s'.gens) s₁:=by
 have rv:=gx hi;have lenV:=hi.length;have core:∀H:Hp,ub H->SqL K H a (ns.map V.int)->HOk P w H s₁.heap->(∀b,H b≠none->b=a)->(H a≠none->K.lookup a=none)->
   codeAny (model P w) callerA (.call (.ref fa) ⟨[.ref a],[]⟩) (fun r s'=>r=.ok (.ret (.bool true))∧OldK s₁.heap s'.heap∧s'.os=s₁.os∧AllBare s'.gens) s₁:=by
  intro H hO hS hok hA hK;have base_of:∀{b:Addr} {o:Obj},s₁.heap.get? b=some o->H b=none->(iA s₁.heap H).get? b=some o:=fun e n=>mM e n;have noA:∀{b:Addr} {o:Obj} {es:Array DictEntry} {ep:Nat},s₁.heap.get? b=some o->o.data=.dict es ep->H b=none:=fun {b o es ep} e d=>by
   cases q:H b with
   | none=>rfl
   | some u=>
    have e':b=a:=hA b (by rw [q];simp);subst e';rw [ha] at e;cases e;have d':Data.seq vs.toArray _=Data.dict es ep:=d;cases d'
  have nsK:∀{b:Addr} {m:Str->Option Value},s₁.heap.Ns b m->(iA s₁.heap H).Ns b m:=fun {b m} ⟨o,es,ep,e,d,r⟩=>⟨o,es,ep,base_of e (noA e d),d,r⟩;have hKb:K.In (iA s₁.heap H):=fun b o e=>base_of (KX b o e) (by
   cases q:H b with
   | none=>rfl
   | some u=>
    have e':b=a:=hA b (by rw [q];simp);subst e';rw [hK (by rw [q];simp)] at e;cases e)
  have hM:Mod K mg (iA s₁.heap H):=⟨hKb,nsK hns,⟨mb,nsK hb,hbb⟩,let ⟨mc,h1,h2⟩:=hlim;⟨mc,nsK h1,h2⟩⟩;have e0:Env0 P w K mg (iA s₁.heap H) callerA [] s₁ H:=⟨rfl,hM,fun b o e=>oH e,Nat.le_of_eq (kY _ _),trivial,fun b hb=>absurd (show b∈([]:List Addr) from hb) (by simp),hok,.of_eq hg⟩;refine codeAny_mono ((F _ hKb (nsK hns)).run callerA [] s₁ H ⟨[.ref a],[]⟩ [.ref a] [.ref a] _ _ hr e0 (hbind s₁ (.ref a)) (.cons rfl .nil) (hsp H hO hS)) fun r s' h=>?_;cases r with
  | error e=>exact (hCX H e s' h).elim
  | ok fl=>
   cases fl with
   | next=>exact False.elim h
   | brk=>exact False.elim h
   | cont=>exact False.elim h
   | ret u=>
    obtain ⟨v,H',os,bare,un,hok',r',q⟩:=h;have q':v=.bl true:=q;subst q';obtain rfl:u=Value.bool true:=r';refine ⟨rfl,OldK.of_keep fun b o e=>?_,os,bare⟩;cases q:H b with
    | none=>exact un.keep b o e q (by intro z;exact absurd (show b∈([]:List Addr) from z) (by simp)) (by simp)
    | some u=>
     rcases hO b with z | ⟨ob,xs,z⟩
     ·rw [q] at z;cases z
     ·have z2:=un.frzs b ob _ z;obtain ⟨e1,_⟩:=hok b _ z;obtain ⟨e2,_⟩:=hok' b _ z2;rw [e] at e1;cases e1;exact e2
 cases hk:K.lookup a with
 | some o=>
  have e:=KX a o hk;rw [ha] at e;cases e;refine core (fun _=>none) (fun _=>.inl rfl) (.inr ⟨_,vs.toArray,_,hk,rfl,rfl,rfl,by rw [List.size_toArray,lenV];exact hl,by simpa using rv⟩) (fun b u z=>by have z':(none:Option HO)=some u:=z;cases z') (fun b z=>absurd rfl z) fun z=>absurd rfl z
 | none=>
  refine core (fun b=>if b=a then some (.frz {cls:=.type "list",data:=.seq vs.toArray} (.lst (ns.map V.int))) else none) (fun b=>?_) (.inl (.inr ⟨{cls:=.type "list",data:=.seq vs.toArray},if_pos rfl⟩)) (fun b u z=>?_) (fun b z=>?_) fun _=>hk
  ·by_cases hb:b=a
   ·exact .inr ⟨_,_,if_pos hb⟩
   ·exact .inl (if_neg hb)
  ·by_cases hb:b=a
   ·have z':=(if_pos hb).symm.trans z;cases z';subst hb;exact ⟨ha,by rw [List.length_map];exact hl,vs,_,rv,ha⟩
   ·have z':=(if_neg hb).symm.trans z;cases z'
  ·by_cases hb:b=a
   ·exact hb
   ·exact absurd (if_neg hb) z
noncomputable def dw (s:Stmt):Arguments:=match s with
 | .FunctionDef _ a _ _ _ _ _ _ _ _=>a
 | _=>{posonlyargs:=[],args:=[],vararg:=none,kwonlyargs:=[],kw_defaults:=[],kwarg:=none,defaults:=[]}
noncomputable def ck (s:Stmt):List Stmt:=match s with
 | .FunctionDef _ _ b _ _ _ _ _ _ _=>b
 | _=>[]
noncomputable def ao (s:Stmt):Scope:=match s with
 | .FunctionDef _ _ _ _ _ _ sc _ _ _=>sc
 | _=>{kind:=.function,names:=[],isGenerator:=false,isCoroutine:=false}
abbrev CX0:CXT:=fun _ _ _ _ _ _=>False
abbrev E0:XK:=fun _ _ _=>False
theorem tR:Passes CX0 X E0:=fun _ _ _ _ _ _ _ h=>h.elim
structure Fun (K:FR) (x qual:Str) (st:Stmt) (f:Addr) (fd:FuncData):Prop where
 ex:∃(oc:Value) (od:Option Addr) (kV doc pm:Value) (an:Option Addr) (cdv ct:Value) (osl:Array (Option Value)),
  fd=PySem.W.fnOf x qual (dw st) (ck st) (ao st) .none kV doc pm an cdv ct∧K.lookup f=some ⟨oc,od,.func fd,osl⟩∧PySem.W.codeIn K cdv qual=true
 kp:PySem.W.keepIn K (.ref f)=true
section
variable {P:Program} {w:World} {K:FR} {mg:Str->Option Value} {base:Heap}
theorem Fun.ok {x qual:Str} {st:Stmt} {f:Addr} {fd:FuncData} {N ps:List Str} {k:Nat} {sp:Sp} (F:Fun K x qual st f fd) (S:FnScope N ps (ao st)) (len:∀vs H Q E,sp vs H Q E->vs.length=ps.length)
  (hbody:∀(cdv:Value) (A:Around) (outer:List Env) (s:Shared) (H:Hp) (vs:List V) (Q:VK) (E:XK),Room k (A.deeper (envOfC qual (ao st) s.heap.objs.size f cdv))->sp vs H Q E->
   ∃t,PSs (jQ CX0 P w K mg base N qual (ao st) f cdv A outer s H E).nox (ck st) t∧t {nx:=fun _ H'=>Q .non H',rt:=Q} (start N vs) H):FnOk P w K mg base CX0 (k+1) f fd ps sp:=by
 obtain ⟨oc,od,kV,doc,pm,an,cdv,ct,osl,rfl,lk,hcd⟩:=F.ex;refine t7 lk hcd S len fun A outer s H vs Q E hr hsp=>?_;obtain ⟨t,h,q⟩:=hbody cdv A outer s H vs Q E hr hsp;exact ⟨t,h.nox,q⟩
theorem Fun.binds {x qual:Str} {st:Stmt} {f:Addr} {fd:FuncData} {ps:List Str} (F:Fun K x qual st f fd)
  (h:∀(kV doc pm:Value) (an:Option Addr) (cdv ct:Value) (us:List Value),us.length=ps.length->bindArgs (PySem.W.fnOf x qual (dw st) (ck st) (ao st) .none kV doc pm an cdv ct) ⟨us,[]⟩=pure (ps.zip us)):Binds K fd ps []:=by
 obtain ⟨oc,od,kV,doc,pm,an,cdv,ct,osl,rfl,lk,hcd⟩:=F.ex;exact .all (h kV doc pm an cdv ct)
end
theorem lh:bT X (.builtin "len") (fun xs H Q=>∃a kvs,xs=[V.ref a]∧H a=some (.dK kvs)∧Q (.int kvs.length) H):=by
 intro pins s σ H xs us Q I r h;obtain ⟨a,kvs,rfl,ha,q⟩:=h;obtain ⟨u,rfl,ru⟩:=vals1 r;cases ru;exact t9 I (.inl ha) fun t s' I'=>⟨.int kvs.length,H,I',⟨t,rfl⟩,q⟩
theorem vc {A B:Prop} (h:B):if false=true then A else B:=by
 rw [if_neg Bool.false_ne_true];exact h
theorem vb {A B:Prop} (h:A):if true=true then A else B:=by
 rw [if_pos rfl];exact h
section
variable {κ:Type} [DecidableEq κ]
end
theorem HOk.off (ok:HOk P w H h) (hC:H C=none) (k:∀b u,b≠C->h.get? b=some u->h'.get? b=some u):HOk P w H h':=by
 intro a o e;have ne:a≠C:=by rintro rfl;rw [hC] at e;cases e
 refine (ok a o e).iY (fun b u hb q=>k b u ?_ q) (fun _ x=>x) (fun _ _ x=>x);rcases hb with rfl | hb
 ·exact ne
 ·rintro rfl;rw [hC] at hb;cases hb
noncomputable def bR (env:Env):List (Str×NameKind)->List (Str×Addr)->List (Str×Addr)
 | [],acc=>acc
 | (n,k)::r,acc=>if (k==NameKind.free)=true then bR env r ((n,(env.cells.lookup n).getD 0)::acc) else bR env r acc
theorem jT (h:∀y∈scope.names,y.2=.free->∃c,env.cells.lookup y.1=some c):closureFor scope env=pure (bR env scope.names []):=by
 have key:∀(names:List (Str×NameKind)) (acc:List (Str×Addr)),(∀y∈names,y.2=.free->∃c,env.cells.lookup y.1=some c)->
   (forIn names acc (fun (x:Str×NameKind) (r:List (Str×Addr))=>match x with
    | (name,kind)=>if (kind==NameKind.free)=true then do let a←cellOf env name;pure (ForInStep.yield ((name,a)::r)) else pure (ForInStep.yield r)):Sem (List (Str×Addr)))=pure (bR env names acc):=by
  intro names
  induction names with
  | nil=>intro acc _;rfl
  | cons y r ih=>
   intro acc hy;obtain ⟨n,k⟩:=y;have hr:=fun a=>ih a fun z hz=>hy z (List.mem_cons_of_mem _ hz);rw [List.forIn_cons];unfold bR
   by_cases hk:(k==NameKind.free)=true
   ·have hk':k=.free:=by simpa using hk
    obtain ⟨c,hc⟩:=hy (n,k) List.mem_cons_self hk';have e:cellOf env n=pure c:=by unfold cellOf;rw [hc]
    simp only [hk,if_true,e,hc,Option.getD_some];exact hr _
   ·simp only [hk,if_false];exact hr _
 have k:=key scope.names [] h;unfold closureFor;dsimp only;rw [k];rfl
theorem ej:∀(names:List (Str×NameKind)) (acc:List (Str×Addr)),(∀y∈names,y.2=.free->∃c,env.cells.lookup y.1=some c)->
  (∀d,acc.lookup x=some d->env.cells.lookup x=some d)->(bR env names acc).lookup x=some c->env.cells.lookup x=some c
 | [],acc,_,ha,h=>ha c h
 | (n,k)::r,acc,hy,ha,h=>by
  unfold bR at h;have hr:=fun z hz=>hy z (List.mem_cons_of_mem _ hz)
  by_cases hk:(k==NameKind.free)=true
  ·rw [if_pos hk] at h;refine ej r _ hr (fun d hd=>?_) h;have hk':k=.free:=by simpa using hk
   obtain ⟨c',hc⟩:=hy (n,k) List.mem_cons_self hk';rw [List.lookup_cons] at hd;cases hx:x==n with
   | true=>
    rw [hx] at hd;have e:x=n:=by simpa using hx
    rw [e,hc];rw [hc] at hd;exact hd
   | false=>
    rw [hx] at hd;exact ha d hd
  ·rw [if_neg hk] at h;exact ej r _ hr ha h
theorem fV:∀(names:List (Str×NameKind)) (acc:List (Str×Addr)),(∃c,acc.lookup x=some c)->∃c,(bR env names acc).lookup x=some c
 | [],_,h=>h
 | (n,k)::r,acc,h=>by
  unfold bR
  by_cases hk:(k==NameKind.free)=true
  ·rw [if_pos hk];refine fV r _ ?_;rw [List.lookup_cons];cases hx:x==n with
   | true=>exact ⟨_,rfl⟩
   | false=>exact h
  ·rw [if_neg hk];exact fV r _ h
theorem dA:∀(names:List (Str×NameKind)) (acc:List (Str×Addr)),(x,NameKind.free)∈names->∃c,(bR env names acc).lookup x=some c
 | [],_,h=>by cases h
 | (n,k)::r,acc,h=>by
  unfold bR;rcases List.mem_cons.mp h with e | h'
  ·injection e with e1 e2
   subst e1 e2;rw [if_pos (by rfl)];refine fV r _ ⟨(env.cells.lookup x).getD 0,?_⟩;rw [List.lookup_cons,beq_self_eq_true]
  ·by_cases hk:(k==NameKind.free)=true
   ·rw [if_pos hk];exact dA r _ h'
   ·rw [if_neg hk];exact dA r _ h'
theorem bY {env:Env}:∀{names:List (Str×NameKind)} {x:Str} {j:NameKind},
  (names.map fun (n,k)=>if (k==NameKind.free&&env.scope.kind==.function&&env.kindOf n==some .cell) then (n,NameKind.cell) else (n,k)).lookup x=some j->
  ∃k,names.lookup x=some k∧(j=k∨(k=.free∧j=.cell))
 | [],_,_,h=>by simp at h
 | (n,k)::r,x,j,h=>by
  have h':List.lookup x ((if (k==NameKind.free&&env.scope.kind==.function&&env.kindOf n==some .cell)=true then (n,NameKind.cell) else (n,k))::_)=some j:=h;rw [List.lookup_cons];cases hx:x==n with
  | true=>
   refine ⟨k,rfl,?_⟩
   by_cases hc:(k==NameKind.free&&env.scope.kind==.function&&env.kindOf n==some .cell)=true
   ·rw [if_pos hc,List.lookup_cons,hx] at h';simp only [Bool.and_eq_true,beq_iff_eq] at hc;exact .inr ⟨hc.1.1,(Option.some.inj h').symm⟩
   ·rw [if_neg hc,List.lookup_cons,hx] at h';exact .inl (Option.some.inj h').symm
  | false=>
   by_cases hc:(k==NameKind.free&&env.scope.kind==.function&&env.kindOf n==some .cell)=true
   ·rw [if_pos hc,List.lookup_cons,hx] at h';exact bY h'
   ·rw [if_neg hc,List.lookup_cons,hx] at h';exact bY h'
theorem bZ {env:Env}:∀{names:List (Str×NameKind)} {x:Str},names.lookup x=some .free->
  (names.map fun (n,k)=>if (k==NameKind.free&&env.scope.kind==.function&&env.kindOf n==some .cell) then (n,NameKind.cell) else (n,k)).lookup x=some .cell∨
  (names.map fun (n,k)=>if (k==NameKind.free&&env.scope.kind==.function&&env.kindOf n==some .cell) then (n,NameKind.cell) else (n,k)).lookup x=some .free
 | [],_,h=>by simp at h
 | (n,k)::r,x,h=>by
  rw [List.map_cons];show List.lookup x ((if (k==NameKind.free&&env.scope.kind==.function&&env.kindOf n==some .cell)=true then (n,NameKind.cell) else (n,k))::_)=_∨List.lookup x ((if (k==NameKind.free&&env.scope.kind==.function&&env.kindOf n==some .cell)=true then (n,NameKind.cell) else (n,k))::_)=_;rw [List.lookup_cons] at h;cases hx:x==n with
  | true=>
   rw [hx] at h;have hk:k=.free:=Option.some.inj h
   by_cases hc:(k==NameKind.free&&env.scope.kind==.function&&env.kindOf n==some .cell)=true
   ·rw [if_pos hc,List.lookup_cons,hx];exact .inl rfl
   ·rw [if_neg hc,List.lookup_cons,hx,hk];exact .inr rfl
  | false=>
   rw [hx] at h
   by_cases hc:(k==NameKind.free&&env.scope.kind==.function&&env.kindOf n==some .cell)=true
   ·rw [if_pos hc,List.lookup_cons,hx];exact bZ h
   ·rw [if_neg hc,List.lookup_cons,hx];exact bZ h
abbrev blk (X:Cx) (N':List Str) (scope:Scope) (C:Addr) (s₃:Shared) (H₃:Hp) (fp:List Addr) (pl:List (Addr×Obj)):Cx:=
 {X with N:=N',s₀:=s₃,H₀:=H₃,env:=compEnvC scope (bR X.env scope.names []) C X.env,outer:=X.stack,ex:=fp,fn:=fun _=>false,calm:=true,pn:=X.pn++pl,xe:=fun _ _=>False}
structure CompScope (X:Cx) (N':List Str) (caps:List (Option Nat)) (scope:Scope):Prop where
 kind:scope.kind=.function
 nocell:∀y∈scope.names,y.2≠.cell
 names:∀y∈scope.names,y.2=.local->scope.names.lookup y.1=some .local
 caught:∀y∈scope.names,y.2=.free->X.env.kindOf y.1=some .cell∨X.env.kindOf y.1=some .free
 len:caps.length=N'.length
 cap:∀(j i:Nat) (x:Str),caps[j]?=some (some i)->N'[j]?=some x->X.N[i]?=some x∧scope.names.lookup x=some .free
 nd:N'.Nodup
noncomputable def gp (caps:List (Option Nat)) (σ:St):St:=caps.map fun o=>o.bind fun i=>(σ[i]?).join
theorem CompScope.has (S:CompScope X N' caps scope) (ok:X.Ok):∀y∈scope.names,y.2=.free->∃c,X.env.cells.lookup y.1=some c:=fun y hy e=>ok.has y.1 (S.caught y hy e)
theorem CompScope.look (S:CompScope X N' caps scope) (ok:X.Ok) (h:(bR X.env scope.names []).lookup x=some c):X.env.cells.lookup x=some c:=
 ej scope.names [] (S.has ok) (fun _ z=>by simp at z) h
theorem Inv.block (S:CompScope X N' caps scope) (I:Inv X pins σ H s₃) (hc:X.calm=true) (hf:∀b∈fp,cR X pins H b) (hlt:∀b∈fp,b < s₃.heap.objs.size) {h₄:Heap} {t₄:Nat} {m₄:Str->Option Value}
  (hn:h₄.Ns s₃.heap.objs.size m₄) (hk:∀b o,s₃.heap.get? b=some o->h₄.get? b=some o):
  Inv (blk X N' scope s₃.heap.objs.size s₃ H fp pins) [] (gp caps σ) H {s₃ with heap:=h₄,toks:=t₄}:=by
 have ok:=I.ok;have fresh:∀b o,s₃.heap.get? b=some o->b≠s₃.heap.objs.size:=fun b o e=>Nat.ne_of_lt (Heap.lt_size e);have cellOk:∀x c,(bR X.env scope.names []).lookup x=some c->∃v,s₃.heap.IsCell c v:=fun x c e=>I.cell x c (S.look ok e);refine ⟨⟨ok.mod,?_,ok.glob,ok.blt,Nat.le_refl _,?_,?_,?_,fun _=>ok.hd hc,ok.frames,.inl rfl,?_,I.bs,?_,?_,?_,I.stack,I.j0⟩,rfl,I.bare,Un.kept hk,?_,?_,I.hok.fresh (Nat.le_refl _),?_,?_,I.hok.kept hk,?_⟩
 ·show (relabel scope X.env).kind=.function;exact S.kind
 ·intro x y c h1 h2;exact ok.inj x y c (S.look ok h1) (S.look ok h2)
 ·intro x hx;have hx':(relabel scope X.env).names.lookup x=some .cell∨(relabel scope X.env).names.lookup x=some .free:=hx;have key:∀j,(relabel scope X.env).names.lookup x=some j->j=.cell∨j=.free->∃c,(bR X.env scope.names []).lookup x=some c:=by
   intro j hj hjk;obtain ⟨k,hk1,hk2⟩:=bY hj;have hm:=PySem.mem_of_lookup hk1;have hkf:k=.free:=by
    rcases hk2 with rfl | ⟨e,_⟩
    ·rcases hjk with rfl | e
     ·exact absurd rfl (S.nocell _ hm)
     ·exact e
    ·exact e
   subst hkf;exact dA scope.names [] hm
  rcases hx' with h | h
  ·exact key _ h (.inl rfl)
  ·exact key _ h (.inr rfl)
 ·intro x c h _;exact absurd (show false=true from h) (by decide)
 ·intro b hb;refine ⟨Nat.ne_of_lt (hlt b hb),fun x c h=>(hf b hb).2.2.2.2.1 x c (S.look ok h)⟩
 ·exact Nat.le_trans ok.bsz I.sz
 ·intro b o e hb;rcases (hf b hb).2.2.2.1 with z | z
  ·exact ok.noex b o e z
  ·exact absurd (Nat.lt_of_lt_of_le (Heap.lt_size e) ok.bsz) (Nat.not_lt.mpr z)
 ·intro b hb z;rcases List.mem_cons.mp (I.fm b z) with e | e
  ·exact (hf b hb).2.1 e
  ·exact (hf b hb).2.2.1 e
 ·refine ⟨m₄,hn,fun j x v e1 e2 e3=>?_⟩;have e2':(caps.map fun o=>o.bind fun i=>(σ[i]?).join)[j]?=some (some v):=e2;rw [List.getElem?_map] at e2';cases hcj:caps[j]? with
  | none=>rw [hcj] at e2';cases e2'
  | some oi=>
   rw [hcj] at e2';have e2'':(oi.bind fun i=>(σ[i]?).join)=some v:=Option.some.inj e2';cases oi with
   | none=>cases e2''
   | some i=>
    have hσ:(σ[i]?).join=some v:=e2'';have hσ':σ[i]?=some (some v):=by
     cases hs:σ[i]? with
     | none=>rw [hs] at hσ;cases hσ
     | some w=>rw [hs] at hσ;rw [show w=some v from hσ]
    obtain ⟨hX,hfr⟩:=S.cap j i x hcj e1;obtain ⟨m,_,hl⟩:=I.loc;have hcgt:=S.caught _ (PySem.mem_of_lookup hfr) rfl;have hvis:Vis X.env.scope x:=by
     rcases hcgt with z | z
     ·exact .inr (.inl z)
     ·exact .inr (.inr z)
    obtain ⟨u,ru,lk⟩:=hl i x v hX hσ' hvis;refine ⟨u,ru,.inr ⟨?_,?_⟩⟩
    ·exact bZ hfr
    ·obtain ⟨c,hcc⟩:=dA (env:=X.env) scope.names [] (PySem.mem_of_lookup hfr);refine ⟨c,hcc,?_⟩;rcases lk with ⟨z,_⟩ | ⟨_,c',hc',hcell⟩
     ·have z':X.env.kindOf x=some .local:=z;rcases hcgt with q | q
      ·rw [z'] at q;cases q
      ·rw [z'] at q;cases q
     ·have:=S.look I.ok hcc;rw [this] at hc';cases hc';obtain ⟨o,ho,hd⟩:=hcell;exact ⟨o,hk _ _ ho,hd⟩
 ·intro x c h;obtain ⟨v,o,ho,hd⟩:=cellOk x c h;exact ⟨v,o,hk _ _ ho,hd⟩
 ·intro x c h;exact I.freeC x c (S.look ok h)
 ·intro p hp;have hp':p∈X.pn++pins:=by
   rcases List.mem_append.mp hp with z | z
   ·exact z
   ·cases z
  obtain ⟨e,n,ne,nf,d⟩:=I.pin p hp';refine ⟨hk _ _ e,n,fresh _ _ e,fun z=>?_,d⟩;rcases List.mem_cons.mp (I.fm p.1 z) with q | q
  ·exact ne q
  ·exact nf q
 ·show (caps.map _).length=N'.length;rw [List.length_map];exact S.len
theorem Inv.jX (S:CompScope X N' caps scope) (I:Inv X pins σ H s₃) (hf:∀b∈fp,cR X pins H b) (J:Inv (blk X N' scope s₃.heap.objs.size s₃ H fp pins) [] τ H' s') (hs:∀b u,b≠s₃.heap.objs.size->s'.heap.get? b=some u->h''.get? b=some u):Inv X pins σ H' {s' with heap:=h''}:=by
 have hC:H' s₃.heap.objs.size=none:=J.free;have u:Un (frs X.stack) fp H H' s₃.heap h'':=by
  have b:=J.base;have ne:∀x o,s₃.heap.get? x=some o->x≠s₃.heap.objs.size:=fun x o e=>Nat.ne_of_lt (Heap.lt_size e);refine ⟨fun x o e n hx hb=>hs _ _ (ne x o e) (b.keep x o e n hx hb),fun x o e n hx hb=>?_,b.free,fun x o e hb=>?_,b.tups,b.frzs,b.tbls⟩
  ·obtain ⟨sl,q⟩:=b.slot x o e n hx hb;exact ⟨sl,hs _ _ (ne x o e) q⟩
  ·obtain ⟨o',q⟩:=b.there x o e hb;exact ⟨o',hs _ _ (ne x o e) q⟩
 exact I.call' (s':={s' with heap:=h''}) (ch:=fp) J.os u (J.hok.off hC hs) J.bare fun b hb=>⟨(hf b hb).2.2.2.1,(hf b hb).2.1,(hf b hb).2.2.2.2.1,(hf b hb).2.2.2.2.2⟩
def PIf (X:Cx) (ifs:List Expr) (t:TT):Prop:=
 ∀(pins:List (Addr×Obj)) (s:Shared) (σ:St) (H:Hp) (Q:Bool->Hp->Prop),Inv X pins σ H s->t σ H Q->
  wpAny (model X.prog X.w) X.A (forIn ifs true fun c r=>if r=true then do let ok←isTrue c X.env (eval c X.env);pure (ForInStep.yield ok) else pure (ForInStep.yield r)) (TP X pins σ Q) X.xe s
def bV:TT:=fun _ H Q=>Q true H
theorem ou:PIf X [] bV:=fun pins s σ H Q I h=>wpAny_tests_nil ⟨H,I,h⟩
def uc (J:It) (g:TG) (tc:TT) (te:TE) (l:Addr) (Q:VK) (τ0:St) (H0:Hp):Prop:=
 ∃W:Nat->Nat->St->Hp->Prop,(∃m,W 0 m τ0 H0)∧∀i m τ H2,W i m τ H2->
  (J.stop i H2∧Q (.ref l) H2)∨(J.go i H2∧∃N:St->Hp->Prop,(∀τ' H',N τ' H'->∃m',m' < m∧W (i+1) m' τ' H')∧∀x H',J.yld i H2 x H'->g x τ H' fun τ2 H3=>
   tc τ2 H3 fun b H4=>if b=true then te τ2 H4 fun y H5=>∃xs,H5 l=some (.lst xs)∧xs.length < sizeLine∧N τ2 (upd H5 l (.lst (xs++[y]))) else N τ2 H4)
def pj (caps:List (Option Nat)) (wi:TI) (g:TG) (tc:TT) (te:TE):TE:=fun σ H Q=>wi σ H fun J H1=>∀l,H1 l=none->uc J g tc te l Q (gp caps σ) (upd H1 l (.lst []))
theorem upE (h:wpAny M A t Q (fun _ _=>False) s):wpAny M A t Q E s:=wpAny_mono h (fun _ _ q=>q) fun _ _ f=>f.elim
theorem lg (S:CompScope X N' caps scope) (hc:X.calm=true) (hg:∀C s₃ H₃ fp pl,PG (blk X N' scope C s₃ H₃ fp pl) tg g) (hif:∀C s₃ H₃ fp pl,PIf (blk X N' scope C s₃ H₃ fp pl) ifs tc)
  (he:∀C s₃ H₃ fp pl,PE (blk X N' scope C s₃ H₃ fp pl) elt te) {pins:List (Addr×Obj)} {σ:St} {H3:Hp} {s3:Shared} {h₁:Heap} {t₁:Nat} {m₁:Str->Option Value} {it l:Addr} {fp:List Addr} {tn:Nat->Heap->Prop} {J:It}
  (I3:Inv X pins σ H3 s3) (T:Turn X.prog X.w X.K tg J fp it tn) (st3:tn 0 h₁) (hf3:∀b∈fp,cR X pins H3 b) (hlt3:∀b∈fp,b < s3.heap.objs.size) (hns₁:h₁.Ns s3.heap.objs.size m₁) (keep3:∀b o,s3.heap.get? b=some o->h₁.get? b=some o)
  {Q:VK} {RR:Value->Addr->Result->Shared->Prop} {W:Nat->Nat->St->Hp->Prop} {m0:Nat} (w0:W 0 m0 (gp caps σ) H3) (turn:∀i m τ H2,W i m τ H2->
   (J.stop i H2∧Q (.ref l) H2)∨(J.go i H2∧∃N:St->Hp->Prop,(∀τ' H',N τ' H'->∃m',m' < m∧W (i+1) m' τ' H')∧∀x H',J.yld i H2 x H'->g x τ H' fun τ2 H3=>
    tc τ2 H3 fun b H4=>if b=true then te τ2 H4 fun y H5=>∃xs,H5 l=some (.lst xs)∧xs.length < sizeLine∧N τ2 (upd H5 l (.lst (xs++[y]))) else N τ2 H4))
  (hRR:∀(l C:Addr) (H':Hp) (s':Shared),H' C=none->C≠X.env.locals->X.s₀.heap.objs.size≤C->(∀x c,X.env.cells.lookup x=some c->c≠C)->(∀p∈X.pn++pins,p.1≠C)->(∃m,s'.heap.Ns C m)->Inv X pins σ H' s'->
   (∀h'':Heap,(∀b u,b≠C->s'.heap.get? b=some u->h''.get? b=some u)->Inv X pins σ H' {s' with heap:=h''})->Q (.ref l) H'->RR (.ref l) C (.ok .next) s'):
  codeAny (model X.prog X.w) X.A (.compStart (.ListComp elt [⟨tg,iter,ifs,0⟩] scope pos) 0 (.ref it) (.ref l) (compEnvC scope (bR X.env scope.names []) s3.heap.objs.size X.env))
   (RR (.ref l) s3.heap.objs.size) {s3 with heap:=h₁,toks:=t₁}:=by
 have J0:Inv (blk X N' scope s3.heap.objs.size s3 H3 fp pins) [] (gp caps σ) H3 {s3 with heap:=h₁,toks:=t₁}:=Inv.block S I3 hc hf3 hlt3 hns₁ keep3;have fpB:∀{H':Hp},(∀b∈fp,H' b=none)->∀b∈fp,cR (blk X N' scope s3.heap.objs.size s3 H3 fp pins) [] H' b:=fun {H'} hn b hb=>by
  obtain ⟨f0,f1,f2,f3,f4,f5⟩:=hf3 b hb;refine ⟨hn b hb,Nat.ne_of_lt (hlt3 b hb),fun z=>?_,.inl hb,fun x c e=>f4 x c (S.look I3.ok e),fun p hp=>?_⟩
  ·rcases List.mem_cons.mp (I3.fm b z) with q | q
   ·exact f1 q
   ·exact f2 q
  ·rcases List.mem_append.mp hp with q | q
   ·exact f5 p q
   ·cases q
 have fin:∀{τ:St} {H':Hp} {s':Shared},Inv (blk X N' scope s3.heap.objs.size s3 H3 fp pins) [] τ H' s'->Q (.ref l) H'->RR (.ref l) s3.heap.objs.size (.ok .next) s':=fun {τ H' s'} J q=>by
  refine hRR _ _ H' s' J.free ?_ ?_ ?_ ?_ ?_ ?_ ?_ q
  ·exact (Nat.ne_of_lt I3.lt).symm
  ·exact I3.sz
  ·intro x c e z;obtain ⟨v,o,ho,_⟩:=I3.cell x c e;exact Nat.ne_of_lt (Heap.lt_size ho) z
  ·intro p hp z;obtain ⟨e,_⟩:=I3.pin p hp;exact Nat.ne_of_lt (Heap.lt_size e) z
  ·obtain ⟨m,hm,_⟩:=J.loc;exact ⟨m,hm⟩
  ·have:=Inv.jX S I3 hf3 J (h'':=s'.heap) fun b u _ e=>e;exact this
  ·exact fun h'' hs=>Inv.jX S I3 hf3 J hs
 have loop:codeAny (model X.prog X.w) X.A (.compLoop (.ListComp elt [⟨tg,iter,ifs,0⟩] scope pos) 0 (.ref it) (.ref l) (compEnvC scope (bR X.env scope.names []) s3.heap.objs.size X.env))
   (RR (.ref l) s3.heap.objs.size) {s3 with heap:=h₁,toks:=t₁}:=by
  refine codeAny_loop rfl (fun n s'=>∃i τ H',Inv (blk X N' scope s3.heap.objs.size s3 H3 fp pins) [] τ H' s'∧tn i s'.heap∧(∀b∈fp,H' b=none)∧W i n τ H') ?_ m0 ⟨0,_,_,J0,st3,fun b hb=>(hf3 b hb).1,w0⟩;rintro n s4 ⟨i,τ,H4,J4,st4,fr4,w4⟩;show wpAny _ X.A ((compTurn (.ListComp elt [⟨tg,iter,ifs,0⟩] scope pos) 0 (.ref it) (.ref l) (compEnvC scope (bR X.env scope.names []) s3.heap.objs.size X.env)).onRaise (fun x=>do noteFrame x (compEnvC scope (bR X.env scope.names []) s3.heap.objs.size X.env);theTreesLotGoes x)) _ _ s4;refine wpAny_noted ?_;rw [compTurn_list];rcases turn i n τ H4 w4 with ⟨stop,qn⟩ | ⟨go,N,hN,step⟩
  ·refine wpAny_bind (wpAny_standAt (wpAny_bind (wpAny_mono (T.done (blk X N' scope s3.heap.objs.size s3 H3 fp pins) rfl rfl rfl rfl i [] s4 τ H4 _ J4 (fpB fr4) st4 stop) (fun r s5 h5=>?_) fun _ _ e=>e)));obtain ⟨hr,J5⟩:=h5;subst hr;exact wpAny_pure (fin J5 qn)
  ·refine wpAny_bind (wpAny_standAt (wpAny_bind (wpAny_mono (T.item (blk X N' scope s3.heap.objs.size s3 H3 fp pins) rfl rfl rfl rfl i [] s4 τ H4 _ J4 (fpB fr4) st4 go) (fun r s5 h5=>?_) fun _ _ e=>e)));obtain ⟨u,hr,h5⟩:=h5;subst hr;refine wpAny_bind (wpAny_mono h5 (fun _ s6 h6=>?_) fun _ _ e=>e);obtain ⟨x,H6,J6,r6,y6,st6,fr6⟩:=h6;have J6':=J6.pinned (fpB fr6) (T.obj _ _ st6);refine wpAny_bind (wpAny_mono (upE (hg _ _ _ _ _ _ s6 τ H6 x u _ J6' r6 (step x H6 y6))) (fun _ s7 h7=>?_) fun _ _ e=>e);obtain ⟨τ7,H7,J7,q7⟩:=h7;have again:∀{τ8:St} {H8:Hp} {s8:Shared},Inv (blk X N' scope s3.heap.objs.size s3 H3 fp pins) ([]++fD fp s6.heap) τ8 H8 s8->N τ8 H8->
     ∃m,m < n∧∃i τ' H',Inv (blk X N' scope s3.heap.objs.size s3 H3 fp pins) [] τ' H' s8∧tn i s8.heap∧(∀b∈fp,H' b=none)∧W i m τ' H':=fun {τ8 H8 s8} J8 n8=>by
    obtain ⟨m',hm,w8⟩:=hN τ8 H8 n8;refine ⟨m',hm,i+1,τ8,H8,J8.c6,T.keep _ _ _ st6 fun b hb o e=>(J8.pin (b,o) (List.mem_append_right _ (List.mem_append_right _ (cg hb e)))).1,fun b hb=>?_,w8⟩;obtain ⟨o,e,d⟩:=T.obj _ _ st6 b hb;exact (J8.pin (b,o) (List.mem_append_right _ (List.mem_append_right _ (cg hb e)))).2.1
   refine wpAny_bind (wpAny_mono (upE (hif _ _ _ _ _ _ s7 τ7 H7 _ J7 q7)) (fun ok s8 h8=>?_) fun _ _ e=>e);obtain ⟨H8,J8,q8⟩:=h8;cases ok with
   | false=>exact wpAny_pure ⟨rfl,again J8 (by simpa using q8)⟩
   | true=>
    have q8':te τ7 H8 fun y H5=>∃xs,H5 l=some (.lst xs)∧xs.length < sizeLine∧N τ7 (upd H5 l (.lst (xs++[y]))):=by simpa using q8
    refine wpAny_bind (wpAny_bind (wpAny_mono (upE (he _ _ _ _ _ _ s8 τ7 H8 _ J8 q8')) (fun y s9 h9=>?_) fun _ _ e=>e));obtain ⟨yv,H9,J9,r9,xs,hx,hz,n9⟩:=h9;refine wpAny_bind (wpAny_mono (upE (gF (X:=blk X N' scope s3.heap.objs.size s3 H3 fp pins) _ s9 τ7 H9 (.ref l) [yv] (.ref l) [y] (fun _ H'=>N τ7 H') J9 rfl (.cons r9 .nil) ⟨_,xs,yv,rfl,rfl,hx,hz,n9⟩)) (fun _ s10 h10=>?_) fun _ _ e=>e);obtain ⟨_,H10,J10,_,n10⟩:=h10;exact wpAny_pure (wpAny_pure ⟨rfl,again J10 n10⟩)
 exact codeAny_compStart_list loop (T.self X.A 0 _ _ _ st3 loop)
theorem jS (S:CompScope X N' caps scope) (hc:X.calm=true) (hg:∀C s₃ H₃ fp pl,PG (blk X N' scope C s₃ H₃ fp pl) tg g) (hif:∀C s₃ H₃ fp pl,PIf (blk X N' scope C s₃ H₃ fp pl) ifs tc)
  (he:∀C s₃ H₃ fp pl,PE (blk X N' scope C s₃ H₃ fp pl) elt te) {pins:List (Addr×Obj)} {σ:St} {H:Hp} {s:Shared} {it:Addr} {fp:List Addr} {tn:Nat->Heap->Prop} {J:It}
  (I:Inv X pins σ H s) (T:Turn X.prog X.w X.K tg J fp it tn) (st:tn 0 s.heap) (hf:∀b∈fp,cR X pins H b) {Q:VK} {RR:Value->Addr->Result->Shared->Prop} {E:Value->Shared->Prop}
  (h:∀l,H l=none->∃W:Nat->Nat->St->Hp->Prop,(∃m,W 0 m (gp caps σ) (upd H l (.lst [])))∧∀i m τ H2,W i m τ H2->
   (J.stop i H2∧Q (.ref l) H2)∨(J.go i H2∧∃N:St->Hp->Prop,(∀τ' H',N τ' H'->∃m',m' < m∧W (i+1) m' τ' H')∧∀x H',J.yld i H2 x H'->g x τ H' fun τ2 H3=>
    tc τ2 H3 fun b H4=>if b=true then te τ2 H4 fun y H5=>∃xs,H5 l=some (.lst xs)∧xs.length < sizeLine∧N τ2 (upd H5 l (.lst (xs++[y]))) else N τ2 H4))
  (hRR:∀(l C:Addr) (H':Hp) (s':Shared),H' C=none->C≠X.env.locals->X.s₀.heap.objs.size≤C->(∀x c,X.env.cells.lookup x=some c->c≠C)->(∀p∈X.pn++pins,p.1≠C)->(∃m,s'.heap.Ns C m)->Inv X pins σ H' s'->
   (∀h'':Heap,(∀b u,b≠C->s'.heap.get? b=some u->h''.get? b=some u)->Inv X pins σ H' {s' with heap:=h''})->Q (.ref l) H'->RR (.ref l) C (.ok .next) s'):
  wpAny (model X.prog X.w) X.A (newList []) (fun acc s₃=>wpAny (model X.prog X.w) X.A (newFunctionEnv scope X.env.globals (bR X.env scope.names []) [] X.env.qual none .none (some X.env)) (fun cenv s₄=>
   codeAny (model X.prog X.w) X.A (.compStart (.ListComp elt [⟨tg,iter,ifs,0⟩] scope pos) 0 (.ref it) acc {cenv with scope:=relabel scope X.env}) (RR acc cenv.locals) s₄) E s₃) E s:=by
 obtain ⟨W,⟨m0,w0⟩,turn⟩:=h s.heap.objs.size I.fresh;refine wpAny_newObj_type (wpAny_newFunctionEnv S.nocell (by intro y hy;simp at hy) (fun h₁ hns₁ hsb₁=>?_) S.kind);have I3:Inv X pins σ (upd H s.heap.objs.size (.lst [])) {s with heap:=s.heap.push {cls:=.type "list",data:=.seq ([]:List Value).toArray}}:=I.tZ (t':=s.toks) (its:=[]) (ys:=[]) .nil (Nat.zero_le _);have hltf:∀b∈fp,b < s.heap.objs.size:=fun b hb=>by
  obtain ⟨o,e,_⟩:=T.obj 0 _ st b hb;exact Heap.lt_size e
 have hf3:∀b∈fp,cR X pins (upd H s.heap.objs.size (.lst [])) b:=fun b hb=>⟨by rw [ai (Nat.ne_of_lt (hltf b hb))];exact (hf b hb).1,(hf b hb).2⟩;have keep3:∀b o,(s.heap.push {cls:=.type "list",data:=.seq ([]:List Value).toArray}).get? b=some o->h₁.get? b=some o:=fun b o e=>hsb₁.extBut b o (Nat.ne_of_lt (Heap.lt_size e)) (Heap.get?_push_of_some _ e);have st3:tn 0 h₁:=T.keep 0 _ _ st fun b hb o e=>keep3 b o (Heap.get?_push_of_some _ e);have hlt3:∀b∈fp,b < (s.heap.push {cls:=.type "list",data:=.seq ([]:List Value).toArray}).objs.size:=fun b hb=>by
  have:=hltf b hb;rw [Heap.size_push];exact Nat.lt_succ_of_lt this
 exact lg (s3:={s with heap:=s.heap.push {cls:=.type "list",data:=.seq ([]:List Value).toArray}}) S hc hg hif he I3 T st3 hf3 hlt3 hns₁ keep3 w0 turn hRR
theorem l9 (S:CompScope X N' caps scope) (hc:X.calm=true) (hi:PI X tg iter wi) (hg:∀C s₃ H₃ fp pl,PG (blk X N' scope C s₃ H₃ fp pl) tg g) (hif:∀C s₃ H₃ fp pl,PIf (blk X N' scope C s₃ H₃ fp pl) ifs tc)
  (he:∀C s₃ H₃ fp pl,PE (blk X N' scope C s₃ H₃ fp pl) elt te) (hs:∀x,foldedSetIterable iter X.env x=pure x:=by intro _;rfl):PE X (.ListComp elt [⟨tg,iter,ifs,0⟩] scope pos) (pj caps wi g tc te):=by
 walk_at "ah";rw [eval_ListComp];refine wpAny_comprehension_free (use:=none) rfl hs (jT (S.has I.ok)) S.kind S.names (thn (hi pins s σ H _ I h) fun v s1 h1=>thn h1 fun itv s2 h2=>?_);obtain ⟨it,fp,tn,J,H2,e,I2,T,st2,f2,hQ⟩:=h2;subst e;refine jS (RR:=fun acc C=>compPost (model X.prog X.w) X.A X.xe none (EP X pins σ Q) acc C) S hc hg hif he I2 T st2 f2 hQ ?_;intro l C H' s' _ _ _ _ _ hm _ hI q;obtain ⟨m,hm⟩:=hm;exact ⟨m,hm,fun h'' hs''=>⟨.ref l,H',hI h'' fun b u hb e=>hs''.extBut b u hb e,rfl,q⟩⟩
def ud (_ j:Int):Prop:=0 < j∧j≤10^40
theorem log2_small (h:n≤10^40):n.log2 < 9000:=by
 by_cases h0:n=0
 ·rw [h0];decide
 ·refine (Nat.log2_lt h0).mpr (Nat.lt_of_le_of_lt h ?_);exact Nat.lt_of_lt_of_le (show 10^40 < 2^200 by decide) (Nat.pow_le_pow_right (by decide) (by decide))
theorem mw:OpR X (binaryOp .FloorDiv) (rI ud fun i j=>.int (i / j)):=opI fun i j _ _ _ _ _ hc q=>by
 have h1:(0:Int) < j:=hc.1;have h2:j≤10^40:=hc.2;exact floordiv_int (by lia) (by rw [Int.fdiv_eq_ediv_of_nonneg i (by lia)];exact q) (.inl (PyProof.noPylong_of_log2 (log2_small (by lia))))
mutual
inductive Rds (K:FR) (H:Hp):V->PyData->Prop where
 | non:Rds K H .non .none
 | bl (b:Bool):Rds K H (.bl b) (.bool b)
 | int (i:Int):Rds K H (.int i) (.int i)
 | str (x:Str):Rds K H (.str x) (.str x)
 | tup {a:Addr} {xs:List V} {ds:List PyData}:SqT K H a xs->RdsL K H xs ds->Rds K H (.ref a) (.tuple ds)
 | lst {a:Addr} {xs:List V} {ds:List PyData}:SqL K H a xs->RdsL K H xs ds->Rds K H (.ref a) (.list ds)
inductive RdsL (K:FR) (H:Hp):List V->List PyData->Prop where
 | nil:RdsL K H [] []
 | cons {x:V} {xs:List V} {d:PyData} {ds:List PyData}:Rds K H x d->RdsL K H xs ds->RdsL K H (x::xs) (d::ds)
end
mutual
theorem Rds.reads (I:Inv X pins σ H s):∀{x:V} {u:Value} {d:PyData},Rds X.K H x d->RelV x u->∃as,Reads s.heap u d as
 | _,_,_,.non,r=>by cases (show _=Value.none from r);exact ⟨_,.none⟩
 | _,_,_,.bl b,r=>by cases (show _=Value.bool b from r);exact ⟨_,.bool b⟩
 | _,_,_,.int i,r=>by obtain ⟨t,e⟩:=(show ∃t,_=Value.int i t from r);cases e;exact ⟨_,.int i t⟩
 | _,_,_,.str x,r=>by obtain ⟨t,e⟩:=(show ∃t,_=Value.str x t from r);cases e;exact ⟨_,.str x t⟩
 | _,_,_,.tup (a:=a) hq hl,r=>by
  cases (show _=Value.ref a from r);obtain ⟨its,rv,⟨o,h1,h2,n,h3⟩,_⟩:=I.tuple hq;obtain ⟨as,q⟩:=RdsL.reads I hl rv;exact ⟨_,.tuple h1 h2 h3 (by simpa using q)⟩
 | _,_,_,.lst (a:=a) hq hl,r=>by
  cases (show _=Value.ref a from r);obtain ⟨its,rv,pl,_⟩:=I.list hq;obtain ⟨o,h1,h2,n,h3⟩:=pl.isList;obtain ⟨as,q⟩:=RdsL.reads I hl rv;exact ⟨_,.list h1 h2 h3 (by simpa using q)⟩
theorem RdsL.reads (I:Inv X pins σ H s):∀{xs:List V} {us:List Value} {ds:List PyData},RdsL X.K H xs ds->Vals xs us->∃as,ReadsAll s.heap us ds as
 | _,_,_,.nil,.nil=>⟨_,.nil⟩
 | _,_,_,.cons h t,.cons r q=>by
  obtain ⟨as,p⟩:=Rds.reads I h r;obtain ⟨bs,p'⟩:=RdsL.reads I t q;exact ⟨_,.cons p p'⟩
end
def uO:V->Option Int->Option Int->Hp->VK->Prop:=fun x lo hi H Q=>∃z,x=.str z∧z.length≤sizeLine∧Q (.str (Txt.slice z lo hi)) H
theorem p6:SlR X uO:=by
 intro pins s σ H x v vl vu lo hi sl Q I rx hs pl pu h;obtain ⟨z,rfl,hz,q⟩:=h;obtain ⟨t,rfl⟩:=(show ∃t,v=Value.str z t from rx);refine ⟨"str",_,F.slot_str_getitem.lookup,typeIs_str _ _ _,?_⟩;obtain ⟨o,h1,h2,h3⟩:=hs;have fin:(Txt.slice z lo hi).length≤sizeLine∧∀t' k,EP X pins σ Q (.str (Txt.slice z lo hi) t') {s with toks:=k}:=⟨Nat.le_trans (Txt.slice_le z _ _) hz,fun t' k=>⟨.str _,H,I.tok k,⟨t',rfl⟩,q⟩⟩;cases pl with
 | none=>
  cases pu with
  | none=>exact wpAny_getItem_str_slice (l:=none) (u:=none) (st:=none) ⟨o,h1,h2,h3⟩ rfl (post_val_or_str fin)
  | int j uj=>exact wpAny_getItem_str_slice (l:=none) (u:=some (j,uj)) (st:=none) ⟨o,h1,h2,h3⟩ rfl (post_val_or_str fin)
 | int i ui=>
  cases pu with
  | none=>exact wpAny_getItem_str_slice (l:=some (i,ui)) (u:=none) (st:=none) ⟨o,h1,h2,h3⟩ rfl (post_val_or_str fin)
  | int j uj=>exact wpAny_getItem_str_slice (l:=some (i,ui)) (u:=some (j,uj)) (st:=none) ⟨o,h1,h2,h3⟩ rfl (post_val_or_str fin)
theorem ng:bT X (.builtin "isinstance") (fun xs H Q=>∃x n t b,xs=[x,.ty n]∧TyOf X.K H x t∧PySem.W.kitOne X.K t (.type n)=some b∧Q (.bl b) H):=by
 intro pins s σ H xs us Q I r h;obtain ⟨x,n,t,b,rfl,ty,e,q⟩:=h;obtain ⟨u,w',rfl,ru,rw'⟩:=vals2 r;cases (show w'=Value.type n from rw');exact kW I ru ty e fun tk=>⟨.bl b,H,I.tok tk,rfl,q⟩
noncomputable def ja (out:List (Str×NameKind)) (N N':List Str) (caps:List (Option Nat)) (scope:Scope):Bool:=
 decide (scope.kind=.function)&&scope.names.all (fun y=>decide (y.2≠.cell))&&scope.names.all (fun y=>!decide (y.2=.local)||decide (scope.names.lookup y.1=some .local))&&
 scope.names.all (fun y=>!decide (y.2=.free)||decide (out.lookup y.1=some .cell)||decide (out.lookup y.1=some .free))&&decide (caps.length=N'.length)&&
 (List.range caps.length).all (fun j=>match caps[j]?,N'[j]? with
  | some (some i),some x=>decide (N[i]?=some x)&&decide (scope.names.lookup x=some .free)
  | _,_=>true)&&decide N'.Nodup
theorem cQ (h:ja X.env.scope.names X.N N' caps scope=true):CompScope X N' caps scope:=by
 unfold ja at h;simp only [Bool.and_eq_true,decide_eq_true_eq,List.all_eq_true,Bool.or_eq_true,Bool.not_eq_true',decide_eq_false_iff_not] at h;obtain ⟨⟨⟨⟨⟨⟨h1,h2⟩,h3⟩,h4⟩,h5⟩,h6⟩,h7⟩:=h;refine ⟨h1,h2,fun y hy e=>?_,fun y hy e=>?_,h5,fun j i x hj hx=>?_,h7⟩
 ·rcases h3 y hy with z | z
  ·exact absurd e z
  ·exact z
 ·rcases h4 y hy with (z | z) | z
  ·exact absurd e z
  ·exact .inl z
  ·exact .inr z
 ·have hlt:j < caps.length:=(List.getElem?_eq_some_iff.mp hj).1;have:=h6 j (List.mem_range.mpr hlt);rw [hj,hx] at this;simp only [Bool.and_eq_true,decide_eq_true_eq] at this;exact this
end L2
namespace L2
end L2
namespace L2
open PySem PySem.Spec PyProof.Rows
theorem dJ:PyData.strOk x=true↔∀c∈x.cps,c < 0x110000:=by
 unfold PyData.strOk;rw [Array.all_eq_true_iff_forall_mem];simp
theorem bc (ha:PyData.strOk a=true) (hb:PyData.strOk b=true):PyData.strOk (a++b)=true:=by
 rw [dJ] at*;intro c hc;have hc':c∈a.cps++b.cps:=hc;rcases Array.mem_append.mp hc' with z | z
 ·exact ha c z
 ·exact hb c z
theorem iW (l u:Option Int) (h:PyData.strOk x=true):PyData.strOk (Txt.slice x l u)=true:=by
 unfold Txt.slice
 split
 ·exact h
 ·rw [dJ] at*;intro c hc;have hc':c∈(List.filterMap (x.cps[·]?) (Builtin.Str.strSliceIndices l u 1 x.length)).toArray:=hc;rw [List.mem_toArray] at hc';obtain ⟨i,_,e⟩:=List.mem_filterMap.mp hc';exact h c (Array.mem_of_getElem? e)
theorem kG (h:PyData.strOk z=true) (hc:atI z.cps.toList i=some c):PyData.strOk (⟨#[c]⟩:Str)=true:=by
 rw [dJ] at*;intro d hd;have e:d=c:=by simpa using hd
 subst e;obtain ⟨j,_,hj,_⟩:=fg hc;exact h d (by have:=List.mem_of_getElem? hj;simpa using this)
theorem entry_all_loop:entryFor table "all.loop"=some Builtin.«all.loop»:=entryFor_of_tree (by kernel_rfl)
theorem plain_all_loop:plainId "all.loop"=true:=by decide+kernel
theorem nv {A:Around} {pins:List (Addr×Obj)} {σ:St} {H:Hp} {p it:Addr} {bs:List Bool} {R:Result->Shared->Prop} (hA:A.handled=none) (hp:SqL X.K H p (bs.map V.bl))
  (hit:it≠X.env.locals∧(it∈X.ex∨X.s₀.heap.objs.size≤it)∧(∀x c,X.env.cells.lookup x=some c->c≠it)∧∀q∈X.pn++pins,q.1≠it) (hin:H it=none)
  (h:∀s',Inv X pins σ H s'->R (.ok (.ret (.bool (bs.all id)))) s'):∀(n i:Nat) (s:Shared),bs.length-i=n->i≤bs.length->(bs.take i).all id=true->s.heap.IsListIter it p i->Inv X pins σ H s->
   codeAny (model X.prog X.w) A (.builtin "all.loop" ⟨[.ref it],[]⟩) R s:=by
 intro n
 induction n with
 | zero=>
  intro i s hn hi ht st I;have ei:i=bs.length:=by lia
  refine codeAny_builtin entry_all_loop ?_;rw [Around.under_plainId plain_all_loop _];obtain ⟨its,rv,pl,hz⟩:=I.list hp;have hl':=rv.length;rw [List.length_map] at hl';show wpAny _ _ (pyNext (.ref it) >>=_) _ _ s;refine wpAny_bind (wpAny_pyNext_list_end hA st pl.isList (by simp;lia) fun h' eb=>?_);have I':=I.turned (t':=s.toks) (h':=h') (it:=it) (fun b o hb e=>eb b o hb e) hin hit.1 hit.2.1 hit.2.2.1 hit.2.2.2;refine wpAny_bind (wpAny_rule (wpAny_pure ?_));rw [ei,List.take_length] at ht;have:=h _ I';rw [ht] at this;exact this
 | succ n ih=>
  intro i s hn hi ht st I;have hi':i < bs.length:=by lia
  refine codeAny_builtin entry_all_loop ?_;rw [Around.under_plainId plain_all_loop _];obtain ⟨its,rv,pl,hz⟩:=I.list hp;have hyi:(bs.map V.bl)[i]?=some (.bl bs[i]):=by rw [List.getElem?_map,List.getElem?_eq_getElem hi'];rfl
  obtain ⟨u,hu,ru⟩:=rv.get hyi;cases (show u=Value.bool bs[i] from ru);show wpAny _ _ (pyNext (.ref it) >>=_) _ _ s;refine wpAny_bind (wpAny_pyNext_list_item st pl.isList (x:=.bool bs[i]) (by simpa using hu) fun h' st' sb=>?_);have I':=I.turned (t':=s.toks) (h':=h') (it:=it) (fun b o hb e=>(sb.2 b hb).trans e) hin hit.1 hit.2.1 hit.2.2.1 hit.2.2.2;dsimp only;refine wpAny_bind (wpAny_holding (wpAny_truthy_bool ?_));refine wpAny_bind (wpAny_letGo ?_)
  by_cases hb:bs[i]=true
  ·rw [if_pos hb];refine wpAny_pure ⟨plainId_quiet plain_all_loop _,ih (i+1) _ (by lia) (by lia) ?_ st' I'⟩;rw [List.take_succ,List.getElem?_eq_getElem hi',List.all_append,ht,hb];rfl
  ·rw [if_neg hb];refine wpAny_bind (wpAny_rule (wpAny_pure ?_));have:=h _ I';have e:bs.all id=false:=by
    rw [List.all_eq_false];exact ⟨bs[i],List.getElem_mem hi',by simpa using hb⟩
   rw [e] at this;exact this
theorem ni (hc:X.calm=true):bT X (.builtin "all") (fun xs H Q=>∃(p:Addr) (bs:List Bool),xs=[.ref p]∧SqL X.K H p (bs.map V.bl)∧Q (.bl (bs.all id)) H):=by
 intro pins s σ H xs us Q I r h;obtain ⟨p,bs,rfl,hp,q⟩:=h;obtain ⟨u,rfl,ru⟩:=vals1 r;cases (show u=Value.ref p from ru);have hA:X.A.handled=none:=I.ok.hd hc;obtain ⟨its,rv,pl,hz⟩:=I.list hp;refine call_function_tree F.kind_all F.plain_all F.entry_all (F.args_all1 _) ?_;unfold Builtin.«all»;show wpAny _ _ (pyIter (.ref p) >>=_) _ _ s;refine wpAny_bind (wpAny_pyIter_list pl.isList ?_);have I3:Inv X pins σ H {s with heap:=s.heap.push {cls:=.type "list_iterator",data:=.fields #[.ref p,.int 0 0]}}:=I.kept (t':=s.toks) fun b o e=>Heap.get?_push_of_some _ e;obtain ⟨f0,f1,f2,f3,f4,f5⟩:=I.kZ (b:=s.heap.objs.size) (H':=H) (Nat.le_refl _) (I.hok.fresh (Nat.le_refl _));refine wpAny_pure ⟨plainId_quiet plain_all_loop _,?_⟩;exact nv (X:=X) (σ:=σ) (H:=H) (by exact hA) hp ⟨f1,f3,f4,f5⟩ f0 (fun s' I'=>⟨.bl _,H,I',rfl,q⟩) bs.length 0 _ (by lia) (Nat.zero_le _) rfl ⟨_,Heap.get?_push_size _ rfl,rfl,rfl⟩ I3
end L2
namespace Sm
open PySem L2
inductive D where
 | non | bl (b:Bool) | int (i:Int) | str (x:Str) | ty (n:String)
 | tup (xs:List D) | lv (xs:List D) | ro (xs:List D) | dv (kvs:List (Key×D)) | ob (n:Nat)
inductive MO where
 | lst (xs:List D) | dct (kvs:List (Key×D))
abbrev MH:=List MO
abbrev DS:=List (Option D)
abbrev noH:Hp:=fun _=>none
structure Ad where
 ob:List Addr
 rs:List Addr
def Ad.has (ρ:Ad) (a:Addr):Prop:=a∈ρ.ob∨a∈ρ.rs
def TupAt (K:FR) (ρ:Ad) (H:Hp) (a:Addr) (vs:List V):Prop:=(Rd H a (.tup vs)∧¬ρ.has a)∨SqT K noH a vs
def sr (K:FR) (ρ:Ad) (H:Hp) (a:Addr) (vs:List V):Prop:=(Rd H a (.lst vs)∧¬ρ.has a)∨SqL K noH a vs
mutual
inductive Rep (K:FR) (ρ:Ad) (H:Hp):V->D->Prop where
 | non:Rep K ρ H .non .non
 | bl (b:Bool):Rep K ρ H (.bl b) (.bl b)
 | int (i:Int):Rep K ρ H (.int i) (.int i)
 | str {x:Str} (h:PyData.strOk x=true):Rep K ρ H (.str x) (.str x)
 | ty (n:String):Rep K ρ H (.ty n) (.ty n)
 | tup {a:Addr} {vs:List V} {ds:List D}:TupAt K ρ H a vs->RepL K ρ H vs ds->Rep K ρ H (.ref a) (.tup ds)
 | lv {a:Addr} {vs:List V} {ds:List D}:H a=some (.lst vs)->¬ρ.has a->RepL K ρ H vs ds->Rep K ρ H (.ref a) (.lv ds)
 | ro {a:Addr} {vs:List V} {ds:List D}:sr K ρ H a vs->RepL K ρ H vs ds->Rep K ρ H (.ref a) (.ro ds)
 | dv {a:Addr} {us:List (Key×V)} {kvs:List (Key×D)}:H a=some (.dK us)->¬ρ.has a->RepK K ρ H us kvs->Rep K ρ H (.ref a) (.dv kvs)
 | ob {a:Addr} {n:Nat}:ρ.ob[n]?=some a->Rep K ρ H (.ref a) (.ob n)
inductive RepL (K:FR) (ρ:Ad) (H:Hp):List V->List D->Prop where
 | nil:RepL K ρ H [] []
 | cons {v:V} {vs:List V} {d:D} {ds:List D}:Rep K ρ H v d->RepL K ρ H vs ds->RepL K ρ H (v::vs) (d::ds)
inductive RepK (K:FR) (ρ:Ad) (H:Hp):List (Key×V)->List (Key×D)->Prop where
 | nil:RepK K ρ H [] []
 | cons {k:Key} {v:V} {vs:List (Key×V)} {d:D} {ds:List (Key×D)}:Rep K ρ H v d->RepK K ρ H vs ds->RepK K ρ H ((k,v)::vs) ((k,d)::ds)
end
structure Ch (ρ:Ad) (H:Hp) (ρ':Ad) (H':Hp):Prop where
 pre:∀(n:Nat) a,ρ.ob[n]?=some a->ρ'.ob[n]?=some a
 old:∀b o,¬ρ.has b->H b=some o->¬ρ'.has b∧H' b=some o
theorem Ch.refl (ρ:Ad) (H:Hp):Ch ρ H ρ H:=⟨fun _ _ e=>e,fun _ _ n e=>⟨n,e⟩⟩
theorem Ch.trans (a:Ch ρ H ρ1 H1) (b:Ch ρ1 H1 ρ2 H2):Ch ρ H ρ2 H2:=
 ⟨fun n x e=>b.pre n x (a.pre n x e),fun x o n e=>let ⟨n',e'⟩:=a.old x o n e;b.old x o n' e'⟩
structure Stp (ρ:Ad) (H:Hp) (ρ':Ad) (H':Hp):Prop extends Ch ρ H ρ' H' where
 rs:ρ'.rs=ρ.rs
 res:∀b∈ρ.rs,H' b=H b
theorem Stp.refl (ρ:Ad) (H:Hp):Stp ρ H ρ H:=⟨.refl _ _,rfl,fun _ _=>rfl⟩
theorem Stp.trans (a:Stp ρ H ρ1 H1) (b:Stp ρ1 H1 ρ2 H2):Stp ρ H ρ2 H2:=
 ⟨a.toCh.trans b.toCh,b.rs.trans a.rs,fun x hx=>(b.res x (by rw [a.rs];exact hx)).trans (a.res x hx)⟩
instance {ρ ρ':Ad} {H H':Hp}:CoeOut (Stp ρ H ρ' H') (Ch ρ H ρ' H'):=⟨Stp.toCh⟩
theorem Ch.rd (S:Ch ρ H ρ' H') (h:Rd H a u) (n:¬ρ.has a):Rd H' a u∧¬ρ'.has a:=by
 rcases h with h | ⟨o,h⟩
 ·obtain ⟨q,e⟩:=S.old a _ n h;exact ⟨.inl e,q⟩
 ·obtain ⟨q,e⟩:=S.old a _ n h;exact ⟨.inr ⟨o,e⟩,q⟩
mutual
theorem Rep.mono (S:Ch ρ H ρ' H'):∀{v:V} {d:D},Rep K ρ H v d->Rep K ρ' H' v d
 | _,_,.non=>.non
 | _,_,.bl b=>.bl b
 | _,_,.int i=>.int i
 | _,_,.str x=>.str x
 | _,_,.ty n=>.ty n
 | _,_,.tup h l=>.tup (h.elim (fun ⟨a,n⟩=>.inl (S.rd a n)) .inr) (RepL.mono S l)
 | _,_,.lv h n l=>let ⟨n',h'⟩:=S.old _ _ n h;.lv h' n' (RepL.mono S l)
 | _,_,.ro h l=>.ro (h.elim (fun ⟨a,n⟩=>.inl (S.rd a n)) .inr) (RepL.mono S l)
 | _,_,.dv h n l=>let ⟨n',h'⟩:=S.old _ _ n h;.dv h' n' (RepK.mono S l)
 | _,_,.ob e=>.ob (S.pre _ _ e)
theorem RepL.mono (S:Ch ρ H ρ' H'):∀{vs:List V} {ds:List D},RepL K ρ H vs ds->RepL K ρ' H' vs ds
 | _,_,.nil=>.nil
 | _,_,.cons h t=>.cons (Rep.mono S h) (RepL.mono S t)
theorem RepK.mono (S:Ch ρ H ρ' H'):∀{vs:List (Key×V)} {ds:List (Key×D)},RepK K ρ H vs ds->RepK K ρ' H' vs ds
 | _,_,.nil=>.nil
 | _,_,.cons h t=>.cons (Rep.mono S h) (RepK.mono S t)
end
theorem RepL.length:∀{vs:List V} {ds:List D},RepL K ρ H vs ds->vs.length=ds.length
 | _,_,.nil=>rfl
 | _,_,.cons _ t=>by rw [List.length_cons,List.length_cons,RepL.length t]
theorem RepL.got:∀{vs:List V} {ds:List D} {i:Nat} {d:D},RepL K ρ H vs ds->ds[i]?=some d->∃v,vs[i]?=some v∧Rep K ρ H v d
 | _,_,_,_,.nil,e=>by simp at e
 | _,_,0,_,.cons r _,e=>by simp at e;subst e;exact ⟨_,rfl,r⟩
 | _,_,i+1,d,.cons _ t,e=>by
  obtain ⟨u,h1,h2⟩:=RepL.got (i:=i) (d:=d) t (by simpa using e);exact ⟨u,by simpa using h1,h2⟩
theorem RepL.append:∀{vs ws:List V} {ds es:List D},RepL K ρ H vs ds->RepL K ρ H ws es->RepL K ρ H (vs++ws) (ds++es)
 | _,_,_,_,.nil,s=>s
 | _,_,_,_,.cons r t,s=>.cons r (RepL.append t s)
theorem RepL.take:∀{vs:List V} {ds:List D} (n:Nat),RepL K ρ H vs ds->RepL K ρ H (vs.take n) (ds.take n)
 | _,_,0,_=>.nil
 | _,_,_+1,.nil=>.nil
 | _,_,n+1,.cons r t=>.cons r (RepL.take n t)
theorem RepL.drop:∀{vs:List V} {ds:List D} (n:Nat),RepL K ρ H vs ds->RepL K ρ H (vs.drop n) (ds.drop n)
 | _,_,0,r=>r
 | _,_,_+1,.nil=>.nil
 | _,_,n+1,.cons _ t=>RepL.drop n t
theorem RepL.set (r:Rep K ρ H v d):∀{vs:List V} {ds:List D} (i:Nat),RepL K ρ H vs ds->RepL K ρ H (vs.set i v) (ds.set i d)
 | _,_,_,.nil=>.nil
 | _,_,0,.cons _ t=>.cons r t
 | _,_,i+1,.cons q t=>.cons q (RepL.set r i t)
theorem RepL.snoc (t:RepL K ρ H vs ds) (r:Rep K ρ H v d):RepL K ρ H (vs++[v]) (ds++[d]):=t.append (.cons r .nil)
theorem RepL.isEmpty (t:RepL K ρ H vs ds):vs.isEmpty=ds.isEmpty:=by cases t <;> rfl
theorem TupAt.sq (h:TupAt K ρ H a vs):SqT K H a vs:=by
 rcases h with ⟨h,_⟩ | h
 ·exact .inl h
 ·rcases h with (h | ⟨o,h⟩) | h
  ·cases h
  ·cases h
  ·exact .inr h
theorem sr.sq (h:sr K ρ H a vs):SqL K H a vs:=by
 rcases h with ⟨h,_⟩ | h
 ·exact .inl h
 ·rcases h with (h | ⟨o,h⟩) | h
  ·cases h
  ·cases h
  ·exact .inr h
def ObR (K:FR) (ρ:Ad) (H:Hp) (a:Addr):MO->Prop
 | .lst ds=>∃vs,H a=some (.lst vs)∧RepL K ρ H vs ds
 | .dct kvs=>∃us,H a=some (.dK us)∧RepK K ρ H us kvs
structure Sim (K:FR) (ρ:Ad) (h:MH) (H:Hp):Prop where
 len:ρ.ob.length=h.length
 nd:ρ.ob.Nodup
 at_:∀(n:Nat) a o,ρ.ob[n]?=some a->h[n]?=some o->ObR K ρ H a o
 rsv:∀b∈ρ.rs,(∃o,H b=some o)∧b∉ρ.ob
theorem ObR.has (x:ObR K ρ H a o):∃u,H a=some u:=by
 cases o with
 | lst ds=>obtain ⟨vs,e,_⟩:=x;exact ⟨_,e⟩
 | dct ds=>obtain ⟨vs,e,_⟩:=x;exact ⟨_,e⟩
theorem ObR.mono (x:ObR K ρ H a o) (T:Ch ρ H ρ' H') (e:H' a=H a):ObR K ρ' H' a o:=by
 cases o with
 | lst ds=>obtain ⟨vs,x,r⟩:=x;exact ⟨vs,e.trans x,r.mono T⟩
 | dct ds=>obtain ⟨vs,x,r⟩:=x;exact ⟨vs,e.trans x,r.mono T⟩
theorem Sim.mem (S:Sim K ρ h H) (ha:a∈ρ.ob):∃(n:Nat) (o:MO),ρ.ob[n]?=some a∧h[n]?=some o∧ObR K ρ H a o:=by
 obtain ⟨n,hn,e⟩:=List.mem_iff_getElem.mp ha;have hn':n < h.length:=by rw [←S.len];exact hn
 have e1:ρ.ob[n]?=some a:=by rw [List.getElem?_eq_getElem hn,e]
 exact ⟨n,h[n],e1,List.getElem?_eq_getElem hn',S.at_ n a _ e1 (List.getElem?_eq_getElem hn')⟩
theorem Sim.has (S:Sim K ρ h H) (ha:ρ.has a):∃u,H a=some u:=by
 rcases ha with ha | ha
 ·obtain ⟨_,_,_,_,x⟩:=S.mem ha;exact x.has
 ·exact (S.rsv a ha).1
theorem Sim.fresh (S:Sim K ρ h H) (hp:H p=none):¬ρ.has p:=fun m=>by
 obtain ⟨u,e⟩:=S.has m;rw [hp] at e;cases e
theorem Stp.laid (S:Sim K ρ h H) (hp:H p=none):Stp ρ H ρ (upd H p o):=
 ⟨⟨fun _ _ e=>e,fun b u n e=>⟨n,by rw [ai (ak e hp)];exact e⟩⟩,rfl,fun b hb=>by
  obtain ⟨u,e⟩:=(S.rsv b hb).1;rw [ai (ak e hp)]⟩
theorem Sim.same (S:Sim K ρ h H) (T:Stp ρ H ρ H') (k:∀a∈ρ.ob,H' a=H a):Sim K ρ h H':=
 ⟨S.len,S.nd,fun n a o e1 e2=>(S.at_ n a o e1 e2).mono T.toCh (k a (List.mem_of_getElem? e1)),fun b hb=>⟨by rw [T.res b hb];exact (S.rsv b hb).1,(S.rsv b hb).2⟩⟩
theorem Sim.laid (S:Sim K ρ h H) (hp:H p=none):Sim K ρ h (upd H p o):=
 S.same (Stp.laid S hp) fun a ha=>by
  obtain ⟨u,e⟩:=S.has (.inl ha);rw [ai (ak e hp)]
abbrev Ad.more (ρ:Ad) (p:Addr):Ad:=⟨ρ.ob++[p],ρ.rs⟩
theorem Stp.made (S:Sim K ρ h H) (hp:H p=none):Stp ρ H (ρ.more p) (upd H p o):=by
 refine ⟨⟨fun n a e=>?_,fun b u n e=>?_⟩,rfl,(Stp.laid S hp).res⟩
 ·show (ρ.ob++[p])[n]?=_;rw [List.getElem?_append_left (List.getElem?_eq_some_iff.mp e).1];exact e
 ·refine ⟨fun m=>?_,by rw [ai (ak e hp)];exact e⟩;rcases m with m | m
  ·rcases List.mem_append.mp m with m | m
   ·exact n (.inl m)
   ·exact ak e hp (List.mem_singleton.mp m)
  ·exact n (.inr m)
theorem Sim.made (S:Sim K ρ h H) (hp:H p=none) (ho:ObR K (ρ.more p) (upd H p u) p o):Sim K (ρ.more p) (h++[o]) (upd H p u):=by
 refine ⟨by simp [S.len],?_,fun n a x e1 e2=>?_,fun b hb=>?_⟩
 ·show (ρ.ob++[p]).Nodup;rw [List.nodup_append];refine ⟨S.nd,by simp,fun a ha b hb z=>?_⟩;rw [List.mem_singleton.mp hb] at z;exact S.fresh hp (.inl (z ▸ ha))
 ·by_cases hn:n < ρ.ob.length
  ·have e1:(ρ.ob++[p])[n]?=some a:=e1;rw [List.getElem?_append_left hn] at e1;rw [List.getElem?_append_left (by rw [←S.len];exact hn)] at e2;have q:=S.at_ n a x e1 e2;obtain ⟨w,ew⟩:=q.has;exact q.mono (Stp.made S hp).toCh (ai (ak ew hp))
  ·have l1:=(List.getElem?_eq_some_iff.mp e1).1;simp at l1;have hn':n=ρ.ob.length:=by lia
   subst hn';have e1:(ρ.ob++[p])[ρ.ob.length]?=some a:=e1;rw [List.getElem?_append_right (Nat.le_refl _)] at e1;rw [List.getElem?_append_right (by rw [S.len];exact Nat.le_refl _)] at e2;simp at e1;rw [S.len] at e2;simp at e2;subst e1;subst e2;exact ho
 ·obtain ⟨⟨v,e⟩,n⟩:=S.rsv b hb;have z:=ak e hp;refine ⟨⟨v,by rw [ai z];exact e⟩,fun m=>?_⟩;rcases List.mem_append.mp m with m | m
  ·exact n m
  ·exact z (List.mem_singleton.mp m)
theorem Stp.wrote (S:Sim K ρ h H) (ha:a∈ρ.ob):Stp ρ H ρ (upd H a o):=
 ⟨⟨fun _ _ e=>e,fun b u n e=>⟨n,by rw [ai (fun (z:b=a)=>n (.inl (by rw [z];exact ha)))];exact e⟩⟩,rfl,fun b hb=>ai fun (z:b=a)=>(S.rsv b hb).2 (by rw [z];exact ha)⟩
theorem Sim.wrote (S:Sim K ρ h H) (e:ρ.ob[n]?=some a) (ho:ObR K ρ (upd H a u) a o):Sim K ρ (h.set n o) (upd H a u):=by
 have ha:=List.mem_of_getElem? e;have T:Stp ρ H ρ (upd H a u):=Stp.wrote S ha;refine ⟨by rw [List.length_set];exact S.len,S.nd,fun m b x e1 e2=>?_,fun b hb=>⟨by rw [T.res b hb];exact (S.rsv b hb).1,(S.rsv b hb).2⟩⟩
 by_cases hm:n=m
 ·subst hm;have l2:n < h.length:=by rw [←S.len];exact (List.getElem?_eq_some_iff.mp e).1
  rw [e] at e1;cases e1;rw [List.getElem?_set_self l2] at e2;cases e2;exact ho
 ·rw [List.getElem?_set_ne hm] at e2;have q:=S.at_ m b x e1 e2;have hb:b≠a:=by
   intro z;subst z;exact hm ((List.getElem?_inj (List.getElem?_eq_some_iff.mp e).1 S.nd).mp (e.trans e1.symm))
  exact q.mono T.toCh (ai hb)
abbrev Ad.keep (ρ:Ad) (l:Addr):Ad:=⟨ρ.ob,l::ρ.rs⟩
theorem Ch.keep (hl:H l=none):Ch ρ H (ρ.keep l) (upd H l o):=by
 refine ⟨fun n a e=>e,fun b u n e=>⟨fun m=>?_,by rw [ai (ak e hl)];exact e⟩⟩;rcases m with m | m
 ·exact n (.inl m)
 ·rcases List.mem_cons.mp m with m | m
  ·exact ak e hl m
  ·exact n (.inr m)
theorem Sim.keep (S:Sim K ρ h H) (hl:H l=none):Sim K (ρ.keep l) h (upd H l o):=by
 refine ⟨S.len,S.nd,fun n a x e1 e2=>?_,fun b hb=>?_⟩
 ·have q:=S.at_ n a x e1 e2;obtain ⟨w,ew⟩:=q.has;exact q.mono (Ch.keep hl) (ai (ak ew hl))
 ·rcases List.mem_cons.mp hb with rfl | hb
  ·exact ⟨⟨_,az⟩,fun m=>S.fresh hl (.inl m)⟩
  ·obtain ⟨⟨v,e⟩,n⟩:=S.rsv b hb;exact ⟨⟨v,by rw [ai (ak e hl)];exact e⟩,n⟩
theorem Ch.put (hl:l∈ρ.rs):Ch ρ H ρ (upd H l o):=⟨fun n a e=>e,fun b u n e=>⟨n,by rw [ai (fun (z:b=l)=>n (.inr (by rw [z];exact hl)))];exact e⟩⟩
theorem Sim.put (S:Sim K ρ h H) (hl:l∈ρ.rs):Sim K ρ h (upd H l o):=by
 refine ⟨S.len,S.nd,fun n a x e1 e2=>(S.at_ n a x e1 e2).mono (Ch.put hl) (ai fun (z:a=l)=>(S.rsv l hl).2 (by rw [←z];exact List.mem_of_getElem? e1)),fun b hb=>⟨?_,(S.rsv b hb).2⟩⟩
 by_cases z:b=l
 ·subst z;exact ⟨_,az⟩
 ·rw [ai z];exact (S.rsv b hb).1
theorem Ch.free {os rs rs':List Addr} {H:Hp} (hs:∀b∈rs',b∈rs):Ch ⟨os,rs⟩ H ⟨os,rs'⟩ H:=⟨fun n a e=>e,fun b u n e=>⟨fun m=>n (m.elim .inl fun m=>.inr (hs b m)),e⟩⟩
theorem Sim.free {os rs rs':List Addr} {H:Hp} (S:Sim K ⟨os,rs⟩ h H) (hs:∀b∈rs',b∈rs):Sim K ⟨os,rs'⟩ h H:=
 ⟨S.len,S.nd,fun n a x e1 e2=>(S.at_ n a x e1 e2).mono (Ch.free hs) rfl,fun b hb=>S.rsv b (hs b hb)⟩
structure RepS (K:FR) (ρ:Ad) (H:Hp) (σ:St) (δ:DS):Prop where
 len:σ.length=δ.length
 at_:∀(i:Nat) d,δ[i]?=some (some d)->∃v,σ[i]?=some (some v)∧Rep K ρ H v d
theorem RepS.mono (R:RepS K ρ H σ δ) (S:Ch ρ H ρ' H'):RepS K ρ' H' σ δ:=⟨R.len,fun i d e=>let ⟨v,a,b⟩:=R.at_ i d e;⟨v,a,b.mono S⟩⟩
theorem RepS.set (R:RepS K ρ H σ δ) (r:Rep K ρ H v d) (i:Nat):RepS K ρ H (σ.set i (some v)) (δ.set i (some d)):=by
 refine ⟨by rw [List.length_set,List.length_set];exact R.len,fun j e he=>?_⟩
 by_cases hij:i=j
 ·subst hij;have hl:i < δ.length:=by
   have:=(List.getElem?_eq_some_iff.mp he).1;rw [List.length_set] at this;exact this
  rw [List.getElem?_set_self hl] at he;cases he;exact ⟨v,by rw [List.getElem?_set_self (by rw [R.len];exact hl)],r⟩
 ·rw [List.getElem?_set_ne hij] at he ⊢;exact R.at_ j e he
abbrev EM:=DS->MH->Option (D×MH)
abbrev TM:=DS->MH->Option (Bool×MH)
abbrev AM:=DS->MH->Option (List D×MH)
inductive Fl where
 | nx | bk | ct | rt (d:D)
abbrev SM:=DS->MH->Option (Fl×DS×MH)
abbrev GM:=D->DS->MH->Option (DS×MH)
abbrev Fn:=List D->MH->Option (D×MH)
inductive PostI (K:FR) (ρ:Ad) (H:Hp) (h':MH) (d:D) (v:V) (H':Hp):Prop where
 | mk (ρ'):Stp ρ H ρ' H'->Sim K ρ' h' H'->Rep K ρ' H' v d->PostI K ρ H h' d v H'
noncomputable def bg (K:FR) (ρ:Ad) (H:Hp) (h':MH) (d:D):VK:=fun v H'=>PostI K ρ H h' d v H'
inductive TMi (K:FR) (m:EM) (σ:L2.St) (H:Hp) (Q:VK):Prop where
 | mk (ρ δ h d h'):RepS K ρ H σ δ->Sim K ρ h H->(m δ h=some (d,h'))->(∀v H',bg K ρ H h' d v H'->Q v H')->TMi K m σ H Q
def tM (K:FR) (m:EM):TE:=fun σ H Q=>TMi K m σ H Q
inductive TMTi (K:FR) (m:TM) (σ:L2.St) (H:Hp) (Q:Bool->Hp->Prop):Prop where
 | mk (ρ δ h b h'):RepS K ρ H σ δ->Sim K ρ h H->(m δ h=some (b,h'))->(∀ρ' H',Stp ρ H ρ' H'->Sim K ρ' h' H'->Q b H')->TMTi K m σ H Q
def tMT (K:FR) (m:TM):TT:=fun σ H Q=>TMTi K m σ H Q
inductive TMAi (K:FR) (m:AM) (σ:L2.St) (H:Hp) (Q:List V->Hp->Prop):Prop where
 | mk (ρ δ h ds h'):RepS K ρ H σ δ->Sim K ρ h H->(m δ h=some (ds,h'))->(∀vs ρ' H',Stp ρ H ρ' H'->Sim K ρ' h' H'->RepL K ρ' H' vs ds->Q vs H')->TMAi K m σ H Q
def tMA (K:FR) (m:AM):TA:=fun σ H Q=>TMAi K m σ H Q
inductive TMSi (K:FR) (m:SM) (E:Ends) (σ:L2.St) (H:Hp):Prop where
 | mk (ρ δ h fl δ' h'):RepS K ρ H σ δ->Sim K ρ h H->(m δ h=some (fl,δ',h'))->(∀ρ' H',Stp ρ H ρ' H'->Sim K ρ' h' H'->
 match fl with
 | .nx=>∀σ',RepS K ρ' H' σ' δ'->E.nx σ' H'
 | .bk=>∀σ',RepS K ρ' H' σ' δ'->E.bk σ' H'
 | .ct=>∀σ',RepS K ρ' H' σ' δ'->E.ct σ' H'
 | .rt d=>∀v,Rep K ρ' H' v d->E.rt v H')->TMSi K m E σ H
def tMS (K:FR) (m:SM):TS:=fun E σ H=>TMSi K m E σ H
inductive TMGi (K:FR) (m:GM) (v:V) (σ:L2.St) (H:Hp) (Q:L2.St->Hp->Prop):Prop where
 | mk (ρ δ h d δ' h'):RepS K ρ H σ δ->Sim K ρ h H->Rep K ρ H v d->(m d δ h=some (δ',h'))->(∀ρ' H' σ',Stp ρ H ρ' H'->Sim K ρ' h' H'->RepS K ρ' H' σ' δ'->Q σ' H')->TMGi K m v σ H Q
def tMG (K:FR) (m:GM):TG:=fun v σ H Q=>TMGi K m v σ H Q
def SE (X:Cx) (e:Expr) (m:EM):Prop:=PE X e (tM X.K m)
def ST (X:Cx) (e:Expr) (m:TM):Prop:=PT X e (tMT X.K m)
def SW (X:Cx) (e:Expr) (m:TM):Prop:=PW X e (tMT X.K m)
def SA (X:Cx) (es:List Expr) (m:AM):Prop:=PA X es (tMA X.K m)
def SS (X:Cx) (s:Stmt) (m:SM):Prop:=PS X s (tMS X.K m)
def SSs (X:Cx) (s:List Stmt) (m:SM):Prop:=PSs X s (tMS X.K m)
def SG (X:Cx) (e:Expr) (m:GM):Prop:=PG X e (tMG X.K m)
theorem _root_.L2.PE.imp (h:PE X e t) (i:∀σ H Q,t' σ H Q->t σ H Q):PE X e t':=fun pins s σ H Q I q=>h pins s σ H Q I (i σ H Q q)
theorem _root_.L2.PT.imp (h:PT X e t) (i:∀σ H Q,t' σ H Q->t σ H Q):PT X e t':=fun pins s σ H Q I q=>h pins s σ H Q I (i σ H Q q)
theorem _root_.L2.PW.imp (h:PW X e t) (i:∀σ H Q,t' σ H Q->t σ H Q):PW X e t':=fun wh pins s σ H Q I q=>h wh pins s σ H Q I (i σ H Q q)
theorem _root_.L2.PA.imp (h:PA X e t) (i:∀σ H Q,t' σ H Q->t σ H Q):PA X e t':=fun pos pins s σ H Q I q=>h pos pins s σ H Q I (i σ H Q q)
theorem _root_.L2.PS.imp (h:PS X e t) (i:∀E σ H,t' E σ H->t E σ H):PS X e t':=fun pins s σ H E I q=>h pins s σ H E I (i E σ H q)
theorem _root_.L2.PSs.imp (h:PSs X e t) (i:∀E σ H,t' E σ H->t E σ H):PSs X e t':=fun pins s σ H E I q=>h pins s σ H E I (i E σ H q)
theorem _root_.L2.PG.imp (h:PG X e t) (i:∀v σ H Q,t' v σ H Q->t v σ H Q):PG X e t':=fun pins s σ H v u Q I r q=>h pins s σ H v u Q I r (i v σ H Q q)
theorem bnd (h:o.bind f=some b):∃a,o=some a∧f a=some b:=Option.bind_eq_some_iff.mp h
theorem mpd (h:o.map f=some b):∃a,o=some a∧f a=b:=Option.map_eq_some_iff.mp h
theorem nq {x:D} {α:Type} {g:Bool->Option α} {z:α} (e:(match x with | .bl c=>g c | _=>none)=some z):∃c,x=.bl c∧g c=some z:=by
 cases x <;> first | exact absurd e (by intro z;cases z) | exact ⟨_,rfl,e⟩
theorem bg.here (S:Sim K ρ h H) (r:Rep K ρ H v d):bg K ρ H h d v H:=⟨ρ,.refl _ _,S,r⟩
theorem bg.step (T:Stp ρ H ρ1 H1) (p:bg K ρ1 H1 h' d v H'):bg K ρ H h' d v H':=let ⟨ρ2,T2,S2,r2⟩:=p;⟨ρ2,T.trans T2,S2,r2⟩
theorem bg.tup (S:Sim K ρ h H) (r:RepL K ρ H vs ds) (hp:H p=none):bg K ρ H h (.tup ds) (.ref p) (upd H p (.tup vs)):=
 ⟨ρ,Stp.laid S hp,S.laid hp,.tup (.inl ⟨.inl az,S.fresh hp⟩) (r.mono (Stp.laid S hp).toCh)⟩
theorem bg.lv (S:Sim K ρ h H) (r:RepL K ρ H vs ds) (hp:H p=none):bg K ρ H h (.lv ds) (.ref p) (upd H p (.lst vs)):=
 ⟨ρ,Stp.laid S hp,S.laid hp,.lv az (S.fresh hp) (r.mono (Stp.laid S hp).toCh)⟩
noncomputable def af (i:Nat):EM:=fun δ h=>(δ[i]?).join.map fun d=>(d,h)
noncomputable def eK (d:D):EM:=fun _ h=>some (d,h)
noncomputable def eOp (f:D->D->MH->Option (D×MH)) (a b:EM):EM:=fun δ h=>(a δ h).bind fun p=>(b δ p.2).bind fun q=>f p.1 q.1 q.2
noncomputable def eUn (f:D->MH->Option (D×MH)) (a:EM):EM:=fun δ h=>(a δ h).bind fun p=>f p.1 p.2
noncomputable def aj:AM:=fun _ h=>some ([],h)
noncomputable def ab (a:EM) (r:AM):AM:=fun δ h=>(a δ h).bind fun p=>(r δ p.2).bind fun q=>some (p.1::q.1,q.2)
noncomputable def eFn (f:Fn) (a:AM):EM:=fun δ h=>(a δ h).bind fun p=>f p.1 p.2
noncomputable def eIf (t:TM) (a b:EM):EM:=fun δ h=>(t δ h).bind fun p=>if p.1 then a δ p.2 else b δ p.2
noncomputable def aX (a:EM):TM:=fun δ h=>(a δ h).bind fun p=>match p.1 with
 | .bl b=>some (b,p.2)
 | _=>none
noncomputable def g7 (t:TM):TM:=fun δ h=>(t δ h).map fun p=>(!p.1,p.2)
noncomputable def jw (a b:TM):TM:=fun δ h=>(a δ h).bind fun p=>if p.1 then b δ p.2 else some (false,p.2)
noncomputable def tOr (a b:TM):TM:=fun δ h=>(a δ h).bind fun p=>if p.1 then some (true,p.2) else b δ p.2
noncomputable def k5 (a b:EM):EM:=fun δ h=>(a δ h).bind fun p=>match p.1 with
 | .bl c=>if c then b δ p.2 else some (.bl false,p.2)
 | _=>none
noncomputable def eOr (a b:EM):EM:=fun δ h=>(a δ h).bind fun p=>match p.1 with
 | .bl c=>if c then some (.bl true,p.2) else b δ p.2
 | _=>none
noncomputable def jN:Fn:=fun ds h=>some (.tup ds,h)
inductive RSi (K:FR) (f:D->D->MH->Option (D×MH)) (x y:V) (H:Hp) (Q:VK):Prop where
 | mk (ρ h d e z h'):Sim K ρ h H->Rep K ρ H x d->Rep K ρ H y e->(f d e h=some (z,h'))->(∀v H',bg K ρ H h' z v H'->Q v H')->RSi K f x y H Q
def rS (K:FR) (f:D->D->MH->Option (D×MH)):R2:=fun x y H Q=>RSi K f x y H Q
def OpS (X:Cx) (g:Value->Value->Sem Value) (f:D->D->MH->Option (D×MH)):Prop:=OpR X g (rS X.K f)
inductive RUi (K:FR) (f:D->MH->Option (D×MH)) (x:V) (H:Hp) (Q:VK):Prop where
 | mk (ρ h d z h'):Sim K ρ h H->Rep K ρ H x d->(f d h=some (z,h'))->(∀v H',bg K ρ H h' z v H'->Q v H')->RUi K f x H Q
def rU (K:FR) (f:D->MH->Option (D×MH)):V->Hp->VK->Prop:=fun x H Q=>RUi K f x H Q
inductive RFi (K:FR) (f:Fn) (vs:List V) (H:Hp) (Q:VK):Prop where
 | mk (ρ h ds z h'):Sim K ρ h H->RepL K ρ H vs ds->(f ds h=some (z,h'))->(∀v H',bg K ρ H h' z v H'->Q v H')->RFi K f vs H Q
def rF (K:FR) (f:Fn):List V->Hp->VK->Prop:=fun vs H Q=>RFi K f vs H Q
def cN (X:Cx) (g:Value) (f:Fn):Prop:=bT X g (rF X.K f)
section
variable {X:Cx} {a b c e:Expr} {es:List Expr} {pos:Pos} {ma mb mc:EM} {mt mu:TM} {m:AM} {f:D->D->MH->Option (D×MH)}
theorem qa (hN:X.N[i]?=some x) (hv:Vis X.env.scope x) (hd:(x==("__debug__":Str))=false:=by kernel_rfl) (hcd:(x==("__classdict__":Str))=false:=by kernel_rfl):SE X (.Name x pos) (af i):=
 (qP hN hv hd hcd).imp fun σ H Q ⟨ρ,δ,h,d,h',R,S,e,k⟩=>by
  obtain ⟨d',e1,e2⟩:=mpd e;cases e2;obtain ⟨v,ev,r⟩:=R.at_ i _ (Option.join_eq_some_iff.mp e1);exact ⟨v,ev,k v H (.here S r)⟩
theorem kJ (hp:PE X e (tC v)) (hr:∀ρ H,Rep X.K ρ H v d):SE X e (eK d):=hp.imp fun σ H Q ⟨ρ,δ,h,d',h',R,S,ee,k⟩=>by
 cases ee;exact k v H (.here S (hr _ _))
theorem ag {i j}:SE X (.Constant (.int i) j pos) (eK (.int i)):=kJ qW fun _ _=>.int i
theorem pv {b j}:SE X (.Constant (.bool b) j pos) (eK (.bl b)):=kJ tQ fun _ _=>.bl b
theorem fw {j}:SE X (.Constant .none j pos) (eK .non):=kJ qU fun _ _=>.non
theorem aY {x j} (h:PyData.strOk x=true:=by decide+kernel):SE X (.Constant (.str x) j pos) (eK (.str x)):=kJ qR fun _ _=>.str h
theorem sY (hg:Gl X x) (hm:X.mg x=none) (hv:bootBuiltins x=some (.type n)) (hn:x≠"__name__":=by decide) (hd:(x==("__debug__":Str))=false:=by kernel_rfl):SE X (.Name x pos) (eK (.ty n)):=
 kJ (oD (v:=.ty n) hg hm hv rfl hn hd) fun _ _=>.ty n
theorem nO (hg:Gl X x) (hm:X.mg x=some u) (r:RelV v u) (hr:∀ρ H,Rep X.K ρ H v d) (hd:(x==("__debug__":Str))=false:=by kernel_rfl):SE X (.Name x pos) (eK d):=
 kJ (oz hg hm r hd) hr
theorem j4 (h:tM X.K (eOp f ma mb) σ H Q):tOp (rS X.K f) (tM X.K ma) (tM X.K mb) σ H Q:=by
 obtain ⟨ρ,δ,h,d,h',R,S,e,k⟩:=h;obtain ⟨⟨x,h1⟩,e1,e⟩:=bnd e;obtain ⟨⟨y,h2⟩,e2,e3⟩:=bnd e;walk_at "af";refine ⟨ρ1,δ,h1,y,h2,R.mono T1,S1,e2,fun u H2 ⟨ρ2,T2,S2,r2⟩=>?_⟩;exact ⟨ρ2,h2,x,y,d,h',S2,r1.mono T2,r2,e3,fun w H3 p=>k w H3 (p.step (T1.trans T2))⟩
theorem aB (ho:OpS X (binaryOp op) f) (ha:SE X a ma) (hb:SE X b mb):SE X (.BinOp a op b pos) (eOp f ma mb):=(tN ho ha hb).imp fun _ _ _=>j4
theorem fx (ho:OpS X (compareOp op) f) (ha:SE X a ma) (hb:SE X b mb) (hm:behindInMarks op b=false):SE X (.Compare a [op] [b] pos) (eOp f ma mb):=(oB ho ha hb hm).imp fun _ _ _=>j4
theorem aT {op:CmpOp} (ho:OpS X (compareOp op) f) (ha:SE X a ma) (hb:SE X b mb) (hm:behindInMarks op b=false):ST X (.Compare a [op] [b] pos) (aX (eOp f ma mb)):=
 (oa ho ha hb hm).imp fun σ H Q ⟨ρ,δ,h,c,h',R,S,e,k⟩=>by
  walk_at "ab";obtain ⟨c',rfl,e2⟩:=nq e2;cases e2;refine j4 ⟨ρ,δ,h,.bl c,h1,R,S,e1,fun v H' ⟨ρ',T,S',r⟩=>?_⟩;cases r;exact ⟨c,rfl,k ρ' H' T S'⟩
theorem sX {op:UnaryOp} {f:D->MH->Option (D×MH)} (ho:UnR X (unaryOp op) (rU X.K f)) (ha:SE X a ma):SE X (.UnaryOp op a pos) (eUn f ma):=(tL ho ha).imp fun σ H Q ⟨ρ,δ,h,d,h',R,S,e,k⟩=>by
 obtain ⟨⟨x,h1⟩,e1,e⟩:=bnd e;exact ⟨ρ,δ,h,x,h1,R,S,e1,fun v H1 ⟨ρ1,T1,S1,r1⟩=>⟨ρ1,h1,x,d,h',S1,r1,e,fun w H3 p=>k w H3 (p.step T1)⟩⟩
theorem ae:SA X [] aj:=qZ.imp fun σ H Q ⟨ρ,δ,h,d,h',R,S,e,k⟩=>by
 cases e;exact k [] ρ H (.refl _ _) S .nil
theorem aa (ha:SE X e ma) (hr:SA X es m) (hs:starEach (e::es) X.env=(false,eval e X.env)::starEach es X.env:=by kernel_rfl):SA X (e::es) (ab ma m):=
 (oF ha hr hs).imp fun σ H Q ⟨ρ,δ,h,d,h',R,S,e,k⟩=>by
  obtain ⟨⟨x,h1⟩,e1,e⟩:=bnd e;obtain ⟨⟨ys,h2⟩,e2,e3⟩:=bnd e;cases e3;walk_at "af";exact ⟨ρ1,δ,h1,ys,h2,R.mono T1,S1,e2,fun vs ρ2 H2 T2 S2 rs=>k _ ρ2 H2 (T1.trans T2) S2 (.cons (r1.mono T2) rs)⟩
def f6 (m:AM) (n:Nat):Prop:=∀δ h ds h',m δ h=some (ds,h')->ds.length=n
theorem aQ:f6 aj 0:=fun δ h ds h' e=>by cases e;rfl
theorem av (hr:f6 m n):f6 (ab ma m) (n+1):=fun δ h ds h' e=>by
 obtain ⟨⟨x,h1⟩,e1,e⟩:=bnd e;obtain ⟨⟨ys,h2⟩,e2,e3⟩:=bnd e;cases e3;rw [List.length_cons,hr _ _ _ _ e2]
theorem fv {x1} (h:SA X es m) (hl:f6 m n) (hn:n≤sizeLine:=by decide):SE X (.Tuple es x1 pos) (eFn jN m):=(qQ h).imp fun σ H Q ⟨ρ,δ,h,d,h',R,S,e,k⟩=>by
 obtain ⟨⟨x,h1⟩,e1,e⟩:=bnd e;cases e;refine ⟨ρ,δ,h,x,h1,R,S,e1,fun vs ρ1 H1 T1 S1 r1=>⟨by rw [r1.length,hl _ _ _ _ e1];exact hn,fun p hp=>k _ _ (bg.step T1 (.tup S1 r1 hp))⟩⟩
inductive TFLi (K:FR) (m:AM) (σ:L2.St) (H:Hp) (Q:VK):Prop where
 | mk (ρ δ h ds h'):RepS K ρ H σ δ->Sim K ρ h H->(m δ h=some (ds,h'))->(∀ρ1 H1 p vs,Stp ρ H ρ1 H1->Sim K ρ1 h' H1->H1 p=none->RepL K ρ1 H1 vs ds->Q (.ref p) (upd H1 p (.lst vs)))->TFLi K m σ H Q
def tFL (K:FR) (m:AM):TE:=fun σ H Q=>TFLi K m σ H Q
def SFL (X:Cx) (e:Expr) (m:AM):Prop:=PE X e (tFL X.K m)
noncomputable def eLv (m:AM):EM:=fun δ h=>(m δ h).map fun p=>(.lv p.1,p.2)
noncomputable def eOb (m:AM):EM:=fun δ h=>(m δ h).map fun p=>(.ob p.2.length,p.2++[.lst p.1])
theorem bg.ob (S:Sim K ρ h H) (r:RepL K ρ H vs ds) (hp:H p=none):bg K ρ H (h++[.lst ds]) (.ob h.length) (.ref p) (upd H p (.lst vs)):=
 ⟨ρ.more p,Stp.made S hp,S.made hp ⟨vs,az,r.mono (Stp.made S hp).toCh⟩,.ob (show (ρ.ob++[p])[h.length]?=_ by rw [←S.len,List.getElem?_append_right (Nat.le_refl _)];simp)⟩
theorem SFL.lv (h:SFL X e m):SE X e (eLv m):=h.imp fun σ H Q ⟨ρ,δ,h,d,h',R,S,e,k⟩=>by
 obtain ⟨⟨ds,h1⟩,e1,e2⟩:=mpd e;cases e2;exact ⟨ρ,δ,h,ds,h1,R,S,e1,fun ρ1 H1 p vs T S1 hp r=>k _ _ (bg.step T (.lv S1 r hp))⟩
theorem SFL.ob (h:SFL X e m):SE X e (eOb m):=h.imp fun σ H Q ⟨ρ,δ,h,d,h',R,S,e,k⟩=>by
 obtain ⟨⟨ds,h1⟩,e1,e2⟩:=mpd e;cases e2;exact ⟨ρ,δ,h,ds,h1,R,S,e1,fun ρ1 H1 p vs T S1 hp r=>k _ _ (bg.step T (.ob S1 r hp))⟩
theorem fu (h:SA X es m) (hl:f6 m n) (hn:n≤sizeLine:=by decide):SFL X (.List es pos) m:=(qV h).imp fun σ H Q ⟨ρ,δ,h,ds,h',R,S,e,k⟩=>
 ⟨ρ,δ,h,ds,h',R,S,e,fun vs ρ1 H1 T1 S1 r1=>⟨by rw [r1.length,hl _ _ _ _ e];exact hn,fun p hp=>k ρ1 H1 p vs T1 S1 hp r1⟩⟩
noncomputable def eDv:EM:=fun _ h=>some (.dv [],h)
noncomputable def eDo:EM:=fun _ h=>some (.ob h.length,h++[.dct []])
theorem fo (h:ST X a mt):ST X (.UnaryOp .Not a pos) (g7 mt):=(qE h).imp fun σ H Q ⟨ρ,δ,h,c,h',R,S,e,k⟩=>by
 obtain ⟨⟨x,h1⟩,e1,e2⟩:=mpd e;cases e2;exact ⟨ρ,δ,h,x,h1,R,S,e1,fun ρ' H' T S'=>k ρ' H' T S'⟩
theorem jZ (h:ST X a mt):SW X (.BoolOp .And [a] pos) mt:=n6 h
theorem g8 (h:ST X a mt):SW X (.BoolOp .Or [a] pos) mt:=qC h
theorem lJ {rest:List Expr} (ha:ST X a mt) (hb:SW X (.BoolOp .And (b::rest) pos) mu):SW X (.BoolOp .And (a::b::rest) pos) (jw mt mu):=(qD ha hb).imp fun σ H Q ⟨ρ,δ,h,c,h',R,S,e,k⟩=>by
 walk_at "ab";refine ⟨ρ,δ,h,x,h1,R,S,e1,fun ρ' H' T S'=>?_⟩;cases x with
 | true=>rw [if_pos rfl] at e2 ⊢;exact ⟨ρ',δ,h1,c,h',R.mono T,S',e2,fun ρ2 H2 T2 S2=>k ρ2 H2 (T.trans T2) S2⟩
 | false=>rw [if_neg (by simp)] at e2 ⊢;cases e2;exact k ρ' H' T S'
theorem iT {rest:List Expr} (ha:ST X a mt) (hb:SW X (.BoolOp .Or (b::rest) pos) mu):SW X (.BoolOp .Or (a::b::rest) pos) (tOr mt mu):=(tJ ha hb).imp fun σ H Q ⟨ρ,δ,h,c,h',R,S,e,k⟩=>by
 walk_at "ab";refine ⟨ρ,δ,h,x,h1,R,S,e1,fun ρ' H' T S'=>?_⟩;cases x with
 | false=>rw [if_neg (by simp)] at e2 ⊢;exact ⟨ρ',δ,h1,c,h',R.mono T,S',e2,fun ρ2 H2 T2 S2=>k ρ2 H2 (T.trans T2) S2⟩
 | true=>rw [if_pos rfl] at e2 ⊢;cases e2;exact k ρ' H' T S'
theorem SW.st (h:SW X a mt):ST X a mt:=PW.pt h
theorem jz {op} (h:SE X a ma):SE X (.BoolOp op [a] pos) ma:=qS h
theorem hW {rest:List Expr} (ha:SE X a ma) (hb:SE X (.BoolOp .And (b::rest) pos) mb):SE X (.BoolOp .And (a::b::rest) pos) (k5 ma mb):=(qY ha hb).imp fun σ H Q ⟨ρ,δ,h,d,h',R,S,e,k⟩=>by
 walk_at "ab";obtain ⟨c,rfl,e2⟩:=nq e2;refine ⟨ρ,δ,h,.bl c,h1,R,S,e1,fun v H' ⟨ρ',T,S',r⟩=>?_⟩;cases r;refine ⟨c,rfl,?_⟩;cases c with
 | true=>rw [if_pos rfl] at e2 ⊢;exact ⟨ρ',δ,h1,d,h',R.mono T,S',e2,fun v H2 p=>k v H2 (p.step T)⟩
 | false=>rw [if_neg (by simp)] at e2 ⊢;cases e2;exact k _ _ ⟨ρ',T,S',.bl _⟩
noncomputable def sf (a:EM):EM:=fun δ h=>(a δ h).bind fun p=>match p.1 with
 | .bl c=>some (.bl (!c),p.2)
 | _=>none
theorem qc (ha:SE X a ma):SE X (.UnaryOp .Not a pos) (sf ma):=(qT ha).imp fun σ H Q ⟨ρ,δ,h,d,h',R,S,e,k⟩=>by
 walk_at "ab";obtain ⟨c,rfl,e2⟩:=nq e2;cases e2;refine ⟨ρ,δ,h,.bl c,h1,R,S,e1,fun v H' ⟨ρ',T,S',r⟩=>?_⟩;cases r;exact ⟨c,rfl,k _ _ ⟨ρ',T,S',.bl _⟩⟩
theorem td (hc:ST X c mt) (ha:SE X a ma) (hb:SE X b mb):SE X (.IfExp c a b pos) (eIf mt ma mb):=(md hc ha hb).imp fun σ H Q ⟨ρ,δ,h,d,h',R,S,e,k⟩=>by
 walk_at "ab";refine ⟨ρ,δ,h,x,h1,R,S,e1,fun ρ' H' T S'=>?_⟩;cases x with
 | true=>rw [if_pos rfl] at e2 ⊢;exact ⟨ρ',δ,h1,d,h',R.mono T,S',e2,fun v H2 p=>k v H2 (p.step T)⟩
 | false=>rw [if_neg (by simp)] at e2 ⊢;exact ⟨ρ',δ,h1,d,h',R.mono T,S',e2,fun v H2 p=>k v H2 (p.step T)⟩
noncomputable def lH (d:D) (h:MH):Option Bool:=match d with
 | .non=>some false
 | .bl b=>some b
 | .int i=>some (i !=0)
 | .str x=>if x.length≤sizeLine then some ((x.length:Int) !=0) else none
 | .tup xs=>some (!xs.isEmpty)
 | .dv kvs=>some (!kvs.isEmpty)
 | .ob n=>match h[n]? with
  | some (.lst xs)=>some (!xs.isEmpty)
  | some (.dct kvs)=>some (!kvs.isEmpty)
  | none=>none
 | .lv xs=>some (!xs.isEmpty)
 | .ro xs=>some (!xs.isEmpty)
 | .ty _=>none
noncomputable def g6 (a:EM):TM:=fun δ h=>(a δ h).bind fun p=>(lH p.1 p.2).map fun c=>(c,p.2)
theorem RepK.isEmpty (t:RepK K ρ H us ds):us.isEmpty=ds.isEmpty:=by cases t <;> rfl
theorem nE {K:FR} {ρ:Ad} {H:Hp} {h:MH} {v:V} {d:D} {c:Bool} (S:Sim K ρ h H) (r:Rep K ρ H v d) (e:lH d h=some c):so K v H c:=by
 cases r with
 | non=>cases e;exact rfl
 | bl b=>cases e;exact rfl
 | int i=>cases e;exact rfl
 | str hs=>
  unfold lH at e
  by_cases z:‹Str›.length≤sizeLine
  ·simp only [if_pos z] at e;cases e;exact ⟨z,rfl⟩
  ·simp only [if_neg z] at e;cases e
 | ty n=>cases e
 | tup ht l=>cases e;exact .inr (.inl ⟨_,ht.sq,by rw [l.isEmpty]⟩)
 | lv ht n l=>cases e;exact .inl ⟨_,SqL.of ht,by rw [l.isEmpty]⟩
 | ro ht l=>cases e;exact .inl ⟨_,ht.sq,by rw [l.isEmpty]⟩
 | dv ht n l=>cases e;exact .inr (.inr ⟨_,ht,by rw [l.isEmpty]⟩)
 | ob hn=>
  unfold lH at e;rename_i a n;cases q:h[n]? with
  | none=>simp only [q] at e;cases e
  | some o=>
   have x:=S.at_ n a o hn q;cases o with
   | lst ds=>simp only [q] at e;cases e;obtain ⟨vs,e1,l⟩:=x;exact .inl ⟨_,SqL.of e1,by rw [l.isEmpty]⟩
   | dct ds=>simp only [q] at e;cases e;obtain ⟨vs,e1,l⟩:=x;exact .inr (.inr ⟨_,e1,by rw [l.isEmpty]⟩)
theorem cV (ha:SE X a ma) (he:∀whole,isTrue a X.env whole=(do let v←whole;standAt a.pos;holding [v] (truthy v)):=by intro _;kernel_rfl):ST X a (g6 ma):=(lY ha he).imp fun σ H Q ⟨ρ,δ,h,c,h',R,S,e,k⟩=>by
 walk_at "ab";obtain ⟨c',e3,e4⟩:=mpd e2;cases e4;exact ⟨ρ,δ,h,x,h1,R,S,e1,fun v H' ⟨ρ',T,S',r⟩=>⟨c,nE S' r e3,k ρ' H' T S'⟩⟩
end
mutual
noncomputable def bE:D->D->Bool
 | .non,.non=>true
 | .bl a,.bl b=>a==b
 | .int a,.int b=>a==b
 | .str a,.str b=>decide (a=b)
 | .ty a,.ty b=>a==b
 | .tup a,.tup b=>fY a b
 | .lv a,.lv b=>fY a b
 | .ro a,.ro b=>fY a b
 | .dv a,.dv b=>iM a b
 | .ob a,.ob b=>a==b
 | _,_=>false
noncomputable def fY:List D->List D->Bool
 | [],[]=>true
 | a::r,b::s=>bE a b&&fY r s
 | _,_=>false
noncomputable def iM:List (Key×D)->List (Key×D)->Bool
 | [],[]=>true
 | (k,a)::r,(j,b)::s=>decide (k=j)&&bE a b&&iM r s
 | _,_=>false
end
mutual
theorem kr:∀(a b:D),bE a b=true->a=b
 | .non,b,h=>by cases b <;> first | rfl | simp [bE] at h
 | .bl x,b,h=>by cases b <;> simp [bE] at h;rw [h]
 | .int x,b,h=>by cases b <;> simp [bE] at h;rw [h]
 | .str x,b,h=>by cases b <;> simp [bE] at h;rw [h]
 | .ty x,b,h=>by cases b <;> simp [bE] at h;rw [h]
 | .ob x,b,h=>by cases b <;> simp [bE] at h;rw [h]
 | .tup x,b,h=>by cases b <;> simp [bE] at h;rw [dC _ _ h]
 | .lv x,b,h=>by cases b <;> simp [bE] at h;rw [dC _ _ h]
 | .ro x,b,h=>by cases b <;> simp [bE] at h;rw [dC _ _ h]
 | .dv x,b,h=>by cases b <;> simp [bE] at h;rw [iL _ _ h]
theorem dC:∀(a b:List D),fY a b=true->a=b
 | [],b,h=>by cases b <;> first | rfl | simp [fY] at h
 | x::r,b,h=>by
  cases b with
  | nil=>simp [fY] at h
  | cons y s=>simp [fY] at h;rw [kr _ _ h.1,dC _ _ h.2]
theorem iL:∀(a b:List (Key×D)),iM a b=true->a=b
 | [],b,h=>by cases b <;> first | rfl | simp [iM] at h
 | (k,x)::r,b,h=>by
  cases b with
  | nil=>simp [iM] at h
  | cons y s=>
   obtain ⟨j,y⟩:=y;simp [iM] at h;rw [h.1.1,kr _ _ h.1.2,iL _ _ h.2]
end
mutual
theorem gS:∀(a:D),bE a a=true
 | .non=>rfl
 | .bl x=>by simp [bE]
 | .int x=>by simp [bE]
 | .str x=>by simp [bE]
 | .ty x=>by simp [bE]
 | .ob x=>by simp [bE]
 | .tup x=>by simp [bE];exact bS x
 | .lv x=>by simp [bE];exact bS x
 | .ro x=>by simp [bE];exact bS x
 | .dv x=>by simp [bE];exact er x
theorem bS:∀(a:List D),fY a a=true
 | []=>rfl
 | x::r=>by simp [fY];exact ⟨gS x,bS r⟩
theorem er:∀(a:List (Key×D)),iM a a=true
 | []=>rfl
 | (k,x)::r=>by simp [iM];exact ⟨gS x,er r⟩
end
noncomputable def nr:MO->MO->Bool
 | .lst a,.lst b=>fY a b
 | .dct a,.dct b=>iM a b
 | _,_=>false
theorem ko (h:nr a b=true):a=b:=by
 cases a <;> cases b <;> simp [nr] at h
 ·rw [dC _ _ h]
 ·rw [iL _ _ h]
theorem lx (a:MO):nr a a=true:=by
 cases a with
 | lst x=>exact bS x
 | dct x=>exact er x
noncomputable def iN:MH->MH->Bool
 | [],[]=>true
 | a::r,b::s=>nr a b&&iN r s
 | _,_=>false
theorem kq:∀{a b:MH},iN a b=true->a=b
 | [],b,h=>by cases b <;> first | rfl | simp [iN] at h
 | x::r,b,h=>by
  cases b with
  | nil=>simp [iN] at h
  | cons y s=>simp [iN] at h;rw [ko h.1,kq h.2]
theorem gR:∀(a:MH),iN a a=true
 | []=>rfl
 | x::r=>by simp [iN];exact ⟨lx x,gR r⟩
noncomputable def dc:SM:=fun δ h=>some (.nx,δ,h)
noncomputable def uB:SM:=fun δ h=>some (.bk,δ,h)
noncomputable def tj:SM:=fun δ h=>some (.ct,δ,h)
noncomputable def jC:SM:=fun _ _=>none
noncomputable def aG (a b:SM):SM:=fun δ h=>(a δ h).bind fun r=>match r.1 with
 | .nx=>b r.2.1 r.2.2
 | _=>some r
noncomputable def bG (i:Nat) (e:EM):SM:=fun δ h=>(e δ h).bind fun p=>some (.nx,δ.set i (some p.1),p.2)
noncomputable def i1 (e:EM) (g:GM):SM:=fun δ h=>(e δ h).bind fun p=>(g p.1 δ p.2).bind fun q=>some (.nx,q.1,q.2)
noncomputable def gB (e:EM):SM:=fun δ h=>(e δ h).bind fun p=>some (.nx,δ,p.2)
noncomputable def bO (e:EM):SM:=fun δ h=>(e δ h).bind fun p=>some (.rt p.1,δ,p.2)
noncomputable def sIf (t:TM) (a b:SM):SM:=fun δ h=>(t δ h).bind fun p=>if p.1 then a δ p.2 else b δ p.2
noncomputable def gN (i:Nat):GM:=fun d δ h=>some (δ.set i (some d),h)
abbrev GMs:=List D->DS->MH->Option (DS×MH)
noncomputable def eE:GMs:=fun ds δ h=>match ds with
 | []=>some (δ,h)
 | _=>none
noncomputable def aV (g:GM) (u:GMs):GMs:=fun ds δ h=>match ds with
 | []=>none
 | d::r=>(g d δ h).bind fun p=>u r p.1 p.2
noncomputable def gT (n:Nat) (u:GMs):GM:=fun d δ h=>match d with
 | .tup xs=>if xs.length=n then u xs δ h else none
 | _=>none
abbrev W:=List (Nat×MO)
abbrev IM:=DS->MH->Option (List D×W×MH)
noncomputable def chk:W->MH->Bool
 | [],_=>true
 | (n,o)::r,h=>(match h[n]? with | some u=>nr u o | none=>false)&&chk r h
noncomputable def dm (ws:W) (g:GM) (b:SM):List D->SM
 | [],δ,h=>if chk ws h then some (.nx,δ,h) else none
 | x::r,δ,h=>if chk ws h then (g x δ h).bind fun q=>(b q.1 q.2).bind fun z=>match z.1 with
  | .nx=>dm ws g b r z.2.1 z.2.2
  | .ct=>dm ws g b r z.2.1 z.2.2
  | .bk=>some (.nx,z.2.1,z.2.2)
  | .rt d=>some (.rt d,z.2.1,z.2.2)
  else none
noncomputable def jD (i:IM) (g:GM) (b:SM):SM:=fun δ h=>(i δ h).bind fun p=>dm p.2.1 g b p.1 δ p.2.2
noncomputable def bU (c:TM) (b:SM):Nat->SM
 | 0,_,_=>none
 | n+1,δ,h=>(c δ h).bind fun p=>if p.1 then (b δ p.2).bind fun z=>match z.1 with
   | .nx=>bU c b n z.2.1 z.2.2
   | .ct=>bU c b n z.2.1 z.2.2
   | .bk=>some (.nx,z.2.1,z.2.2)
   | .rt d=>some (.rt d,z.2.1,z.2.2)
  else some (.nx,δ,p.2)
section
variable {X:Cx} {a b c e tg iter:Expr} {es:List Expr} {st:Stmt} {sts rest:List Stmt} {pos:Pos} {ma mb:EM} {mt:TM} {ms mu:SM} {m:AM} {g:GM} {gs:GMs}
theorem br:SSs X [] dc:=oh.imp fun E σ H ⟨ρ,δ,h,fl,δ',h',R,S,e,k⟩=>by
 cases e;exact k ρ H (.refl _ _) S σ R
theorem iZ:SS X st jC:=l4.imp fun E σ H ⟨ρ,δ,h,fl,δ',h',R,S,e,k⟩=>by cases e
theorem qk (hh:tMS X.K (aG ms mu) E σ H):sM (tMS X.K ms) (tMS X.K mu) E σ H:=by
 obtain ⟨ρ,δ,h,fl,δ',h',R,S,e,k⟩:=hh;obtain ⟨⟨f1,δ1,h1⟩,e1,e2⟩:=bnd e;cases f1 with
 | nx=>exact ⟨ρ,δ,h,.nx,δ1,h1,R,S,e1,fun ρ1 H1 T1 S1 σ' R'=>⟨ρ1,δ1,h1,fl,δ',h',R',S1,e2,fun ρ2 H2 T2 S2=>k ρ2 H2 (T1.trans T2) S2⟩⟩
 | bk=>cases e2;exact ⟨ρ,δ,h,.bk,_,_,R,S,e1,fun ρ1 H1 T1 S1=>k ρ1 H1 T1 S1⟩
 | ct=>cases e2;exact ⟨ρ,δ,h,.ct,_,_,R,S,e1,fun ρ1 H1 T1 S1=>k ρ1 H1 T1 S1⟩
 | rt d=>cases e2;exact ⟨ρ,δ,h,.rt d,_,_,R,S,e1,fun ρ1 H1 T1 S1=>k ρ1 H1 T1 S1⟩
theorem ah (h1:SS X st ms) (h2:SSs X rest mu):SSs X (st::rest) (aG ms mu):=(lZ h1 h2).imp fun _ _ _=>qk
theorem au (h1:SS X st ms):SSs X [st] ms:=og h1
theorem qj (hh:tMS X.K (bG i ma) E σ H):pZ (tM X.K ma) (mN i) E σ H:=by
 obtain ⟨ρ,δ,h,fl,δ',h',R,S,e,k⟩:=hh;walk_at "ab";cases e2;exact ⟨ρ,δ,h,x,h1,R,S,e1,fun v H1 ⟨ρ1,T1,S1,r1⟩=>k ρ1 H1 T1 S1 _ ((R.mono T1).set r1 i)⟩
theorem p4 (hN:X.N.Nodup) (hi:X.N[i]?=some x) (hx:Loc X.env.scope x) (he:SE X e ma) (hs:swapsWith e (some (.Name x pos')) pos.line X.env=pure false:=by kernel_rfl) (hf:X.fn x=true∨X.env.scope.names.lookup x=some .local:=by first | exact .inl rfl | exact .inr rfl | assumption):SS X (.Assign [.Name x pos'] e pos) (bG i ma):=(qF hN hi hx he hs hf).imp fun _ _ _=>qj
theorem nK (hN:X.N.Nodup) (hi:X.N[i]?=some x) (hx:Loc X.env.scope x) (hf:X.fn x=true∨X.env.scope.names.lookup x=some .local:=by first | exact .inl rfl | exact .inr rfl | assumption):SG X (.Name x pos) (gN i):=
 (ox hN hi hx hf).imp fun v σ H Q ⟨ρ,δ,h,d,δ',h',R,S,r,e,k⟩=>by
  cases e;exact k ρ H _ (.refl _ _) S (R.set r i)
inductive TMGsi (K:FR) (m:GMs) (vs:List V) (σ:L2.St) (H:Hp) (Q:L2.St->Hp->Prop):Prop where
 | mk (ρ δ h ds δ' h'):RepS K ρ H σ δ->Sim K ρ h H->RepL K ρ H vs ds->(m ds δ h=some (δ',h'))->(∀ρ' H' σ',Stp ρ H ρ' H'->Sim K ρ' h' H'->RepS K ρ' H' σ' δ'->Q σ' H')->TMGsi K m vs σ H Q
noncomputable def ux (K:FR) (m:GMs):TGs:=fun vs σ H Q=>TMGsi K m vs σ H Q
def SGs (X:Cx) (es:List Expr) (m:GMs):Prop:=PGs X es (ux X.K m)
theorem _root_.L2.PGs.imp {X:Cx} {e:List Expr} {t t':TGs} (h:PGs X e t) (i:∀v σ H Q,t' v σ H Q->t v σ H Q):PGs X e t':=fun pins s σ H v u Q I r q=>h pins s σ H v u Q I r (i v σ H Q q)
theorem c7:SGs X [] eE:=ow.imp fun v σ H Q ⟨ρ,δ,h,d,δ',h',R,S,r,e,k⟩=>by
 cases r with
 | nil=>cases e;exact ⟨rfl,k ρ H σ (.refl _ _) S R⟩
 | cons _ _=>cases e
theorem aL (h1:SG X e g) (h2:SGs X es gs) (hs:(assignEach (e::es) X.env).map (·.2)=assign e X.env::(assignEach es X.env).map (·.2):=by kernel_rfl):SGs X (e::es) (aV g gs):=(l7 h1 h2 hs).imp fun v σ H Q ⟨ρ,δ,h,d,δ',h',R,S,r,e,k⟩=>by
 cases r with
 | nil=>cases e
 | cons r rs=>
  obtain ⟨⟨δ1,h1⟩,e1,e2⟩:=bnd e;exact ⟨_,_,rfl,ρ,δ,h,_,δ1,h1,R,S,r,e1,fun ρ1 H1 σ1 T1 S1 R1=>⟨ρ1,δ1,h1,_,δ',h',R1,S1,rs.mono T1,e2,fun ρ2 H2 σ2 T2 S2 R2=>k ρ2 H2 σ2 (T1.trans T2) S2 R2⟩⟩
theorem ft (hc:X.calm=true) (h:SGs X es gs) (hn:(assignEach es X.env).length=n:=by kernel_rfl) (hst:(assignEach es X.env).findIdx? (·.1)=none:=by kernel_rfl):SG X (.Tuple es k0 pos) (gT n gs):=
 (qN hc h hn hst).imp fun v σ H Q ⟨ρ,δ,h,d,δ',h',R,S,r,e,k⟩=>by
  cases r <;> first | (exact absurd e (by intro z;cases z)) | skip
  rename_i a vs ds ht l _;unfold gT at e;dsimp only at e
  by_cases z:ds.length=n
  ·rw [if_pos z] at e;exact ⟨a,vs,rfl,ht.sq,by rw [l.length];exact z,ρ,δ,h,ds,δ',h',R,S,l,e,k⟩
  ·rw [if_neg z] at e;cases e
theorem dM (he:SE X e ma) (hg:SG X tg g) (hs:swapsWithSole [tg] e pos.line X.env=pure false:=by kernel_rfl) (hw:swappedStores [tg] e X.env=pure none:=by kernel_rfl)
  (h1:(assignEach [tg] X.env).map (·.2)=[assign tg X.env]:=by kernel_rfl):SS X (.Assign [tg] e pos) (i1 ma g):=(qI he hg hs hw h1).imp fun E σ H ⟨ρ,δ,h,fl,δ',h',R,S,e,k⟩=>by
 walk_at "ab";obtain ⟨⟨δ2,h2⟩,e4,e3⟩:=bnd e2;cases e3;exact ⟨ρ,δ,h,x,h1,R,S,e1,fun v H1 ⟨ρ1,T1,S1,r1⟩=>⟨ρ1,δ,h1,x,_,_,R.mono T1,S1,r1,e4,fun ρ2 H2 σ2 T2 S2 R2=>k ρ2 H2 (T1.trans T2) S2 σ2 R2⟩⟩
theorem eW (he:SE X e ma) (hs:swapsWith e none pos.line X.env=pure false:=by kernel_rfl):SS X (.Expr e pos) (gB ma):=(om he hs).imp fun E σ H ⟨ρ,δ,h,fl,δ',h',R,S,e,k⟩=>by
 walk_at "ab";cases e2;exact ⟨ρ,δ,h,x,h1,R,S,e1,fun v H1 ⟨ρ1,T1,S1,r1⟩=>k ρ1 H1 T1 S1 σ (R.mono T1)⟩
theorem aI (he:SE X e ma):SS X (.Return (some e) pos) (bO ma):=(qG he).imp fun E σ H ⟨ρ,δ,h,fl,δ',h',R,S,e,k⟩=>by
 walk_at "ab";cases e2;exact ⟨ρ,δ,h,x,h1,R,S,e1,fun v H1 ⟨ρ1,T1,S1,r1⟩=>k ρ1 H1 T1 S1 v r1⟩
theorem bM (hc:ST X c mt) (ha:SSs X sa ms) (hb:SSs X sb mu):SS X (.If c sa sb pos) (sIf mt ms mu):=(tK hc ha hb).imp fun E σ H ⟨ρ,δ,h,fl,δ',h',R,S,e,k⟩=>by
 walk_at "ab";refine ⟨ρ,δ,h,x,h1,R,S,e1,fun ρ1 H1 T1 S1=>?_⟩;cases x with
 | true=>rw [if_pos rfl] at e2 ⊢;exact ⟨ρ1,δ,h1,fl,δ',h',R.mono T1,S1,e2,fun ρ2 H2 T2 S2=>k ρ2 H2 (T1.trans T2) S2⟩
 | false=>rw [if_neg (by simp)] at e2 ⊢;exact ⟨ρ1,δ,h1,fl,δ',h',R.mono T1,S1,e2,fun ρ2 H2 T2 S2=>k ρ2 H2 (T1.trans T2) S2⟩
structure ItS (K:FR) (J:It) (ρ:Ad) (H:Hp) (ws:W) (xs:List D):Prop where
 run:∀ρ1 H1 h1,Ch ρ H ρ1 H1->Sim K ρ1 h1 H1->chk ws h1=true->∀i:Nat,(xs.length≤i->J.stop i H1)∧∀x,xs[i]?=some x->J.go i H1∧∀v H2,J.yld i H1 v H2->Stp ρ1 H1 ρ1 H2∧Sim K ρ1 h1 H2∧Rep K ρ1 H2 v x
inductive TMIi (K:FR) (m:IM) (σ:L2.St) (H:Hp) (R:It->Hp->Prop):Prop where
 | mk (ρ δ h xs ws h'):RepS K ρ H σ δ->Sim K ρ h H->(m δ h=some (xs,ws,h'))->(∀J ρ1 H1,Stp ρ H ρ1 H1->Sim K ρ1 h' H1->ItS K J ρ1 H1 ws xs->R J H1)->TMIi K m σ H R
def tMI (K:FR) (m:IM):TI:=fun σ H R=>TMIi K m σ H R
def SI (X:Cx) (tg iter:Expr) (m:IM):Prop:=PI X tg iter (tMI X.K m)
theorem _root_.L2.PI.imp (h:PI X tg e t) (i:∀σ H Q,t' σ H Q->t σ H Q):PI X tg e t':=fun pins s σ H R I q=>h pins s σ H R I (i σ H R q)
theorem ql (hh:tMS X.K (jD mi g ms) E σ H):sR (tMI X.K mi) (tMG X.K g) (tMS X.K ms) E σ H:=by
 obtain ⟨ρ,δ,h,fl,δ',h',R,S,e,k⟩:=hh;obtain ⟨⟨xs,ws,h1⟩,e1,e2⟩:=bnd e;refine ⟨ρ,δ,h,xs,ws,h1,R,S,e1,fun J ρ1 H1 T1 S1 It=>?_⟩;refine ⟨fun i m σ2 H2=>∃ρ2 δ2 h2,m=xs.length-i∧i≤xs.length∧Stp ρ1 H1 ρ2 H2∧RepS X.K ρ2 H2 σ2 δ2∧Sim X.K ρ2 h2 H2∧dm ws g ms (xs.drop i) δ2 h2=some (fl,δ',h'),⟨_,ρ1,δ,h1,rfl,Nat.zero_le _,.refl _ _,R.mono T1,S1,e2⟩,?_⟩;rintro i m σ2 H2 ⟨ρ2,δ2,h2,rfl,hi,T2,R2,S2,e3⟩;cases q:xs.drop i with
 | nil=>
  rw [q] at e3;unfold dm at e3
  by_cases hc:chk ws h2=true
  ·rw [if_pos hc] at e3;cases e3;have hl:xs.length≤i:=by have:=congrArg List.length q;rw [List.length_drop,List.length_nil] at this;lia
   exact .inl ⟨(It.run ρ2 H2 _ T2 S2 hc i).1 hl,k ρ2 H2 (T1.trans T2) S2 σ2 R2⟩
  ·rw [if_neg hc] at e3;cases e3
 | cons x r=>
  rw [q] at e3;unfold dm at e3
  by_cases hc:chk ws h2=true
  ·rw [if_pos hc] at e3;have hx:xs[i]?=some x:=by
    have:=congrArg (fun l=>l[0]?) q
    simpa using this
   have hlt:i < xs.length:=(List.getElem?_eq_some_iff.mp hx).1;have hr:xs.drop (i+1)=r:=by
    have:=congrArg List.tail q
    simpa using this
   obtain ⟨⟨δ3,h3⟩,e4,e5⟩:=bnd e3;obtain ⟨⟨f4,δ4,h4⟩,e6,e7⟩:=bnd e5;obtain ⟨hgo,hy⟩:=(It.run ρ2 H2 h2 T2 S2 hc i).2 x hx;have NN:∀ρ5 H5 σ5,Stp ρ2 H2 ρ5 H5->Sim X.K ρ5 h4 H5->RepS X.K ρ5 H5 σ5 δ4->dm ws g ms r δ4 h4=some (fl,δ',h')->
     ∃m',m' < xs.length-i∧(∃ρ2 δ2 h2,m'=xs.length-(i+1)∧i+1≤xs.length∧Stp ρ1 H1 ρ2 H5∧RepS X.K ρ2 H5 σ5 δ2∧Sim X.K ρ2 h2 H5∧dm ws g ms (xs.drop (i+1)) δ2 h2=some (fl,δ',h')):=
    fun ρ5 H5 σ5 T5 S5 R5 e8=>⟨xs.length-(i+1),by lia,ρ5,δ4,h4,rfl,hlt,T2.trans T5,R5,S5,by rw [hr];exact e8⟩
   refine .inr ⟨hgo,fun σ5 H5=>∃ρ5,Stp ρ2 H2 ρ5 H5∧Sim X.K ρ5 h4 H5∧RepS X.K ρ5 H5 σ5 δ4∧dm ws g ms r δ4 h4=some (fl,δ',h'),fun σ5 H5 ⟨ρ5,T5,S5,R5,e8⟩=>NN ρ5 H5 σ5 T5 S5 R5 e8,fun v H3 y3=>?_⟩;obtain ⟨T3,S3,r3⟩:=hy v H3 y3;refine ⟨ρ2,δ2,h2,x,δ3,h3,R2.mono T3,S3,r3,e4,fun ρ4 H4 σ4 T4 S4 R4=>?_⟩;refine ⟨ρ4,δ3,h3,f4,δ4,h4,R4,S4,e6,fun ρ5 H5 T5 S5=>?_⟩;have T25:Stp ρ2 H2 ρ5 H5:=T3.trans (T4.trans T5);cases f4 with
   | nx=>exact fun σ' R'=>⟨ρ5,T25,S5,R',e7⟩
   | ct=>exact fun σ' R'=>⟨ρ5,T25,S5,R',e7⟩
   | bk=>cases e7;exact fun σ' R'=>k ρ5 H5 (T1.trans (T2.trans T25)) S5 σ' R'
   | rt d=>cases e7;exact fun v r=>k ρ5 H5 (T1.trans (T2.trans T25)) S5 v r
  ·rw [if_neg hc] at e3;cases e3
theorem g9 (hp:PassesOwn (model X.prog X.w) X.A X.env X.xe) (hc:X.calm=true) (hi:SI X tg iter mi) (hg:SG X tg g) (hb:SSs X body ms) (hs:∀x,foldedSetIterable iter X.env x=pure x:=by intro _;kernel_rfl):SS X (.For tg iter body [] pos) (jD mi g ms):=
 (qH hp hc hi hg hb hs).imp fun _ _ _=>ql
theorem lT (hh:tMS X.K (bU mt ms n) E σ H):lI (tMT X.K mt) (tMS X.K ms) E σ H:=by
 obtain ⟨ρ,δ,h,fl,δ',h',R,S,e,k⟩:=hh;refine ⟨fun m σ2 H2=>∃ρ2 δ2 h2,Stp ρ H ρ2 H2∧RepS X.K ρ2 H2 σ2 δ2∧Sim X.K ρ2 h2 H2∧bU mt ms m δ2 h2=some (fl,δ',h'),⟨n,ρ,δ,h,.refl _ _,R,S,e⟩,?_⟩;rintro m σ2 H2 ⟨ρ2,δ2,h2,T2,R2,S2,e2⟩;cases m with
 | zero=>cases e2
 | succ m=>
  obtain ⟨⟨x,h3⟩,e3,e4⟩:=bnd e2;refine ⟨ρ2,δ2,h2,x,h3,R2,S2,e3,fun ρ3 H3 T3 S3=>?_⟩;cases x with
  | false=>rw [if_neg (by simp)] at e4 ⊢;cases e4;exact k ρ3 H3 (T2.trans T3) S3 σ2 (R2.mono T3)
  | true=>
   rw [if_pos rfl] at e4 ⊢;obtain ⟨⟨f4,δ4,h4⟩,e5,e6⟩:=bnd e4;refine ⟨fun σ5 H5=>∃ρ5,Stp ρ3 H3 ρ5 H5∧Sim X.K ρ5 h4 H5∧RepS X.K ρ5 H5 σ5 δ4∧bU mt ms m δ4 h4=some (fl,δ',h'),fun σ5 H5 ⟨ρ5,T5,S5,R5,e8⟩=>⟨m,Nat.lt_succ_self m,ρ5,δ4,h4,T2.trans (T3.trans T5),R5,S5,e8⟩,?_⟩;refine ⟨ρ3,δ2,h3,f4,δ4,h4,R2.mono T3,S3,e5,fun ρ5 H5 T5 S5=>?_⟩;cases f4 with
   | nx=>exact fun σ' R'=>⟨ρ5,T5,S5,R',e6⟩
   | ct=>exact fun σ' R'=>⟨ρ5,T5,S5,R',e6⟩
   | bk=>cases e6;exact fun σ' R'=>k ρ5 H5 (T2.trans (T3.trans T5)) S5 σ' R'
   | rt d=>cases e6;exact fun v r=>k ρ5 H5 (T2.trans (T3.trans T5)) S5 v r
theorem lL (hp:PassesOwn (model X.prog X.w) X.A X.env X.xe) (hc:ST X c mt) (hb:SSs X body ms):SS X (.While c body [] pos) (bU mt ms n):=(l3 hp hc hb).imp fun _ _ _=>lT
end
end Sm
namespace L2
open PySem PySem.Spec PyProof.Rows
theorem qM (hl:PE X l tl):PI X tg l (fun σ H R=>tl σ H fun x H1=>∃a,x=.ref a∧(((∃xs,SqL X.K H1 a xs)∧R (Itl X.K a) H1)∨((∃xs,SqT X.K H1 a xs)∧R (Itt X.K a) H1))):=by
 intro pins s σ H R I h;refine thn (hl pins s σ H _ I h) fun v s1 ⟨x,H1,I1,r1,q1⟩=>?_;obtain ⟨a,e,q1⟩:=q1;subst e;cases r1;rcases q1 with ⟨⟨xs,hq⟩,q⟩ | ⟨⟨xs,hq⟩,q⟩
 ·obtain ⟨its,rv,p,hz⟩:=I1.list hq;refine wpAny_pyIter_list p.isList ?_;refine ⟨s1.heap.objs.size,[s1.heap.objs.size],_,_,H1,rfl,I1.kept (t':=s1.toks) fun b o e=>Heap.get?_push_of_some _ e,kD a _,⟨_,Heap.get?_push_size _ rfl,rfl,rfl⟩,fun b hb=>?_,q⟩;have e:b=s1.heap.objs.size:=by simpa using hb
  subst e;exact I1.kZ (Nat.le_refl _) (I1.hok.fresh (Nat.le_refl _))
 ·obtain ⟨its,rv,p,hz⟩:=I1.tuple hq;refine wpAny_pyIter_tuple (show s1.heap.IsTuple a its.toArray from p) ?_;refine ⟨s1.heap.objs.size,[s1.heap.objs.size],_,_,H1,rfl,I1.kept (t':=s1.toks) fun b o e=>Heap.get?_push_of_some _ e,ju a _,⟨_,Heap.get?_push_size _ rfl,rfl,rfl⟩,fun b hb=>?_,q⟩;have e:b=s1.heap.objs.size:=by simpa using hb
  subst e;exact I1.kZ (Nat.le_refl _) (I1.hok.fresh (Nat.le_refl _))
end L2
namespace Sm
open PySem L2
noncomputable def aU (d:D) (h:MH):Option (List D×W):=match d with
 | .lv xs=>some (xs,[])
 | .ro xs=>some (xs,[])
 | .tup xs=>some (xs,[])
 | .ob n=>match h[n]? with
  | some (.lst xs)=>some (xs,[(n,.lst xs)])
  | _=>none
 | _=>none
noncomputable def eV (e:EM):IM:=fun δ h=>(e δ h).bind fun p=>(aU p.1 p.2).map fun q=>(q.1,q.2,p.2)
noncomputable def mL (m:AM):IM:=fun δ h=>(m δ h).bind fun p=>match p.1 with
 | [.int j]=>if -(2^62)≤j∧j < 2^62 then some ((List.range j.toNat).map fun (k:Nat)=>D.int (k:Int),[],p.2) else none
 | [.int i,.int j]=>if -(2^62)≤i∧i < 2^62∧-(2^62)≤j∧j < 2^62 then some ((List.range (j-i).toNat).map fun (k:Nat)=>D.int (i+(k:Int)),[],p.2) else none
 | _=>none
theorem iz (hl:∀ρ1 H1 h1,Ch ρ H ρ1 H1->Sim K ρ1 h1 H1->chk ws h1=true->∃vs,RepL K ρ1 H1 vs xs∧(∀i:Nat,vs.length≤i->J.stop i H1)∧∀(i:Nat) v,vs[i]?=some v->J.go i H1∧∀u H2,J.yld i H1 u H2->H2=H1∧u=v):ItS K J ρ H ws xs:=by
 refine ⟨fun ρ1 H1 h1 T S hc i=>?_⟩;obtain ⟨vs,l,s1,s2⟩:=hl ρ1 H1 h1 T S hc;refine ⟨fun hi=>s1 i (by rw [l.length];exact hi),fun x hx=>?_⟩;obtain ⟨v,hv,r⟩:=l.got hx;obtain ⟨g,y⟩:=s2 i v hv;refine ⟨g,fun u H2 yy=>?_⟩;obtain ⟨rfl,rfl⟩:=y u H2 yy;exact ⟨.refl _ _,S,r⟩
theorem rO (hl:∀ρ1 H1 h1,Ch ρ H ρ1 H1->Sim K ρ1 h1 H1->chk ws h1=true->∃vs,RepL K ρ1 H1 vs xs∧SqL K H1 a vs):ItS K (Itl K a) ρ H ws xs:=
 iz fun ρ1 H1 h1 T S hc=>by
  obtain ⟨vs,l,q⟩:=hl ρ1 H1 h1 T S hc;refine ⟨vs,l,fun i hi=>⟨vs,q,hi⟩,fun i v hv=>⟨⟨vs,v,q,hv⟩,fun u H2 ⟨e,y⟩=>⟨e,?_⟩⟩⟩;have:=y vs q;rw [hv] at this;exact (Option.some.inj this).symm
theorem rL (hl:∀ρ1 H1 h1,Ch ρ H ρ1 H1->Sim K ρ1 h1 H1->chk ws h1=true->∃vs,RepL K ρ1 H1 vs xs∧SqT K H1 a vs):ItS K (Itt K a) ρ H ws xs:=
 iz fun ρ1 H1 h1 T S hc=>by
  obtain ⟨vs,l,q⟩:=hl ρ1 H1 h1 T S hc;refine ⟨vs,l,fun i hi=>⟨vs,q,hi⟩,fun i v hv=>⟨⟨vs,v,q,hv⟩,fun u H2 ⟨e,y⟩=>⟨e,?_⟩⟩⟩;have:=y vs q;rw [hv] at this;exact (Option.some.inj this).symm
theorem o9 (hc:chk [(n,o)] h=true):h[n]?=some o:=by
 unfold chk at hc;cases q:h[n]? with
 | none=>rw [q] at hc;cases hc
 | some u=>
  rw [q] at hc;simp [chk] at hc;rw [ko hc]
inductive SeqAt (K:FR) (H:Hp) (a:Addr) (vs:List V):Bool->Prop where
 | l:SqL K H a vs->SeqAt K H a vs true
 | t:SqT K H a vs->SeqAt K H a vs false
noncomputable def eT:D->Bool
 | .tup _=>false
 | _=>true
theorem cW (S:Sim K ρ h H) (r:Rep K ρ H v d) (e:aU d h=some (xs,ws)):∃a,v=.ref a∧(∃vs,SeqAt K H a vs (eT d)∧RepL K ρ H vs xs)∧
  ∀ρ1 H1 h1,Ch ρ H ρ1 H1->Sim K ρ1 h1 H1->chk ws h1=true->∃vs,RepL K ρ1 H1 vs xs∧SeqAt K H1 a vs (eT d):=by
 cases r with
 | tup ht l=>
  cases e;refine ⟨_,rfl,⟨_,.t ht.sq,l⟩,fun ρ1 H1 h1 T S1 _=>?_⟩;cases (Rep.tup ht l).mono T with
  | tup h1 l1=>exact ⟨_,l1,.t h1.sq⟩
 | lv ht n l=>
  cases e;refine ⟨_,rfl,⟨_,.l (SqL.of ht),l⟩,fun ρ1 H1 h1 T S1 _=>?_⟩;cases (Rep.lv ht n l).mono T with
  | lv h1 _ l1=>exact ⟨_,l1,.l (SqL.of h1)⟩
 | ro ht l=>
  cases e;refine ⟨_,rfl,⟨_,.l ht.sq,l⟩,fun ρ1 H1 h1 T S1 _=>?_⟩;cases (Rep.ro ht l).mono T with
  | ro h1 l1=>exact ⟨_,l1,.l h1.sq⟩
 | @ob a n hn=>
  unfold aU at e;dsimp only at e;cases q:h[n]? with
  | none=>rw [q] at e;cases e
  | some o=>
   rw [q] at e;cases o with
   | dct _=>cases e
   | lst ys=>
    cases e;obtain ⟨vs,e1,l⟩:=S.at_ n a _ hn q;refine ⟨a,rfl,⟨vs,.l (SqL.of e1),l⟩,fun ρ1 H1 h1 T S1 hc=>?_⟩;obtain ⟨us,e2,l2⟩:=S1.at_ n a _ (T.pre n a hn) (o9 hc);exact ⟨us,l2,.l (SqL.of e2)⟩
 | non=>cases e
 | bl b=>cases e
 | int i=>cases e
 | str x=>cases e
 | ty x=>cases e
 | dv _ _ _=>cases e
section
variable {X:Cx} {a b c e tg iter:Expr} {es:List Expr} {pos:Pos} {ma mb:EM} {mt:TM} {ms mu:SM} {m:AM} {g:GM} {gs:GMs}
theorem jy (h:SE X e ma):SI X tg e (eV ma):=(qM h).imp fun σ H Q ⟨ρ,δ,h,xs,ws,h',R,S,e,k⟩=>by
 walk_at "ab";obtain ⟨⟨ys,w⟩,e3,e4⟩:=mpd e2;cases e4;walk_at "af";obtain ⟨a,rfl,⟨vs,q,l⟩,st⟩:=cW S1 r1 e3;refine ⟨a,rfl,?_⟩;generalize eT x=b at q st;cases q with
 | l q=>exact .inl ⟨⟨vs,q⟩,k _ ρ1 H1 T1 S1 (rO fun ρ2 H2 h2 T2 S2 hc=>by obtain ⟨us,l2,q2⟩:=st ρ2 H2 h2 T2 S2 hc;cases q2 with | l q2=>exact ⟨us,l2,q2⟩)⟩
 | t q=>exact .inr ⟨⟨vs,q⟩,k _ ρ1 H1 T1 S1 (rL fun ρ2 H2 h2 T2 S2 hc=>by obtain ⟨us,l2,q2⟩:=st ρ2 H2 h2 T2 S2 hc;cases q2 with | t q2=>exact ⟨us,l2,q2⟩)⟩
theorem dS:∀(ns:List Int),RepL K ρ H (ns.map V.int) (ns.map D.int)
 | []=>.nil
 | _::r=>.cons (.int _) (dS r)
theorem rN (lo:Int) (n:Nat):ItS K (Itr lo n) ρ H [] ((List.range n).map fun (k:Nat)=>D.int (lo+(k:Int))):=by
 refine iz fun ρ1 H1 h1 T S hc=>⟨(List.range n).map fun (k:Nat)=>V.int (lo+(k:Int)),?_,fun i hi=>?_,fun i v hv=>?_⟩
 ·have:=dS (K:=K) (ρ:=ρ1) (H:=H1) ((List.range n).map fun (k:Nat)=>lo+(k:Int));rw [List.map_map,List.map_map] at this;exact this
 ·rw [List.length_map,List.length_range] at hi;exact hi
 ·rw [List.getElem?_map] at hv;obtain ⟨j,e1,e2⟩:=mpd hv;obtain ⟨hlt,e3⟩:=List.getElem?_eq_some_iff.mp e1;rw [List.length_range] at hlt;rw [List.getElem_range] at e3;subst e3;subst e2;exact ⟨hlt,fun u H2 ⟨p,q⟩=>⟨p,q⟩⟩
theorem kL (l:RepL K ρ H vs [.int j]):vs=[.int j]:=by
 cases l with
 | cons r l=>cases l;cases r;rfl
theorem dN (hg:Gl X "range") (hm:X.mg "range"=none) (ha:SA X [a] m) (hs:starEach [a] X.env=[(false,eval a X.env)]:=by kernel_rfl) (hl:f6 m 1):SI X tg (.Call (.Name "range" p) [a] [] pos) (mL m):=
 (kN hg hm ha hs).imp fun σ H Q ⟨ρ,δ,h,xs,ws,h',R,S,e,k⟩=>by
  walk_at "ab";refine ⟨ρ,δ,h,x,h1,R,S,e1,fun vs ρ1 H1 T1 S1 r1=>?_⟩
  match x,hl _ _ _ _ e1,e2,r1 with
  | [d],hl1,e2,r1=>
   cases d <;> first | exact absurd e2 (by intro z;cases z) | skip
   rename_i j;dsimp only at e2
   by_cases z:-(2^62)≤j∧j < 2^62
   ·rw [if_pos z] at e2;cases e2;refine ⟨j,kL r1,z.1,z.2,k _ ρ1 H1 T1 S1 ?_⟩;have:=rN (K:=X.K) (ρ:=ρ1) (H:=H1) 0 j.toNat
    simpa using this
   ·rw [if_neg z] at e2;cases e2
noncomputable def eG (caps:List (Option Nat)) (δ:DS):DS:=caps.map fun o=>o.bind fun i=>(δ[i]?).join
noncomputable def bV:TM:=fun _ h=>some (true,h)
noncomputable def bI (ws:W) (g:GM) (c:TM) (e:EM):List D->DS->MH->Option (List D×MH)
 | [],_,h=>if chk ws h then some ([],h) else none
 | x::r,δ,h=>if chk ws h then (g x δ h).bind fun q=>(c q.1 q.2).bind fun t=>if t.1 then (e q.1 t.2).bind fun y=>(bI ws g c e r q.1 y.2).map fun z=>(y.1::z.1,z.2) else bI ws g c e r q.1 t.2 else none
noncomputable def bF (caps:List (Option Nat)) (i:IM) (g:GM) (c:TM) (e:EM):AM:=fun δ h=>(i δ h).bind fun p=>(bI p.2.1 g c e p.1 (eG caps δ) p.2.2).bind fun q=>if q.1.length≤sizeLine then some q else none
theorem RepS.gp (R:RepS K ρ H σ δ) (caps:List (Option Nat)):RepS K ρ H (gp caps σ) (eG caps δ):=by
 refine ⟨by simp [L2.gp,eG],fun i d hd=>?_⟩;unfold eG at hd;rw [List.getElem?_map] at hd;obtain ⟨o,e1,e2⟩:=mpd hd;cases o with
 | none=>cases e2
 | some j=>
  have e3:δ[j]?=some (some d):=Option.join_eq_some_iff.mp e2;obtain ⟨v,ev,r⟩:=R.at_ j d e3;refine ⟨v,?_,r⟩;unfold L2.gp;rw [List.getElem?_map,e1];simp [ev]
def SIf (X:Cx) (ifs:List Expr) (m:TM):Prop:=PIf X ifs (tMT X.K m)
theorem eX:SIf X [] bV:=fun pins s σ H Q I hh=>by
 obtain ⟨ρ,δ,h,b,h',R,S,e,k⟩:=hh;cases e;exact ou pins s σ H Q I (k ρ H (.refl _ _) S)
theorem nW (hh:tM X.K (eLv (bF caps mi g mt ma)) σ H Q):pj caps (tMI X.K mi) (tMG X.K g) (tMT X.K mt) (tM X.K ma) σ H Q:=by
 obtain ⟨ρ,δ,h,d,h',R,S,ee,k⟩:=hh;obtain ⟨⟨out,h0⟩,ea,e0⟩:=mpd ee;cases e0;obtain ⟨⟨xs,ws,h1⟩,e1,eb⟩:=bnd ea;obtain ⟨⟨ys,h2⟩,e2,e3⟩:=bnd eb;dsimp only at e2 e3
 by_cases hz:ys.length≤sizeLine
 ·rw [if_pos hz] at e3;cases e3;refine ⟨ρ,δ,h,xs,ws,h1,R,S,e1,fun J ρ1 H1 T1 S1 It l hl=>?_⟩;have nl:¬ρ1.has l:=S1.fresh hl;have Tl:Ch ρ1 H1 (ρ1.keep l) (upd H1 l (.lst [])):=Ch.keep hl;refine ⟨fun i m τ2 H2=>∃(ob2:List Addr) (δ2:DS) (h2:MH) (vs:List V) (as bs:List D),m=xs.length-i∧i≤xs.length∧Ch ρ1 H1 ⟨ob2,l::ρ1.rs⟩ H2∧(∀b∈ρ1.rs,H2 b=H1 b)∧RepS X.K ⟨ob2,l::ρ1.rs⟩ H2 τ2 δ2∧Sim X.K ⟨ob2,l::ρ1.rs⟩ h2 H2∧
    H2 l=some (.lst vs)∧RepL X.K ⟨ob2,l::ρ1.rs⟩ H2 vs as∧out=as++bs∧bI ws g mt ma (xs.drop i) δ2 h2=some (bs,h0),
   ⟨_,ρ1.ob,eG caps δ,h1,[],[],out,rfl,Nat.zero_le _,Tl,fun b hb=>ai fun z=>nl (.inr (z ▸ hb)),((R.mono T1).gp caps).mono Tl,S1.keep hl,az,.nil,rfl,e2⟩,?_⟩
  rintro i m τ2 H2 ⟨ob2,δ2,h2,vs,as,bs,rfl,hi,T2,rs2,R2,S2,hl2,l2,eo,e3⟩;have hsub:∀b∈ρ1.rs,b∈l::ρ1.rs:=fun b hb=>List.mem_cons_of_mem _ hb;have C2:Ch ⟨ob2,l::ρ1.rs⟩ H2 ⟨ob2,ρ1.rs⟩ H2:=Ch.free hsub;have T2':Stp ρ1 H1 ⟨ob2,ρ1.rs⟩ H2:=⟨T2.trans C2,rfl,rs2⟩;have S2':Sim X.K ⟨ob2,ρ1.rs⟩ h2 H2:=S2.free hsub;cases q:xs.drop i with
  | nil=>
   rw [q] at e3;unfold bI at e3
   by_cases hc:chk ws h2=true
   ·rw [if_pos hc] at e3;cases e3;rw [List.append_nil] at eo;subst eo;have hle:xs.length≤i:=by have:=congrArg List.length q;rw [List.length_drop,List.length_nil] at this;lia
    refine .inl ⟨(It.run _ H2 _ T2 S2 hc i).1 hle,k _ _ ⟨_,T1.trans T2',S2',.lv hl2 (fun z=>?_) (l2.mono C2)⟩⟩;rcases z with z | z
    ·exact (S2.rsv l List.mem_cons_self).2 z
    ·exact nl (.inr z)
   ·rw [if_neg hc] at e3;cases e3
  | cons x r=>
   rw [q] at e3;unfold bI at e3
   by_cases hc:chk ws h2=true
   ·rw [if_pos hc] at e3;have hx:xs[i]?=some x:=by
     have:=congrArg (fun l=>l[0]?) q
     simpa using this
    have hlt:i < xs.length:=(List.getElem?_eq_some_iff.mp hx).1;have hr:xs.drop (i+1)=r:=by
     have:=congrArg List.tail q
     simpa using this
    obtain ⟨⟨δ3,h3⟩,e4,e5⟩:=bnd e3;obtain ⟨⟨t,h4⟩,e6,e7⟩:=bnd e5;dsimp only at e4 e5 e6 e7;obtain ⟨hgo,hy⟩:=(It.run _ H2 h2 T2 S2 hc i).2 x hx;refine .inr ⟨hgo,fun τ5 H5=>∃(ob5:List Addr) (h5:MH) (vs:List V) (as bs:List D),Ch ρ1 H1 ⟨ob5,l::ρ1.rs⟩ H5∧(∀b∈ρ1.rs,H5 b=H1 b)∧RepS X.K ⟨ob5,l::ρ1.rs⟩ H5 τ5 δ3∧Sim X.K ⟨ob5,l::ρ1.rs⟩ h5 H5∧
     H5 l=some (.lst vs)∧RepL X.K ⟨ob5,l::ρ1.rs⟩ H5 vs as∧out=as++bs∧bI ws g mt ma r δ3 h5=some (bs,h0),?_,?_⟩
    ·rintro τ5 H5 ⟨ob5,h5,vs5,as5,bs5,T5,rs5,R5,S5,hl5,l5,eo5,e5⟩;exact ⟨xs.length-(i+1),by lia,ob5,δ3,h5,vs5,as5,bs5,rfl,hlt,T5,rs5,R5,S5,hl5,l5,eo5,by rw [hr];exact e5⟩
    ·intro v H3 y3;obtain ⟨T3,S3,r3⟩:=hy v H3 y3;refine ⟨⟨ob2,l::ρ1.rs⟩,δ2,h2,x,δ3,h3,R2.mono T3,S3,r3,e4,fun ρ4 H4 τ4 T4 S4 R4=>?_⟩;refine ⟨ρ4,δ3,h3,t,h4,R4,S4,e6,fun ρ5 H5 T5 S5=>?_⟩;have T25:Stp ⟨ob2,l::ρ1.rs⟩ H2 ρ5 H5:=T3.trans (T4.trans T5);obtain ⟨ob5,rs5⟩:=ρ5;have ers:rs5=l::ρ1.rs:=T25.rs;subst ers;cases t with
     | false=>
      rw [if_neg (by simp)] at e7;refine vc ?_;exact ⟨ob5,h4,vs,as,bs,T2.trans T25.toCh,fun b hb=>(T25.res b (hsub b hb)).trans (rs2 b hb),R4.mono T5,S5,(T25.res l List.mem_cons_self).trans hl2,l2.mono T25.toCh,eo,e7⟩
     | true=>
      rw [if_pos rfl] at e7;refine vb ?_;obtain ⟨⟨y,h6⟩,e8,e9⟩:=bnd e7;obtain ⟨⟨zs,h7⟩,e10,e11⟩:=mpd e9;cases e11;refine ⟨⟨ob5,l::ρ1.rs⟩,δ3,h4,y,h6,R4.mono T5,S5,e8,fun u H6 ⟨ρ6,T6,S6,r6⟩=>?_⟩;have T26:Stp ⟨ob2,l::ρ1.rs⟩ H2 ρ6 H6:=T25.trans T6;obtain ⟨ob6,rs6⟩:=ρ6;have ers:rs6=l::ρ1.rs:=T26.rs;subst ers;have hl6:H6 l=some (.lst vs):=(T26.res l List.mem_cons_self).trans hl2;have hml:l∈(⟨ob6,l::ρ1.rs⟩:Ad).rs:=List.mem_cons_self;have hlen:vs.length < sizeLine:=by
       have h1:=l2.length;have h2:=congrArg List.length eo;rw [List.length_append,List.length_cons] at h2
       lia
      have Cp:Ch ⟨ob6,l::ρ1.rs⟩ H6 ⟨ob6,l::ρ1.rs⟩ (upd H6 l (.lst (vs++[u]))):=Ch.put hml;refine ⟨vs,hl6,hlen,ob6,h6,vs++[u],as++[y],zs,(T2.trans T26.toCh).trans Cp,fun b hb=>?_,((R4.mono T5.toCh).mono T6.toCh).mono Cp,S6.put hml,az,((l2.mono T26.toCh).snoc r6).mono Cp,by rw [eo];simp,e10⟩;rw [ai (fun (z:b=l)=>nl (.inr (z ▸ hb)))];exact (T26.res b (hsub b hb)).trans (rs2 b hb)
   ·rw [if_neg hc] at e3;cases e3
 ·rw [if_neg hz] at e3;cases e3
end
end Sm
namespace Sm
open PySem L2 PySem.Spec PyProof.Rows
section
variable {X:Cx} {a b c e tg iter elt:Expr} {es:List Expr} {pos:Pos} {ma mb:EM} {mt:TM} {ms mu:SM} {m:AM} {g:GM} {gs:GMs}
theorem eY (C:CompScope X N' caps scope) (hc:X.calm=true) (hi:SI X tg iter mi) (hg:∀C s₃ H₃ fp pl,SG (blk X N' scope C s₃ H₃ fp pl) tg g) (hif:∀C s₃ H₃ fp pl,SIf (blk X N' scope C s₃ H₃ fp pl) ifs mt) (he:∀C s₃ H₃ fp pl,SE (blk X N' scope C s₃ H₃ fp pl) elt ma) (hs:∀x,foldedSetIterable iter X.env x=pure x:=by intro _;kernel_rfl):
  SE X (.ListComp elt [⟨tg,iter,ifs,0⟩] scope pos) (eLv (bF caps mi g mt ma)):=(l9 (g:=tMG X.K g) (tc:=tMT X.K mt) (te:=tM X.K ma) C hc hi hg hif he hs).imp fun _ _ _=>nW
end
inductive SPFi (K:FR) (n:Nat) (F:Fn) (vs:List V) (H:Hp) (Q:VK):Prop where
 | mk (ρ h ds d h'):Sim K ρ h H->RepL K ρ H vs ds->(ds.length=n)->(F ds h=some (d,h'))->(∀v H',bg K ρ H h' d v H'->Q v H')->SPFi K n F vs H Q
def spF (K:FR) (n:Nat) (F:Fn):Sp:=fun vs H Q _=>SPFi K n F vs H Q
theorem nQ (G:FnOk X.prog X.w X.K X.mg X.base CX0 k f fd ps (spF X.K n F)) (hr:Room k X.A) (hg:Gl X x) (hm:X.mg x=some (.ref f)) (hk:PySem.W.keepIn X.K (.ref f)=true) (hb:Binds X.K fd ps [])
  (ha:SA X (e::es) m) (hl:f6 m n) (hdb:(x==("__debug__":Str))=false:=by kernel_rfl) (he:starEach (e::es) X.env=(false,eval e X.env)::starEach es X.env:=by kernel_rfl) (hpl:(backTo pos (starEach es X.env)).any (·.1)=false:=by kernel_rfl):
  SE X (.Call (.Name x p) (e::es) [] pos) (eFn F m):=(oC (E:=E0) G hr hg hm hk hb .nil tR ha hdb he hpl).imp fun σ H Q ⟨ρ,δ,h,d,h',R,S,e,q⟩=>by
 obtain ⟨⟨ds,h1⟩,e1,e2⟩:=bnd e;refine ⟨ρ,δ,h,ds,h1,R,S,e1,fun vs ρ1 H1 T1 S1 r1=>?_⟩;show spF X.K n F (vs++[]) H1 Q E0;rw [List.append_nil];exact ⟨ρ1,h1,ds,d,h',S1,r1,hl _ _ _ _ e1,e2,fun v H' P=>q v H' (P.step T1)⟩
noncomputable def nT (r:Fl×DS×MH):Option (D×MH):=match r.1 with
 | .rt d=>some (d,r.2.2)
 | .nx=>some (.non,r.2.2)
 | _=>none
noncomputable def entry (len:Nat) (ds:List D):DS:=ds.map some++List.replicate (len-ds.length) none
noncomputable def mkF (len:Nat) (body:SM):Fn:=fun ds h=>(body (entry len ds) h).bind nT
theorem RepS.entry {K:FR} {ρ:Ad} {H:Hp} {vs:List V} {ds:List D} (N:List Str) (l:RepL K ρ H vs ds):RepS K ρ H (L2.start N vs) (Sm.entry N.length ds):=by
 refine ⟨by simp [L2.start,Sm.entry,l.length],fun i d hd=>?_⟩;unfold Sm.entry at hd;unfold L2.start
 by_cases hi:i < ds.length
 ·rw [List.getElem?_append_left (by simpa using hi),List.getElem?_map] at hd;obtain ⟨d',e1,e2⟩:=mpd hd;cases e2;obtain ⟨v,ev,r⟩:=l.got e1;refine ⟨v,?_,r⟩;rw [List.getElem?_append_left (by rw [List.length_map,l.length];exact hi),List.getElem?_map,ev];rfl
 ·rw [List.getElem?_append_right (by simpa using hi),List.getElem?_replicate] at hd
  split at hd <;> cases hd
section
variable {P:Program} {w:World} {K:FR} {mg:Str->Option Value} {base:Heap} {x qual:Str} {st:Stmt} {f:Addr} {fd:FuncData} {N ps:List Str} {k:Nat}
theorem bt (F:Fun K x qual st f fd) (Sc:FnScope N ps (ao st)) (hb:∀(cdv:Value) (A:Around) (outer:List Env) (s:Shared) (H:Hp) (E:XK),Room k (A.deeper (envOfC qual (ao st) s.heap.objs.size f cdv))->SSs (jQ CX0 P w K mg base N qual (ao st) f cdv A outer s H E).nox (ck st) body):
  FnOk P w K mg base CX0 (k+1) f fd ps (spF K ps.length (mkF N.length body)):=by
 refine F.ok Sc (fun vs H Q E h=>?_) (fun cdv A outer s H vs Q E hr h=>?_)
 ·obtain ⟨ρ,h,ds,d,h',S,r,hl,_⟩:=h;rw [r.length];exact hl
 ·obtain ⟨ρ,h,ds,d,h',S,r,hl,e,q⟩:=h;refine ⟨_,hb cdv A outer s H E hr,?_⟩;obtain ⟨⟨fl,δ1,h1⟩,e1,e2⟩:=bnd e;refine ⟨ρ,entry N.length ds,h,fl,δ1,h1,RepS.entry N r,S,e1,fun ρ1 H1 T1 S1=>?_⟩;cases fl with
  | nx=>cases e2;exact fun σ' R'=>q _ _ ⟨ρ1,T1,S1,.non⟩
  | rt d=>cases e2;exact fun v r=>q _ _ ⟨ρ1,T1,S1,r⟩
  | bk=>cases e2
  | ct=>cases e2
end
mutual
noncomputable def clD (n:Nat):D->Bool
 | .tup xs=>clL n xs
 | .lv xs=>clL n xs
 | .ro xs=>clL n xs
 | .dv kvs=>clK n kvs
 | .ob m=>decide (m < n)
 | _=>true
noncomputable def clL (n:Nat):List D->Bool
 | []=>true
 | x::r=>clD n x&&clL n r
noncomputable def clK (n:Nat):List (Key×D)->Bool
 | []=>true
 | (_,x)::r=>clD n x&&clK n r
end
noncomputable def clO (n:Nat):MO->Bool
 | .lst xs=>clL n xs
 | .dct kvs=>clK n kvs
abbrev Ad.cut (ρ:Ad) (n:Nat):Ad:=⟨ρ.ob.take n,ρ.rs⟩
theorem Ad.dz {ρ:Ad} {n:Nat} {a:Addr} (h:(ρ.cut n).has a):ρ.has a:=h.elim (fun m=>.inl (List.mem_of_mem_take m)) .inr
mutual
theorem Rep.cut {K:FR} {ρ:Ad} {H:Hp} {n:Nat}:∀{v:V} {d:D},Rep K ρ H v d->clD n d=true->Rep K (ρ.cut n) H v d
 | _,_,.non,_=>.non
 | _,_,.bl b,_=>.bl b
 | _,_,.int i,_=>.int i
 | _,_,.str x,_=>.str x
 | _,_,.ty n,_=>.ty n
 | _,_,.tup h l,c=>.tup (h.elim (fun ⟨a,n⟩=>.inl ⟨a,fun m=>n (Ad.dz m)⟩) .inr) (RepL.cut l (by simpa [clD] using c))
 | _,_,.lv h n l,c=>.lv h (fun m=>n (Ad.dz m)) (RepL.cut l (by simpa [clD] using c))
 | _,_,.ro h l,c=>.ro (h.elim (fun ⟨a,n⟩=>.inl ⟨a,fun m=>n (Ad.dz m)⟩) .inr) (RepL.cut l (by simpa [clD] using c))
 | _,_,.dv h n l,c=>.dv h (fun m=>n (Ad.dz m)) (RepK.cut l (by simpa [clD] using c))
 | _,_,.ob (n:=m) e,c=>.ob (by
   have hm:m < n:=by simpa [clD] using c
   show (ρ.ob.take n)[m]?=_;rw [List.getElem?_take_of_lt hm];exact e)
theorem RepL.cut {K:FR} {ρ:Ad} {H:Hp} {n:Nat}:∀{v:List V} {d:List D},RepL K ρ H v d->clL n d=true->RepL K (ρ.cut n) H v d
 | _,_,.nil,_=>.nil
 | _,_,.cons r l,c=>by
  simp only [clL,Bool.and_eq_true] at c;exact .cons (Rep.cut r c.1) (RepL.cut l c.2)
theorem RepK.cut {K:FR} {ρ:Ad} {H:Hp} {n:Nat}:∀{v:List (Key×V)} {d:List (Key×D)},RepK K ρ H v d->clK n d=true->RepK K (ρ.cut n) H v d
 | _,_,.nil,_=>.nil
 | _,_,.cons r l,c=>by
  simp only [clK,Bool.and_eq_true] at c;exact .cons (Rep.cut r c.1) (RepK.cut l c.2)
end
mutual
theorem Rep.clean {K:FR} {ρ:Ad} {H:Hp}:∀{v:V} {d:D},Rep K ρ H v d->clD ρ.ob.length d=true
 | _,_,.non=>rfl
 | _,_,.bl b=>rfl
 | _,_,.int i=>rfl
 | _,_,.str x=>rfl
 | _,_,.ty n=>rfl
 | _,_,.tup h l=>by simp [clD];exact RepL.clean l
 | _,_,.lv h n l=>by simp [clD];exact RepL.clean l
 | _,_,.ro h l=>by simp [clD];exact RepL.clean l
 | _,_,.dv h n l=>by simp [clD];exact RepK.clean l
 | _,_,.ob e=>by simp [clD];exact (List.getElem?_eq_some_iff.mp e).1
theorem RepL.clean {K:FR} {ρ:Ad} {H:Hp}:∀{v:List V} {d:List D},RepL K ρ H v d->clL ρ.ob.length d=true
 | _,_,.nil=>rfl
 | _,_,.cons r l=>by simp [clL];exact ⟨Rep.clean r,RepL.clean l⟩
theorem RepK.clean {K:FR} {ρ:Ad} {H:Hp}:∀{v:List (Key×V)} {d:List (Key×D)},RepK K ρ H v d->clK ρ.ob.length d=true
 | _,_,.nil=>rfl
 | _,_,.cons r l=>by simp [clK];exact ⟨Rep.clean r,RepK.clean l⟩
end
theorem ObR.cut {K:FR} {ρ:Ad} {H:Hp} {n:Nat} {a:Addr} {o:MO} (x:ObR K ρ H a o) (c:clO n o=true):ObR K (ρ.cut n) H a o:=by
 cases o with
 | lst ds=>obtain ⟨vs,e,l⟩:=x;exact ⟨vs,e,l.cut c⟩
 | dct ds=>obtain ⟨vs,e,l⟩:=x;exact ⟨vs,e,l.cut c⟩
theorem ObR.clean {K:FR} {ρ:Ad} {H:Hp} {a:Addr} {o:MO} (x:ObR K ρ H a o):clO ρ.ob.length o=true:=by
 cases o with
 | lst ds=>obtain ⟨vs,e,l⟩:=x;exact l.clean
 | dct ds=>obtain ⟨vs,e,l⟩:=x;exact l.clean
noncomputable def kF (n:Nat) (h:MH) (d:D):D:=match d with
 | .ob m=>if m < n then .ob m else match h[m]? with
  | some (.lst xs)=>.lv xs
  | some (.dct kvs)=>.dv kvs
  | none=>.ob m
 | d=>d
noncomputable def leave (h:MH) (d:D) (h':MH):Option (D×MH):=
 if clD h.length (kF h.length h' d)&&(iN (h'.take h.length) h||(h'.take h.length).all (clO h.length)) then some (kF h.length h' d,h'.take h.length) else none
noncomputable def mkL (len:Nat) (body:SM):Fn:=fun ds h=>((body (entry len ds) h).bind nT).bind fun p=>leave h p.1 p.2
theorem bg.leave {K:FR} {ρ:Ad} {H H':Hp} {h h1 h':MH} {d d':D} {v:V} (S:Sim K ρ h H) (p:bg K ρ H h1 d v H') (e:Sm.leave h d h1=some (d',h')):bg K ρ H h' d' v H':=by
 obtain ⟨ρ1,T,S1,r⟩:=p;unfold Sm.leave at e
 by_cases hc:(clD h.length (kF h.length h1 d)&&(iN (h1.take h.length) h||(h1.take h.length).all (clO h.length)))=true
 ·rw [if_pos hc] at e;cases e;rw [Bool.and_eq_true] at hc;obtain ⟨c1,c2⟩:=hc;have hle:h.length≤h1.length:=by
   rw [←S.len,←S1.len];refine Nat.le_of_not_lt fun hlt=>?_;have e1:ρ.ob[ρ1.ob.length]?=some ρ.ob[ρ1.ob.length]:=List.getElem?_eq_getElem hlt;have:=(List.getElem?_eq_some_iff.mp (T.pre _ _ e1)).1
   lia
  have hall:∀(m:Nat) o,m < h.length->h1[m]?=some o->clO h.length o=true:=by
   intro m o hm ho;rw [Bool.or_eq_true] at c2;rcases c2 with c2 | c2
   ·have e1:=kq c2;have e2:h[m]?=some o:=by rw [←e1,List.getElem?_take_of_lt hm];exact ho
    have hm':m < ρ.ob.length:=by rw [S.len];exact hm
    have:=(S.at_ m _ o (List.getElem?_eq_getElem hm') e2).clean;rw [S.len] at this;exact this
   ·rw [List.all_eq_true] at c2;exact c2 o (List.mem_of_getElem? (show (h1.take h.length)[m]?=some o by rw [List.getElem?_take_of_lt hm];exact ho))
  have Sc:Sim K (ρ1.cut h.length) (h1.take h.length) H':=by
   refine ⟨by simp [S1.len],S1.nd.sublist (List.take_sublist _ _),fun n a o e1 e2=>?_,fun b hb=>⟨(S1.rsv b hb).1,fun m=>(S1.rsv b hb).2 (List.mem_of_mem_take m)⟩⟩;have hn:n < h.length:=by
    have:=(List.getElem?_eq_some_iff.mp e2).1;rw [List.length_take] at this
    lia
   have e1:(ρ1.ob.take h.length)[n]?=some a:=e1;rw [List.getElem?_take_of_lt hn] at e1 e2;exact (S1.at_ n a o e1 e2).cut (hall n o hn e2)
  refine ⟨ρ1.cut h.length,⟨⟨fun n a e=>?_,fun b o n e=>?_⟩,T.rs,T.res⟩,Sc,?_⟩
  ·have hn:n < h.length:=by rw [←S.len];exact (List.getElem?_eq_some_iff.mp e).1
   show (ρ1.ob.take h.length)[n]?=some a;rw [List.getElem?_take_of_lt hn];exact T.pre n a e
  ·obtain ⟨n1,e1⟩:=T.old b o n e;exact ⟨fun m=>n1 (Ad.dz m),e1⟩
  ·cases d with
   | ob m=>
    unfold kF at c1 ⊢;dsimp only at c1 ⊢
    by_cases hm:m < h.length
    ·rw [if_pos hm] at c1 ⊢;exact r.cut c1
    ·rw [if_neg hm] at c1 ⊢;cases r with
     | ob hn=>
      rename_i a;have na:¬(ρ1.cut h.length).has a:=by
       intro z;rcases z with z | z
       ·obtain ⟨j,hj⟩:=List.getElem?_of_mem z;have hj1:j < h.length:=by
         have:=(List.getElem?_eq_some_iff.mp hj).1;rw [List.length_take] at this
         lia
        rw [List.getElem?_take_of_lt hj1] at hj;have:=(List.getElem?_inj (List.getElem?_eq_some_iff.mp hj).1 S1.nd).mp (hj.trans hn.symm)
        lia
       ·exact (S1.rsv a z).2 (List.mem_of_getElem? hn)
      cases q:h1[m]? with
      | none=>rw [q] at c1;exact absurd c1 (by simp [clD];lia)
      | some o=>
       have x:=S1.at_ m a o hn q;cases o with
       | lst xs=>
        rw [q] at c1;obtain ⟨vs,e1,l⟩:=x;exact .lv e1 na (l.cut (by simpa [clD] using c1))
       | dct xs=>
        rw [q] at c1;obtain ⟨vs,e1,l⟩:=x;exact .dv e1 na (l.cut (by simpa [clD] using c1))
   | _=>exact r.cut c1
 ·rw [if_neg hc] at e;cases e
section
variable {P:Program} {w:World} {K:FR} {mg:Str->Option Value} {base:Heap} {x qual:Str} {st:Stmt} {f:Addr} {fd:FuncData} {N ps:List Str} {k:Nat}
theorem jg (G:FnOk P w K mg base CX0 k f fd ps (spF K ps.length (mkF N.length body))):FnOk P w K mg base CX0 k f fd ps (spF K ps.length (mkL N.length body)):=by
 refine G.imp fun vs H Q E hh=>?_;obtain ⟨ρ,h,ds,d,h',S,r,hl,e,q⟩:=hh;obtain ⟨⟨d1,h1⟩,e1,e2⟩:=bnd e;exact ⟨ρ,h,ds,d1,h1,S,r,hl,e1,fun v H' p=>q v H' (p.leave S e2)⟩
end
def spT (K:FR):Sp:=fun vs H Q _=>∃(a:Addr) (ns:List Int),vs=[.ref a]∧SqL K H a (ns.map V.int)∧ns.length≤63∧∀H',Q (.bl true) H'
theorem oM {P:Program} {w:World} {K:FR} {mg:Str->Option Value} {base:Heap} {k:Nat} {f:Addr} {fd:FuncData} {ps:List Str} {F:Fn} (G:FnOk P w K mg base CX0 k f fd ps (spF K 1 F))
  (hF:∀ns:List Int,ns.length≤63->∃h',F [.ro (ns.map D.int)] []=some (.bl true,h')):FnOk P w K mg base CX0 k f fd ps (spT K):=by
 refine G.imp fun vs H Q E hh=>?_;obtain ⟨a,ns,rfl,ha,hl,q⟩:=hh;obtain ⟨h',e⟩:=hF ns hl;refine ⟨⟨[],[]⟩,[],[.ro (ns.map D.int)],.bl true,h',⟨rfl,List.nodup_nil,fun n a o e=>by simp at e,fun b hb=>absurd hb (by simp)⟩,.cons (.ro ?_ (dS ns)) .nil,rfl,e,fun v H' ⟨ρ',T,S,r⟩=>?_⟩
 ·rcases ha with ha | ha
  ·exact .inl ⟨ha,fun z=>z.elim (fun z=>absurd z (by simp)) fun z=>absurd z (by simp)⟩
  ·exact .inr (.inr ha)
 ·cases r;exact q H'
mutual
noncomputable def pyD:D->Option PyData
 | .non=>some .none
 | .bl b=>some (.bool b)
 | .int i=>some (.int i)
 | .str x=>some (.str x)
 | .tup xs=>(pyL xs).map .tuple
 | .lv xs=>(pyL xs).map .list
 | .ro xs=>(pyL xs).map .list
 | _=>none
noncomputable def pyL:List D->Option (List PyData)
 | []=>some []
 | x::r=>(pyD x).bind fun a=>(pyL r).map fun b=>a::b
end
noncomputable def rdD (h:MH) (d:D):Option PyData:=match d with
 | .ob n=>match h[n]? with
  | some (.lst xs)=>(pyL xs).map .list
  | _=>none
 | d=>pyD d
mutual
theorem Rep.rds {K:FR} {ρ:Ad} {H:Hp}:∀{v:V} {d:D} {p:PyData},Rep K ρ H v d->pyD d=some p->Rds K H v p∧p.canLay0=true
 | _,_,_,.non,e=>by cases e;exact ⟨.non,rfl⟩
 | _,_,_,.bl b,e=>by cases e;exact ⟨.bl b,rfl⟩
 | _,_,_,.int i,e=>by cases e;exact ⟨.int i,rfl⟩
 | _,_,_,.str hs,e=>by cases e;exact ⟨.str _,by simpa [PyData.canLay0] using hs⟩
 | _,_,_,.ty n,e=>by cases e
 | _,_,_,.tup h l,e=>by
  simp only [pyD] at e;obtain ⟨q,e1,e2⟩:=mpd e;subst e2;obtain ⟨a,b⟩:=RepL.rds l e1;exact ⟨.tup h.sq a,by simpa [PyData.canLay0] using b⟩
 | _,_,_,.lv h n l,e=>by
  simp only [pyD] at e;obtain ⟨q,e1,e2⟩:=mpd e;subst e2;obtain ⟨a,b⟩:=RepL.rds l e1;exact ⟨.lst (SqL.of h) a,by simpa [PyData.canLay0] using b⟩
 | _,_,_,.ro h l,e=>by
  simp only [pyD] at e;obtain ⟨q,e1,e2⟩:=mpd e;subst e2;obtain ⟨a,b⟩:=RepL.rds l e1;exact ⟨.lst h.sq a,by simpa [PyData.canLay0] using b⟩
 | _,_,_,.dv h n l,e=>by simp [pyD] at e
 | _,_,_,.ob h,e=>by simp [pyD] at e
theorem RepL.rds {K:FR} {ρ:Ad} {H:Hp}:∀{v:List V} {d:List D} {p:List PyData},RepL K ρ H v d->pyL d=some p->RdsL K H v p∧PyData.canLayAll0 p=true
 | _,_,_,.nil,e=>by cases e;exact ⟨.nil,rfl⟩
 | _,_,_,.cons r l,e=>by
  simp only [pyL] at e;obtain ⟨a,e1,e2⟩:=bnd e;obtain ⟨b,e3,e4⟩:=mpd e2;subst e4;obtain ⟨a1,a2⟩:=Rep.rds r e1;obtain ⟨b1,b2⟩:=RepL.rds l e3;exact ⟨.cons a1 b1,by simp [PyData.canLayAll0,a2,b2]⟩
end
section
variable {K:FR} {ρ:Ad} {H:Hp} {h:MH} {v:V} {d:D}
theorem ib (S:Sim K ρ h H) (r:Rep K ρ H v d) (e:rdD h d=some p):Rds K H v p∧p.canLay0=true:=by
 cases r with
 | @ob a n hn=>
  unfold rdD at e;dsimp only at e;cases q:h[n]? with
  | none=>rw [q] at e;cases e
  | some o=>
   rw [q] at e;cases o with
   | dct _=>cases e
   | lst xs=>
    obtain ⟨vs,e1,l⟩:=S.at_ n a _ hn q;obtain ⟨b,e3,e4⟩:=mpd e;subst e4;obtain ⟨b1,b2⟩:=l.rds e3;exact ⟨.lst (SqL.of e1) b1,by simpa [PyData.canLay0] using b2⟩
 | non=>exact Rep.rds (Rep.non (ρ:=ρ)) e
 | bl b=>exact Rep.rds (Rep.bl (ρ:=ρ) b) e
 | int i=>exact Rep.rds (Rep.int (ρ:=ρ) i) e
 | str x=>exact Rep.rds (Rep.str (ρ:=ρ) x) e
 | ty n=>exact Rep.rds (Rep.ty (ρ:=ρ) n) e
 | tup h l=>exact Rep.rds (.tup h l) e
 | lv h n l=>exact Rep.rds (.lv h n l) e
 | ro h l=>exact Rep.rds (.ro h l) e
 | dv h n l=>exact Rep.rds (.dv h n l) e
noncomputable def ix (d:D) (h:MH):Option (List D):=match d with
 | .lv xs=>some xs
 | .ob n=>match h[n]? with
  | some (.lst xs)=>some xs
  | _=>none
 | _=>none
theorem fc (S:Sim K ρ h H) (r:Rep K ρ H v d) (e:ix d h=some xs):∃a vs,v=.ref a∧H a=some (.lst vs)∧RepL K ρ H vs xs:=by
 cases r with
 | @ob a n hn=>
  unfold ix at e;dsimp only at e;cases q:h[n]? with
  | none=>rw [q] at e;cases e
  | some o=>
   rw [q] at e;cases o with
   | dct _=>cases e
   | lst ys=>
    cases e;obtain ⟨vs,e1,l⟩:=S.at_ n a _ hn q;exact ⟨a,vs,rfl,e1,l⟩
 | lv h n l=>cases e;exact ⟨_,_,rfl,h,l⟩
 | _=>cases e
noncomputable def cH (d:D) (h:MH):Option (List (Key×D)):=match d with
 | .dv kvs=>some kvs
 | .ob n=>match h[n]? with
  | some (.dct kvs)=>some kvs
  | _=>none
 | _=>none
theorem dy (S:Sim K ρ h H) (r:Rep K ρ H v d) (e:cH d h=some xs):∃a vs,v=.ref a∧H a=some (.dK vs)∧RepK K ρ H vs xs:=by
 cases r with
 | @ob a n hn=>
  unfold cH at e;dsimp only at e;cases q:h[n]? with
  | none=>rw [q] at e;cases e
  | some o=>
   rw [q] at e;cases o with
   | lst _=>cases e
   | dct ys=>
    cases e;obtain ⟨vs,e1,l⟩:=S.at_ n a _ hn q;exact ⟨a,vs,rfl,e1,l⟩
 | dv h n l=>cases e;exact ⟨_,_,rfl,h,l⟩
 | _=>cases e
theorem c8 (S:Sim K ρ h H) (r:Rep K ρ H v d) (e:aU d h=some (xs,ws)):∃a vs,v=.ref a∧(SqL K H a vs∨SqT K H a vs)∧RepL K ρ H vs xs:=by
 obtain ⟨a,e1,⟨vs,q,l⟩,_⟩:=cW S r e;refine ⟨a,vs,e1,?_,l⟩;generalize eT d=b at q;cases q with
 | l q=>exact .inl q
 | t q=>exact .inr q
noncomputable def oN:D->Option Key
 | .int i=>some (.inl i)
 | .str x=>some (.inr x)
 | _=>none
noncomputable def gY (kvs:List (Key×D)) (k:Key):Option D:=(kvs.find? fun kv=>decide (kv.1=k)).map (·.2)
noncomputable def putD (kvs:List (Key×D)) (k:Key) (v:D):List (Key×D):=
 if (kvs.any fun kv=>decide (kv.1=k))=true then kvs.map (fun kv=>if kv.1=k then (kv.1,v) else kv) else kvs++[(k,v)]
theorem iy (r:Rep K ρ H v d) (e:oN d=some k):v=kV k:=by
 cases r with
 | int i=>cases e;rfl
 | str x=>cases e;rfl
 | _=>cases e
theorem RepK.val:∀{us:List (Key×V)} {kvs:List (Key×D)} (k:Key),RepK K ρ H us kvs->(gY kvs k=none∧cv us k=none)∨∃d v,gY kvs k=some d∧cv us k=some v∧Rep K ρ H v d
 | _,_,k,.nil=>.inl ⟨rfl,rfl⟩
 | _,_,k,.cons (k:=j) (v:=v) (vs:=vs) (d:=d) (ds:=ds) r l=>by
  by_cases z:j=k
  ·exact .inr ⟨d,v,by simp [gY,z],by simp [cv,z],r⟩
  ·have h1:gY ((j,d)::ds) k=gY ds k:=by simp only [gY,List.find?_cons,z,decide_false]
   have h2:cv ((j,v)::vs) k=cv vs k:=c5 z;rw [h1,h2];exact RepK.val k l
theorem RepK.length:∀{us:List (Key×V)} {kvs:List (Key×D)},RepK K ρ H us kvs->us.length=kvs.length
 | _,_,.nil=>rfl
 | _,_,.cons _ l=>by rw [List.length_cons,List.length_cons,RepK.length l]
theorem RepK.any (k:Key):∀{us:List (Key×V)} {kvs:List (Key×D)},RepK K ρ H us kvs->(us.any fun kv=>decide (kv.1=k))=(kvs.any fun kv=>decide (kv.1=k))
 | _,_,.nil=>rfl
 | _,_,.cons _ l=>by rw [List.any_cons,List.any_cons,RepK.any k l]
theorem RepK.map (r:Rep K ρ H v d):∀{us:List (Key×V)} {kvs:List (Key×D)},RepK K ρ H us kvs->RepK K ρ H (us.map fun kv=>if kv.1=k then (kv.1,v) else kv) (kvs.map fun kv=>if kv.1=k then (kv.1,d) else kv)
 | _,_,.nil=>.nil
 | _,_,.cons (k:=j) q l=>by
  rw [List.map_cons,List.map_cons]
  by_cases z:j=k
  ·rw [if_pos z,if_pos z];exact .cons r (RepK.map r l)
  ·rw [if_neg z,if_neg z];exact .cons q (RepK.map r l)
theorem RepK.append:∀{us vs:List (Key×V)} {ks ls:List (Key×D)},RepK K ρ H us ks->RepK K ρ H vs ls->RepK K ρ H (us++vs) (ks++ls)
 | _,_,_,_,.nil,t=>t
 | _,_,_,_,.cons r l,t=>.cons r (RepK.append l t)
theorem RepK.put (l:RepK K ρ H us kvs) (r:Rep K ρ H v d):RepK K ρ H (putK us k v) (putD kvs k d):=by
 unfold putK putD;rw [l.any k]
 by_cases z:(kvs.any fun kv=>decide (kv.1=k))=true
 ·rw [if_pos z,if_pos z];exact l.map r
 ·rw [if_neg z,if_neg z];exact l.append (.cons r .nil)
end
noncomputable def oW (d e:D) (h:MH):Option (D×MH):=match d,e with
 | .int i,.int j=>some (.int (i+j),h)
 | .str a,.str b=>if a.length+b.length≤sizeLine then some (.str (a++b),h) else none
 | .tup [],.tup _=>none
 | .tup (x::xs),.tup ys=>if xs.length+1+ys.length≤sizeLine then some (.tup (x::xs++ys),h) else none
 | d,e=>(ix d h).bind fun xs=>(ix e h).bind fun ys=>if xs.length+ys.length≤sizeLine then some (.lv (xs++ys),h) else none
noncomputable def vg (d e:D) (h:MH):Option (D×MH):=match d,e with
 | .int i,.int j=>some (.int (i-j),h)
 | _,_=>none
noncomputable def df (i j:Int):Bool:=(decide (-(2^64) < i)&&decide (i < 2^64))||(decide (-(2^64) < j)&&decide (j < 2^64))
noncomputable def rX (d e:D) (h:MH):Option (D×MH):=match d,e with
 | .int i,.int j=>if df i j then some (.int (i*j),h) else none
 | _,_=>none
noncomputable def gj (d e:D) (h:MH):Option (D×MH):=match d,e with
 | .int i,.int j=>if 0 < j then some (.int (i % j),h) else none
 | _,_=>none
noncomputable def mQ (d e:D) (h:MH):Option (D×MH):=match d,e with
 | .int i,.int j=>if 0 < j∧j≤10^40 then some (.int (i / j),h) else none
 | _,_=>none
noncomputable def k3 (d e:D) (h:MH):Option (D×MH):=match d,e with
 | .int i,.int j=>if 0≤j∧j≤1000000∧i.natAbs < 2^64 then some (.int (i^j.toNat),h) else none
 | _,_=>none
noncomputable def m6 (f:Int->Int->Bool) (d e:D) (h:MH):Option (D×MH):=match d,e with
 | .int i,.int j=>some (.bl (f i j),h)
 | _,_=>none
noncomputable def fLt:=m6 fun i j=>decide (i < j)
noncomputable def fLe:=m6 fun i j=>decide (i≤j)
noncomputable def fGt:=m6 fun i j=>decide (j < i)
noncomputable def fGe:=m6 fun i j=>decide (j≤i)
noncomputable def eqD (d e:D) (h:MH):Option Bool:=(rdD h d).bind fun a=>(rdD h e).bind fun b=>if a.depth≤64∧b.depth≤64 then some (PyData.eqv a b) else none
noncomputable def isN:D->Bool
 | .non=>true
 | _=>false
noncomputable def rY (d e:D) (h:MH):Option (D×MH):=match e with
 | .non=>some (.bl (isN d),h)
 | _=>none
noncomputable def pU (d:D) (h:MH):Option (D×MH):=match d with
 | .int i=>some (.int (-i),h)
 | _=>none
noncomputable def inD (d e:D) (h:MH):Option Bool:=match cH e h with
 | some kvs=>(oN d).map fun k=>(gY kvs k).isSome
 | none=>match d,e with
  | .str x,.str y=>some (!(Builtin.Str.occurrences y x 0 y.length 1).isEmpty)
  | d,e=>(aU e h).bind fun p=>(rdD h d).bind fun a=>(pyL p.1).bind fun bs=>if a.depth≤60∧PyData.depthAll bs≤60 then some (bs.any fun b=>PyData.eqv b a) else none
noncomputable def fIn (d e:D) (h:MH):Option (D×MH):=(inD d e h).map fun c=>(.bl c,h)
noncomputable def jO (d e:D) (h:MH):Option (D×MH):=(inD d e h).map fun c=>(.bl (!c),h)
noncomputable def fIx (d e:D) (h:MH):Option (D×MH):=match cH d h with
 | some kvs=>(oN e).bind fun k=>(gY kvs k).map fun z=>(z,h)
 | none=>match d,e with
  | .str z,.int i=>if z.length≤sizeLine then (atI z.cps.toList i).map fun c=>(.str ⟨#[c]⟩,h) else none
  | d,.int i=>(aU d h).bind fun p=>(atI p.1 i).map fun z=>(z,h)
  | _,_=>none
theorem ik (ho:OpR X g (rI C q)) (hf:∀d e h z h',f d e h=some (z,h')->∃i j,d=.int i∧e=.int j∧C i j∧h'=h∧∀ρ H,Rep X.K ρ H (q i j) z):OpS X g f:=by
 walk_at "aa";obtain ⟨i,j,rfl,rfl,c,rfl,rz⟩:=hf _ _ _ _ _ ee;cases rd;cases re;exact ho pins s σ H _ _ v u Q I rx ry ⟨i,j,rfl,rfl,c,k _ _ (.here S (rz _ _))⟩
theorem ij (ho:OpR X g (rI0 q)) (hf:∀d e h z h',f d e h=some (z,h')->∃i j,d=.int i∧e=.int j∧h'=h∧∀ρ H,Rep X.K ρ H (q i j) z):OpS X g f:=by
 walk_at "aa";obtain ⟨i,j,rfl,rfl,rfl,rz⟩:=hf _ _ _ _ _ ee;cases rd;cases re;exact ho pins s σ H _ _ v u Q I rx ry ⟨i,j,rfl,rfl,k _ _ (.here S (rz _ _))⟩
theorem q0:OpS X (binaryOp .Mult) rX:=ik rg fun d e h z h' ee=>by
 cases d <;> first | (cases ee;done) | skip
 cases e <;> first | (cases ee;done) | skip
 rename_i i j;unfold rX at ee;dsimp only at ee
 by_cases c:df i j=true
 ·walk_at "aj";refine ⟨i,j,rfl,rfl,?_,rfl,fun _ _=>.int _⟩;unfold df at c;simp only [Bool.or_eq_true,Bool.and_eq_true,decide_eq_true_eq] at c;exact c
 ·walk_at "ak"
theorem dZ:OpS X (binaryOp .Mod) gj:=ik rh fun d e h z h' ee=>by
 cases d <;> first | (cases ee;done) | skip
 cases e <;> first | (cases ee;done) | skip
 rename_i i j;unfold gj at ee;dsimp only at ee
 by_cases c:0 < j
 ·walk_at "aj";exact ⟨i,j,rfl,rfl,c,rfl,fun _ _=>.int _⟩
 ·walk_at "ak"
theorem q5:OpS X (binaryOp .FloorDiv) mQ:=ik mw fun d e h z h' ee=>by
 cases d <;> first | (cases ee;done) | skip
 cases e <;> first | (cases ee;done) | skip
 rename_i i j;unfold mQ at ee;dsimp only at ee
 by_cases c:0 < j∧j≤10^40
 ·walk_at "aj";exact ⟨i,j,rfl,rfl,c,rfl,fun _ _=>.int _⟩
 ·walk_at "ak"
theorem ig:OpS X (binaryOp .Pow) k3:=ik rf fun d e h z h' ee=>by
 cases d <;> first | (cases ee;done) | skip
 cases e <;> first | (cases ee;done) | skip
 rename_i i j;unfold k3 at ee;dsimp only at ee
 by_cases c:0≤j∧j≤1000000∧i.natAbs < 2^64
 ·walk_at "aj";exact ⟨i,j,rfl,rfl,c,rfl,fun _ _=>.int _⟩
 ·walk_at "ak"
theorem m5 (ee:m6 f d e h=some (z,h')):∃i j,d=.int i∧e=.int j∧h'=h∧z=.bl (f i j):=by
 cases d <;> first | (cases ee;done) | skip
 cases e <;> first | (cases ee;done) | skip
 cases ee;exact ⟨_,_,rfl,rfl,rfl,rfl⟩
theorem mn:OpS X (compareOp .Lt) fLt:=ij tV fun d e h z h' ee=>by
 obtain ⟨i,j,rfl,rfl,rfl,rfl⟩:=m5 ee;exact ⟨i,j,rfl,rfl,rfl,fun _ _=>.bl _⟩
theorem tT:OpS X (compareOp .Gt) fGt:=ij tW fun d e h z h' ee=>by
 obtain ⟨i,j,rfl,rfl,rfl,rfl⟩:=m5 ee;exact ⟨i,j,rfl,rfl,rfl,fun _ _=>.bl _⟩
theorem tU:OpS X (compareOp .GtE) fGe:=ij tX fun d e h z h' ee=>by
 obtain ⟨i,j,rfl,rfl,rfl,rfl⟩:=m5 ee;exact ⟨i,j,rfl,rfl,rfl,fun _ _=>.bl _⟩
theorem pS:UnR X (unaryOp .USub) (rU X.K pU):=by
 intro pins s σ H x v Q I rx hh;obtain ⟨ρ,h,d,z,h',S,rd,ee,k⟩:=hh;cases rd <;> first | (cases ee;done) | skip
 cases ee;exact pT pins s σ H _ v Q I rx ⟨_,rfl,k _ _ (.here S (.int _))⟩
theorem q9:OpS X (binaryOp .Add) oW:=by
 walk_at "aa";have lists:((ix d h).bind fun xs=>(ix e h).bind fun ys=>if xs.length+ys.length≤sizeLine then some (D.lv (xs++ys),h) else none)=some (z,h')->wpAny (model X.prog X.w) X.A (binaryOp .Add v u) (EP X pins σ Q) X.xe s:=by
  intro ee;obtain ⟨xs,e1,e4⟩:=bnd ee;obtain ⟨ys,e2,e3⟩:=bnd e4
  by_cases c:xs.length+ys.length≤sizeLine
  ·rw [if_pos c] at e3;cases e3;obtain ⟨a,vs,rfl,ha,la⟩:=fc S rd e1;obtain ⟨b,us,rfl,hb,lb⟩:=fc S re e2;exact rk pins s σ H _ _ v u Q I rx ry ⟨a,b,vs,us,rfl,rfl,ha,hb,by rw [la.length,lb.length];exact c,fun p hp=>k _ _ (.lv S (la.append lb) hp)⟩
  ·rw [if_neg c] at e3;cases e3
 cases d with
 | int i=>
  cases e <;> first | (cases ee;done) | skip
  cases ee;cases rd;cases re;exact rl pins s σ H _ _ v u Q I rx ry ⟨_,_,rfl,rfl,k _ _ (.here S (.int _))⟩
 | str a=>
  cases e <;> first | (cases ee;done) | skip
  rename_i b;unfold oW at ee;dsimp only at ee
  by_cases c:a.length+b.length≤sizeLine
  ·walk_at "aj";cases rd with | str h1=>cases re with | str h2=>
   exact jI pins s σ H _ _ v u Q I rx ry ⟨a,b,rfl,rfl,c,k _ _ (.here S (.str (bc h1 h2)))⟩
  ·walk_at "ak"
 | tup xs=>
  cases xs with
  | nil=>cases e <;> cases ee
  | cons x0 xs=>
   cases e <;> first | (cases ee;done) | skip
   rename_i ys;unfold oW at ee;dsimp only at ee
   by_cases c:xs.length+1+ys.length≤sizeLine
   ·walk_at "aj";cases rd with | tup h1 l1=>cases re with | tup h2 l2=>
    rename_i a vs b us;refine oG pins s σ H _ _ v u Q I rx ry ⟨a,b,vs,us,rfl,rfl,h1.sq,h2.sq,?_,?_,fun z=>?_,fun _ p hp=>k _ _ (.tup S (l1.append l2) hp)⟩
    ·intro z;rw [z] at l1;cases l1
    ·rw [l1.length,l2.length];exact c
    ·rw [z] at l2;cases l2;rw [List.append_nil] at k;exact k _ _ (.here S (.tup h1 l1))
   ·walk_at "ak"
 | lv xs=>exact lists (by cases e <;> exact ee)
 | ob n=>exact lists (by cases e <;> exact ee)
 | non=>exact lists (by cases e <;> exact ee)
 | bl b=>exact lists (by cases e <;> exact ee)
 | ty b=>exact lists (by cases e <;> exact ee)
 | ro b=>exact lists (by cases e <;> exact ee)
 | dv b=>exact lists (by cases e <;> exact ee)
theorem cP (h1:p.canLay0=true) (h2:p.depth≤64):SeqAt.shaped p=true:=by
 unfold PySem.SeqAt.shaped;rw [h1,decide_eq_true h2];rfl
theorem nU {K:FR} {ρ:Ad} {H:Hp} {v:V} {d:D} (r:Rep K ρ H v d):decide (v=V.non)=isN d:=by
 cases r <;> rfl
theorem mr:OpS X (compareOp .Is) rY:=by
 walk_at "aa";cases e <;> first | (cases ee;done) | skip
 cases ee;cases re;refine rj pins s σ H _ _ v u Q I rx ry ⟨rfl,?_⟩;rw [nU rd];exact k _ _ (.here S (.bl _))
theorem gU:∀{us:List Value} {ds:List PyData} {as:List Addr},ReadsAll h us ds as->(∀u d as,u∈us->Reads h u d as->d∈ds->f u=PyData.eqv d p)->us.any f=ds.any fun b=>PyData.eqv b p
 | _,_,_,.nil,_=>rfl
 | _,_,_,.cons r l,hf=>by
  rw [List.any_cons,List.any_cons,hf _ _ _ List.mem_cons_self r List.mem_cons_self,gU l fun u d as hu hr hd=>hf u d as (List.mem_cons_of_mem _ hu) hr (List.mem_cons_of_mem _ hd)]
open Classical in
noncomputable def eqF (h:Heap) (p:PyData) (u:Value):Bool:=if q:∃d as,Reads h u d as∧d.canLay0=true then PyData.eqv q.choose p else false
theorem mS (r:Reads h u d as) (c:d.canLay0=true):eqF h p u=PyData.eqv d p:=by
 have q:∃d as,Reads h u d as∧d.canLay0=true:=⟨d,as,r,c⟩;unfold eqF;rw [dif_pos q];obtain ⟨as',r',c'⟩:=q.choose_spec;rw [PySem.SeqAt.Reads.unique _ _ _ _ _ c' r' r]
theorem cm:∀{ds:List PyData} {d:PyData},PyData.canLayAll0 ds=true->d∈ds->d.canLay0=true
 | x::r,d,c,m=>by
  simp only [PyData.canLayAll0,Bool.and_eq_true] at c;rcases List.mem_cons.mp m with rfl | m
  ·exact c.1
  ·exact cm c.2 m
theorem gL:∀{ds:List PyData} {d:PyData},d∈ds->d.depth≤PyData.depthAll ds
 | x::r,d,m=>by
  simp only [PyData.depthAll];rcases List.mem_cons.mp m with rfl | m
  ·lia
  ·have:=gL m;lia
theorem gD:∀{us:List Value} {ds:List PyData} {as:List Addr},ReadsAll h us ds as->∀y∈us,∃d as,Reads h y d as∧d∈ds
 | _,_,_,.nil,y,hy=>by cases hy
 | _,_,_,.cons r l,y,hy=>by
  rcases List.mem_cons.mp hy with rfl | hy
  ·exact ⟨_,_,r,List.mem_cons_self⟩
  ·obtain ⟨d,as,a1,a2⟩:=gD l y hy;exact ⟨d,as,a1,List.mem_cons_of_mem _ a2⟩
theorem in_of (hu:X.A.units+64 < cLine) (I:L2.Inv X pins σ H s) (rx:L2.RelV x v) (ry:L2.RelV y u) (S:Sim X.K ρ h H) (rd:Rep X.K ρ H x d) (re:Rep X.K ρ H y e) {c:Bool} (ee:inD d e h=some c) {Q:Bool->Shared->Prop} (hq:∀s',L2.Inv X pins σ H s'->Q c s'):
  wpAny (model X.prog X.w) X.A (compareOp .In v u) (fun r s'=>∃c,r=.bool c∧Q c s') X.xe s∧wpAny (model X.prog X.w) X.A (compareOp .NotIn v u) (fun r s'=>∃c,r=.bool (!c)∧Q c s') X.xe s:=by
 unfold inD at ee;cases qd:cH e h with
 | some kvs=>
  rw [qd] at ee;obtain ⟨k,e1,e2⟩:=mpd ee;obtain ⟨a,us,rfl,ha,l⟩:=dy S re qd;obtain rfl:u=Value.ref a:=ry;have ek:=iy rd e1;subst ek;have g:gr H a (kV k) (cv us k):=gr.k ha;have ec:(cv us k).isSome=c:=by
   rw [←e2];rcases l.val k with ⟨h1,h2⟩ | ⟨d,v,h1,h2,_⟩
   ·rw [h1,h2];rfl
   ·rw [h1,h2];rfl
  refine ⟨vi (by lia) I g rx fun s' I'=>⟨c,by rw [ec],hq s' I'⟩,oY (by lia) I g rx fun s' I'=>⟨c,by rw [ec],hq s' I'⟩⟩
 | none=>
  rw [qd] at ee;dsimp only at ee;have seqs:((aU e h).bind fun p=>(rdD h d).bind fun a=>(pyL p.1).bind fun bs=>if a.depth≤60∧PyData.depthAll bs≤60 then some (bs.any fun b=>PyData.eqv b a) else none)=some c->
    wpAny (model X.prog X.w) X.A (compareOp .In v u) (fun r s'=>∃c,r=.bool c∧Q c s') X.xe s∧wpAny (model X.prog X.w) X.A (compareOp .NotIn v u) (fun r s'=>∃c,r=.bool (!c)∧Q c s') X.xe s:=by
   intro ee;obtain ⟨⟨xs,ws⟩,e1,e2⟩:=bnd ee;obtain ⟨p,e3,e4⟩:=bnd e2;obtain ⟨bs,e5,e6⟩:=bnd e4
   by_cases w:p.depth≤60∧PyData.depthAll bs≤60
   ·rw [if_pos w] at e6;cases e6;obtain ⟨a,vs,rfl,hq',l⟩:=c8 S re e1;obtain rfl:u=Value.ref a:=ry;obtain ⟨r1,c1⟩:=ib S rd e3;obtain ⟨r2,c2⟩:=l.rds e5;obtain ⟨as,ra⟩:=r1.reads I rx;have key:∀its:List Value,Vals vs its->(∀y,y∈its->PySem.SeqAt.EqAt X.A.in1 s y v (eqF s.heap p y))∧its.any (eqF s.heap p)=bs.any fun b=>PyData.eqv b p:=by
     intro its rv;obtain ⟨bs',rb⟩:=r2.reads I rv;refine ⟨fun y hy=>?_,gU rb fun u d as _ hr hd=>mS hr (cm c2 hd)⟩;obtain ⟨d,as',hr,hd⟩:=gD rb y hy;rw [mS hr (cm c2 hd)];refine PySem.SeqAt.eqAt_reads d p _ s y v as' as hr ra (cm c2 hd) c1 ?_;have h1:=gL hd;have h2:min d.depth p.depth≤d.depth:=Nat.min_le_left _ _;show X.A.units+1+min d.depth p.depth < cLine;have h3:=w.2
     lia
    rcases hq' with hq' | hq'
    ·obtain ⟨its,rv,pl,_⟩:=I.list hq';obtain ⟨k1,k2⟩:=key its rv;have k1':∀y,y∈its.toArray->PySem.SeqAt.EqAt X.A.in1 s y v (eqF s.heap p y):=fun y hy=>k1 y (by simpa using hy);have k2':its.toArray.any (eqF s.heap p)=bs.any fun b=>PyData.eqv b p:=by rw [←k2];simp
     exact ⟨PySem.SeqAt.in_listAt _ pl.isList k1' ⟨_,rfl,by rw [k2'];exact hq s I⟩,PySem.SeqAt.notIn_listAt _ pl.isList k1' ⟨_,rfl,by rw [k2'];exact hq s I⟩⟩
    ·obtain ⟨its,rv,pl,_⟩:=I.tuple hq';obtain ⟨k1,k2⟩:=key its rv;have k1':∀y,y∈its.toArray->PySem.SeqAt.EqAt X.A.in1 s y v (eqF s.heap p y):=fun y hy=>k1 y (by simpa using hy);have k2':its.toArray.any (eqF s.heap p)=bs.any fun b=>PyData.eqv b p:=by rw [←k2];simp
     exact ⟨PySem.SeqAt.in_tupleAt _ pl k1' ⟨_,rfl,by rw [k2'];exact hq s I⟩,PySem.SeqAt.notIn_tupleAt _ pl k1' ⟨_,rfl,by rw [k2'];exact hq s I⟩⟩
   ·rw [if_neg w] at e6;cases e6
  by_cases hs:(∃a,d=.str a)∧∃b,e=.str b
  ·obtain ⟨⟨a,rfl⟩,b,rfl⟩:=hs;cases ee;cases rd;cases re;obtain ⟨t,rfl⟩:=rx;obtain ⟨t',rfl⟩:=ry;exact ⟨in_str ⟨_,rfl,hq s I⟩,notIn_str ⟨_,rfl,hq s I⟩⟩
  ·refine seqs ?_;cases d <;> first | exact ee | skip
   cases e <;> first | exact ee | skip
   exact absurd ⟨⟨_,rfl⟩,_,rfl⟩ hs
theorem tS (hu:X.A.units+64 < cLine):OpS X (compareOp .In) fIn:=by
 walk_at "aa";obtain ⟨c,e1,e2⟩:=mpd ee;cases e2;refine thn (in_of hu I rx ry S rd re e1 (Q:=fun c' s'=>c'=c∧L2.Inv X pins σ H s') fun s' I'=>⟨rfl,I'⟩).1 fun r s' ⟨c',hr,hc,I'⟩=>?_;subst hr;subst hc;exact ⟨.bl _,H,I',rfl,k _ _ (.here S (.bl _))⟩
theorem mm (hu:X.A.units+64 < cLine):OpS X (compareOp .NotIn) jO:=by
 walk_at "aa";obtain ⟨c,e1,e2⟩:=mpd ee;cases e2;refine thn (in_of hu I rx ry S rd re e1 (Q:=fun c' s'=>c'=c∧L2.Inv X pins σ H s') fun s' I'=>⟨rfl,I'⟩).2 fun r s' ⟨c',hr,hc,I'⟩=>?_;subst hr;subst hc;exact ⟨.bl _,H,I',rfl,k _ _ (.here S (.bl _))⟩
theorem pf {K:FR} {ρ:Ad} {H:Hp} {vs:List V} {ds:List D} {i:Int} {d:D} (l:RepL K ρ H vs ds) (e:atI ds i=some d):∃v,atI vs i=some v∧Rep K ρ H v d:=by
 unfold atI at e;obtain ⟨j,e1,e2⟩:=bnd e;obtain ⟨v,e3,r⟩:=l.got e2;exact ⟨v,by unfold atI;rw [l.length,e1];exact e3,r⟩
theorem t4 (hu:X.A.units+64 < cLine):IxR X (rS X.K fIx):=by
 intro value slice pins s σ H x y v u Q I rx ry hh hs;obtain ⟨ρ,h,d,e,z,h',S,rd,re,ee,k⟩:=hh;unfold fIx at ee;cases qd:cH d h with
 | some kvs=>
  rw [qd] at ee;obtain ⟨ky,e1,e2⟩:=bnd ee;obtain ⟨z',e3,e4⟩:=mpd e2;cases e4;obtain ⟨a,us,rfl,ha,l⟩:=dy S rd qd;obtain rfl:v=Value.ref a:=rx;have ek:=iy re e1;subst ek;rcases l.val ky with ⟨h1,h2⟩ | ⟨d',w,h1,h2,r⟩
  ·rw [h1] at e3;cases e3
  ·rw [h1] at e3;cases e3;have g:gr H a (kV ky) (some w):=by rw [←h2];exact gr.k ha
   exact tail_any (jj I g) PySem.F.slot_dict_getitem.lookup (k8 (by lia) I g ry fun w' s3 I3 rw'=>⟨w,H,I3,rw',k _ _ (.here S r)⟩) hs
 | none=>
  rw [qd] at ee;dsimp only at ee;cases e <;> first | (cases d <;> (cases ee;done)) | skip
  rename_i i;have seqs:((aU d h).bind fun p=>(atI p.1 i).map fun z=>(z,h))=some (z,h')->wpAny (model X.prog X.w) X.A (subscriptTail value slice v u) (EP X pins σ Q) X.xe s:=by
   intro ee;obtain ⟨⟨xs,ws⟩,e1,e2⟩:=bnd ee;obtain ⟨z',e3,e4⟩:=mpd e2;cases e4;obtain ⟨a,vs,rfl,hq',l⟩:=c8 S rd e1;obtain ⟨w,e5,r⟩:=pf l e3;cases re;rcases hq' with hq' | hq'
   ·exact oQ value slice pins s σ H _ _ v u Q I rx ry ⟨a,vs,i,w,rfl,rfl,hq',e5,k _ _ (.here S r)⟩ hs
   ·exact rJ value slice pins s σ H _ _ v u Q I rx ry ⟨a,vs,i,w,rfl,rfl,hq',e5,k _ _ (.here S r)⟩ hs
  cases d with
  | str x0=>
   dsimp only at ee
   by_cases c:x0.length≤sizeLine
   ·rw [if_pos c] at ee;obtain ⟨ch,e3,e4⟩:=mpd ee;cases e4;cases rd with | str hs0=>
    cases re;exact rK value slice pins s σ H _ _ v u Q I rx ry ⟨x0,i,ch,rfl,rfl,c,e3,k _ _ (.here S (.str (kG hs0 e3)))⟩ hs
   ·walk_at "ak"
  | _=>exact seqs ee
theorem sZ (hu:X.A.units+64 < cLine) (ha:SE X a ma) (hb:SE X b mb) (hs:dF b:=by unfold dF;intro _ _;kernel_rfl):SE X (.Subscript a b pos) (eOp fIx ma mb):=(tO (t4 hu) ha hb hs).imp fun _ _ _=>j4
abbrev PM:=DS->MH->Option (Option Int×MH)
noncomputable def pNo:PM:=fun _ h=>some (none,h)
noncomputable def pAt (e:EM):PM:=fun δ h=>(e δ h).bind fun p=>match p.1 with
 | .int i=>some (some i,p.2)
 | _=>none
inductive TMOi (K:FR) (m:PM) (σ:L2.St) (H:Hp) (Q:Option Int->Hp->Prop):Prop where
 | mk (ρ δ h b h'):RepS K ρ H σ δ->Sim K ρ h H->(m δ h=some (b,h'))->(∀ρ' H',Stp ρ H ρ' H'->Sim K ρ' h' H'->Q b H')->TMOi K m σ H Q
noncomputable def tMO (K:FR) (m:PM):TO:=fun σ H Q=>TMOi K m σ H Q
def SP' (X:Cx) (e:Option Expr) (m:PM):Prop:=PO X e (tMO X.K m)
theorem nI:SP' X none pNo:=fun pins s σ H Q I hh=>by
 obtain ⟨ρ,δ,h,b,h',R,S,e,k⟩:=hh;cases e;exact oq pins s σ H Q I (k ρ H (.refl _ _) S)
theorem nG (he:SE X e ma):SP' X (some e) (pAt ma):=fun pins s σ H Q I hh=>by
 obtain ⟨ρ,δ,h,b,h',R,S,e,k⟩:=hh;walk_at "ab";cases x <;> first | (cases e2;done) | skip
 cases e2;refine oo he pins s σ H Q I ⟨ρ,δ,h,_,_,R,S,e1,fun v H' ⟨ρ',T,S',r⟩=>?_⟩;cases r;exact ⟨_,rfl,k ρ' H' T S'⟩
noncomputable def cutD (xs:List D) (lo hi:Option Int):List D:=(xs.drop (HT.sIx xs.length 0 lo)).take (HT.sIx xs.length xs.length hi-HT.sIx xs.length 0 lo)
noncomputable def fSl (d:D) (lo hi:Option Int) (h:MH):Option (D×MH):=match d with
 | .str z=>if z.length≤sizeLine then some (.str (Txt.slice z lo hi),h) else none
 | .tup xs=>if HT.sIx xs.length 0 lo=0∧HT.sIx xs.length xs.length hi=xs.length then none else some (.tup (cutD xs lo hi),h)
 | d=>(aU d h).map fun p=>(.lv (cutD p.1 lo hi),h)
noncomputable def eSl (a:EM) (l u:PM):EM:=fun δ h=>(a δ h).bind fun p=>(l δ p.2).bind fun q=>(u δ q.2).bind fun r=>fSl p.1 q.1 r.1 r.2
inductive RSLi (K:FR) (x:V) (lo hi:Option Int) (H:Hp) (Q:VK):Prop where
 | mk (ρ h d z h'):Sim K ρ h H->Rep K ρ H x d->(fSl d lo hi h=some (z,h'))->(∀v H',bg K ρ H h' z v H'->Q v H')->RSLi K x lo hi H Q
def rSl (K:FR):V->Option Int->Option Int->Hp->VK->Prop:=fun x lo hi H Q=>RSLi K x lo hi H Q
theorem RepL.fS {K:FR} {ρ:Ad} {H:Hp} {vs:List V} {ds:List D} (l:RepL K ρ H vs ds) (lo hi:Option Int):RepL K ρ H (L2.fS vs lo hi) (cutD ds lo hi):=by
 unfold L2.fS cutD;rw [l.length];exact (l.drop _).take _
theorem pk:SlR X (rSl X.K):=by
 intro pins s σ H x v vl vu lo hi sl Q I rx hs pl pu hh;obtain ⟨ρ,h,d,z,h',S,rd,ee,k⟩:=hh;have lists:eT d=true->((aU d h).map fun p=>(D.lv (cutD p.1 lo hi),h))=some (z,h')->∃T id,typeLookup (.type T) "__getitem__"=pure (some (.builtin id))∧s.TypeIs v T∧wpAny (model X.prog X.w) X.A (getItem v (.ref sl)) (EP X pins σ Q) X.xe s:=by
  intro nt e2;obtain ⟨⟨xs,ws⟩,e1,e2⟩:=mpd e2;cases e2;obtain ⟨a,rfl,⟨vs,q,l⟩,_⟩:=cW S rd e1;rw [nt] at q;cases q with
  | l q=>exact nJ pins s σ H _ v vl vu lo hi sl Q I rx hs pl pu ⟨a,vs,rfl,q,fun p hp=>k _ _ (.lv S (l.fS lo hi) hp)⟩
 cases d with
 | str x0=>
  unfold fSl at ee;dsimp only at ee
  by_cases c:x0.length≤sizeLine
  ·walk_at "aj";cases rd with | str hs0=>
   exact p6 pins s σ H _ v vl vu lo hi sl Q I rx hs pl pu ⟨x0,rfl,c,k _ _ (.here S (.str (iW _ _ hs0)))⟩
  ·walk_at "ak"
 | tup xs=>
  unfold fSl at ee;dsimp only at ee
  by_cases c:HT.sIx xs.length 0 lo=0∧HT.sIx xs.length xs.length hi=xs.length
  ·walk_at "aj"
  ·walk_at "ak";cases rd with | tup h0 l0=>
   exact p5 pins s σ H _ v vl vu lo hi sl Q I rx hs pl pu ⟨_,_,rfl,h0.sq,by rw [l0.length];exact c,fun p hp=>k _ _ (.tup S (l0.fS lo hi) hp)⟩
 | _=>exact lists rfl ee
theorem lR {x:Str} {id:String} {p pos:Pos} {e:Expr} {es:List Expr} {f:Fn} {m:AM} (hc:cN X (.builtin id) f) (hg:Gl X x) (hm:X.mg x=none) (hv:bootBuiltins x=some (.builtin id)) (ha:SA X (e::es) m) (hn:x≠"__name__":=by decide) (hdb:(x==("__debug__":Str))=false:=by kernel_rfl)
  (he:starEach (e::es) X.env=(false,eval e X.env)::starEach es X.env:=by kernel_rfl) (hpl:(backTo pos (starEach es X.env)).any (·.1)=false:=by kernel_rfl):SE X (.Call (.Name x p) (e::es) [] pos) (eFn f m):=
 (mh hc hg hm hv ha hn hdb he hpl).imp fun σ H Q ⟨ρ,δ,h,d,h',R,S,e,k⟩=>by
  obtain ⟨⟨ds,h1⟩,e1,e2⟩:=bnd e;exact ⟨ρ,δ,h,ds,h1,R,S,e1,fun vs ρ1 H1 T1 S1 r1=>⟨ρ1,h1,ds,d,h',S1,r1,e2,fun v H' P=>k v H' (P.step T1)⟩⟩
theorem lQ {x:Str} {id:String} {p pos:Pos} {e:Expr} {es:List Expr} {f:Fn} {m:AM} (hc:cN X (.type id) f) (hg:Gl X x) (hm:X.mg x=none) (hv:bootBuiltins x=some (.type id)) (ha:SA X (e::es) m) (hn:x≠"__name__":=by decide) (hdb:(x==("__debug__":Str))=false:=by kernel_rfl)
  (he:starEach (e::es) X.env=(false,eval e X.env)::starEach es X.env:=by kernel_rfl) (hpl:(backTo pos (starEach es X.env)).any (·.1)=false:=by kernel_rfl):SE X (.Call (.Name x p) (e::es) [] pos) (eFn f m):=
 (gE hc hg hm hv ha hn hdb he hpl).imp fun σ H Q ⟨ρ,δ,h,d,h',R,S,e,k⟩=>by
  obtain ⟨⟨ds,h1⟩,e1,e2⟩:=bnd e;exact ⟨ρ,δ,h,ds,h1,R,S,e1,fun vs ρ1 H1 T1 S1 r1=>⟨ρ1,h1,ds,d,h',S1,r1,e2,fun v H' P=>k v H' (P.step T1)⟩⟩
noncomputable def du:Fn:=fun ds h=>match ds with
 | [.str z]=>if z.length≤sizeLine then some (.int z.length,h) else none
 | [d]=>match cH d h with
  | some kvs=>some (.int kvs.length,h)
  | none=>(aU d h).map fun p=>(.int p.1.length,h)
 | _=>none
noncomputable def oX:Fn:=fun ds h=>match ds with
 | [.int i]=>some (.int (if i < 0 then -i else i),h)
 | _=>none
noncomputable def tyD (d:D) (h:MH):Option String:=match d with
 | .non=>some "NoneType"
 | .bl _=>some "bool"
 | .int _=>some "int"
 | .str _=>some "str"
 | .tup _=>some "tuple"
 | .lv _=>some "list"
 | .dv _=>some "dict"
 | .ob n=>match h[n]? with
  | some (.lst _)=>some "list"
  | some (.dct _)=>some "dict"
  | none=>none
 | _=>none
noncomputable def lK (t n:String):Bool:=t==n||(t=="bool"&&n=="int")
noncomputable def gk:Fn:=fun ds h=>match ds with
 | [d,.ty n]=>if n∈["int","str","bool","tuple","list","dict"] then (tyD d h).map fun t=>(.bl (lK t n),h) else none
 | _=>none
noncomputable def jM:Fn:=fun ds h=>match ds with
 | [d]=>(aU d h).map fun p=>(.tup p.1,h)
 | _=>none
noncomputable def lu:List D->Option (List Bool)
 | []=>some []
 | .bl b::r=>(lu r).map fun bs=>b::bs
 | _=>none
noncomputable def r8:Fn:=fun ds h=>match ds with
 | [d]=>(ix d h).bind fun xs=>(lu xs).map fun bs=>(.bl (bs.all id),h)
 | _=>none
theorem rep1 {K:FR} {ρ:Ad} {H:Hp} {vs:List V} {d:D} (l:RepL K ρ H vs [d]):∃v,vs=[v]∧Rep K ρ H v d:=by
 cases l with
 | cons r l=>cases l;exact ⟨_,rfl,r⟩
theorem rep2 {K:FR} {ρ:Ad} {H:Hp} {vs:List V} {d e:D} (l:RepL K ρ H vs [d,e]):∃v u,vs=[v,u]∧Rep K ρ H v d∧Rep K ρ H u e:=by
 cases l with
 | cons r l=>cases l with
  | cons r' l=>cases l;exact ⟨_,_,rfl,r,r'⟩
theorem fT:cN X (.builtin "len") du:=by
 walk_at "ad"
 match ds,l,ee with
 | [],_,ee=>cases ee
 | _::_::_,_,ee=>exact absurd ee (by unfold du;split <;> simp_all)
 | [d],l,ee=>
  obtain ⟨v,rfl,rd⟩:=rep1 l;have oth:(match cH d h with | some kvs=>some (D.int kvs.length,h) | none=>(aU d h).map fun p=>(D.int p.1.length,h))=some (z,h')->wpAny (model X.prog X.w) X.A (call (.builtin "len") us) (EP X pins σ Q) X.xe s:=by
   intro ee;cases q:cH d h with
   | some kvs=>
    rw [q] at ee;cases ee;obtain ⟨a,ws,rfl,ha,lk⟩:=dy S rd q;refine lh pins s σ H _ us Q I r ⟨a,ws,rfl,ha,k _ _ ?_⟩;rw [lk.length];exact .here S (.int _)
   | none=>
    rw [q] at ee;obtain ⟨⟨ys,w⟩,e1,e2⟩:=mpd ee;cases e2;obtain ⟨a,vs,rfl,hq,l2⟩:=c8 S rd e1;refine iK pins s σ H _ us Q I r ⟨a,vs,rfl,hq,k _ _ ?_⟩;rw [l2.length];exact .here S (.int _)
  cases d with
  | str x0=>
   unfold du at ee;dsimp only at ee
   by_cases c:x0.length≤sizeLine
   ·walk_at "aj";cases rd;exact iJ pins s σ H _ us Q I r ⟨x0,rfl,c,k _ _ (.here S (.int _))⟩
   ·walk_at "ak"
  | _=>exact oth ee
theorem jR:cN X (.builtin "abs") oX:=by
 walk_at "ad"
 match ds,l,ee with
 | [],_,ee=>cases ee
 | d::_::_,_,ee=>cases d <;> cases ee
 | [d],l,ee=>
  obtain ⟨v,rfl,rd⟩:=rep1 l;cases rd <;> first | (cases ee;done) | skip
  cases ee;exact nj pins s σ H _ us Q I r ⟨_,rfl,k _ _ (.here S (.int _))⟩
theorem jk:cN X (.type "tuple") jM:=by
 walk_at "ad"
 match ds,l,ee with
 | [],_,ee=>cases ee
 | _::_::_,_,ee=>cases ee
 | [d],l,ee=>
  obtain ⟨v,rfl,rd⟩:=rep1 l;obtain ⟨⟨ys,w⟩,e1,e2⟩:=mpd ee;cases e2;obtain ⟨a,rfl,⟨vs,q,l2⟩,_⟩:=cW S rd e1;refine gq pins s σ H _ us Q I r ⟨a,vs,rfl,?_⟩;generalize hb:eT d=b at q;cases q with
  | l q=>exact .inl ⟨q,fun p hp=>k _ _ (.tup S l2 hp)⟩
  | t q=>
   refine .inr ⟨q,k _ _ ?_⟩;cases rd <;> first | (cases hb;done) | skip
   cases e1;exact .here S (.tup ‹_› ‹_›)
theorem nk {K:FR} {ρ:Ad} {H:Hp}:∀{vs:List V} {xs:List D} {bs:List Bool},RepL K ρ H vs xs->lu xs=some bs->vs=bs.map V.bl
 | _,_,_,.nil,e=>by cases e;rfl
 | _,_,_,.cons r l,e=>by
  cases r <;> first | (cases e;done) | skip
  obtain ⟨bs',e1,e2⟩:=mpd e;cases e2;rw [nk l e1];rfl
theorem sh (hc:X.calm=true):cN X (.builtin "all") r8:=by
 walk_at "ad"
 match ds,l,ee with
 | [],_,ee=>cases ee
 | _::_::_,_,ee=>cases ee
 | [d],l,ee=>
  obtain ⟨v,rfl,rd⟩:=rep1 l;obtain ⟨ys,e1,e2⟩:=bnd ee;obtain ⟨bs,e3,e4⟩:=mpd e2;cases e4;obtain ⟨a,vs,rfl,ha,l2⟩:=fc S rd e1;rw [nk l2 e3] at ha;exact ni hc pins s σ H _ us Q I r ⟨a,bs,rfl,SqL.of ha,k _ _ (.here S (.bl _))⟩
theorem j9 {K:FR} {t n:String} (ht:t∈["NoneType","bool","int","str","tuple","list","dict"]) (hn:n∈["int","str","bool","tuple","list","dict"]):PySem.W.kitOne K (.type t) (.type n)=some (lK t n):=by
 simp only [List.mem_cons,List.mem_nil_iff,or_false] at ht hn;rcases ht with rfl | rfl | rfl | rfl | rfl | rfl | rfl <;> rcases hn with rfl | rfl | rfl | rfl | rfl | rfl <;> rfl
theorem cI:cN X (.builtin "isinstance") gk:=by
 walk_at "ad"
 match ds,l,ee with
 | [],_,ee=>cases ee
 | [_],_,ee=>cases ee
 | _::d::_::_,_,ee=>cases d <;> cases ee
 | [d,c],l,ee=>
  cases c <;> first | (cases ee;done) | skip
  rename_i n;unfold gk at ee;dsimp only at ee
  by_cases hn:n∈["int","str","bool","tuple","list","dict"]
  ·rw [if_pos hn] at ee;obtain ⟨t,e1,e2⟩:=mpd ee;cases e2;obtain ⟨v,u,rfl,rd,ru⟩:=rep2 l;cases ru;have fin:=k (.bl (lK t n)) H (.here S (.bl _));have go:∀ty,TyOf X.K H v (.type ty)->t=ty->ty∈["NoneType","bool","int","str","tuple","list","dict"]->wpAny (model X.prog X.w) X.A (call (.builtin "isinstance") us) (EP X pins σ Q) X.xe s:=fun ty hty e hm=>by
    subst e;exact ng pins s σ H _ us Q I r ⟨v,n,_,_,rfl,hty,j9 hm hn,fin⟩
   cases rd with
   | non=>cases e1;exact go _ .non rfl (by decide)
   | bl b=>cases e1;exact go _ (.bl b) rfl (by decide)
   | int i=>cases e1;exact go _ (.int i) rfl (by decide)
   | str h0=>cases e1;exact go _ (.str _) rfl (by decide)
   | ty _=>cases e1
   | ro _ _=>cases e1
   | lv h0 _ _=>cases e1;exact go _ (.lst h0) rfl (by decide)
   | dv h0 _ _=>cases e1;exact go _ (.dK h0) rfl (by decide)
   | @ob a m hm=>
    unfold tyD at e1;dsimp only at e1;cases q:h[m]? with
    | none=>rw [q] at e1;cases e1
    | some o=>
     rw [q] at e1;have x:=S.at_ m a o hm q;cases o with
     | lst _=>cases e1;obtain ⟨vs,e3,_⟩:=x;exact go _ (.lst e3) rfl (by decide)
     | dct _=>cases e1;obtain ⟨vs,e3,_⟩:=x;exact go _ (.dK e3) rfl (by decide)
   | @tup a vs ds h0 l0=>
    cases e1;obtain ⟨u1,u2,rfl,r1,r2⟩:=Vals.two r;obtain rfl:u1=Value.ref a:=r1;obtain rfl:u2=Value.type n:=r2;obtain ⟨its,_,⟨o,h1,h2,_⟩,_⟩:=I.tuple h0.sq;exact PySem.W.kia_one PySem.W.kitx_tuple I.kIn ⟨o,h1,h2⟩ (j9 (t:="tuple") (by decide) hn) (fun z=>nomatch z) fun tk=>⟨.bl _,H,I.tok tk,rfl,fin⟩
  ·rw [if_neg hn] at ee;cases ee
noncomputable def ny (m:AM):AM:=fun δ h=>(m δ h).bind fun p=>match p.1 with
 | [d]=>(aU d p.2).map fun q=>(q.1,p.2)
 | _=>none
theorem nM (hg:Gl X x) (hm:X.mg x=none) (hv:bootBuiltins x=some (.type "list")) (ha:SA X [e] m) (hl:f6 m 1) (hn:x≠"__name__":=by decide) (hdb:(x==("__debug__":Str))=false:=by kernel_rfl) (he:starEach [e] X.env=(false,eval e X.env)::starEach [] X.env:=by kernel_rfl) (hpl:(backTo pos (starEach [] X.env)).any (·.1)=false:=by kernel_rfl):SFL X (.Call (.Name x p) [e] [] pos) (ny m):=
 (gE iI hg hm hv ha hn hdb he hpl).imp fun σ H Q ⟨ρ,δ,h,d,h',R,S,e,k⟩=>by
  obtain ⟨⟨ds,h1⟩,e1,e2⟩:=bnd e;refine ⟨ρ,δ,h,ds,h1,R,S,e1,fun vs ρ1 H1 T1 S1 r1=>?_⟩
  match ds,hl _ _ _ _ e1,e2,r1 with
  | [d],_,e2,r1=>
   obtain ⟨⟨ys,w⟩,e3,e4⟩:=mpd e2;cases e4;obtain ⟨v,rfl,rd⟩:=rep1 r1;obtain ⟨a,ws,rfl,hq,l2⟩:=c8 S1 rd e3;exact ⟨a,ws,rfl,hq,fun l hl=>k ρ1 H1 l ws T1 S1 hl l2⟩
noncomputable def jh (o i v:D) (h:MH):Option MH:=match o with
 | .ob n=>match h[n]? with
  | some (.lst xs)=>match i with
   | .int j=>(ixN xs.length j).map fun p=>h.set n (.lst (xs.set p v))
   | _=>none
  | some (.dct kvs)=>(oN i).bind fun k=>if kvs.length < sizeLine then some (h.set n (.dct (putD kvs k v))) else none
  | none=>none
 | _=>none
noncomputable def jf (o i:EM):GM:=fun v δ h=>(o δ h).bind fun p=>(i δ p.2).bind fun q=>(jh p.1 q.1 v q.2).map fun h'=>(δ,h')
inductive RSETi (K:FR) (o i v:V) (H:Hp) (Q:Hp->Prop):Prop where
 | mk (ρ h a b c h'):Sim K ρ h H->Rep K ρ H o a->Rep K ρ H i b->Rep K ρ H v c->(jh a b c h=some h')->(∀ρ' H',Stp ρ H ρ' H'->Sim K ρ' h' H'->Q H')->RSETi K o i v H Q
def uR (K:FR):V->V->V->Hp->(Hp->Prop)->Prop:=fun o i v H Q=>RSETi K o i v H Q
theorem oj (hu:X.A.units+64 < cLine):su X (uR X.K):=by
 intro pins s σ H o i v ov iv u Q I ro ri rv hh;obtain ⟨ρ,h,a,b,c,h',S,ra,rb,rc,ee,k⟩:=hh;cases ra <;> first | (cases ee;done) | skip
 rename_i a n hn;unfold jh at ee;dsimp only at ee;cases q:h[n]? with
 | none=>rw [q] at ee;cases ee
 | some w=>
  rw [q] at ee;have x:=S.at_ n a w hn q;have ma:=List.mem_of_getElem? hn;cases w with
  | lst xs=>
   dsimp only at ee;cases rb <;> first | (cases ee;done) | skip
   rename_i j;obtain ⟨p,e1,e2⟩:=mpd ee;cases e2;obtain ⟨vs,e3,l⟩:=x;have T:Stp ρ H ρ (upd H a (.lst (vs.set p v))):=Stp.wrote S ma;exact set_list pins s σ H _ _ v ov iv u Q I ro ri rv ⟨a,vs,j,p,rfl,rfl,e3,by rw [l.length];exact e1,k ρ _ T (S.wrote hn ⟨_,az,(l.set rc p).mono T.toCh⟩)⟩
  | dct kvs=>
   dsimp only at ee;obtain ⟨ky,e1,e2⟩:=bnd ee
   by_cases z:kvs.length < sizeLine
   ·rw [if_pos z] at e2;cases e2;obtain ⟨us,e3,l⟩:=x;have ek:=iy rb e1;subst ek;obtain rfl:ov=Value.ref a:=ro;have T:Stp ρ H ρ (upd H a (.dK (putK us ky v))):=Stp.wrote S ma;exact k7 (by lia) I (ph.k e3 (by rw [l.length];exact z)) ri rv fun s' I'=>⟨_,I',k ρ _ T (S.wrote hn ⟨_,az,(l.put rc).mono T.toCh⟩)⟩
   ·rw [if_neg z] at e2;cases e2
theorem hJ (hu:X.A.units+64 < cLine) (ho:SE X o mo) (hi:SE X i mi) (ha:∀v,assign (.Subscript o i pos) X.env v=(do
   let ov←holding [v] (eval o X.env);let iv←holding [v,ov] (eval i X.env)
   standAt pos
   holding [v,ov,iv] (setItem ov iv v)
   release [v,ov,iv] []):=by intro _;kernel_rfl):SG X (.Subscript o i pos) (jf mo mi):=
 (qO ho hi (oj hu) ha).imp fun v σ H Q ⟨ρ,δ,h,d,δ',h',R,S,r,e,k⟩=>by
  obtain ⟨⟨x,h1⟩,e1,e2⟩:=bnd e;obtain ⟨⟨y,h2⟩,e3,e4⟩:=bnd e2;obtain ⟨h3,e5,e6⟩:=mpd e4;cases e6;exact ⟨ρ,δ,h,x,h1,R,S,e1,fun ov H1 ⟨ρ1,T1,S1,r1⟩=>⟨ρ1,δ,h1,y,h2,R.mono T1,S1,e3,fun iv H2 ⟨ρ2,T2,S2,r2⟩=>
   ⟨ρ2,h2,x,y,d,_,S2,r1.mono T2,r2,r.mono (T1.trans T2).toCh,e5,fun ρ3 H3 T3 S3=>k ρ3 H3 σ (T1.trans (T2.trans T3)) S3 (R.mono (T1.trans (T2.trans T3)).toCh)⟩⟩⟩
abbrev MFn:=D->List D->MH->Option (D×MH)
inductive RMi (K:FR) (f:MFn) (x:V) (vs:List V) (H:Hp) (Q:VK):Prop where
 | mk (ρ h d ds z h'):Sim K ρ h H->Rep K ρ H x d->RepL K ρ H vs ds->(f d ds h=some (z,h'))->(∀v H',bg K ρ H h' z v H'->Q v H')->RMi K f x vs H Q
def rM (K:FR) (f:MFn):V->List V->Hp->VK->Prop:=fun x vs H Q=>RMi K f x vs H Q
noncomputable def eM (isT:D->MH->Bool) (f:MFn) (o:EM) (m:AM):EM:=fun δ h=>(o δ h).bind fun p=>if isT p.1 p.2 then (m δ p.2).bind fun q=>f p.1 q.1 q.2 else none
noncomputable def dj (d:D) (h:MH):Bool:=(ix d h).isSome
noncomputable def cj:MFn:=fun d ds h=>match d,ds with
 | .ob n,[y]=>match h[n]? with
  | some (.lst xs)=>if xs.length < sizeLine then some (.non,h.set n (.lst (xs++[y]))) else none
  | _=>none
 | _,_=>none
theorem jt {K:FR} {ρ:Ad} {H:Hp} {h:MH} {v:V} {d:D} (S:Sim K ρ h H) (r:Rep K ρ H v d) (e:dj d h=true):tyV K "list" v H:=by
 obtain ⟨xs,e1⟩:=Option.isSome_iff_exists.mp e;obtain ⟨a,vs,rfl,ha,_⟩:=fc S r e1;exact .inl ⟨rfl,vs,SqL.of ha⟩
theorem hV {T id:String} {name:Str} {o e:Expr} {es:List Expr} {apos cpos:Pos} {f:MFn} {mo:EM} {m:AM} {isT:D->MH->Bool} (hT:∀{K:FR} {ρ:Ad} {H:Hp} {h:MH} {v:V} {d:D},Sim K ρ h H->Rep K ρ H v d->isT d h=true->tyV K T v H)
  (pa:PlainAttrs T) (slot:Slot T name id) (hty:typeOf (.builtin id)=pure (.type "method_descriptor")) (hm:MtR X id (rM X.K f)) (ho:SE X o mo) (ha:SA X (e::es) m)
  (hbase:attributeBase o name X.env (eval o X.env)=eval o X.env:=by kernel_rfl)
  (hfew:((backTo cpos (starEach (e::es) X.env)).all (fun x=>!x.1)&&(backToKw cpos (keywordEach [] X.env)).all (fun x=>x.1.isSome)
   &&decide ((e::es).length+([]:List Keyword).length+(if ([]:List Keyword).isEmpty then 0 else 1) < 30))=true:=by kernel_rfl)
  (hline:(apos.endLine==cpos.line)=true:=by kernel_rfl) (hs:starEach (e::es) X.env=(false,eval e X.env)::starEach es X.env:=by kernel_rfl) (hplain:(backTo cpos (starEach es X.env)).any (·.1)=false:=by kernel_rfl):
  SE X (.Call (.Attribute o name apos) (e::es) [] cpos) (eM isT f mo m):=(tP pa slot hty hm ho ha hbase hfew hline hs hplain).imp fun σ H Q ⟨ρ,δ,h,d,h',R,S,e,k⟩=>by
 walk_at "ab";dsimp only at e2
 by_cases c:isT x h1=true
 ·rw [if_pos c] at e2;obtain ⟨⟨ds,h2⟩,e3,e4⟩:=bnd e2;exact ⟨ρ,δ,h,x,h1,R,S,e1,fun v H1 ⟨ρ1,T1,S1,r1⟩=>⟨hT S1 r1 c,ρ1,δ,h1,ds,h2,R.mono T1,S1,e3,fun vs ρ2 H2 T2 S2 r2=>⟨ρ2,h2,x,ds,d,h',S2,r1.mono T2,r2,e4,fun w H3 p=>k w H3 (p.step (T1.trans T2))⟩⟩⟩
 ·rw [if_neg c] at e2;cases e2
theorem rp {K:FR} {ρ:Ad} {H:Hp} {h:MH} {n:Nat} {xs:List D} {v:V} (S:Sim K ρ h H) (r:Rep K ρ H v (.ob n)) (q:h[n]?=some (.lst xs)):∃a vs,v=.ref a∧ρ.ob[n]?=some a∧H a=some (.lst vs)∧RepL K ρ H vs xs:=by
 cases r with
 | ob hn=>obtain ⟨vs,e,l⟩:=S.at_ n _ _ hn q;exact ⟨_,vs,rfl,hn,e,l⟩
theorem ef:MtR X "list.append" (rM X.K cj):=by
 walk_at "ae";cases d <;> first | (cases ee;done) | skip
 rename_i n
 match ds,l,ee with
 | [],_,ee=>cases ee
 | _::_::_,_,ee=>cases ee
 | [y],l,ee=>
  unfold cj at ee;dsimp only at ee;cases q:h[n]? with
  | none=>rw [q] at ee;cases ee
  | some w=>
   rw [q] at ee;cases w with
   | dct _=>cases ee
   | lst ys=>
    dsimp only at ee
    by_cases c:ys.length < sizeLine
    ·walk_at "aj";obtain ⟨a,vs,rfl,hn,e1,l1⟩:=rp S rd q;obtain ⟨u,rfl,ru⟩:=rep1 l;have T:Stp ρ H ρ (upd H a (.lst (vs++[u]))):=Stp.wrote S (List.mem_of_getElem? hn);exact gF pins s σ H _ _ v us Q I rx rs ⟨a,vs,u,rfl,rfl,e1,by rw [l1.length];exact c,k _ _ ⟨ρ,T,S.wrote hn ⟨_,az,(l1.snoc ru).mono T.toCh⟩,.non⟩⟩
    ·walk_at "ak"
end Sm
namespace Sb
open PySem L2 PySem.Spec PyProof.Rows
open Builtin.SmallTypes (nextOf ownedTupleIsFree ownedTupleHandOut)
noncomputable def kn:Bool->String
 | true=>"list_iterator"
 | false=>"tuple_iterator"
def At (b:Bool) (h:Heap) (j l:Addr) (i:Nat):Prop:=∃o,h.get? j=some o∧o.cls=.type (kn b)∧o.data=.fields #[.ref l,.int i 0]
def Of (b:Bool) (h:Heap) (l:Addr) (items:Array Value):Prop:=match b with
 | true=>h.IsList l items
 | false=>h.IsTuple l items
theorem At.up (x:At b h j l i) (k:∀o,h.get? j=some o->h'.get? j=some o):At b h' j l i:=let ⟨o,e,r⟩:=x;⟨o,k o e,r⟩
theorem At.lt (x:At b h j l i):j < h.objs.size:=let ⟨_,e,_⟩:=x;Heap.lt_size e
theorem Of.data (x:Of b h l items):∃o n,h.get? l=some o∧o.data=.seq items n:=by
 cases b with
 | true=>obtain ⟨o,e,_,n,d⟩:=(show h.IsList l items from x);exact ⟨o,n,e,d⟩
 | false=>obtain ⟨o,e,_,n,d⟩:=(show h.IsTuple l items from x);exact ⟨o,n,e,d⟩
theorem Of.up (x:Of b h l items) (k:∀o,h.get? l=some o->h'.get? l=some o):Of b h' l items:=by
 cases b with
 | true=>obtain ⟨o,e,r⟩:=(show h.IsList l items from x);exact ⟨o,k o e,r⟩
 | false=>obtain ⟨o,e,r⟩:=(show h.IsTuple l items from x);exact ⟨o,k o e,r⟩
theorem my (hj:At b s.heap j l i) (hl:Of b s.heap l items) (hx:items[i]?=some x) (k:∀h',At b h' j l (i+1)->Heap.SameBut j s.heap h'->Q x {s with heap:=h'}):wpAny (model P w) A (nextOf (.ref j)) Q E s:=by
 cases b with
 | true=>exact wpAny_nextOf_list_item (show s.heap.IsListIter j l i from hj) (show s.heap.IsList l items from hl) hx k
 | false=>
  have hj':s.heap.IsTupleIter j l i:=hj;obtain ⟨o,eo,ec,ed⟩:=hj';obtain ⟨ol,el,_,nl,edl⟩:=(show s.heap.IsTuple l items from hl);unfold nextOf;refine wpAny_bind (wpAny_callSpecial?_slot (name:=Str.ofString "__next__") (show s.TypeIs (.ref j) "tuple_iterator" from ⟨o,eo,ec⟩) F.slot_tuple_iterator_next
   (wpAny_call_entry F.slot_tuple_iterator_next (show s.TypeIs (.ref j) "tuple_iterator" from ⟨o,eo,ec⟩) F.entry_tuple_iterator_next ?_ (F.args_tuple_iterator_next_1 _)))
  show wpAny _ _ (field (.ref j) 0 >>=_) _ _ s;refine wpAny_bind (wpAny_field eo ed (x:=.ref l) rfl ?_);show wpAny _ _ (if (Value.ref l==Value.none)=true then _ else _) _ _ s;rw [if_neg (show ¬((Value.ref l==Value.none)=true) by exact Bool.false_ne_true)];show wpAny _ _ (field (.ref j) 1 >>=_) _ _ s;refine wpAny_bind (wpAny_field eo ed (x:=.int i 0) rfl ?_);show wpAny _ _ (seqItems? (.ref l) >>=_) _ _ s;refine wpAny_bind (wpAny_seqItems el edl ?_);simp only [Int.toNat_natCast,hx];refine wpAny_bind (wpAny_setField eo ed (by simp) (wpAny_pure ⟨x,rfl,wpAny_pure (k _ ?_ (Heap.SameBut.update ..))⟩));exact ⟨_,Heap.get?_update_self _ eo (Obj.isFreed_of_fields (Obj.data_mapFields ed _)),(Obj.cls_mapFields ..).trans ec,by rw [Obj.data_mapFields ed];simp [rawInt]⟩
theorem pH (hh:A.handled=none) (hj:At b s.heap j l i) (hl:Of b s.heap l items) (hx:items[i]?=none) (k:∀h' e,Heap.ExtBut j s.heap h'->(∃o,h'.get? e=some o∧o.cls=.type "StopIteration")->E (.ref e) {s with heap:=h'}):wpAny (model P w) A (nextOf (.ref j)) Q E s:=by
 cases b with
 | true=>exact wpAny_nextOf_list_end hh (show s.heap.IsListIter j l i from hj) (show s.heap.IsList l items from hl) hx k
 | false=>
  have hj':s.heap.IsTupleIter j l i:=hj;obtain ⟨o,eo,ec,ed⟩:=hj';obtain ⟨ol,el,_,nl,edl⟩:=(show s.heap.IsTuple l items from hl);unfold nextOf;refine wpAny_bind (wpAny_callSpecial?_slot (name:=Str.ofString "__next__") (show s.TypeIs (.ref j) "tuple_iterator" from ⟨o,eo,ec⟩) F.slot_tuple_iterator_next
   (wpAny_call_entry F.slot_tuple_iterator_next (show s.TypeIs (.ref j) "tuple_iterator" from ⟨o,eo,ec⟩) F.entry_tuple_iterator_next ?_ (F.args_tuple_iterator_next_1 _)))
  show wpAny _ _ (field (.ref j) 0 >>=_) _ _ s;refine wpAny_bind (wpAny_field eo ed (x:=.ref l) rfl ?_);show wpAny _ _ (if (Value.ref l==Value.none)=true then _ else _) _ _ s;rw [if_neg (show ¬((Value.ref l==Value.none)=true) by exact Bool.false_ne_true)];show wpAny _ _ (field (.ref j) 1 >>=_) _ _ s;refine wpAny_bind (wpAny_field eo ed (x:=.int i 0) rfl ?_);show wpAny _ _ (seqItems? (.ref l) >>=_) _ _ s;refine wpAny_bind (wpAny_seqItems el edl ?_);simp only [Int.toNat_natCast,hx];refine wpAny_bind (wpAny_rule (wpAny_bind (wpAny_setField eo ed (by simp) ?_)));show wpAny _ _ (newExc (.type "StopIteration") [] >>=_) _ _ _;refine wpAny_bind ?_;simp only [newExc,newTuple];refine wpAny_bind (wpAny_newObj_type ?_ (by size_fits));refine wpAny_bind (m:=firstArgMember _ _) (wpAny_of_eq (a:=Value.none) (by first | (simp only [firstArgMember];rfl) | rfl) ?_);refine wpAny_newObj_type ?_ (by size_fits);simp only [raiseNew];refine wpAny_bind (wpAny_handled ?_)
  first | rw [hh] | rw [show A.in1.handled=none from hh]
  refine wpAny_bind (wpAny_pure (wpAny_throw (k _ _ (((Heap.SameBut.update ..).extBut.push _).push _) ⟨_,Heap.get?_push_size _ rfl,rfl⟩)))
open Builtin.SmallTypes (nextOf ownedTupleIsFree ownedTupleHandOut)
variable {P:Program} {w:World} {A:Around} {E:Value->Shared->Prop} {s:Shared} {b c:Bool}
theorem mK (x:Of b s.heap l items) (k:Q (.ref s.heap.objs.size) {s with heap:=s.heap.push {cls:=.type (kn b),data:=.fields #[.ref l,.int 0 0]}}):wpAny (model P w) A (pyIter (.ref l)) Q E s:=by
 cases b with
 | true=>exact wpAny_pyIter_list (show s.heap.IsList l items from x) k
 | false=>exact wpAny_pyIter_tuple (show s.heap.IsTuple l items from x) k
end Sb
namespace Sb
open PySem L2 PySem.Spec PyProof.Rows
open Builtin.SmallTypes (nextOf ownedTupleIsFree ownedTupleHandOut)
structure Zp (z T U p q l m:Addr):Prop where
 Tz:T≠z
 Uz:U≠z
 pz:p≠z
 qz:q≠z
 TU:T≠U
 Tp:T≠p
 Tq:T≠q
 Up:U≠p
 Uq:U≠q
 pq:p≠q
 lz:l≠z
 lU:l≠U
 lp:l≠p
 lq:l≠q
 mz:m≠z
 mU:m≠U
 mp:m≠p
 mq:m≠q
theorem lB (D:Zp z T U p q l m) (hz:IsZip s.heap z T U .none) (hT:IsPair s.heap T (.ref p) (.ref q)) (hU:IsPair s.heap U u v) (h1:At b s.heap p l i) (h2:At c s.heap q m i) (hl:Of b s.heap l xs) (hm:Of c s.heap m ys) (hx:xs[i]?=some x) (hy:ys[i]?=some y) (k:∀h',IsZip h' z T U (rawInt s.heap.objs.size)->IsPair h' U x y->At b h' p l (i+1)->At c h' q m (i+1)->IsPair h' s.heap.objs.size x y->h'.objs.size=s.heap.objs.size+1->
   (∀a o,a≠z->a≠U->a≠p->a≠q->s.heap.get? a=some o->h'.get? a=some o)->Q (some (.ref s.heap.objs.size)) {s with heap:=h'}):wpAny (model P w) A (pyNext (.ref z)) Q E s:=by
 have ty:s.TypeIs (.ref z) "zip":=⟨_,hz,rfl⟩;unfold pyNext;refine wpAny_bind (wpAny_attempt (wpAny_callSpecial?_slot (name:=Str.ofString "__next__") ty F.slot_zip_next (wpAny_call_entry F.slot_zip_next ty F.entry_zip_next ?_ (F.args_zip_next_1 _))));show wpAny _ _ (field (.ref z) 2 >>=_) _ _ _;refine wpAny_bind (wpAny_field hz rfl (x:=.bool false) rfl ?_);show wpAny _ _ (field (.ref z) 3 >>=_) _ _ _;refine wpAny_bind (wpAny_field hz rfl (x:=.ref T) rfl (wpAny_bind (wpAny_seqItems hT rfl ?_)));show wpAny _ _ (ownedTupleIsFree (.ref z) >>=_) _ _ _;refine wpAny_bind ?_;unfold ownedTupleIsFree;refine wpAny_bind (wpAny_field hz rfl (x:=.none) rfl (wpAny_pure ?_));simp only [if_true];refine wpAny_bind (wpAny_rule (wpAny_bind (wpAny_field hz rfl (x:=.ref U) rfl (wpAny_bind (wpAny_setField_rec hz (by simp) fun k₁ z₁ t₁=>?_)))));replace z₁:IsZip k₁ z T U .ellipsis:=z₁;refine wpAny_bind ?_;simp only [List.zipIdx_cons,List.zipIdx_nil,List.forIn_cons,List.forIn_nil];refine wpAny_bind (wpAny_bind (wpAny_onRaise ?_));show wpAny _ _ (nextOf (.ref p) >>=_) _ _ _;refine wpAny_bind (my (h1.up fun o e=>t₁.extBut _ o D.pz e) (hl.up fun o e=>t₁.extBut _ o D.lz e) hx fun k₂ p₂ t₂=>wpAny_pure ?_);have U₂:IsPair k₂ U u v:=t₂.extBut _ _ D.Up (t₁.extBut _ _ D.Uz hU);refine wpAny_bind (wpAny_seqItems U₂ rfl (wpAny_bind (wpAny_updateSeq_pair U₂ fun k₃ U₃ t₃=>wpAny_bind (wpAny_letGo (wpAny_pure ?_)))));replace U₃:IsPair k₃ U x v:=U₃;refine wpAny_bind (wpAny_bind (wpAny_onRaise ?_));show wpAny _ _ (nextOf (.ref q) >>=_) _ _ _;refine wpAny_bind (my (h2.up fun o e=>t₃.extBut _ o D.Uq.symm (t₂.extBut _ o D.pq.symm (t₁.extBut _ o D.qz e))) (hm.up fun o e=>t₃.extBut _ o D.mU (t₂.extBut _ o D.mp (t₁.extBut _ o D.mz e))) hy fun k₄ q₄ t₄=>wpAny_pure ?_);have U₄:IsPair k₄ U x v:=t₄.extBut _ _ D.Uq U₃;refine wpAny_bind (wpAny_seqItems U₄ rfl (wpAny_bind (wpAny_updateSeq_pair U₄ fun k₅ U₅ t₅=>wpAny_bind (wpAny_letGo (wpAny_pure (wpAny_pure ?_))))));replace U₅:IsPair k₅ U x y:=U₅;refine wpAny_bind (wpAny_seqItems U₅ rfl (wpAny_bind (wpAny_newTuple ?_)));have sz:k₅.objs.size=s.heap.objs.size:=by rw [t₅.1,t₄.1,t₃.1,t₂.1,t₁.1]
 have z₅:IsZip k₅ z T U .ellipsis:=t₅.extBut _ _ D.Uz.symm (t₄.extBut _ _ D.qz.symm (t₃.extBut _ _ D.Uz.symm (t₂.extBut _ _ D.pz.symm z₁)));have up₅:∀a o,a≠z->a≠U->a≠p->a≠q->s.heap.get? a=some o->k₅.get? a=some o:=fun a o a1 a2 a3 a4 e=>t₅.extBut _ _ a2 (t₄.extBut _ _ a4 (t₃.extBut _ _ a2 (t₂.extBut _ _ a3 (t₁.extBut _ _ a1 e))));have p₅:At b k₅ p l (i+1):=p₂.up fun o e=>t₅.extBut _ o D.Up.symm (t₄.extBut _ o D.pq (t₃.extBut _ o D.Up.symm e));have q₅:At c k₅ q m (i+1):=q₄.up fun o e=>t₅.extBut _ o D.Uq.symm e;have zlt:z < k₅.objs.size:=Heap.lt_size z₅;show wpAny _ _ (ownedTupleHandOut (.ref z) (.ref k₅.objs.size) >>=_) _ _ _;refine wpAny_bind ?_;unfold ownedTupleHandOut;have z₆:IsZip (k₅.push {cls:=.type "tuple",data:=.seq #[x,y]}) z T U .ellipsis:=Heap.get?_push_of_some _ z₅;refine wpAny_bind (wpAny_setField_rec z₆ (by simp) fun k₇ z₇ t₇=>?_);replace z₇:IsZip k₇ z T U (rawInt k₅.objs.size):=z₇;refine wpAny_setField_rec z₇ (by simp) fun k₈ z₈ t₈=>?_;replace z₈:IsZip k₈ z T U (rawInt k₅.objs.size):=z₈;have up:∀a o,a≠z->k₅.get? a=some o->k₈.get? a=some o:=fun a o a1 e=>t₈.extBut _ _ a1 (t₇.extBut _ _ a1 (Heap.get?_push_of_some _ e));have T₈:IsPair k₈ k₅.objs.size x y:=t₈.extBut _ _ (Nat.ne_of_gt zlt) (t₇.extBut _ _ (Nat.ne_of_gt zlt) (Heap.get?_push_size _ rfl));have s8:k₈.objs.size=k₅.objs.size+1:=by rw [t₈.1,t₇.1,Heap.size_push]
 rw [sz] at z₈ T₈ s8;refine wpAny_pure ⟨_,rfl,wpAny_pure ?_⟩;show Q (some (.ref k₅.objs.size)) _;rw [sz];exact k k₈ z₈ (up _ _ D.Uz U₅) (p₅.up fun o e=>up _ o D.pz e) (q₅.up fun o e=>up _ o D.qz e) T₈ s8 fun a o a1 a2 a3 a4 e=>up a o a1 (up₅ a o a1 a2 a3 a4 e)
theorem nA (hh:A.handled=none) (D:Zp z T U p q l m) (hz:IsZip s.heap z T U .none) (hT:IsPair s.heap T (.ref p) (.ref q)) (hU:IsPair s.heap U u v) (h1:At b s.heap p l i) (h2:At c s.heap q m i) (hl:Of b s.heap l xs) (hm:Of c s.heap m ys) (he:xs[i]?=none∨ys[i]?=none) (k:∀h',(∀a o,a≠z->a≠U->a≠p->a≠q->s.heap.get? a=some o->h'.get? a=some o)->Q none {s with heap:=h'}):wpAny (model P w) A (pyNext (.ref z)) Q E s:=by
 have ty:s.TypeIs (.ref z) "zip":=⟨_,hz,rfl⟩;unfold pyNext;refine wpAny_bind (wpAny_attempt (wpAny_callSpecial?_slot (name:=Str.ofString "__next__") ty F.slot_zip_next (wpAny_call_entry F.slot_zip_next ty F.entry_zip_next ?_ (F.args_zip_next_1 _))));have fin:∀h' e,(∀a o,a≠z->a≠U->a≠p->a≠q->s.heap.get? a=some o->h'.get? a=some o)->(∃o,h'.get? e=some o∧o.cls=.type "StopIteration")->
   (fun e s'=>wpAny (model P w) A (isInstance e (.type "StopIteration")) (fun r s''=>(if r=true then Q none s'' else E e s'')) E s') (.ref e) {s with heap:=h'}:=fun h' e up ⟨o,ho,hc⟩=>
  wpAny_isInstance (T:="StopIteration") (b:=true) ⟨o,ho,hc⟩ isSubtype_stop (by rw [if_pos rfl];exact k h' up)
 show wpAny _ _ (field (.ref z) 2 >>=_) _ _ _;refine wpAny_bind (wpAny_field hz rfl (x:=.bool false) rfl ?_);show wpAny _ _ (field (.ref z) 3 >>=_) _ _ _;refine wpAny_bind (wpAny_field hz rfl (x:=.ref T) rfl (wpAny_bind (wpAny_seqItems hT rfl ?_)));show wpAny _ _ (ownedTupleIsFree (.ref z) >>=_) _ _ _;refine wpAny_bind ?_;unfold ownedTupleIsFree;refine wpAny_bind (wpAny_field hz rfl (x:=.none) rfl (wpAny_pure ?_));simp only [if_true];refine wpAny_bind (wpAny_rule (wpAny_bind (wpAny_field hz rfl (x:=.ref U) rfl (wpAny_bind (wpAny_setField_rec hz (by simp) fun k₁ z₁ t₁=>?_)))));replace z₁:IsZip k₁ z T U .ellipsis:=z₁;refine wpAny_bind ?_;simp only [List.zipIdx_cons,List.zipIdx_nil,List.forIn_cons,List.forIn_nil];refine wpAny_bind (wpAny_bind (wpAny_onRaise ?_));show wpAny _ _ (nextOf (.ref p) >>=_) _ _ _;cases ex:xs[i]? with
 | none=>
  refine wpAny_bind (pH hh (h1.up fun o e=>t₁.extBut _ o D.pz e) (hl.up fun o e=>t₁.extBut _ o D.lz e) ex fun k₂ e t₂ ⟨oe,hoe,hce⟩=>?_);have z₂:IsZip k₂ z T U .ellipsis:=t₂ _ _ D.pz.symm z₁;have ez:e≠z:=fun r=>by subst r;rw [z₂] at hoe;cases hoe;simp at hce
  refine wpAny_setField_rec z₂ (by simp) fun k₃ _ t₃=>?_;refine wpAny_bind (wpAny_isInstance (T:="StopIteration") (b:=true) ⟨oe,t₃.extBut _ _ ez hoe,hce⟩ isSubtype_stop (wpAny_pure (k _ fun a o a1 _ a3 _ r=>t₃.extBut _ _ a1 (t₂ _ _ a3 (t₁.extBut _ _ a1 r)))))
 | some x=>
  have ey:ys[i]?=none:=by rcases he with r | r;rw [ex] at r;cases r;exact r
  refine wpAny_bind (my (h1.up fun o e=>t₁.extBut _ o D.pz e) (hl.up fun o e=>t₁.extBut _ o D.lz e) ex fun k₂ p₂ t₂=>wpAny_pure ?_);have U₂:IsPair k₂ U u v:=t₂.extBut _ _ D.Up (t₁.extBut _ _ D.Uz hU);refine wpAny_bind (wpAny_seqItems U₂ rfl (wpAny_bind (wpAny_updateSeq_pair U₂ fun k₃ U₃ t₃=>wpAny_bind (wpAny_letGo (wpAny_pure ?_)))));refine wpAny_bind (wpAny_bind (wpAny_onRaise ?_));show wpAny _ _ (nextOf (.ref q) >>=_) _ _ _;refine wpAny_bind (pH hh (h2.up fun o e=>t₃.extBut _ o D.Uq.symm (t₂.extBut _ o D.pq.symm (t₁.extBut _ o D.qz e))) (hm.up fun o e=>t₃.extBut _ o D.mU (t₂.extBut _ o D.mp (t₁.extBut _ o D.mz e))) ey fun k₄ e t₄ ⟨oe,hoe,hce⟩=>?_);have z₄:IsZip k₄ z T U .ellipsis:=t₄ _ _ D.qz.symm (t₃.extBut _ _ D.Uz.symm (t₂.extBut _ _ D.pz.symm z₁));have ez:e≠z:=fun r=>by subst r;rw [z₄] at hoe;cases hoe;simp at hce
  refine wpAny_setField_rec z₄ (by simp) fun k₅ _ t₅=>?_;refine wpAny_bind (wpAny_isInstance (T:="StopIteration") (b:=true) ⟨oe,t₅.extBut _ _ ez hoe,hce⟩ isSubtype_stop (wpAny_pure (k _ fun a o a1 a2 a3 a4 r=>t₅.extBut _ _ a1 (t₄ _ _ a4 (t₃.extBut _ _ a2 (t₂.extBut _ _ a3 (t₁.extBut _ _ a1 r)))))))
abbrev g1 (b:Bool) (h:Heap) (l:Addr):Heap:=h.push {cls:=.type (kn b),data:=.fields #[.ref l,.int 0 0]}
abbrev g2 (b c:Bool) (h:Heap) (l m:Addr):Heap:=(g1 b h l).push {cls:=.type (kn c),data:=.fields #[.ref m,.int 0 0]}
abbrev g3 (b c:Bool) (h:Heap) (l m:Addr):Heap:=(g2 b c h l m).push {cls:=.type "tuple",data:=.seq #[.ref h.objs.size,.ref (g1 b h l).objs.size]}
abbrev g4 (b c:Bool) (h:Heap) (l m:Addr):Heap:=(g3 b c h l m).push {cls:=.type "tuple",data:=.seq #[.none,.none]}
abbrev g5 (b c:Bool) (h:Heap) (l m:Addr):Heap:=(g4 b c h l m).push {cls:=.type "zip",data:=.fields #[.none,.bool false,.bool false,.ref (g2 b c h l m).objs.size,.ref (g3 b c h l m).objs.size]}
theorem nz (b c:Bool) (l m:Addr) (xs ys:Array Value):PySem.Meets (Builtin.«zip.__new__» ⟨[.type "zip",.ref l,.ref m],[]⟩) (fun _ R s=>Of b s.heap l xs∧Of c s.heap m ys∧R (.ok (.ret (.ref (g4 b c s.heap l m).objs.size))) {s with heap:=g5 b c s.heap l m}):=
 .of_wp fun prog w A R s h=>by
  obtain ⟨hp,g,d,tk,os⟩:=s;obtain ⟨hl,hm,h⟩:=h;have sub:=sub_zip;have L1:Of b (Shared.heap ⟨hp,g,d,tk,os⟩) l xs:=hl;have L2:Of c (Shared.heap ⟨hp.push {cls:=.type (kn b),data:=.fields #[.ref l,.int 0 0]},g,d,tk,os⟩) m ys:=hm.up fun o e=>Heap.get?_push_of_some _ e
  wp_walk using mK L1,mK L2
  exact ⟨_,rfl,h⟩
theorem lA (hl:Of b s.heap l xs) (hm:Of c s.heap m ys) (k:∀h',IsZip h' (s.heap.objs.size+4) (s.heap.objs.size+2) (s.heap.objs.size+3) .none->IsPair h' (s.heap.objs.size+2) (.ref s.heap.objs.size) (.ref (s.heap.objs.size+1))->IsPair h' (s.heap.objs.size+3) .none .none->
   At b h' s.heap.objs.size l 0->At c h' (s.heap.objs.size+1) m 0->h'.objs.size=s.heap.objs.size+5->(∀a o,s.heap.get? a=some o->h'.get? a=some o)->Q (.ref (s.heap.objs.size+4)) {s with heap:=h'}):
  wpAny (model P w) A (call (.type "zip") [.ref l,.ref m]) Q E s:=by
 refine callType_new F.called_zip (by decide) (F.typeCall_zip_2 _ _) (F.newCall_zip_2 _ _) (fun obj=>F.args_object_init_3 obj _ _) F.entry_zip_new (nz b c l m xs ys) ⟨hl,hm,?_⟩;have z1:(g1 b s.heap l).objs.size=s.heap.objs.size+1:=Heap.size_push ..;have z2:(g2 b c s.heap l m).objs.size=s.heap.objs.size+2:=by rw [Heap.size_push,z1]
 have z3:(g3 b c s.heap l m).objs.size=s.heap.objs.size+3:=by rw [Heap.size_push,z2]
 have z4:(g4 b c s.heap l m).objs.size=s.heap.objs.size+4:=by rw [Heap.size_push,z3]
 have z5:(g5 b c s.heap l m).objs.size=s.heap.objs.size+5:=by rw [Heap.size_push,z4]
 have e5:(g5 b c s.heap l m).get? (g4 b c s.heap l m).objs.size=some _:=Heap.get?_push_size _ rfl;have e4:(g5 b c s.heap l m).get? (g3 b c s.heap l m).objs.size=some _:=Heap.get?_push_of_some _ (Heap.get?_push_size _ rfl);have e3:(g5 b c s.heap l m).get? (g2 b c s.heap l m).objs.size=some _:=Heap.get?_push_of_some _ (Heap.get?_push_of_some _ (Heap.get?_push_size _ rfl));have e2:(g5 b c s.heap l m).get? (g1 b s.heap l).objs.size=some _:=Heap.get?_push_of_some _ (Heap.get?_push_of_some _ (Heap.get?_push_of_some _ (Heap.get?_push_size _ rfl)));have e1:(g5 b c s.heap l m).get? s.heap.objs.size=some _:=Heap.get?_push_of_some _ (Heap.get?_push_of_some _ (Heap.get?_push_of_some _ (Heap.get?_push_of_some _ (Heap.get?_push_size _ rfl))));show _∧_;rw [z2,z3,z4] at e5;rw [z1,z2] at e3;rw [z3] at e4;rw [z1] at e2;rw [z4];exact ⟨⟨_,e5,rfl⟩,k _ e5 e3 e4 ⟨_,e1,rfl,rfl⟩ ⟨_,e2,rfl,rfl⟩ z5 fun a o x=>Heap.get?_push_of_some _ (Heap.get?_push_of_some _ (Heap.get?_push_of_some _ (Heap.get?_push_of_some _ (Heap.get?_push_of_some _ x))))⟩
section
variable {X:Cx} {pins:List (Addr×Obj)} {σ:L2.St} {H:Hp} {s:Shared} {h':Heap} {fp:List Addr}
theorem jY (I:L2.Inv X pins σ H s) (k:∀b o,b∉fp->s.heap.get? b=some o->h'.get? b=some o) (hf:∀b∈fp,cR X pins H b):L2.Inv X pins σ H {s with heap:=h',toks:=t'}:=by
 have nit:∀b u,H b=some u->b∉fp:=fun b u e z=>by rw [(hf b z).1] at e;cases e
 have nL:X.env.locals∉fp:=fun z=>(hf _ z).2.1 rfl;refine I.step (g':=s.gens) (d':=s.drawn) (ch:=fp) (fun b hb=>?_) (fun b o _ _ hc e _=>k b o hc e) (fun b o _ _ hc e _=>⟨o.slots,k b o hc e⟩) (fun _ _ _ _ n=>n)
  (fun b o hc e=>⟨o,k b o hc e⟩) (fun _ _ e=>e) (fun _ _ _ e=>e) (fun b ps e=>⟨#[],by rw [e];simp⟩) (fun m hm=>?_) (fun b u e=>?_) I.bare
 ·obtain ⟨f0,f1,f2,f3,f4,f5⟩:=hf b hb;exact ⟨f3,f1,f4,f5⟩
 ·obtain ⟨o,es,ep,ho,r⟩:=hm;exact ⟨o,es,ep,k _ o nL ho,r⟩
 ·refine (I.hok b u e).iY (fun c v hc q=>k c v ?_ q) (fun _ q=>q) fun _ _ q=>q;rcases hc with z | z
  ·rw [z];exact nit b u e
  ·exact nit c _ z
theorem nC (I:L2.Inv X pins σ H s) (k:∀b o,b∉fp->s.heap.get? b=some o->h'.get? b=some o) (hf:∀b∈fp,cR X pins H b) (hlt:∀b∈fp,b < s.heap.objs.size) (ht:h'.get? s.heap.objs.size=some {cls:=.type "tuple",data:=.seq us.toArray n}) (r:Vals vs us) (hz:vs.length≤sizeLine):L2.Inv X pins σ (upd H s.heap.objs.size (.tup vs)) {s with heap:=h',toks:=t'}:=by
 have nit:∀b u,H b=some u->b∉fp:=fun b u e z=>by rw [(hf b z).1] at e;cases e
 have nL:X.env.locals∉fp:=fun z=>(hf _ z).2.1 rfl;have hp:H s.heap.objs.size=none:=I.hok.fresh (Nat.le_refl _);have np:∀b o,s.heap.get? b=some o->b≠s.heap.objs.size:=fun b o e=>Nat.ne_of_lt (Heap.lt_size e);have nH:∀b u,H b=some u->b≠s.heap.objs.size:=fun b u e=>ak e hp;refine I.step (g':=s.gens) (d':=s.drawn) (ch:=fp) (fun b hb=>?_) (fun b o _ _ hc e _=>k b o hc e) (fun b o _ _ hc e _=>⟨o.slots,k b o hc e⟩) (fun b o _ e n=>by rw [ai (np b o e)];exact n)
  (fun b o hc e=>⟨o,k b o hc e⟩) (fun b _ e=>by rw [ai (nH b _ e)];exact e) (fun b _ _ e=>by rw [ai (nH b _ e)];exact e) (fun b ps e=>⟨#[],by rw [ai (nH b _ e),e];simp⟩) (fun m hm=>?_) (fun b u e=>?_) I.bare
 ·obtain ⟨f0,f1,f2,f3,f4,f5⟩:=hf b hb;exact ⟨f3,f1,f4,f5⟩
 ·obtain ⟨o,es,ep,ho,q⟩:=hm;exact ⟨o,es,ep,k _ o nL ho,q⟩
 ·by_cases z:b=s.heap.objs.size
  ·subst z;rw [az] at e;cases e;exact ⟨hz,us,r,⟨_,ht,rfl,⟨n,rfl⟩,rfl⟩⟩
  ·rw [ai z] at e;refine (I.hok b u e).iY (fun c v hc q=>k c v ?_ q) (fun c q=>?_) fun c u q=>?_
   ·rcases hc with y | y
    ·rw [y];exact nit b u e
    ·exact nit c _ y
   ·rw [ai (nH _ _ q)];exact q
   ·rw [ai (nH _ _ q)];exact q
end
def SqB (b:Bool) (K:FR) (H:Hp) (l:Addr) (xs:List V):Prop:=match b with
 | true=>SqL K H l xs
 | false=>SqT K H l xs
theorem SqB.of (I:L2.Inv X pins σ H s) (q:SqB b X.K H l xs):∃its:List Value,Vals xs its∧Of b s.heap l its.toArray:=by
 cases b with
 | true=>obtain ⟨its,r,p,_⟩:=I.list (show SqL X.K H l xs from q);exact ⟨its,r,p.isList⟩
 | false=>obtain ⟨its,r,p,_⟩:=I.tuple (show SqT X.K H l xs from q);exact ⟨its,r,p⟩
theorem SqB.inj (I:L2.Inv X pins σ H s) (q:SqB b X.K H l xs) (q':SqB b X.K H l ys):xs=ys:=by
 cases b with
 | true=>exact I.jb q q'
 | false=>exact I.gy q q'
noncomputable def Itz (b c:Bool) (K:FR) (l m:Addr):It:=
 ⟨fun i H=>∃xs ys x y,SqB b K H l xs∧SqB c K H m ys∧xs[i]?=some x∧ys[i]?=some y,
  fun i H x H'=>∃p u v,H p=none∧x=.ref p∧H'=upd H p (.tup [u,v])∧(∀xs,SqB b K H l xs->xs[i]?=some u)∧∀xs,SqB c K H m xs->xs[i]?=some v,
  fun i H=>∃xs ys,SqB b K H l xs∧SqB c K H m ys∧(xs.length≤i∨ys.length≤i)⟩
theorem lF {P:Program} {w:World} {K:FR} {es:List Expr} {k0:Nat} {pos:Pos} (b c:Bool) (z T U p q l m:Addr) (D:Zp z T U p q l m):
  Turn P w K (.Tuple es k0 pos) (Itz b c K l m) [z,T,U,p,q] z (fun i h=>IsZip h z T U .none∧IsPair h T (.ref p) (.ref q)∧(∃u v,IsPair h U u v)∧At b h p l i∧At c h q m i) where
 mem:=by simp
 obj:=fun i h st a ha=>by
  obtain ⟨h1,h2,⟨u,v,h3⟩,⟨o4,h4,_,d4⟩,⟨o5,h5,_,d5⟩⟩:=st;simp at ha;rcases ha with rfl | rfl | rfl | rfl | rfl
  ·exact ⟨_,h1,fun v z=>by cases z⟩
  ·exact ⟨_,h2,fun v z=>by cases z⟩
  ·exact ⟨_,h3,fun v z=>by cases z⟩
  ·exact ⟨o4,h4,fun v z=>by rw [d4] at z;cases z⟩
  ·exact ⟨o5,h5,fun v z=>by rw [d5] at z;cases z⟩
 keep:=fun i h h' ⟨h1,h2,⟨u,v,h3⟩,h4,h5⟩ k=>⟨k z (by simp) _ h1,k T (by simp) _ h2,⟨u,v,k U (by simp) _ h3⟩,h4.up fun o e=>k p (by simp) o e,h5.up fun o e=>k q (by simp) o e⟩
 item:=by
  walk_at "ac";obtain ⟨xs,ys,x,y,hq1,hq2,hx,hy⟩:=hg;obtain ⟨h1,h2,⟨u,v,h3⟩,h4,h5⟩:=st;obtain ⟨is1,rv1,hO1⟩:=hq1.of I;obtain ⟨is2,rv2,hO2⟩:=hq2.of I;obtain ⟨u1,hu1,ru1⟩:=rv1.get hx;obtain ⟨u2,hu2,ru2⟩:=rv2.get hy;have hlt:∀a∈[z,T,U,p,q],a < s.heap.objs.size:=fun a ha=>by
   simp at ha;rcases ha with rfl | rfl | rfl | rfl | rfl
   ·exact Heap.lt_size h1
   ·exact Heap.lt_size h2
   ·exact Heap.lt_size h3
   ·exact h4.lt
   ·exact h5.lt
  refine lB D h1 h2 h3 h4 h5 hO1 hO2 (x:=u1) (y:=u2) (by simpa using hu1) (by simpa using hu2) fun h' a1 a2 a3 a4 a5 a6 a7=>⟨_,rfl,wpAny_letOwnedTupleGo_zip a1 fun h'' b1 b2=>?_⟩;have hp:H s.heap.objs.size=none:=I.hok.fresh (Nat.le_refl _);have I1:=nC (t':=s.toks) (vs:=[x,y]) (us:=[u1,u2]) (n:=0) I (h':=h') (fp:=[z,T,U,p,q]) (fun a o ha e=>a7 a o (fun r=>ha (by simp [r])) (fun r=>ha (by simp [r])) (fun r=>ha (by simp [r])) (fun r=>ha (by simp [r])) e) hf hlt a5 (.cons ru1 (.cons ru2 .nil)) (show 2≤sizeLine by decide);have hf1:∀a∈[z,T,U,p,q],cR X pins (upd H s.heap.objs.size (.tup [x,y])) a:=fun a ha=>by
   obtain ⟨f0,f⟩:=hf a ha;exact ⟨by rw [ai (Nat.ne_of_lt (hlt a ha))];exact f0,f⟩
  have I2:=jY (t':=s.toks) I1 (h':=h'') (fp:=[z,T,U,p,q]) (fun a o ha e=>b2.extBut a o (fun r=>ha (by simp [r])) e) hf1;have hT':=a7 T _ D.Tz D.TU D.Tp D.Tq h2;exact ⟨.ref s.heap.objs.size,_,I2,rfl,⟨_,x,y,hp,rfl,rfl,fun zs hz=>by rw [hz.inj I hq1];exact hx,fun zs hz=>by rw [hz.inj I hq2];exact hy⟩,
   ⟨b1,b2.extBut T _ D.Tz hT',⟨_,_,b2.extBut U _ D.Uz a2⟩,a3.up fun o e=>b2.extBut p o D.pz e,a4.up fun o e=>b2.extBut q o D.qz e⟩,fun a ha=>(hf1 a ha).1⟩
 done:=by
  walk_at "ac";obtain ⟨xs,ys,hq1,hq2,hx⟩:=hg;obtain ⟨h1,h2,⟨u,v,h3⟩,h4,h5⟩:=st;obtain ⟨is1,rv1,hO1⟩:=hq1.of I;obtain ⟨is2,rv2,hO2⟩:=hq2.of I;have hl1:=rv1.length;have hl2:=rv2.length;exact nA (I.ok.hd hc) D h1 h2 h3 h4 h5 hO1 hO2 (by simp;lia) fun h' eb=>⟨rfl,jY (t':=s.toks) I (fp:=[z,T,U,p,q]) (fun a o ha e=>eb a o (fun r=>ha (by simp [r])) (fun r=>ha (by simp [r])) (fun r=>ha (by simp [r])) (fun r=>ha (by simp [r])) e) hf⟩
 self:=fun A i s Q E st h=>wpAny_pyIter_zip st.1 h
theorem boot_zip:bootBuiltins "zip"=some (.type "zip"):=by decide+kernel
theorem sy (n l m:Nat) (hl:l < n) (hm:m < n):Zp (n+4) (n+2) (n+3) n (n+1) l m:=by
 constructor <;> (intro h;have h:(_:Nat)=_:=h;lia)
theorem qK (hg:Gl X "zip") (hm:X.mg "zip"=none) (ha:PA X [a,a'] ta) (hs:starEach [a,a'] X.env=[(false,eval a X.env),(false,eval a' X.env)]:=by kernel_rfl) (hs2:starEach [a'] X.env=[(false,eval a' X.env)]:=by kernel_rfl):
  PI X (.Tuple es k0 tpos) (.Call (.Name "zip" p) [a,a'] [] pos) (fun σ H R=>ta σ H fun vs H1=>∃l m b c,vs=[.ref l,.ref m]∧(∃xs,SqB b X.K H1 l xs)∧(∃xs,SqB c X.K H1 m xs)∧R (Itz b c X.K l m) H1):=by
 intro pins s σ H R I h;refine Call_ (fL I hg hm boot_zip (PyProof.Rows.callWith_type1 (thn (ha pos pins s σ H _ I h) fun us s1 ⟨vs,H1,I1,r1,q1⟩=>?_) (by rw [hs,hs2]) (by rw [hs2];rfl)));obtain ⟨l,m,b,c,e,⟨xs,hq⟩,⟨ys,hq'⟩,q⟩:=q1;subst e;obtain ⟨u,v,rfl,ru,rv'⟩:=Vals.two r1;obtain rfl:u=Value.ref l:=ru;obtain rfl:v=Value.ref m:=rv';obtain ⟨its,rv,hO⟩:=hq.of I1;obtain ⟨its',rv',hO'⟩:=hq'.of I1;refine lA hO hO' fun h' a1 a2 a3 a4 a5 a6 a7=>?_;have I2:L2.Inv X pins σ H1 {s1 with heap:=h'}:=I1.kept (t':=s1.toks) a7;have hf:∀d∈[s1.heap.objs.size+4,s1.heap.objs.size+2,s1.heap.objs.size+3,s1.heap.objs.size,s1.heap.objs.size+1],cR X pins H1 d:=fun d hd=>by
  simp at hd;have:s1.heap.objs.size≤d:=by lia
  exact I1.kZ this (I1.hok.fresh this)
 have ll:l < s1.heap.objs.size:=by obtain ⟨o,n,e,_⟩:=hO.data;exact Heap.lt_size e
 have lm:m < s1.heap.objs.size:=by obtain ⟨o,n,e,_⟩:=hO'.data;exact Heap.lt_size e
 have D:Zp (s1.heap.objs.size+4) (s1.heap.objs.size+2) (s1.heap.objs.size+3) s1.heap.objs.size (s1.heap.objs.size+1) l m:=sy _ _ _ ll lm;have T:=lF (P:=X.prog) (w:=X.w) (K:=X.K) (es:=es) (k0:=k0) (pos:=tpos) b c _ _ _ _ _ l m D;refine T.self X.A 0 {s1 with heap:=h'} _ X.xe ⟨a1,a2,⟨_,_,a3⟩,a4,a5⟩ ?_;exact ⟨_,[s1.heap.objs.size+4,s1.heap.objs.size+2,s1.heap.objs.size+3,s1.heap.objs.size,s1.heap.objs.size+1],_,_,H1,rfl,I2,T,⟨a1,a2,⟨_,_,a3⟩,a4,a5⟩,hf,q⟩
end Sb
namespace Sm
open PySem L2 PySem.Spec PyProof.Rows
noncomputable def dG:List D->List D->List D
 | x::r,y::s=>.tup [x,y]::dG r s
 | _,_=>[]
theorem iQ:∀(xs ys:List D) (i:Nat),(dG xs ys)[i]?=(xs[i]?).bind fun x=>(ys[i]?).map fun y=>.tup [x,y]
 | [],_,i=>by simp [dG]
 | _::_,[],i=>by simp [dG]
 | x::r,y::s,0=>by simp [dG]
 | x::r,y::s,i+1=>by
  show (dG r s)[i]?=_;rw [iQ r s i];simp
theorem eu:∀(xs ys:List D),(dG xs ys).length=min xs.length ys.length
 | [],_=>by simp [dG]
 | _::_,[]=>by simp [dG]
 | x::r,y::s=>by simp [dG,eu r s]
theorem SeqAt.sqB {K:FR} {H:Hp} {a:Addr} {vs:List V} {b:Bool} (q:SeqAt K H a vs b):Sb.SqB b K H a vs:=by
 cases q with
 | l q=>exact q
 | t q=>exact q
theorem jU (hc:chk (ws++ws') h=true):chk ws h=true∧chk ws' h=true:=by
 induction ws with
 | nil=>exact ⟨rfl,hc⟩
 | cons x r ih=>
  obtain ⟨n,o⟩:=x;simp only [List.cons_append,chk,Bool.and_eq_true] at hc ⊢;obtain ⟨h1,h2⟩:=ih hc.2;exact ⟨⟨hc.1,h1⟩,h2⟩
noncomputable def rP (m:AM):IM:=fun δ h=>(m δ h).bind fun p=>match p.1 with
 | [d,e]=>(aU d p.2).bind fun q=>(aU e p.2).map fun r=>(dG q.1 r.1,q.2++r.2,p.2)
 | _=>none
theorem p8 (hg:Gl X "zip") (hm:X.mg "zip"=none) (ha:SA X [a,b] m) (hl:f6 m 2) (hs:starEach [a,b] X.env=[(false,eval a X.env),(false,eval b X.env)]:=by kernel_rfl) (hs2:starEach [b] X.env=[(false,eval b X.env)]:=by kernel_rfl):
  SI X (.Tuple es k0 tpos) (.Call (.Name "zip" p) [a,b] [] pos) (rP m):=
 (Sb.qK hg hm ha hs hs2).imp fun σ H Q ⟨ρ,δ,h,xs,ws,h',R,S,e,k⟩=>by
  obtain ⟨⟨ds,h1⟩,e1,e2⟩:=bnd e;refine ⟨ρ,δ,h,ds,h1,R,S,e1,fun vs ρ1 H1 T1 S1 r1=>?_⟩
  match ds,hl _ _ _ _ e1,e2,r1 with
  | [d,d'],_,e2,r1=>
   obtain ⟨⟨ys,w⟩,e3,e4⟩:=bnd e2;obtain ⟨⟨zs,w'⟩,e5,e6⟩:=mpd e4;cases e6;obtain ⟨v,v',rfl,rd,rd'⟩:=rep2 r1;obtain ⟨a,rfl,⟨us,q,l⟩,st⟩:=cW S1 rd e3;obtain ⟨a',rfl,⟨us',q',l'⟩,st'⟩:=cW S1 rd' e5;refine ⟨a,a',eT d,eT d',rfl,⟨us,q.sqB⟩,⟨us',q'.sqB⟩,k _ ρ1 H1 T1 S1 ⟨fun ρ2 H2 h2 T2 S2 hc i=>?_⟩⟩;obtain ⟨c1,c2⟩:=jU hc;obtain ⟨ws,l2,q2⟩:=st ρ2 H2 h2 T2 S2 c1;obtain ⟨ws',l2',q2'⟩:=st' ρ2 H2 h2 T2 S2 c2;refine ⟨fun hi=>⟨ws,ws',q2.sqB,q2'.sqB,by rw [l2.length,l2'.length];rw [eu] at hi;dsimp only at hi;lia⟩,fun x hx=>?_⟩;rw [iQ] at hx;obtain ⟨y,ey,hx⟩:=bnd hx;obtain ⟨y',ey',hx⟩:=mpd hx;subst hx;obtain ⟨v,ev,rv⟩:=l2.got ey;obtain ⟨v',ev',rv'⟩:=l2'.got ey';refine ⟨⟨ws,ws',v,v',q2.sqB,q2'.sqB,ev,ev'⟩,fun u H3 ⟨p,x1,x2,hp,hu,hH,hy1,hy2⟩=>?_⟩;subst hu;subst hH;have z1:x1=v:=by have:=hy1 ws q2.sqB;rw [ev] at this;exact (Option.some.inj this).symm
   have z2:x2=v':=by have:=hy2 ws' q2'.sqB;rw [ev'] at this;exact (Option.some.inj this).symm
   subst z1;subst z2;exact ⟨Stp.laid S2 hp,S2.laid hp,.tup (.inl ⟨.inl az,S2.fresh hp⟩) (.cons (rv.mono (Stp.laid S2 hp).toCh) (.cons (rv'.mono (Stp.laid S2 hp).toCh) .nil))⟩
noncomputable def iC (ls:List (Key×D)):List (Key×D)->Option Bool
 | []=>some true
 | (k,v)::r=>match gY ls k with
  | none=>some false
  | some u=>(pyD v).bind fun a=>(pyD u).bind fun b=>if a.depth≤60∧b.depth≤60 then (iC ls r).map fun c=>PyData.eqv a b&&c else none
noncomputable def m3 (ks ls:List (Key×D)):Option Bool:=if ks.length=ls.length then iC ls ks else some false
noncomputable def eqA (d e:D) (h:MH):Option Bool:=match cH d h,cH e h with
 | some ks,some ls=>m3 ks ls
 | _,_=>eqD d e h
noncomputable def gn (d e:D) (h:MH):Option (D×MH):=(eqA d e h).map fun c=>(.bl c,h)
noncomputable def fP (d e:D) (h:MH):Option (D×MH):=(eqA d e h).map fun c=>(.bl (!c),h)
theorem kd (hu:X.A.units+64 < cLine) (I:L2.Inv X pins σ H s) (lb:RepK X.K ρ H vs ls) (rb:KV vs kb):
  ∀{us:List (Key×V)} {ks:List (Key×D)} {ka:List (Key×Value)} {c:Bool},RepK X.K ρ H us ks->KV us ka->iC ls ks=some c->PySem.W.KeqHits X.A.in1 s kb ka c
 | _,_,_,c,.nil,ra,e=>by
  cases ra;cases e;exact .nil
 | _,_,_,c,.cons (k:=k) (v:=v) (d:=d) r l,ra,e=>by
  cases ra with
  | cons ra rr=>
   rename_i p ka;obtain ⟨k',y⟩:=p;obtain ⟨ek,ry⟩:=ra;dsimp only at ek ry;subst ek;simp only [iC] at e;have rel:=rb.val k;rcases lb.val k with ⟨h1,h2⟩ | ⟨d',v',h1,h2,r'⟩
   ·rw [h1] at e;cases e;rw [h2] at rel;refine .miss ?_;cases q:valueAt kb k with
    | none=>rfl
    | some _=>rw [q] at rel;exact rel.elim
   ·rw [h1] at e;obtain ⟨a,e1,e⟩:=bnd e;obtain ⟨b,e2,e⟩:=bnd e
    by_cases z:a.depth≤60∧b.depth≤60
    ·rw [if_pos z] at e;obtain ⟨c',e3,e4⟩:=mpd e;subst e4;rw [h2] at rel;cases q:valueAt kb k with
     | none=>rw [q] at rel;exact rel.elim
     | some y'=>
      rw [q] at rel;obtain ⟨r1,c1⟩:=r.rds e1;obtain ⟨r2,c2⟩:=r'.rds e2;obtain ⟨as,ra1⟩:=r1.reads I ry;obtain ⟨bs,ra2⟩:=r2.reads I rel;refine .hit q (PySem.SeqAt.eqAt_reads a b _ s y y' as bs ra1 ra2 c1 c2 ?_) (kd hu I lb rb l rr e3);have:min a.depth b.depth≤a.depth:=Nat.min_le_left _ _;show X.A.units+1+min a.depth b.depth < cLine
      lia
    ·rw [if_neg z] at e;cases e
theorem mT (hu:X.A.units+64 < cLine) (I:L2.Inv X pins σ H s) (rx:L2.RelV x v) (ry:L2.RelV y u) (S:Sim X.K ρ h H) (rd:Rep X.K ρ H x d) (re:Rep X.K ρ H y e) (ee:eqA d e h=some c):
  (∀Q:Value->Shared->Prop,Q (.bool c) s->wpAny (model X.prog X.w) X.A (compareOp .Eq v u) Q X.xe s)∧∀Q:Value->Shared->Prop,Q (.bool (!c)) s->wpAny (model X.prog X.w) X.A (compareOp .NotEq v u) Q X.xe s:=by
 have data:eqD d e h=some c->(∀Q:Value->Shared->Prop,Q (.bool c) s->wpAny (model X.prog X.w) X.A (compareOp .Eq v u) Q X.xe s)∧∀Q:Value->Shared->Prop,Q (.bool (!c)) s->wpAny (model X.prog X.w) X.A (compareOp .NotEq v u) Q X.xe s:=by
  intro ee;obtain ⟨a,e3,e4⟩:=bnd ee;obtain ⟨b,e5,e6⟩:=bnd e4
  by_cases w:a.depth≤64∧b.depth≤64
  ·rw [if_pos w] at e6;cases e6;obtain ⟨r1,c1⟩:=ib S rd e3;obtain ⟨r2,c2⟩:=ib S re e5;obtain ⟨as,ra⟩:=r1.reads I rx;obtain ⟨bs,rb⟩:=r2.reads I ry;exact ⟨fun Q q=>eq_dataH ra rb (cP c1 w.1) (cP c2 w.2) hu q,fun Q q=>ne_dataH ra rb (cP c1 w.1) (cP c2 w.2) hu q⟩
  ·rw [if_neg w] at e6;cases e6
 unfold eqA at ee;cases q1:cH d h with
 | none=>rw [q1] at ee;exact data ee
 | some ks=>
  cases q2:cH e h with
  | none=>rw [q1,q2] at ee;exact data ee
  | some ls=>
   rw [q1,q2] at ee;obtain ⟨a,us,rfl,ha,la⟩:=dy S rd q1;obtain ⟨b,ws,rfl,hb,lb⟩:=dy S re q2;obtain rfl:v=Value.ref a:=rx;obtain rfl:u=Value.ref b:=ry;obtain ⟨_,na,ka,ra,da⟩:=mX I.hok ha;obtain ⟨_,nb,kb,rb,db⟩:=mX I.hok hb;have l1:ka.length=ks.length:=by rw [←la.length];exact (Paired.length ra).symm
   have l2:kb.length=ls.length:=by rw [←lb.length];exact (Paired.length rb).symm
   dsimp only [m3] at ee
   by_cases z:ks.length=ls.length
   ·rw [if_pos z] at ee;have hits:=kd hu I lb rb la ra ee;have ez:(ka.length==kb.length&&c)=c:=by rw [l1,l2,z,beq_self_eq_true,Bool.true_and]
    exact ⟨fun Q q=>PySem.W.keq_eq na nb da db (by lia) (fun _=>hits) (by rw [ez];exact q),fun Q q=>PySem.W.keq_ne na nb da db (by lia) (fun _=>hits) (by rw [ez];exact q)⟩
   ·rw [if_neg z] at ee;cases ee;have ez:(ka.length==kb.length&&false)=false:=Bool.and_false _;have nh:ka.length=kb.length->PySem.W.KeqHits X.A.in1 s kb ka false:=fun q=>absurd (by rw [←l1,←l2];exact q) z;exact ⟨fun Q q=>PySem.W.keq_eq na nb da db (by lia) nh (by rw [ez];exact q),fun Q q=>PySem.W.keq_ne na nb da db (by lia) nh (by rw [ez];exact q)⟩
theorem fF (hu:X.A.units+64 < cLine):OpS X (compareOp .Eq) gn:=by
 walk_at "aa";obtain ⟨c,e1,e2⟩:=mpd ee;cases e2;exact (mT hu I rx ry S rd re e1).1 _ ⟨.bl _,H,I,rfl,k _ _ (.here S (.bl _))⟩
theorem fE (hu:X.A.units+64 < cLine):OpS X (compareOp .NotEq) fP:=by
 walk_at "aa";obtain ⟨c,e1,e2⟩:=mpd ee;cases e2;exact (mT hu I rx ry S rd re e1).2 _ ⟨.bl _,H,I,rfl,k _ _ (.here S (.bl _))⟩
theorem pd:bootBuiltins "list"=some (.type "list"):=by decide+kernel
theorem dB:bootBuiltins "tuple"=some (.type "tuple"):=by decide+kernel
theorem pe:bootBuiltins "bool"=some (.type "bool"):=by decide+kernel
theorem si:bootBuiltins "int"=some (.type "int"):=by decide+kernel
theorem en:bootBuiltins "str"=some (.type "str"):=by decide+kernel
theorem fX:bootBuiltins "len"=some (.builtin "len"):=by decide+kernel
theorem jV:bootBuiltins "abs"=some (.builtin "abs"):=by decide+kernel
theorem ax:bootBuiltins "isinstance"=some (.builtin "isinstance"):=by decide+kernel
theorem sj:bootBuiltins "all"=some (.builtin "all"):=by decide+kernel
noncomputable def pR (sc:Scope) (x:Str):Bool:=match sc.names.lookup x with
 | some .local=>true
 | some .cell=>true
 | some .free=>true
 | _=>false
noncomputable def oK (sc:Scope) (x:Str):Bool:=match sc.names.lookup x with
 | some .local=>true
 | some .cell=>true
 | _=>false
noncomputable def fnB (X:Cx) (x:Str):Bool:=X.fn x||(match X.env.scope.names.lookup x with
 | some .local=>true
 | _=>false)
theorem pQ (h:pR sc x=true):Vis sc x:=by
 unfold pR at h
 split at h <;> first | (cases h;done) | skip
 ·exact .inl ‹_›
 ·exact .inr (.inl ‹_›)
 ·exact .inr (.inr ‹_›)
theorem mF (h:oK sc x=true):Loc sc x:=by
 unfold oK at h
 split at h <;> first | (cases h;done) | skip
 ·exact .inl ‹_›
 ·exact .inr ‹_›
theorem mO (h:fnB X x=true):X.fn x=true∨X.env.scope.names.lookup x=some .local:=by
 unfold fnB at h;rw [Bool.or_eq_true] at h;rcases h with h | h
 ·exact .inl h
 ·split at h
  ·exact .inr ‹_›
  ·cases h
theorem sv (i:Nat) (hN:X.N[i]?=some x:=by kernel_rfl) (hv:pR X.env.scope x=true:=by kernel_rfl) (hd:(x==("__debug__":Str))=false:=by kernel_rfl) (hcd:(x==("__classdict__":Str))=false:=by kernel_rfl):SE X (.Name x pos) (af i):=qa hN (pQ hv) hd hcd
theorem sset (i:Nat) (hN:X.N.Nodup) (he:SE X e ma) (hi:X.N[i]?=some x:=by kernel_rfl) (hx:oK X.env.scope x=true:=by kernel_rfl) (hs:swapsWith e (some (.Name x pos')) pos.line X.env=pure false:=by kernel_rfl) (hf:fnB X x=true:=by kernel_rfl):SS X (.Assign [.Name x pos'] e pos) (bG i ma):=p4 hN hi (mF hx) he hs (mO hf)
theorem sgn (i:Nat) (hN:X.N.Nodup) (hi:X.N[i]?=some x:=by kernel_rfl) (hx:oK X.env.scope x=true:=by kernel_rfl) (hf:fnB X x=true:=by kernel_rfl):SG X (.Name x pos) (gN i):=nK hN hi (mF hx) (mO hf)
noncomputable def uA (i j:Nat) (m:AM):SM:=fun δ h=>(m δ h).bind fun p=>match p.1 with
 | [a,b]=>some (.nx,(δ.set i (some a)).set j (some b),p.2)
 | _=>none
structure Df (P:Program) (w:World) (K:FR) (mg:Str->Option Value) (base:Heap) (nm:Str) (k:Nat) (ps:List Str) (n:Nat) (F:Fn):Prop where
 ex:∃(f:Addr) (fd:FuncData),FnOk P w K mg base CX0 k f fd ps (spF K n F)∧PySem.W.keepIn K (.ref f)=true∧Binds K fd ps []∧mg nm=some (.ref f)
theorem tf (d:Df X.prog X.w X.K X.mg X.base nm k ps n F) (hr:Room k' X.A) (hk:k≤k') (ha:SA X (e::es) m) (hl:f6 m n) (hg:Gl X nm:=by unfold Gl;kernel_rfl) (hdb:(nm==("__debug__":Str))=false:=by kernel_rfl) (he:starEach (e::es) X.env=(false,eval e X.env)::starEach es X.env:=by kernel_rfl) (hpl:(backTo pos (starEach es X.env)).any (·.1)=false:=by kernel_rfl):SE X (.Call (.Name nm p) (e::es) [] pos) (eFn F m):=by
 obtain ⟨f,fd,G,kf,bf,mf⟩:=d.ex;exact nQ G (hr.mono hk) hg mf kf bf ha hl hdb he hpl
theorem oI {P:Program} {w:World} {K:FR} {mg:Str->Option Value} {base:Heap} {k n:Nat} {f:Addr} {fd:FuncData} {ps:List Str}:FnOk P w K mg base CX0 k f fd ps (spF K n fun _ _=>none):=
 ⟨fun vs H Q E hh=>(by obtain ⟨_,_,_,_,_,_,_,_,e,_⟩:=hh;cases e),fun A outer s H args us vs Q E _ _ _ _ hh=>(by obtain ⟨_,_,_,_,_,_,_,_,e,_⟩:=hh;cases e)⟩
end Sm
namespace L2
open PySem PySem.Spec PyProof.Rows
section
variable {X:Cx} {N':List Str} {caps:List (Option Nat)} {scope:Scope} {e tg iter:Expr} {ifs:List Expr} {p:Pos} {wi:TI} {g:TG} {tc:TT} {tm:Addr->TK} {o:Addr->HO} {na:Sem Value} {act:Addr->Env->Sem Unit}
end
end L2
namespace Sm
open PySem L2 PySem.Spec PyProof.Rows
structure Ac (α:Type) where
 at_:FR->Ad->Hp->Addr->α->Prop
 mono:∀{K:FR} {ρ ρ':Ad} {H H':Hp} {l:Addr} {a:α},at_ K ρ H l a->Ch ρ H ρ' H'->H' l=H l->at_ K ρ' H' l a
abbrev MK (α:Type):=DS->MH->α->Option (DS×MH×α)
section
variable {α:Type} {K:FR} {A:Ac α} {l:Addr} {g:GM} {mt:TM} {m:MK α}
end
section
variable {α:Type} {X:Cx} {A:Ac α} {g:GM} {mt:TM} {m:MK α} {mi:IM} {e tg iter:Expr} {ifs:List Expr} {d:Nat} {p:Pos} {act:Addr->Env->Sem Unit}
end
end Sm
namespace L2
open PySem PySem.Spec PyProof.Rows
section
variable {P:Program} {w:World} {A:Around} {E:Value->Shared->Prop} {s:Shared} {a:Addr} {ks:List Str}
end
end L2
namespace Sm
open PySem L2 PySem.Spec PyProof.Rows
end Sm
namespace L2
open PySem PySem.Spec PyProof.Rows
end L2
namespace Sm
open PySem L2 PySem.Spec PyProof.Rows
section
variable {α:Type} {K:FR} {A:Ac α} {g:GM} {mt:TM} {m:MK α}
end
section
variable {X:Cx} {k v tg iter elt tg2 iter2:Expr} {pos:Pos} {mk mv me:EM} {mt mt2:TM} {g g2:GM} {N':List Str} {caps:List (Option Nat)} {scope:Scope} {ifs ifs2:List Expr} {mi mi2:IM}
theorem dR {K:FR} {ρ:Ad} {H:Hp}:∀(ss:List Str),(∀k∈ss,PyData.strOk k=true)->RepL K ρ H (ss.map V.str) (ss.map D.str)
 | [],_=>.nil
 | x::r,h=>.cons (.str (h x List.mem_cons_self)) (dR r fun k hk=>h k (List.mem_cons_of_mem _ hk))
end
end Sm
namespace L2
open PySem PySem.Spec PyProof.Rows
theorem i6 (its:List Value):slicePick its.toArray none none (some (-1))=its.reverse.toArray:=by
 unfold slicePick;congr 1;have hb:sliceBounds none none (some (-1)) its.toArray.size=((its.length:Int)-1,-1,-1):=by
  unfold sliceBounds;simp
 rw [hb];dsimp only;have hr:sliceRange ((its.length:Int)-1) (-1) (-1)=(List.range its.length).map fun k=>its.length-1-k:=by
  unfold sliceRange;dsimp only;rw [if_neg (by decide)];have hc:(if (its.length:Int)-1 > -1 then ((its.length:Int)-1 - -1 - -1-1) / (- -1) else 0)=(its.length:Int):=by
   split
   ·simp
   ·lia
  rw [hc,Int.toNat_natCast];refine List.map_congr_left fun k hk=>?_;have:=List.mem_range.mp hk
  lia
 rw [hr];refine List.ext_getElem? fun i=>?_;rw [List.filterMap_map];have hall:∀k∈List.range its.length,((fun x=>its.toArray[x]?)∘fun k=>its.length-1-k) k=some (its.getD (its.length-1-k) .none):=fun k hk=>by
  have:=List.mem_range.mp hk;show its.toArray[its.length-1-k]?=_;rw [List.getElem?_toArray,List.getD_eq_getElem?_getD,List.getElem?_eq_getElem (by lia)];rfl
 have hm:∀l:List Nat,(∀k∈l,((fun x=>its.toArray[x]?)∘fun k=>its.length-1-k) k=some (its.getD (its.length-1-k) .none))->l.filterMap ((fun x=>its.toArray[x]?)∘fun k=>its.length-1-k)=l.map fun k=>its.getD (its.length-1-k) .none:=by
  intro l
  induction l with
  | nil=>intro _;rfl
  | cons k r ih=>intro h;rw [List.filterMap_cons,h k List.mem_cons_self,List.map_cons,ih fun x hx=>h x (List.mem_cons_of_mem _ hx)]
 rw [hm _ hall,List.getElem?_map]
 by_cases z:i < its.length
 ·rw [List.getElem?_range z,List.getElem?_reverse z];simp only [Option.map];rw [List.getD_eq_getElem?_getD,List.getElem?_eq_getElem (by lia)];rfl
 ·rw [List.getElem?_eq_none (by simpa using z),List.getElem?_eq_none (by simpa using z)];rfl
theorem gw:∀{xs:List V} {us:List Value} {x:V} {u:Value},Vals xs us->RelV x u->Vals (xs++[x]) (us++[u])
 | _,_,_,_,.nil,r=>.cons r .nil
 | _,_,_,_,.cons r l,r'=>.cons r (gw l r')
theorem fi:∀{xs:List V} {us:List Value},Vals xs us->Vals xs.reverse us.reverse
 | _,_,.nil=>.nil
 | _,_,.cons r l=>by
  rw [List.reverse_cons,List.reverse_cons];exact gw (fi l) r
section
variable {X:Cx} {e st:Expr} {te ts:TE} {pos p2:Pos}
end
end L2
namespace Sm
open PySem L2 PySem.Spec PyProof.Rows
section
variable {X:Cx} {e st a b c:Expr} {ma ms mb mc:EM} {pos p2:Pos}
theorem RepL.rev {K:FR} {ρ:Ad} {H:Hp}:∀{vs:List V} {ds:List D},RepL K ρ H vs ds->RepL K ρ H vs.reverse ds.reverse
 | _,_,.nil=>.nil
 | _,_,.cons r l=>by rw [List.reverse_cons,List.reverse_cons];exact (RepL.rev l).snoc r
end
end Sm
namespace L2
open PySem PySem.Spec PyProof.Rows
open HT in
theorem kE {t sl:Addr} {items:Array Value} {vl vu:Value} {lo hi:Option Int} {Q:Value->Shared->Prop} (ht:IsTup s.heap t items) (hs:s.heap.IsSliceOf sl vl vu .none) (pl:IsPart vl lo) (pu:IsPart vu hi)
  (hw:sIx items.size 0 lo=0∧sIx items.size items.size hi=items.size) (h:Q (.ref t) s):wpAny (model prog w) A (getItem (.ref t) (.ref sl)) Q E s:=by
 obtain ⟨os,hos,hcs,hds⟩:=id hs;have hTs:s.TypeIs (.ref sl) "slice":=⟨os,hos,hcs⟩;unfold getItem
 try with_reducible refine wpAny_holding ?_
 first | refine wpAny_bind (wpAny_pure ?_) | skip
 refine wpAny_bind (wpAny_sequenceKey ht.typeIs (by decide) ?_);refine wpAny_bind (wpAny_callSpecial?_slot (name:=Str.ofString "__getitem__") ht.typeIs PyProof.Rows.slot_tuple_getitem (wpAny_call_entry PyProof.Rows.slot_tuple_getitem ht.typeIs entry_tuple_getitem ?_ (args_tuple_getitem _ _)));show wpAny _ _ (Builtin.Tuple.tupleItemsOf (.ref t) >>=_) _ _ s;refine wpAny_bind (tupleItemsOf_ ht (wpAny_bind (wpAny_typeOf hTs ?_)));rw [if_pos (by decide)];refine wpAny_bind (bN hs pl pu ?_);show wpAny _ _ (if (((sIx items.size 0 lo:Nat):Int)==0&&(1:Int)==1&&(sIx items.size items.size hi-sIx items.size 0 lo)==items.size)=true then _ else _) _ _ s;rw [if_pos (by rw [hw.1,hw.2];simp)];unfold Builtin.Tuple.tupleIsExact;simp only [bind_assoc,pure_bind];refine wpAny_bind (wpAny_typeOf ht.typeIs ?_);rw [if_pos (by decide)]
 first
  | exact wpAny_bind (wpAny_rule (wpAny_pure ⟨_,rfl,wpAny_pure h⟩))
  | exact wpAny_bind (wpAny_rule (wpAny_bind (wpAny_pure (wpAny_pure ⟨_,rfl,wpAny_pure h⟩))))
def uM (K:FR):V->Option Int->Option Int->Hp->VK->Prop:=fun x lo hi H Q=>∃a xs,x=.ref a∧SqT K H a xs∧(HT.sIx xs.length 0 lo=0∧HT.sIx xs.length xs.length hi=xs.length)∧Q (.ref a) H
theorem lO:SlR X (uM X.K):=by
 intro pins s σ H x v vl vu lo hi sl Q I rx hs pl pu h;obtain ⟨a,xs,rfl,hx,hw,q⟩:=h;cases rx;obtain ⟨its,r,ht,hz⟩:=I.tuple hx;have hlen:its.toArray.size=xs.length:=by rw [List.size_toArray];exact r.length.symm
 exact ⟨"tuple",_,PyProof.Rows.slot_tuple_getitem.lookup,ht.typeIs,kE ht hs pl pu (by rw [hlen];exact hw) ⟨.ref a,H,I,rfl,q⟩⟩
end L2
namespace Sm
open PySem L2 PySem.Spec PyProof.Rows
section
variable {X:Cx}
noncomputable def oU (d:D) (lo hi:Option Int) (h:MH):Option (D×MH):=match d with
 | .tup xs=>if HT.sIx xs.length 0 lo=0∧HT.sIx xs.length xs.length hi=xs.length then some (.tup xs,h) else some (.tup (cutD xs lo hi),h)
 | d=>fSl d lo hi h
noncomputable def se (a:EM) (l u:PM):EM:=fun δ h=>(a δ h).bind fun p=>(l δ p.2).bind fun q=>(u δ q.2).bind fun r=>oU p.1 q.1 r.1 r.2
inductive RSLAi (K:FR) (x:V) (lo hi:Option Int) (H:Hp) (Q:VK):Prop where
 | mk (ρ h d z h'):Sim K ρ h H->Rep K ρ H x d->(oU d lo hi h=some (z,h'))->(∀v H',bg K ρ H h' z v H'->Q v H')->RSLAi K x lo hi H Q
def uQ (K:FR):V->Option Int->Option Int->Hp->VK->Prop:=fun x lo hi H Q=>RSLAi K x lo hi H Q
theorem p3:SlR X (uQ X.K):=by
 intro pins s σ H x v vl vu lo hi sl Q I rx hs pl pu hh;obtain ⟨ρ,h,d,z,h',S,rd,ee,k⟩:=hh;cases d with
 | tup xs=>
  unfold oU at ee;dsimp only at ee
  by_cases c:HT.sIx xs.length 0 lo=0∧HT.sIx xs.length xs.length hi=xs.length
  ·walk_at "aj";have rd0:=rd;cases rd with | tup h0 l0=>
   exact lO pins s σ H _ v vl vu lo hi sl Q I rx hs pl pu ⟨_,_,rfl,h0.sq,by rw [l0.length];exact c,k _ _ (.here S rd0)⟩
  ·rw [if_neg c] at ee;exact pk pins s σ H x v vl vu lo hi sl Q I rx hs pl pu ⟨ρ,h,_,z,h',S,rd,by unfold fSl;dsimp only;rw [if_neg c];exact ee,k⟩
 | _=>exact pk pins s σ H x v vl vu lo hi sl Q I rx hs pl pu ⟨ρ,h,_,z,h',S,rd,ee,k⟩
theorem qb {a:Expr} {lo hi:Option Expr} {pos p2:Pos} {ma:EM} {ml mu:PM} (ha:SE X a ma) (hl:SP' X lo ml) (hu:SP' X hi mu):SE X (.Subscript a (.Slice lo hi none p2) pos) (se ma ml mu):=
 (l8 p3 ha hl hu).imp fun σ H Q ⟨ρ,δ,h,d,h',R,S,e,k⟩=>by
  obtain ⟨⟨x,h1⟩,e1,e2⟩:=bnd e;obtain ⟨⟨l,h2⟩,e3,e4⟩:=bnd e2;obtain ⟨⟨u,h3⟩,e5,e6⟩:=bnd e4;exact ⟨ρ,δ,h,x,h1,R,S,e1,fun v H1 ⟨ρ1,T1,S1,r1⟩=>⟨ρ1,δ,h1,l,h2,R.mono T1.toCh,S1,e3,fun ρ2 H2 T2 S2=>⟨ρ2,δ,h2,u,h3,(R.mono T1.toCh).mono T2.toCh,S2,e5,fun ρ3 H3 T3 S3=>
   ⟨ρ3,h3,x,d,h',S3,r1.mono (T2.trans T3).toCh,e6,fun w H4 p=>k w H4 (p.step (T1.trans (T2.trans T3)))⟩⟩⟩⟩
noncomputable def dr (d e:D) (h:MH):Option (D×MH):=match d,e with
 | .str x,.int n=>if x.length≤1000∧0≤n∧n≤1000∧PyData.strOk (Txt.mul x n)=true then some (.str (Txt.mul x n),h) else none
 | d,e=>rX d e h
theorem cO:OpS X (binaryOp .Mult) dr:=by
 walk_at "aa";unfold dr at ee
 split at ee
 ·rename_i x0 n
  by_cases c:x0.length≤1000∧0≤n∧n≤1000∧PyData.strOk (Txt.mul x0 n)=true
  ·walk_at "aj";cases rd;cases re;obtain ⟨t1,rfl⟩:=rx;obtain ⟨t2,rfl⟩:=ry;obtain ⟨c1,c2,c3,c4⟩:=c;refine SB.mul ⟨?_,fun _ _=>?_,fun _ _=>?_⟩ fun t' k'=>⟨.str _,H,I.kept (t':=k') (h':=s.heap) fun _ _ e=>e,⟨t',rfl⟩,k _ _ (.here S (.str c4))⟩
   ·rw [decide_eq_false (by lia),decide_eq_false (by lia)];rfl
   ·have h1:(9007199254740991:Int)≤(2^63-1) / n:=by
     refine Int.le_ediv_of_mul_le (by lia) ?_;have:9007199254740991*n≤9007199254740991*1000:=Int.mul_le_mul_of_nonneg_left c3 (by decide)
     lia
    lia
   ·have h1:x0.length*n.toNat≤1000*1000:=Nat.mul_le_mul c1 (by lia);refine decide_eq_false ?_;have:=sizeLine_eq
    lia
  ·walk_at "ak"
 ·exact q0 pins s σ H x y v u Q I rx ry ⟨ρ,h,_,_,z,h',S,rd,re,ee,k⟩
end
end Sm
namespace L2
open PySem PySem.Spec PyProof.Rows
theorem lS (its:List Value):((List.range its.length).filterMap fun (k:Nat)=>its.toArray[(((its.length:Int)-1)+(k:Int)*(-1)).toNat]?).toArray=its.reverse.toArray:=by
 rw [←i6];unfold slicePick;have hb:sliceBounds none none (some (-1)) its.toArray.size=((its.length:Int)-1,-1,-1):=by
  unfold sliceBounds;simp
 rw [hb];dsimp only;unfold sliceRange;dsimp only;rw [if_neg (by decide)];have hc:(if (its.length:Int)-1 > -1 then ((its.length:Int)-1 - -1 - -1-1) / (- -1) else 0)=(its.length:Int):=by
  split
  ·simp
  ·lia
 rw [hc,Int.toNat_natCast,List.filterMap_map];congr 2
 funext k
 show _=its.toArray[((its.length:Int)-1+-1*(k:Int)).toNat]?;rw [Int.mul_comm]
open HT in
theorem nD {t sl:Addr} {its:List Value} {tk:Tok} {Q:Value->Shared->Prop} (ht:IsTup s.heap t its.toArray) (hs:s.heap.IsSliceOf sl .none .none (.int (-1) tk))
  (h:Q (.ref s.heap.objs.size) {s with heap:=s.heap.push {cls:=.type "tuple",data:=.seq its.reverse.toArray}}) (hsz:its.length≤sizeLine):wpAny (model prog w) A (getItem (.ref t) (.ref sl)) Q E s:=by
 obtain ⟨os,hos,hcs,hds⟩:=id hs;have hTs:s.TypeIs (.ref sl) "slice":=⟨os,hos,hcs⟩;unfold getItem
 try with_reducible refine wpAny_holding ?_
 first | refine wpAny_bind (wpAny_pure ?_) | skip
 refine wpAny_bind (wpAny_sequenceKey ht.typeIs (by decide) ?_);refine wpAny_bind (wpAny_callSpecial?_slot (name:=Str.ofString "__getitem__") ht.typeIs PyProof.Rows.slot_tuple_getitem (wpAny_call_entry PyProof.Rows.slot_tuple_getitem ht.typeIs entry_tuple_getitem ?_ (args_tuple_getitem _ _)));show wpAny _ _ (Builtin.Tuple.tupleItemsOf (.ref t) >>=_) _ _ s;refine wpAny_bind (tupleItemsOf_ ht (wpAny_bind (wpAny_typeOf hTs ?_)));rw [if_pos (by decide)];refine wpAny_bind (m:=Builtin.Slice.sliceApplied _ _) ?_;unfold Builtin.Slice.sliceApplied Builtin.Slice.sliceFields;refine wpAny_bind (wpAny_bind (wpAny_field hos hds (x:=.none) rfl (wpAny_bind (wpAny_field hos hds (x:=.none) rfl (wpAny_bind (wpAny_field hos hds (x:=.int (-1) tk) rfl (wpAny_pure ?_)))))));refine wpAny_bind (slicePart_int ?_);show wpAny _ _ (if ((-1:Int)==0)=true then _ else _) _ _ s;rw [if_neg (by decide)];refine wpAny_bind (slicePart_none (wpAny_bind (slicePart_none (wpAny_bind (wpAny_pure ?_)))));have hadj:Builtin.Slice.sliceAdjust none none (-1) (its.toArray.size:Int)=((its.length:Int)-1,-1):=by
  unfold Builtin.Slice.sliceAdjust;simp
 have hpl:Builtin.Slice.slicePlaces ((its.length:Int)-1) (-1) (-1)=its.length:=by
  unfold Builtin.Slice.slicePlaces;rw [if_neg (by decide)]
  split
  ·simp
  ·lia
 show wpAny _ _ (match Builtin.Slice.sliceAdjust none none (-1) (its.toArray.size:Int) with | (lo,hi)=>pure (lo,(-1:Int),Builtin.Slice.slicePlaces lo hi (-1))) _ _ s;rw [hadj];show wpAny _ _ (pure ((its.length:Int)-1,(-1:Int),Builtin.Slice.slicePlaces ((its.length:Int)-1) (-1) (-1))) _ _ s;rw [hpl];refine wpAny_pure ?_;show wpAny _ _ (if ((its.length:Int)-1==0&&(-1:Int)==1&&its.length==its.toArray.size)=true then _ else _) _ _ s;rw [if_neg (by rw [show ((-1:Int)==1)=false from rfl];simp),lS];have htake:sizeOk (.seq its.reverse.toArray):=by
  show its.reverse.toArray.size≤sizeLine;rw [List.size_toArray,List.length_reverse];exact hsz
 first
  | exact wpAny_bind (m:=Builtin.Tuple.tupleExact _) (wpAny_newObj_type (wpAny_pure ⟨_,rfl,wpAny_pure h⟩) htake)
  | exact wpAny_bind (wpAny_bind (m:=Builtin.Tuple.tupleExact _) (wpAny_newObj_type (wpAny_pure (wpAny_pure ⟨_,rfl,wpAny_pure h⟩)) htake))
section
variable {X:Cx} {e st:Expr} {te ts:TE} {pos p2:Pos}
def sN (K:FR) (te ts:TE):TE:=fun σ H Q=>te σ H fun x H1=>ts σ H1 fun y H2=>y=.int (-1)∧∃a xs,x=.ref a∧((SqL K H2 a xs∧∀p,H2 p=none->Q (.ref p) (upd H2 p (.lst xs.reverse)))∨(SqT K H2 a xs∧∀p,H2 p=none->Q (.ref p) (upd H2 p (.tup xs.reverse))))
theorem oy (he:PE X e te) (hs:PE X st ts):PE X (.Subscript e (.Slice none none (some st) p2) pos) (sN X.K te ts):=by
 walk_at "ah";refine Subscript_ (thn (he pins s σ H _ I h) fun v s1 ⟨x,H1,I1,r1,q1⟩=>?_);refine wpAny_Slice ?_;rw [evalPart_none];refine wpAny_pure (wpAny_pure ?_);rw [evalPart_some];refine thn (hs pins s1 σ H1 _ I1 q1) fun vs s3 ⟨y,H3,I3,r3,ey,a,xs,ex,q3⟩=>?_;subst ey ex;obtain ⟨tk,rfl⟩:=r3;cases r1;have I4:Inv X pins σ H3 {s3 with heap:=s3.heap.push {cls:=.type "slice",data:=.fields #[.none,.none,.int (-1) tk]}}:=I3.kept (t':=s3.toks) fun b ob q=>Heap.get?_push_of_some _ q;show wpAny (model X.prog X.w) X.A (subscriptTail e (.Slice none none (some st) p2) (.ref a) (.ref s3.heap.objs.size)) (EP X pins σ Q) X.xe {s3 with heap:=s3.heap.push {cls:=.type "slice",data:=.fields #[.none,.none,.int (-1) tk]}};rcases q3 with ⟨hx,q3⟩ | ⟨hx,q3⟩
 ·obtain ⟨its,r,ht,hz⟩:=I4.list hx;refine tail_any (ops:=[.ref a,.ref s3.heap.objs.size]) (T:="list") ht.isList.typeIs slot_list_getitem.lookup ?_ (by with_unfolding_all rfl);refine wpAny_getItem_list_slice ht.isList (Heap.IsSliceOf.new ..) .none .none (.int (-1) tk) (by decide) ?_ (by rw [List.size_toArray,←r.length];exact hz);rw [i6];refine ⟨.ref _,_,I4.laid (t':=s3.toks) (o:=.lst xs.reverse) (fun b ob q=>Heap.get?_push_of_some _ q) (Nat.le_refl _) ?_,rfl,q3 _ (I4.hok.fresh (Nat.le_refl _))⟩;exact ⟨by rw [List.length_reverse];exact hz,its.reverse,0,fi r,Heap.get?_push_size _ rfl⟩
 ·obtain ⟨its,r,ht,hz⟩:=I4.tuple hx;refine tail_any (ops:=[.ref a,.ref s3.heap.objs.size]) (T:="tuple") ht.typeIs PyProof.Rows.slot_tuple_getitem.lookup ?_ (by with_unfolding_all rfl);refine nD ht (Heap.IsSliceOf.new ..) ?_ (by rw [←r.length];exact hz);refine ⟨.ref _,_,I4.laid (t':=s3.toks) (o:=.tup xs.reverse) (fun b ob q=>Heap.get?_push_of_some _ q) (Nat.le_refl _) ?_,rfl,q3 _ (I4.hok.fresh (Nat.le_refl _))⟩;exact ⟨by rw [List.length_reverse];exact hz,its.reverse,fi r,iP.new _ _⟩
end
end L2
namespace Sm
open PySem L2 PySem.Spec PyProof.Rows
section
variable {X:Cx} {e st:Expr} {ma ms:EM} {pos p2:Pos}
noncomputable def mV (m s:EM):EM:=fun δ h=>(m δ h).bind fun p=>(s δ p.2).bind fun q=>match q.1 with
 | .int j=>if j=-1 then (aU p.1 q.2).map fun r=>(if eT p.1=true then .lv r.1.reverse else .tup r.1.reverse,q.2) else none
 | _=>none
theorem nN (he:SE X e ma) (hs:SE X st ms):SE X (.Subscript e (.Slice none none (some st) p2) pos) (mV ma ms):=(oy he hs).imp fun σ H Q ⟨ρ,δ,h,d,h',R,S,ee,k⟩=>by
 obtain ⟨⟨x,h1⟩,e1,e2⟩:=bnd ee;obtain ⟨⟨y,h2⟩,e3,e4⟩:=bnd e2;dsimp only at e3 e4;cases y <;> first | (cases e4;done) | skip
 rename_i j;dsimp only at e4
 by_cases z:j=-1
 ·rw [if_pos z] at e4;subst z;obtain ⟨⟨xs,ws⟩,e5,e6⟩:=mpd e4;cases e6;refine ⟨ρ,δ,h,x,h1,R,S,e1,fun v H1 ⟨ρ1,T1,S1,r1⟩=>⟨ρ1,δ,h1,.int (-1),_,R.mono T1.toCh,S1,e3,fun u H2 ⟨ρ2,T2,S2,r2⟩=>⟨by cases r2;rfl,?_⟩⟩⟩;obtain ⟨a,rfl,⟨vs,q,l⟩,_⟩:=cW S2 (r1.mono T2.toCh) e5;refine ⟨a,vs,rfl,?_⟩;generalize eT x=b at q k;cases q with
  | l q=>exact .inl ⟨q,fun p hp=>k _ _ (bg.step (T1.trans T2) (.lv S2 l.rev hp))⟩
  | t q=>exact .inr ⟨q,fun p hp=>k _ _ (bg.step (T1.trans T2) (.tup S2 l.rev hp))⟩
 ·rw [if_neg z] at e4;cases e4
end
end Sm
namespace L2
open PySem PySem.Spec PyProof.Rows
open HT in
theorem nc {t b:Addr} {vs ws:List Value} {Q:Value->Shared->Prop} (ht:IsTup s.heap t vs.toArray) (hb:IsTup s.heap b ws.toArray) (hv:vs=[]) (h:Q (.ref b) s):wpAny (model prog w) A (binaryOp .Add (.ref t) (.ref b)) Q E s:=by
 obtain ⟨⟨cls,dd,data,sl⟩,ho,hc,n,hd⟩:=id ht;obtain ⟨⟨cls2,dd2,data2,sl2⟩,ho2,hc2,n2,hd2⟩:=id hb;simp only at hc hd hc2 hd2;subst hc hd hc2 hd2;exact concat_meets ⟨_,ho,rfl⟩ ⟨_,ho2,rfl⟩ noFill_tuple_add seq_tuple_add PySem.F.slot_tuple_add PySem.F.entry_tuple_add (PySem.F.args_tuple_add_2 _ _)
   (tuple_addW0 t b vs.toArray ws.toArray n n2 dd dd2 sl sl2 (by simp [hv])) ⟨ho,ho2,h⟩
theorem mx:OpR X (binaryOp .Add) (fun x y H Q=>∃a b ys,x=.ref a∧y=.ref b∧SqT X.K H a []∧SqT X.K H b ys∧Q (.ref b) H):=by
 walk_at "al";obtain ⟨a,b,ys,rfl,rfl,ha,hb,q⟩:=h;cases rx;cases ry;obtain ⟨its,r1,p1,_⟩:=I.tuple ha;obtain ⟨its2,r2,p2,_⟩:=I.tuple hb;exact nc p1 p2 (r1.eZ.mpr rfl) ⟨.ref b,H,I,rfl,q⟩
end L2
namespace Sm
open PySem L2 PySem.Spec PyProof.Rows
noncomputable def a8 (d e:D) (h:MH):Option (D×MH):=match d,e with
 | .tup [],.tup ys=>some (.tup ys,h)
 | d,e=>oW d e h
theorem bj:OpS X (binaryOp .Add) a8:=by
 walk_at "aa";unfold a8 at ee
 split at ee
 ·cases ee;have re0:=re;cases rd with | tup h1 l1=>cases re with | tup h2 l2=>
  cases l1;exact mx pins s σ H _ _ v u Q I rx ry ⟨_,_,_,rfl,rfl,h1.sq,h2.sq,k _ _ (.here S re0)⟩
 ·exact q9 pins s σ H _ _ v u Q I rx ry ⟨ρ,h,_,_,z,h',S,rd,re,ee,k⟩
end Sm
namespace L2
open PySem PySem.Spec PyProof.Rows
section
variable {X:Cx} {a b:Expr} {rest:List Expr} {pos:Pos} {ta tb:TE}
end
end L2
namespace Sm
open PySem L2 PySem.Spec PyProof.Rows
section
variable {X:Cx} {a b:Expr} {pos:Pos} {ma mb:EM}
end
end Sm
namespace L2
open PySem PySem.Spec PyProof.Rows
end L2
namespace Sm
open PySem L2 PySem.Spec PyProof.Rows
section
variable {X:Cx} {g:GM} {mt:TM} {ma:EM}
end
end Sm
namespace L2
open PySem PySem.Spec PyProof.Rows
theorem dI:∀{ss:List Str} {us:List Value},Vals (ss.map V.str) us->StrsAre us ss
 | [],_,.nil=>.nil
 | x::r,_,.cons q l=>by obtain ⟨t,rfl⟩:=q;exact .cons x t (dI l)
end L2
namespace Sm
open PySem L2 PySem.Spec PyProof.Rows
noncomputable def gA:List D->Option (List Str)
 | []=>some []
 | .str i::r=>(gA r).map fun is=>i::is
 | _=>none
theorem iV:∀{xs:List D} {ns:List Str},gA xs=some ns->xs=ns.map D.str
 | [],_,e=>by cases e;rfl
 | d::r,ns,e=>by
  cases d <;> first | (cases e;done) | skip
  obtain ⟨is,e1,e2⟩:=mpd (show (gA r).map _=some ns from e);cases e2;rw [iV e1];rfl
theorem gz:∀(ns:List Str),gA (ns.map D.str)=some ns
 | []=>rfl
 | n::r=>by show (gA (r.map D.str)).map _=_;rw [gz r];rfl
theorem fz {K:FR} {ρ:Ad} {H:Hp}:∀{vs:List V} {ns:List Str},RepL K ρ H vs (ns.map D.str)->vs=ns.map V.str∧∀k∈ns,PyData.strOk k=true
 | _,[],.nil=>⟨rfl,fun _ h=>(nomatch h)⟩
 | _,n::r,.cons q l=>by
  cases q with
  | str h=>
   obtain ⟨e,f⟩:=fz l;refine ⟨by rw [e];rfl,fun k hk=>?_⟩;rcases List.mem_cons.mp hk with rfl | hk
   ·exact h
   ·exact f k hk
section
variable {α:Type} {K:FR} {A:Ac α} {l:Addr} {g:GM} {mt:TM} {m:MK α}
mutual
theorem Rep.calm (hs:∀a,ρ'.has a->ρ.has a):∀{v:V} {d:D},Rep K ρ H v d->clD 0 d=true->Rep K ρ' H v d
 | _,_,.non,_=>.non
 | _,_,.bl b,_=>.bl b
 | _,_,.int i,_=>.int i
 | _,_,.str h,_=>.str h
 | _,_,.ty n,_=>.ty n
 | _,_,.tup h l,c=>.tup (h.elim (fun ⟨a,n⟩=>.inl ⟨a,fun z=>n (hs _ z)⟩) .inr) (RepL.calm hs l (by simpa [clD] using c))
 | _,_,.lv h n l,c=>.lv h (fun z=>n (hs _ z)) (RepL.calm hs l (by simpa [clD] using c))
 | _,_,.ro h l,c=>.ro (h.elim (fun ⟨a,n⟩=>.inl ⟨a,fun z=>n (hs _ z)⟩) .inr) (RepL.calm hs l (by simpa [clD] using c))
 | _,_,.dv h n l,c=>.dv h (fun z=>n (hs _ z)) (RepK.calm hs l (by simpa [clD] using c))
 | _,_,.ob e,c=>by simp [clD] at c
theorem RepL.calm (hs:∀a,ρ'.has a->ρ.has a):∀{vs:List V} {ds:List D},RepL K ρ H vs ds->clL 0 ds=true->RepL K ρ' H vs ds
 | _,_,.nil,_=>.nil
 | _,_,.cons r l,c=>by
  simp [clL] at c;exact .cons (Rep.calm hs r c.1) (RepL.calm hs l c.2)
theorem RepK.calm (hs:∀a,ρ'.has a->ρ.has a):∀{vs:List (Key×V)} {ds:List (Key×D)},RepK K ρ H vs ds->clK 0 ds=true->RepK K ρ' H vs ds
 | _,_,.nil,_=>.nil
 | _,_,.cons r l,c=>by
  simp [clK] at c;exact .cons (Rep.calm hs r c.1) (RepK.calm hs l c.2)
end
end
section
variable {X:Cx} {k v tg iter:Expr} {pos:Pos} {mk mv:EM} {mt:TM} {g:GM} {N':List Str} {caps:List (Option Nat)} {scope:Scope} {ifs:List Expr} {mi:IM}
end
end Sm
namespace L2
open PySem PySem.Spec PyProof.Rows
end L2
namespace Sm
open PySem L2 PySem.Spec PyProof.Rows
end Sm
namespace L2
open PySem PySem.Spec PyProof.Rows
end L2
namespace Sm
open PySem L2 PySem.Spec PyProof.Rows
noncomputable def rZ (d e:D) (h:MH):Option (D×MH):=match d,e with
 | .tup xs,.tup []=>some (.bl xs.isEmpty,h)
 | _,_=>none
theorem i3 {K:FR} {ρ:Ad} {H:Hp}:∀{vs:List V} {ds:List D},RepL K ρ H vs ds->vs.length=ds.length
 | _,_,.nil=>rfl
 | _,_,.cons _ l=>by rw [List.length_cons,List.length_cons,i3 l]
theorem sd (hu:X.A.units+64 < cLine) (I:L2.Inv X pins σ H s) (rx:L2.RelV x v) (ry:L2.RelV y u) (rd:Rep X.K ρ H x (.tup xs)) (re:Rep X.K ρ H y (.tup [])):
  (∀Q:Value->Shared->Prop,Q (.bool xs.isEmpty) s->wpAny (model X.prog X.w) X.A (compareOp .Eq v u) Q X.xe s)∧∀Q:Value->Shared->Prop,Q (.bool (!xs.isEmpty)) s->wpAny (model X.prog X.w) X.A (compareOp .NotEq v u) Q X.xe s:=by
 cases rd with
 | @tup a vs _ h0 l0=>
  cases re with
  | @tup b ws _ h1 l1=>
   cases rx;cases ry;obtain ⟨its,rv,p,_⟩:=I.tuple h0.sq;obtain ⟨jts,rw',q,_⟩:=I.tuple h1.sq;have n1:its.length=xs.length:=by rw [←i3 l0];exact rv.length.symm
   have n2:jts=[]:=by
    cases l1;exact List.length_eq_zero_iff.mp (by have:=rw'.length;simpa using this.symm)
   subst n2;have hb:((List.range (min its.toArray.size ([]:List Value).toArray.size)).all (fun _=>true)&&its.toArray.size==([]:List Value).toArray.size)=xs.isEmpty:=by
    cases xs with
    | nil=>
     have:=List.length_eq_zero_iff.mp n1;subst this;rfl
    | cons x r=>
     rw [List.size_toArray,n1];simp
   have hlt:X.A.units < cLine:=by lia
   refine ⟨fun Q z=>PySem.SeqAt.eq_tupleAt (e:=fun _=>true) p q hlt (fun j _ h2=>absurd h2 (by simp)) (by rw [hb];exact z),fun Q z=>PySem.SeqAt.RcNeAt.tuples (e:=fun _=>true) p q hlt (fun j _ h2=>absurd h2 (by simp)) _ _ _ Q (by rw [hb];exact z)⟩
theorem q4 (hu:X.A.units+64 < cLine):OpS X (compareOp .Eq) rZ:=by
 walk_at "aa";unfold rZ at ee
 split at ee
 ·cases ee;exact (sd hu I rx ry rd re).1 _ ⟨.bl _,H,I,rfl,k _ _ (.here S (.bl _))⟩
 ·cases ee
end Sm
namespace Hd
open PySem PySem.W PySem.Spec PyProof.Rows L2 Sm
noncomputable def oR (_:Obj):Bool:=true
noncomputable def kAt (h:Heap) (a:Addr):Option (Addr×Obj):=match h.get? a with
 | some o=>if oR o then some (a,o) else none
 | none=>none
noncomputable def aP (h:Heap):Frag:=(List.range h.objs.size).filterMap (kAt h)
theorem eg (h:Heap) (a:Addr):∀l:List Addr,(l.filterMap (kAt h)).lookup a=if a∈l then (kAt h a).map (·.2) else none
 | []=>rfl
 | b::r=>by
  have ih:=eg h a r
  by_cases hb:a=b
  ·subst hb;rw [if_pos List.mem_cons_self];rw [List.filterMap_cons];cases e:kAt h a with
   | none=>
    dsimp only;rw [ih,e]
    split <;> rfl
   | some p=>
    have hp:p.1=a:=by
     unfold kAt at e
     split at e
     ·split at e
      ·cases e;rfl
      ·cases e
     ·cases e
    obtain ⟨p1,p2⟩:=p;dsimp only at hp;subst hp;simp
  ·have hm:(a∈b::r)↔a∈r:=by simp [hb]
   rw [List.filterMap_cons];cases e:kAt h b with
   | none=>dsimp only;rw [ih];simp only [hm]
   | some p=>
    have hp:p.1=b:=by
     unfold kAt at e
     split at e
     ·split at e
      ·cases e;rfl
      ·cases e
     ·cases e
    obtain ⟨p1,p2⟩:=p;dsimp only at hp;subst hp;have hab:(a==p1)=false:=by simpa using hb
    rw [List.lookup_cons,hab];dsimp only;rw [ih];simp only [hm]
theorem gI (e:h.get? a=some o) (f:oR o=true):(aP h).lookup a=some o:=by
 unfold aP;rw [eg,if_pos]
 ·unfold kAt;rw [e];dsimp only;rw [if_pos f];rfl
 ·rw [List.mem_range];exact Heap.lt_size e
theorem oO (h:Heap):(aP h).In h:=fun a o e=>by
 unfold aP at e;rw [eg] at e
 split at e
 ·unfold kAt at e;cases g:h.get? a with
  | none=>rw [g] at e;cases e
  | some o'=>
   rw [g] at e;dsimp only at e
   split at e
   ·cases e;rfl
   ·cases e
 ·cases e
noncomputable def posOf (s:Stmt):Pos:=match s with
 | .FunctionDef _ _ _ _ _ _ _ _ _ p=>p
 | _=>⟨0,0,0,0⟩
noncomputable def gC (n:Str) (s:Stmt):DefRec:=⟨n,dw s,ck s,ao s,posOf s⟩
theorem o8 (r:h.CodeRec cd q):codeIn (aP h) cd q=true:=by
 obtain ⟨c,o,vs,t,rfl,g,d,e⟩:=r;have f:oR o=true:=rfl;unfold codeIn;dsimp only;rw [gI g f];obtain ⟨oc,od,dt,sl⟩:=o;dsimp only at d;subst d;dsimp only;obtain ⟨l⟩:=vs
 match l,e with
 | x::.str n _::r,e=>cases e;simp
theorem pK {q:Program} {loose:List Str} {mean:ExcName->Option Value} {mg mb:Str->Option Value} {h:Heap} (T:Top q loose mean mg mb h) {n:Str} {st:Stmt} (e:(recsOf q).find? (fun e=>e.name==n)=some (gC n st)):
  ∃f fd,mg n=some (.ref f)∧Fun (aP h) n n st f fd:=by
 have hm:gC n st∈recsOf q:=List.mem_of_find?_eq_some e;obtain ⟨a,o,pm,code,doc,m,g,d,c⟩:=T.fn _ hm;have f:oR o=true:=rfl;have lk:=gI g f;have kp:keepIn (aP h) (.ref a)=true:=by
  unfold keepIn;dsimp only;rw [lk];obtain ⟨oc,od,dt,sl⟩:=o;dsimp only at d;subst d;rfl
 obtain ⟨oc,od,dt,sl⟩:=o;dsimp only at d;subst d;exact ⟨a,_,m,⟨oc,od,.none,doc,pm,_,code,_,sl,rfl,lk,o8 c⟩,kp⟩
theorem _root_.L2.Fun.one {K:Frag} {x qual:Str} {st:Stmt} {f:Addr} {fd:FuncData} {p:Str} (F:Fun K x qual st f fd)
  (h:∀(kV doc pm:Value) (an:Option Addr) (cdv ct:Value) (u:Value),bindArgs (PySem.W.fnOf x qual (dw st) (ck st) (ao st) .none kV doc pm an cdv ct) ⟨[u],[]⟩=pure [(p,u)]) (s:Shared) (u:Value):BindsTo s fd ⟨[u],[]⟩ [(p,u)]:=by
 obtain ⟨oc,od,kV,doc,pm,an,cdv,ct,osl,rfl,lk,hcd⟩:=F.ex;exact .of_eq (h kV doc pm an cdv ct u)
theorem rQ {l:OpenLaw} {q:Program} {loose:List Str} {XP:(Str->Option Value)->Heap->Prop} {YP:World->Heap->Prop} {d:DefRec} {k:Nat} (hn:l.most=some 63) (hdf:d.params.defaults=[]) (hr:Room k callerA)
  (F:∀(w:World) (s₀:Shared) (mg mb:Str->Option Value) (h:Heap),Ground q loose [] XP w s₀ mg mb h->YP w h->∃(fa:Addr) (fd:FuncData),mg d.name=some (.ref fa)∧(∀(s:Shared) (u:Value),BindsTo s fd ⟨[u],[]⟩ [("_law_script",u)])∧
   ∀base:Heap,(aP h).In base->base.Ns mainGlobals mg->FnOk l.prog w (aP h) mg base CX0 k fa fd ["_law_script"] (spT (aP h))):
  WalkO q loose XP YP l.row.toRowW d [] (fun f vs=>PySem.call f vs):=by
 refine Att.jq hn hdf fun w s₀ s₁ mg mb fa o pm cd doc a vs ns G Y ho hd hcd hmg hobj hints hlen hg=>?_;obtain ⟨fa',fd,e,hb,hF⟩:=F w s₀ mg mb _ G Y;rw [e] at hmg;cases hmg;exact mI (oO _) G.T.g G.T.b G.T.builtins G.T.nolimit hg hobj hints (Nat.le_trans hlen (by decide)) hr hF hb (fun H hO hS=>⟨a,ns,rfl,hS,hlen,fun _=>rfl⟩) fun _ _ _ z=>z
noncomputable def freeOk (q:Program) (loose xs:List Str):Bool:=xs.all fun x=>!startupNames.contains x&&!(looseW q loose).contains x&&!((recsOf q).map (·.name)).contains x&&!((litsOf q).map (·.1)).contains x&&!((clssOf q (looseW q loose)).map (·.name)).contains x
theorem aS (T:Top q (looseW q loose) mean mg mb h) (e:freeOk q loose xs=true) (hx:x∈xs):mg x=none:=by
 have:=List.all_eq_true.mp e x hx;simp only [Bool.and_eq_true,Bool.not_eq_true',List.contains_eq_mem,decide_eq_false_iff_not] at this;exact T.free x this.1.1.1.1 this.1.1.1.2 this.1.1.2 this.1.2 this.2
end Hd
namespace Sm
open PySem L2
section
variable {X:Cx}
end
end Sm
namespace L2
open PySem PySem.Spec PyProof.Rows
end L2
namespace Sm
open PySem L2 PySem.Spec PyProof.Rows
end Sm
namespace L2
open PySem PySem.Spec PyProof.Rows
end L2
namespace Sm
open PySem L2 PySem.Spec PyProof.Rows
end Sm
namespace Sm
open PySem L2
theorem i5:∀cs:List Int,pyL (cs.map D.int)=some (cs.map PyData.int)
 | []=>rfl
 | c::r=>by simp only [List.map_cons,pyL,pyD,i5 r,Option.bind_some,Option.map_some]
theorem fQ:∀cs:List Int,PyData.depthAll (cs.map PyData.int)=0
 | []=>rfl
 | c::r=>by simp only [List.map_cons,PyData.depthAll,fQ r,PyData.depth];rfl
theorem k4 {h:MH} {c:Nat} {cs:List Int} (hc:h[c]?=some (.lst (cs.map D.int))):fP (.ob c) (.lv []) h=some (.bl (!cs.isEmpty),h):=by
 simp only [fP,eqA,cH,hc,eqD,rdD,i5,pyD,pyL,Option.map_some,Option.bind_some,PyData.depth,fQ];cases cs <;> rfl
theorem eh (hn:h[n]?=some (.lst xs)) (e:atI xs i=some d):fIx (.ob n) (.int i) h=some (d,h):=by
 simp only [fIx,cH,hn,aU,Option.bind_some,e,Option.map_some]
theorem oV (hn:h[n]?=some (.lst xs)):du [.ob n] h=some (.int xs.length,h):=by
 simp only [du,cH,hn,aU,Option.map_some]
theorem iB (hn:h[n]?=some (.lst xs)) (e:ixN xs.length i=some p):jh (.ob n) (.int i) d h=some (h.set n (.lst (xs.set p d))):=by
 simp only [jh,hn,e,Option.map_some]
theorem nu (cs:List Int) (i:Int) (h0:0≤i) (h1:i < cs.length):∃z,atI (cs.map D.int) i=some (.int z):=by
 have hlt:i.toNat < cs.length:=by lia
 refine ⟨cs[i.toNat]'hlt,?_⟩;have e:((i.toNat:Nat):Int)=i:=Int.toNat_of_nonneg h0;have q:atI (cs.map D.int) ((i.toNat:Nat):Int)=some (D.int (cs[i.toNat]'hlt)):=iO (by rw [List.getElem?_map,List.getElem?_eq_getElem hlt];rfl);rw [e] at q;exact q
theorem sm (h0:0≤i) (h1:i < xs.length):∃v,atI xs i=some v∧v∈xs:=by
 have hlt:i.toNat < xs.length:=by lia
 have e:((i.toNat:Nat):Int)=i:=Int.toNat_of_nonneg h0;have q:atI xs ((i.toNat:Nat):Int)=some (xs[i.toNat]'hlt):=iO (List.getElem?_eq_getElem hlt);rw [e] at q;exact ⟨_,q,List.getElem_mem hlt⟩
end Sm
namespace Sm
open PySem
def Rn {α:Type} (o:Option α) (Q:α->Prop):Prop:=∃a,o=some a∧Q a
theorem rv (e:o=some a) (q:Q a):Rn o Q:=⟨a,e,q⟩
theorem Rn.imp (r:Rn o Q) (f:∀a,Q a->Q' a):Rn o Q':=let ⟨a,e,q⟩:=r;⟨a,e,f a q⟩
theorem aq (r:Rn o fun a=>Rn (f a) Q):Rn (o.bind f) Q:=by
 obtain ⟨a,e,b,e2,q⟩:=r;exact ⟨b,by rw [e];exact e2,q⟩
theorem nR (r:Rn o fun a=>Q (f a)):Rn (o.map f) Q:=by
 obtain ⟨a,e,q⟩:=r;exact ⟨f a,by rw [e];rfl,q⟩
theorem tp (e:δ[i]?=some (some d)) (q:Q (d,h)):Rn (af i δ h) Q:=⟨(d,h),by unfold af;rw [e];rfl,q⟩
theorem r_k (q:Q (d,h)):Rn (eK d δ h) Q:=⟨_,rfl,q⟩
theorem uF (r:Rn (a δ h) fun p=>Rn (b δ p.2) fun q=>Rn (f p.1 q.1 q.2) Q):Rn (eOp f a b δ h) Q:=aq (r.imp fun _ r=>aq r)
theorem uC (r:Rn (a δ h) fun p=>Rn (f p.1 p.2) Q):Rn (eUn f a δ h) Q:=aq r
theorem j5 (q:Q ([],h)):Rn (aj δ h) Q:=⟨_,rfl,q⟩
theorem ie (r:Rn (a δ h) fun p=>Rn (m δ p.2) fun q=>Q (p.1::q.1,q.2)):Rn (ab a m δ h) Q:=aq (r.imp fun _ r=>aq (r.imp fun _ q=>⟨_,rfl,q⟩))
theorem tE (r:Rn (m δ h) fun p=>Rn (f p.1 p.2) Q):Rn (eFn f m δ h) Q:=aq r
theorem uH (r:Rn (t δ h) fun p=>(p.1=true->Rn (a δ p.2) Q)∧(p.1=false->Rn (b δ p.2) Q)):Rn (eIf t a b δ h) Q:=aq (r.imp fun p ⟨q1,q2⟩=>by
 obtain ⟨c,h⟩:=p;cases c with
 | true=>exact q1 rfl
 | false=>exact q2 rfl)
theorem qB (r:Rn (a δ h) fun p=>∃c,p.1=.bl c∧Q (c,p.2)):Rn (aX a δ h) Q:=aq (r.imp fun p ⟨c,e,q⟩=>⟨(c,p.2),by rw [e],q⟩)
theorem qm (r:Rn (a δ h) fun p=>∃c,lH p.1 p.2=some c∧Q (c,p.2)):Rn (g6 a δ h) Q:=aq (r.imp fun p ⟨c,e,q⟩=>⟨(c,p.2),by rw [e];rfl,q⟩)
theorem qo (r:Rn (t δ h) fun p=>Q (!p.1,p.2)):Rn (Sm.g7 t δ h) Q:=nR r
theorem qp (r:Rn (a δ h) fun p=>(p.1=true->Rn (b δ p.2) Q)∧(p.1=false->Q (false,p.2))):Rn (Sm.jw a b δ h) Q:=aq (r.imp fun p ⟨q1,q2⟩=>by
 obtain ⟨c,h⟩:=p;cases c with
 | true=>exact q1 rfl
 | false=>exact ⟨_,rfl,q2 rfl⟩)
theorem pA (r:Rn (a δ h) fun p=>(p.1=true->Q (true,p.2))∧(p.1=false->Rn (b δ p.2) Q)):Rn (Sm.tOr a b δ h) Q:=aq (r.imp fun p ⟨q1,q2⟩=>by
 obtain ⟨c,h⟩:=p;cases c with
 | true=>exact ⟨_,rfl,q1 rfl⟩
 | false=>exact q2 rfl)
theorem tG (r:Rn (a δ h) fun p=>∃c,p.1=.bl c∧(c=true->Rn (b δ p.2) Q)∧(c=false->Q (.bl false,p.2))):Rn (k5 a b δ h) Q:=aq (r.imp fun p ⟨c,e,q1,q2⟩=>by
 rw [e];cases c with
 | true=>exact q1 rfl
 | false=>exact ⟨_,rfl,q2 rfl⟩)
theorem uE (r:Rn (a δ h) fun p=>∃c,p.1=.bl c∧(c=true->Q (.bl true,p.2))∧(c=false->Rn (b δ p.2) Q)):Rn (eOr a b δ h) Q:=aq (r.imp fun p ⟨c,e,q1,q2⟩=>by
 rw [e];cases c with
 | true=>exact ⟨_,rfl,q1 rfl⟩
 | false=>exact q2 rfl)
theorem tx (r:Rn (a δ h) fun p=>∃c,p.1=.bl c∧Q (.bl (!c),p.2)):Rn (sf a δ h) Q:=aq (r.imp fun p ⟨c,e,q⟩=>⟨_,by rw [e],q⟩)
theorem nY (r:Rn (m δ h) fun p=>Q (.lv p.1,p.2)):Rn (eLv m δ h) Q:=nR r
theorem uG (r:Rn (m δ h) fun p=>Q (.ob p.2.length,p.2++[.lst p.1])):Rn (eOb m δ h) Q:=nR r
theorem uK (q:Q (.dv [],h)):Rn (eDv δ h) Q:=⟨_,rfl,q⟩
theorem uL (q:Q (.ob h.length,h++[.dct []])):Rn (eDo δ h) Q:=⟨_,rfl,q⟩
theorem qt (r:Rn (m δ h) fun p=>∃d xs ws,p.1=[d]∧aU d p.2=some (xs,ws)∧Q (xs,p.2)):Rn (ny m δ h) Q:=aq (r.imp fun p ⟨d,xs,ws,e,e2,q⟩=>⟨(xs,p.2),by rw [e];dsimp only;rw [e2];rfl,q⟩)
theorem tu (q:Q (none,h)):Rn (pNo δ h) Q:=⟨_,rfl,q⟩
theorem tv (r:Rn (a δ h) fun p=>∃i,p.1=.int i∧Q (some i,p.2)):Rn (pAt a δ h) Q:=aq (r.imp fun p ⟨c,e,q⟩=>⟨_,by rw [e],q⟩)
theorem uD (r:Rn (a δ h) fun p=>Rn (l δ p.2) fun q=>Rn (u δ q.2) fun r=>Rn (fSl p.1 q.1 r.1 r.2) Q):Rn (eSl a l u δ h) Q:=aq (r.imp fun _ r=>aq (r.imp fun _ r=>aq r))
abbrev SQ:=Fl×DS×MH->Prop
theorem qq (q:Q (.nx,δ,h)):Rn (dc δ h) Q:=⟨_,rfl,q⟩
theorem qr (q:Q (.bk,δ,h)):Rn (uB δ h) Q:=⟨_,rfl,q⟩
theorem nX (q:Q (.ct,δ,h)):Rn (tj δ h) Q:=⟨_,rfl,q⟩
def iS (b:SM) (Q:SQ):SQ:=fun r=>match r.1 with
 | .nx=>Rn (b r.2.1 r.2.2) Q
 | _=>Q r
theorem pC (r:Rn (a δ h) (iS b Q)):Rn (aG a b δ h) Q:=aq (r.imp fun p q=>by
 obtain ⟨f,δ',h'⟩:=p;cases f with
 | nx=>exact q
 | bk=>exact ⟨_,rfl,q⟩
 | ct=>exact ⟨_,rfl,q⟩
 | rt d=>exact ⟨_,rfl,q⟩)
theorem tq (r:Rn (e δ h) fun p=>Q (.nx,δ.set i (some p.1),p.2)):Rn (bG i e δ h) Q:=aq (r.imp fun _ q=>⟨_,rfl,q⟩)
theorem tF (r:Rn (e δ h) fun p=>Rn (g p.1 δ p.2) fun q=>Q (.nx,q.1,q.2)):Rn (i1 e g δ h) Q:=aq (r.imp fun _ r=>aq (r.imp fun _ q=>⟨_,rfl,q⟩))
theorem qx (r:Rn (e δ h) fun p=>Q (.nx,δ,p.2)):Rn (gB e δ h) Q:=aq (r.imp fun _ q=>⟨_,rfl,q⟩)
theorem pD (r:Rn (e δ h) fun p=>Q (.rt p.1,δ,p.2)):Rn (bO e δ h) Q:=aq (r.imp fun _ q=>⟨_,rfl,q⟩)
theorem pB (r:Rn (t δ h) fun p=>(p.1=true->Rn (a δ p.2) Q)∧(p.1=false->Rn (b δ p.2) Q)):Rn (sIf t a b δ h) Q:=aq (r.imp fun p ⟨q1,q2⟩=>by
 obtain ⟨c,h⟩:=p;cases c with
 | true=>exact q1 rfl
 | false=>exact q2 rfl)
theorem tw (r:Rn (m δ h) fun p=>∃a b,p.1=[a,b]∧Q (.nx,(δ.set i (some a)).set j (some b),p.2)):Rn (uA i j m δ h) Q:=aq (r.imp fun p ⟨a,b,e,q⟩=>⟨_,by rw [e],q⟩)
theorem uJ (q:Q (δ.set i (some d),h)):Rn (gN i d δ h) Q:=⟨_,rfl,q⟩
theorem qw (r:Rn (o δ h) fun p=>Rn (i δ p.2) fun q=>Rn (jh p.1 q.1 v q.2) fun h'=>Q (δ,h')):Rn (Sm.jf o i v δ h) Q:=aq (r.imp fun _ r=>aq (r.imp fun _ r=>nR r))
theorem uI (hn:xs.length=n) (r:Rn (u xs δ h) Q):Rn (gT n u (.tup xs) δ h) Q:=by
 unfold gT;dsimp only;rw [if_pos hn];exact r
theorem lX (r:Rn (g d δ h) fun p=>Rn (u xs p.1 p.2) Q):Rn (aV g u (d::xs) δ h) Q:=aq r
theorem nZ (q:Q (δ,h)):Rn (eE [] δ h) Q:=⟨_,rfl,q⟩
def nS (Q:D×MH->Prop):SQ:=fun r=>match r.1 with
 | .rt d=>Q (d,r.2.2)
 | .nx=>Q (.non,r.2.2)
 | _=>False
theorem uW (q:Q (d,h)):nS Q (.rt d,δ,h):=q
theorem uX (q:Q (.non,h)):nS Q (.nx,δ,h):=q
theorem um (r:Rn (b δ h) Q):iS b Q (.nx,δ,h):=r
theorem uk (q:Q (.rt d,δ,h)):iS b Q (.rt d,δ,h):=q
theorem uq (q:Q (.bk,δ,h)):iS b Q (.bk,δ,h):=q
theorem uo (q:Q (.ct,δ,h)):iS b Q (.ct,δ,h):=q
def gG (I:DS->MH->Prop) (Q:SQ):SQ:=fun z=>match z.1 with
 | .nx=>I z.2.1 z.2.2
 | .ct=>I z.2.1 z.2.2
 | .bk=>Q (.nx,z.2.1,z.2.2)
 | .rt d=>Q (.rt d,z.2.1,z.2.2)
theorem u6 (q:I δ h):gG I Q (.nx,δ,h):=q
theorem u7 (q:I δ h):gG I Q (.ct,δ,h):=q
theorem u9 (q:Q (.nx,δ,h)):gG I Q (.bk,δ,h):=q
theorem u5 (q:Q (.rt d,δ,h)):gG I Q (.rt d,δ,h):=q
theorem cq (r:Rn (b (entry len ds) h) (nS Q)):Rn (mkF len b ds h) Q:=aq (r.imp fun p q=>by
 obtain ⟨f,δ',h'⟩:=p;cases f with
 | nx=>exact ⟨_,rfl,q⟩
 | rt d=>exact ⟨_,rfl,q⟩
 | bk=>exact q.elim
 | ct=>exact q.elim)
theorem tD (r:Rn (i δ h) fun p=>Rn (dm p.2.1 g b p.1 δ p.2.2) Q):Rn (jD i g b δ h) Q:=aq r
theorem fC:∀{xs:List D} {δ:DS} {h:MH} (I:Nat->DS->MH->Prop),I 0 δ h->(∀i δ h,i≤xs.length->I i δ h->chk ws h=true)->
  (∀i x δ h,xs[i]?=some x->I i δ h->Rn (g x δ h) fun q=>Rn (b q.1 q.2) (gG (I (i+1)) Q))->(∀δ h,I xs.length δ h->Q (.nx,δ,h))->Rn (dm ws g b xs δ h) Q
 | [],δ,h,I,h0,hc,_,hq=>by
  unfold dm;rw [if_pos (hc 0 δ h (Nat.le_refl _) h0)];exact ⟨_,rfl,hq δ h h0⟩
 | x::xs,δ,h,I,h0,hc,ht,hq=>by
  unfold dm;rw [if_pos (hc 0 δ h (Nat.zero_le _) h0)];obtain ⟨q,e1,z,e2,hz⟩:=ht 0 x δ h rfl h0;rw [e1];show Rn ((b q.1 q.2).bind _) Q;rw [e2];obtain ⟨f,δ',h'⟩:=z;have next:I 1 δ' h'->Rn (dm ws g b xs δ' h') Q:=fun hi=>fC (fun i=>I (i+1)) hi (fun i δ h hl=>hc (i+1) δ h (Nat.succ_le_succ hl)) (fun i x δ h hx=>ht (i+1) x δ h (by simpa using hx)) hq
  cases f with
  | nx=>exact next hz
  | ct=>exact next hz
  | bk=>exact ⟨_,rfl,hz⟩
  | rt d=>exact ⟨_,rfl,hz⟩
theorem jF (r:Rn (m δ h) fun p=>∃j:Int,p.1=[.int j]∧-(2^62)≤j∧j < 2^62∧Q ((List.range j.toNat).map fun (k:Nat)=>D.int (k:Int),[],p.2)):Rn (mL m δ h) Q:=aq (r.imp fun p ⟨j,e,h1,h2,q⟩=>by
 rw [e];dsimp only;rw [if_pos ⟨h1,h2⟩];exact ⟨_,rfl,q⟩)
theorem qu (r:Rn (m δ h) fun p=>∃d e xs ys ws ws',p.1=[d,e]∧aU d p.2=some (xs,ws)∧aU e p.2=some (ys,ws')∧Q (dG xs ys,ws++ws',p.2)):Rn (rP m δ h) Q:=
 aq (r.imp fun p ⟨d,e,xs,ys,ws,ws',e1,e2,e3,q⟩=>⟨_,by rw [e1];dsimp only;rw [e2];dsimp only [Option.bind_some];rw [e3];rfl,q⟩)
theorem qA (r:Rn (i δ h) fun p=>Rn (bI p.2.1 g c e p.1 (eG caps δ) p.2.2) fun q=>q.1.length≤sizeLine∧Q q):Rn (bF caps i g c e δ h) Q:=
 aq (r.imp fun p r=>aq (r.imp fun q ⟨hz,hq⟩=>⟨q,by rw [if_pos hz],hq⟩))
end Sm
namespace Sm
theorem lW (q:Q (d,h)) (e:δ[i]?=some (some d):=by with_unfolding_all rfl):Rn (af i δ h) Q:=tp e q
theorem pF (r:Rn (u xs δ h) Q) (hn:xs.length=n:=by with_unfolding_all rfl):Rn (gT n u (.tup xs) δ h) Q:=uI hn r
end Sm
namespace Sm
open PySem L2
theorem n4 (hh:Rn (m δ h) fun p=>Rn (s δ p.2) fun q=>q.1=.int (-1)∧∃xs ws,aU p.1 q.2=some (xs,ws)∧Q (if eT p.1=true then .lv xs.reverse else .tup xs.reverse,q.2)):Rn (mV m s δ h) Q:=
 aq (hh.imp fun p x=>aq (x.imp fun q ⟨e1,xs,ws,e2,k⟩=>by rw [e1];show Rn (if (-1:Int)=-1 then _ else _) Q;rw [if_pos rfl,e2];exact ⟨_,rfl,k⟩))
theorem qy (hh:Rn (a δ h) fun p=>Rn (l δ p.2) fun q=>Rn (u δ q.2) fun r=>Rn (oU p.1 q.1 r.1 r.2) Q):Rn (se a l u δ h) Q:=aq (hh.imp fun _ x=>aq (x.imp fun _ y=>aq y))
theorem sA (q:Q (.tup ds,h)):Rn (jN ds h) Q:=⟨_,rfl,q⟩
theorem sC (q:Q (.int (-a),h)):Rn (pU (.int a) h) Q:=⟨_,rfl,q⟩
theorem w_add (q:Q (.int (a+b),h)):Rn (a8 (.int a) (.int b) h) Q:=⟨_,rfl,q⟩
theorem w_sub (q:Q (.int (a-b),h)):Rn (vg (.int a) (.int b) h) Q:=⟨_,rfl,q⟩
theorem w_lt (q:Q (.bl (decide (a < b)),h)):Rn (fLt (.int a) (.int b) h) Q:=⟨_,rfl,q⟩
theorem uf (q:Q (.bl (decide (a≤b)),h)):Rn (fLe (.int a) (.int b) h) Q:=⟨_,rfl,q⟩
theorem ug (q:Q (.bl (decide (b < a)),h)):Rn (fGt (.int a) (.int b) h) Q:=⟨_,rfl,q⟩
theorem uh (q:Q (.bl (decide (b≤a)),h)):Rn (fGe (.int a) (.int b) h) Q:=⟨_,rfl,q⟩
theorem sJ (q:Q (.bl (a==b),h)):Rn (gn (.int a) (.int b) h) Q:=⟨_,rfl,q⟩
theorem sE (q:Q (.bl (!(a==b)),h)):Rn (fP (.int a) (.int b) h) Q:=⟨_,rfl,q⟩
theorem sI (q:Q (.bl (x==y),h)):Rn (gn (.str x) (.str y) h) Q:=⟨_,rfl,q⟩
theorem sD (q:Q (.bl (!(x==y)),h)):Rn (fP (.str x) (.str y) h) Q:=⟨_,rfl,q⟩
theorem sH (q:Q (d,h)):Rn (fIx (.tup (d::r)) (.int 0) h) Q:=⟨_,by
 show ((atI (d::r) 0).map fun z=>(z,h))=_;have:atI (d::r) 0=some d:=by unfold atI;rw [show ixN (d::r).length 0=some 0 by unfold ixN;simp;try lia];rfl
 rw [this];rfl,q⟩
theorem sG (q:Q (e,h)):Rn (fIx (.tup (d::e::r)) (.int 1) h) Q:=⟨_,by
 show ((atI (d::e::r) 1).map fun z=>(z,h))=_;have:atI (d::e::r) 1=some e:=by unfold atI;rw [show ixN (d::e::r).length 1=some 1 by unfold ixN;simp;try lia];rfl
 rw [this];rfl,q⟩
theorem sF (q:Q (f,h)):Rn (fIx (.tup (d::e::f::r)) (.int 2) h) Q:=⟨_,by
 show ((atI (d::e::f::r) 2).map fun z=>(z,h))=_;have:atI (d::e::f::r) 2=some f:=by unfold atI;rw [show ixN (d::e::f::r).length 2=some 2 by unfold ixN;simp;try lia];rfl
 rw [this];rfl,q⟩
theorem pO (q:Q (.int r.length,h)):Rn (du [.tup r] h) Q:=⟨_,rfl,q⟩
theorem pP (q:Q (.int r.length,h)):Rn (du [.lv r] h) Q:=⟨_,rfl,q⟩
end Sm
namespace L2
open PySem PySem.Spec PyProof.Rows
end L2
namespace Sm
open PySem L2 PySem.Spec PyProof.Rows
end Sm
namespace Hd
open PySem PySem.W PySem.Spec PyProof.Rows L2 Sm
abbrev Sub (h h':Heap):Prop:=∀b o,h.get? b=some o->h'.get? b=some o
theorem jE (k:Sub h h') (x:rowAt h e=some r):rowAt h' e=some r:=by
 unfold rowAt at x ⊢
 split at x
 ·split at x
  ·split at x
   ·rename_i u hu;rw [k _ _ hu];exact x
   ·cases x
  ·cases x
 ·cases x
theorem eB (k:Sub h h'):∀{es:List DictEntry} {r:List (Str×Int×List Int)},fy h es=some r->fy h' es=some r
 | [],_,x=>x
 | e::es,r,x=>by
  unfold fy at x ⊢;obtain ⟨y,e1,x⟩:=Option.bind_eq_some_iff.mp x;obtain ⟨ys,e2,x⟩:=Option.map_eq_some_iff.mp x;rw [jE k e1,eB k e2];exact congrArg some x
theorem pX (k:Sub h h') (x:tabAt h nm=some r):tabAt h' nm=some r:=by
 have hg:∀v,h.nsMap mainGlobals nm=some v->h'.nsMap mainGlobals nm=some v:=fun v e=>by
  unfold Heap.nsMap at e ⊢
  split at e
  ·rename_i o ho;rw [k _ _ ho];exact e
  ·cases e
 unfold tabAt at x ⊢
 split at x
 ·rename_i a ha;rw [hg _ ha];dsimp only
  split at x
  ·cases x
  ·rename_i hs;rw [if_neg hs]
   split at x
   ·rename_i o ho;rw [k _ _ ho];dsimp only
    split at x
    ·rename_i hc;rw [if_pos hc]
     split at x
     ·exact eB k x
     ·cases x
    ·cases x
   ·cases x
 ·cases x
end Hd
namespace L2
open PySem PySem.Spec PyProof.Rows
end L2
namespace Sm
open PySem L2 PySem.Spec PyProof.Rows
end Sm
namespace Sb
open PySem L2 PySem.Spec PyProof.Rows
open Builtin.SmallTypes (nextOf ownedTupleIsFree ownedTupleHandOut)
end Sb
namespace PySem
end PySem
namespace L2
open PySem PySem.Spec PyProof.Rows
end L2
namespace L2
open PySem PySem.Spec PyProof.Rows Sb
end L2
namespace Sm
open PySem L2 PySem.Spec PyProof.Rows Sb
end Sm
namespace Sb
open PySem L2 PySem.Spec PyProof.Rows
variable {P:Program} {w:World} {A:Around} {E:Value->Shared->Prop} {s:Shared} {b c:Bool}
end Sb
namespace Sb
open PySem L2 PySem.Spec PyProof.Rows
variable {P:Program} {w:World} {A:Around} {E:Value->Shared->Prop} {s:Shared} {b c:Bool}
end Sb
namespace L2
open PySem PySem.Spec PyProof.Rows Sb
end L2
namespace Sm
open PySem L2 PySem.Spec PyProof.Rows Sb
end Sm
namespace PySem
end PySem
namespace L2
open PySem PySem.Spec PyProof.Rows
end L2
namespace Sm
open PySem L2 PySem.Spec PyProof.Rows
end Sm
namespace L2
open PySem PySem.Spec PyProof.Rows
end L2
namespace L2
open PySem PySem.Spec PyProof.Rows PySem.SeqAt
end L2
namespace Sm
open PySem L2 PySem.Spec PyProof.Rows
def Con (mg:Str->Option Value) (x:Str) (d:D):Prop:=∃(v:V) (u:Value),mg x=some u∧RelV v u∧∀K ρ H,Rep K ρ H v d
theorem jA (C:Con X.mg x d) (hg:Gl X x) (hd:(x==("__debug__":Str))=false:=by kernel_rfl):SE X (.Name x pos) (eK d):=by
 obtain ⟨v,u,h1,h2,h3⟩:=C;exact nO hg h1 h2 (fun ρ H=>h3 X.K ρ H) hd
end Sm
namespace Hd
open PySem PySem.W PySem.Spec PyProof.Rows L2 Sm
theorem oZ (T:Top q loose mean mg mb h) (e:valOf q x=some (.str s)) (ok:PyData.strOk s=true):Con mg x (.str s):=by
 obtain ⟨v,h1,h2⟩:=T.const x _ e;have:=h2 h;cases this with
 | str _ t=>exact ⟨.str s,_,h1,⟨t,rfl⟩,fun _ _ _=>.str ok⟩
end Hd
namespace L2
open PySem PySem.Spec PyProof.Rows
noncomputable def Itx (x:Str):It:=⟨fun i _=>i < x.cps.size,fun i H y H'=>H'=H∧∃c,x.cps[i]?=some c∧y=.str ⟨#[c]⟩,fun i _=>x.cps.size≤i⟩
theorem lG {P:Program} {w:World} {K:FR} {tg:Expr} (it:Addr) (x:Str) (t:Tok):Turn P w K tg (Itx x) [it] it (fun i h=>h.IsStrIter it "str_ascii_iterator" x t i) where
 mem:=by simp
 obj:=fun i h st b hb=>by
  have e:b=it:=by simpa using hb
  subst e;obtain ⟨o,h1,h2,h3⟩:=st;exact ⟨o,h1,fun v z=>by rw [h3] at z;cases z⟩
 keep:=fun i h h' st k=>let ⟨o,h1,r⟩:=st;⟨o,k it (by simp) o h1,r⟩
 item:=by
  walk_at "ac";walk_at "ag";have W:=Walks.strAscii (prog:=X.prog) (w:=X.w) (I.ok.hd hc) it x t;refine W.item i s _ _ hg st fun v h' tk hv st' kk=>?_;obtain ⟨c,u,hx,rfl⟩:=hv;have I1:Inv X pins σ H {s with heap:=h',toks:=tk}:=I.turned (fun b o hb e=>kk b o (by simpa using hb) e) f0 f1 f3 f4 f5;obtain ⟨o,h1,h2,h3⟩:=id st';exact ⟨_,rfl,ke (s:={s with heap:=h',toks:=tk}) (n:="str_ascii_iterator") h1 h2 h3 (by decide) ⟨.str ⟨#[c]⟩,H,I1,⟨u,rfl⟩,⟨rfl,c,hx,rfl⟩,st',fun b hb=>(hf b hb).1⟩⟩
 done:=by
  walk_at "ac";walk_at "ag";have hx:x.cps[i]?=none:=Array.getElem?_eq_none (show x.cps.size≤i from hg);exact wpAny_pyNext_ascii_end (I.ok.hd hc) st hx fun h' eb=>⟨rfl,I.turned (t':=s.toks) (fun b o hb e=>eb b o hb e) f0 f1 f3 f4 f5⟩
 self:=fun _ _ _ _ _ st h=>wpAny_pyIter_striter_ascii st h
theorem qL {X:Cx} {tg:Expr} {l:Expr} {tl:TE} (hl:PE X l tl):PI X tg l (fun σ H R=>tl σ H fun v H1=>∃x:Str,v=.str x∧x.cps.all (· < 128)=true∧R (Itx x) H1):=by
 intro pins s σ H R I h;refine thn (hl pins s σ H _ I h) fun v s1 ⟨y,H1,I1,r1,q1⟩=>?_;obtain ⟨x,e,ha,q⟩:=q1;subst e;obtain ⟨t,rfl⟩:=r1;refine wpAny_pyIter_ascii ha ?_;refine ⟨s1.heap.objs.size,[s1.heap.objs.size],_,_,H1,rfl,I1.kept (t':=s1.toks) fun b o e=>Heap.get?_push_of_some _ e,lG _ x t,⟨_,Heap.get?_push_size _ rfl,rfl,rfl⟩,fun b hb=>?_,q⟩;have e:b=s1.heap.objs.size:=by simpa using hb
 subst e;exact I1.kZ (Nat.le_refl _) (I1.hok.fresh (Nat.le_refl _))
end L2
namespace Sm
open PySem L2 PySem.Spec PyProof.Rows
noncomputable def oT (e:EM):IM:=fun δ h=>(e δ h).bind fun p=>match p.1 with
 | .str x=>if x.cps.all (· < 128)=true then some (x.cps.toList.map fun c=>D.str ⟨#[c]⟩,[],p.2) else none
 | _=>none
theorem rC (h:c < 128):PyData.strOk ⟨#[c]⟩=true:=by
 unfold PyData.strOk;simp
 lia
theorem i2 {K:FR} {ρ:Ad} {H:Hp}:∀(cs:List Nat),(∀c∈cs,c < 128)->RepL K ρ H (cs.map fun c=>V.str ⟨#[c]⟩) (cs.map fun c=>D.str ⟨#[c]⟩)
 | [],_=>.nil
 | c::r,h=>.cons (.str (rC (h c (.head _)))) (i2 r fun d hd=>h d (.tail _ hd))
theorem p9 (h:SE X e ma):SI X tg e (oT ma):=(qL h).imp fun σ H Q ⟨ρ,δ,h,xs,ws,h',R,S,e,k⟩=>by
 walk_at "ab";walk_at "af";cases x with
 | str x=>
  by_cases c:x.cps.all (· < 128)=true
  ·rw [show (match D.str x with | .str x=>if x.cps.all (· < 128)=true then some (x.cps.toList.map fun c=>D.str ⟨#[c]⟩,([]:W),h1) else none | _=>none)=some (x.cps.toList.map fun c=>D.str ⟨#[c]⟩,([]:W),h1) from if_pos c] at e2;cases e2;cases r1;refine ⟨x,rfl,c,k _ ρ1 H1 T1 S1 ?_⟩;have hlow:∀d∈x.cps.toList,d < 128:=fun d hd=>by
    rw [Array.all_eq_true_iff_forall_mem] at c
    simpa using c d (Array.mem_toList_iff.mp hd)
   refine iz fun ρ2 H2 h2 T S2 hc=>⟨x.cps.toList.map fun c=>V.str ⟨#[c]⟩,i2 _ hlow,fun i hi=>?_,fun i v hv=>?_⟩
   ·rw [List.length_map,Array.length_toList] at hi;exact hi
   ·rw [List.getElem?_map] at hv;obtain ⟨j,e3,e4⟩:=mpd hv;have hlt:i < x.cps.toList.length:=(List.getElem?_eq_some_iff.mp e3).1;rw [Array.length_toList] at hlt;refine ⟨hlt,fun u H3 ⟨y1,c',y2,y3⟩=>⟨y1,?_⟩⟩;rw [Array.getElem?_toList,y2] at e3;cases e3;rw [y3,e4]
  ·rw [show (match D.str x with | .str x=>if x.cps.all (· < 128)=true then some (x.cps.toList.map fun c=>D.str ⟨#[c]⟩,([]:W),h1) else none | _=>none)=none from if_neg c] at e2;cases e2
 | _=>cases e2
end Sm
namespace L2
open PySem PySem.Spec PyProof.Rows
end L2
namespace Sm
open PySem L2 PySem.Spec PyProof.Rows
end Sm
namespace L2
open PySem PySem.Spec PyProof.Rows
end L2
namespace Sm
open PySem L2
end Sm
namespace Sm
open PySem L2 PySem.Spec PyProof.Rows
end Sm
namespace L2
open PySem PySem.Spec PyProof.Rows
end L2
namespace Sm
open PySem L2 PySem.Spec PyProof.Rows
theorem scl (d:Df X.prog X.w X.K X.mg X.base nm k ps n F) (hr:Room k' X.A) (ha:SA X (e::es) m) (hk:k≤k':=by decide) (hl:f6 m n:=by repeat (first | exact aQ | refine av ?_)) (hg:Gl X nm:=by unfold Gl;kernel_rfl) (hdb:(nm==("__debug__":Str))=false:=by kernel_rfl) (he:starEach (e::es) X.env=(false,eval e X.env)::starEach es X.env:=by kernel_rfl) (hpl:(backTo pos (starEach es X.env)).any (·.1)=false:=by kernel_rfl):SE X (.Call (.Name nm p) (e::es) [] pos) (eFn F m):=tf d hr hk ha hl hg hdb he hpl
theorem scb {x:Str} {id:String} {p pos:Pos} {e:Expr} {es:List Expr} {f:Fn} {m:AM} (hc:cN X (.builtin id) f) (hm:X.mg x=none) (hv:bootBuiltins x=some (.builtin id)) (ha:SA X (e::es) m) (hg:Gl X x:=by unfold Gl;kernel_rfl) (hn:x≠"__name__":=by decide) (hdb:(x==("__debug__":Str))=false:=by kernel_rfl)
  (he:starEach (e::es) X.env=(false,eval e X.env)::starEach es X.env:=by kernel_rfl) (hpl:(backTo pos (starEach es X.env)).any (·.1)=false:=by kernel_rfl):SE X (.Call (.Name x p) (e::es) [] pos) (eFn f m):=lR hc hg hm hv ha hn hdb he hpl
theorem sct {x:Str} {id:String} {p pos:Pos} {e:Expr} {es:List Expr} {f:Fn} {m:AM} (hc:cN X (.type id) f) (hm:X.mg x=none) (hv:bootBuiltins x=some (.type id)) (ha:SA X (e::es) m) (hg:Gl X x:=by unfold Gl;kernel_rfl) (hn:x≠"__name__":=by decide) (hdb:(x==("__debug__":Str))=false:=by kernel_rfl)
  (he:starEach (e::es) X.env=(false,eval e X.env)::starEach es X.env:=by kernel_rfl) (hpl:(backTo pos (starEach es X.env)).any (·.1)=false:=by kernel_rfl):SE X (.Call (.Name x p) (e::es) [] pos) (eFn f m):=lQ hc hg hm hv ha hn hdb he hpl
theorem sty (hm:X.mg x=none) (hv:bootBuiltins x=some (.type n)) (hg:Gl X x:=by unfold Gl;kernel_rfl) (hn:x≠"__name__":=by decide) (hd:(x==("__debug__":Str))=false:=by kernel_rfl):SE X (.Name x pos) (eK (.ty n)):=sY hg hm hv hn hd
theorem six (hr:Room k X.A) (ha:SE X a ma) (hb:SE X b mb) (hs:dF b:=by unfold dF;intro _ _;kernel_rfl):SE X (.Subscript a b pos) (eOp fIx ma mb):=sZ hr.units ha hb hs
end Sm
namespace Hd
open PySem PySem.W PySem.Spec PyProof.Rows L2 Sm
theorem u0 {P:List Value->Prop} (h:P []) (us:List Value) (hl:us.length=0):P us:=by cases us with | nil=>exact h | cons _ _=>cases hl
theorem u1 {P:List Value->Prop} (h:∀a,P [a]) (us:List Value) (hl:us.length=1):P us:=by
 cases us with
 | nil=>cases hl
 | cons a r=>exact u0 (P:=fun r=>P (a::r)) (h a) r (Nat.succ.inj hl)
theorem u2 {P:List Value->Prop} (h:∀a b,P [a,b]) (us:List Value) (hl:us.length=2):P us:=by
 cases us with
 | nil=>cases hl
 | cons a r=>exact u1 (P:=fun r=>P (a::r)) (h a) r (Nat.succ.inj hl)
theorem cG {q:Program} {loose:List Str} {mean:ExcName->Option Value} {mg mb:Str->Option Value} {h base:Heap} {P:Program} {w:World} (T:Top q loose mean mg mb h) {n:Str} {st:Stmt} (e:(recsOf q).find? (fun e=>e.name==n)=some (gC n st)) {ps:List Str} {k N:Nat} {F:Fn}
  (hb:∀{f:Addr} {fd:FuncData},Fun (aP h) n n st f fd->Binds (aP h) fd ps []) (ok:∀{f:Addr} {fd:FuncData},Fun (aP h) n n st f fd->keepIn (aP h) (.ref f)=true->Binds (aP h) fd ps []->mg n=some (.ref f)->FnOk P w (aP h) mg base CX0 k f fd ps (spF (aP h) N F)):Df P w (aP h) mg base n k ps N F:=by
 obtain ⟨f,fd,m,G⟩:=pK T e;exact ⟨f,fd,ok G G.kp (hb G) m,G.kp,hb G,m⟩
end Hd
namespace L2
open PySem PySem.Spec PyProof.Rows Builtin.Str
theorem oJ {X:Cx}:MtR X "str.join" (fun x vs H Q=>∃p a ss,x=.str p∧vs=[.ref a]∧(SqL X.K H a (ss.map V.str)∨SqT X.K H a (ss.map V.str))∧(ss.map (·.length)).sum+ss.length*p.length≤16777216∧Q (.str (Txt.join p ss)) H):=by
 intro pins s σ H x xs v us Q I rx rs h;obtain ⟨p,a,ss,rfl,rfl,ha,hz,q⟩:=h;obtain ⟨t,rfl⟩:=rx;obtain ⟨u,rfl,ru⟩:=vals1 rs;cases ru;rcases ha with ha | ha
 ·obtain ⟨its,rv,p,_⟩:=I.list ha;exact join_list p.isList (by simpa using dI rv) hz fun t' k=>⟨.str _,H,I.kept (t':=k) fun _ _ e=>e,⟨t',rfl⟩,q⟩
 ·obtain ⟨its,rv,p,_⟩:=I.tuple ha;exact join_tuple p (by simpa using dI rv) hz fun t' k=>⟨.str _,H,I.kept (t':=k) fun _ _ e=>e,⟨t',rfl⟩,q⟩
theorem mC {X:Cx}:MtR X "str.index" (fun x vs H Q=>∃p y i r,x=.str p∧vs=[.str y]∧occurrences p y 0 p.length 1=i::r∧Q (.int i) H):=by
 intro pins s σ H x xs v us Q I rx rs h;obtain ⟨p,y,i,r,rfl,rfl,ho,q⟩:=h;obtain ⟨t,rfl⟩:=rx;obtain ⟨u,rfl,ru⟩:=vals1 rs;obtain ⟨t',rfl⟩:=ru;exact SC.index ho ⟨.int _,H,I.kept (t':=s.toks+1) fun _ _ e=>e,⟨_,rfl⟩,q⟩
theorem fh:∀(l:List (Str×Tok)),Vals ((l.map (·.1)).map V.str) (strValues l)
 | []=>.nil
 | (x,t)::r=>.cons ⟨t,rfl⟩ (fh r)
theorem lN {prog:Program} {w:World} {A:Around} {E:Value->Shared->Prop} {s:Shared} {x y:Str} {t u:Tok} {Q:Value->Shared->Prop} (hy:(y.length==0)=false)
  (hq:∀l k,l.map (·.1)=Txt.split x y->Q (.ref s.heap.objs.size) {s with toks:=k,heap:=s.heap.push {cls:=.type "list",data:=.seq (strValues l).toArray}})
  (hsz:x.length≤sizeLine) (hsz2:(partsBetween x (occurrences x y 0 x.length (x.length+1)) y.length).length≤sizeLine):
  wpAny (model prog w) A (call (.builtin "str.split") [.str x t,.str y u]) Q E s:=by
 cases h1:(decide (x.length < y.length)||decide (strKind x < strKind y))
 ·cases hf:(occurrences x y 0 x.length (x.length+1)).isEmpty
  ·refine call_meets F.slot_str_split (typeIs_str _ _ _) F.entry_str_split (F.args_str_split_2 _ _) (meets_str_split_sep x y t u h1 hy hf hsz hsz2) ?_;show wants Q E _ {s with toks:=_,heap:=s.heap.push {cls:=.type "list",data:=.seq (strsFrom s.toks (partsBetween x (occurrences x y 0 x.length (x.length+1)) y.length)).toArray}};rw [strsFrom_eq];exact hq (numbered s.toks _) _ ((numbered_texts _ _).trans ((if_neg (ne_true_of_eq_false h1)).trans (if_neg (ne_true_of_eq_false hf))).symm)
  ·exact call_meets F.slot_str_split (typeIs_str _ _ _) F.entry_str_split (F.args_str_split_2 _ _) (meets_str_split_not_found x y t u h1 hy hf)
    (hq [(x,t)] _ ((if_neg (ne_true_of_eq_false h1)).trans (if_pos hf)).symm)
 ·exact call_meets F.slot_str_split (typeIs_str _ _ _) F.entry_str_split (F.args_str_split_2 _ _) (meets_str_split_cannot_occur x y t u h1)
   (hq [(x,t)] _ (if_pos h1).symm)
theorem mB {X:Cx}:MtR X "str.split" (fun x vs H Q=>∃p y,x=.str p∧vs=[.str y]∧(y.length==0)=false∧p.length≤sizeLine∧(Txt.split p y).length≤sizeLine∧(partsBetween p (occurrences p y 0 p.length (p.length+1)) y.length).length≤sizeLine∧∀l,H l=none->Q (.ref l) (upd H l (.lst ((Txt.split p y).map V.str)))):=by
 intro pins s σ H x xs v us Q I rx rs h;obtain ⟨p,y,rfl,rfl,hy,hz,hz1,hz2,q⟩:=h;obtain ⟨t,rfl⟩:=rx;obtain ⟨u,rfl,ru⟩:=vals1 rs;obtain ⟨t',rfl⟩:=ru;refine lN hy (fun l k e=>?_) hz hz2;rw [←e] at q hz1;exact ⟨.ref s.heap.objs.size,_,I.laid (t':=k) (o:=.lst ((l.map (·.1)).map V.str)) (fun b ob q=>Heap.get?_push_of_some _ q) (Nat.le_refl _)
  ⟨by rw [List.length_map];exact hz1,strValues l,_,fh l,Heap.get?_push_size _ rfl⟩,rfl,q _ (I.hok.fresh (Nat.le_refl _))⟩
noncomputable def part3 (x y:Str):List Str:=match occurrences x y 0 x.length 1 with
 | i::_=>[strSub x 0 i,y,strSub x (i+y.length) x.length]
 | []=>[x,Str.empty,Str.empty]
theorem ir {X:Cx}:MtR X "str.partition" (fun x vs H Q=>∃p y,x=.str p∧vs=[.str y]∧(y.length==0)=false∧p.length≤sizeLine∧∀l,H l=none->Q (.ref l) (upd H l (.tup ((part3 p y).map V.str)))):=by
 intro pins s σ H x xs v us Q I rx rs h;obtain ⟨p,y,rfl,rfl,hy,hz,q⟩:=h;obtain ⟨t,rfl⟩:=rx;obtain ⟨u,rfl,ru⟩:=vals1 rs;obtain ⟨t',rfl⟩:=ru;refine call_meets F.slot_str_partition (typeIs_str _ _ _) F.entry_str_partition (F.args_str_partition_2 _ _) (meets_str_partition p y t t' hy hz) ?_;unfold part3 at q;cases ho:occurrences p y 0 p.length 1 with
 | nil=>
  rw [ho] at q;exact ⟨.ref s.heap.objs.size,_,I.laid (t':=s.toks+1) (o:=.tup [.str p,.str Str.empty,.str Str.empty]) (fun b ob q=>Heap.get?_push_of_some _ q) (Nat.le_refl _)
   ⟨by show 3≤sizeLine;decide,[_,_,_],.cons ⟨_,rfl⟩ (.cons ⟨_,rfl⟩ (.cons ⟨_,rfl⟩ .nil)),⟨_,Heap.get?_push_size _ rfl,rfl,⟨_,rfl⟩,rfl⟩⟩,rfl,q _ (I.hok.fresh (Nat.le_refl _))⟩
 | cons i r=>
  rw [ho] at q;exact ⟨.ref s.heap.objs.size,_,I.laid (t':=s.toks+1+1) (o:=.tup [.str (strSub p 0 i),.str y,.str (strSub p (i+y.length) p.length)]) (fun b ob q=>Heap.get?_push_of_some _ q) (Nat.le_refl _)
   ⟨by show 3≤sizeLine;decide,[_,_,_],.cons ⟨_,rfl⟩ (.cons ⟨_,rfl⟩ (.cons ⟨_,rfl⟩ .nil)),⟨_,Heap.get?_push_size _ rfl,rfl,⟨_,rfl⟩,rfl⟩⟩,rfl,q _ (I.hok.fresh (Nat.le_refl _))⟩
end L2
namespace L2
open PySem PySem.Spec PyProof.Rows
abbrev TJ:=Str->St->Hp->(Str->Hp->Prop)->Prop
def PJ (X:Cx) (es:List Expr) (t:TJ):Prop:=∀(pins:List (Addr×Obj)) (s:Shared) (σ:St) (H:Hp) (acc:Str) (Q:Str->Hp->Prop) (R:Str->Shared->Prop),Inv X pins σ H s->t acc σ H Q->
 (∀out s1 H1,Inv X pins σ H1 s1->Q out H1->R out s1)->Joins (model X.prog X.w) X.A X.xe (evalEach es X.env) acc R s
theorem qJ {X:Cx}:PJ X [] (fun acc σ H Q=>Q acc H):=fun pins s σ H acc Q R I q k=>k acc s H I q
theorem ot {X:Cx} {e:Expr} {es:List Expr} {t:TE} {r:TJ} (he:PE X e t) (hr:PJ X es r):PJ X (e::es) (fun acc σ H Q=>t σ H fun v H1=>∃y,v=.str y∧(acc++y).length≤sizeLine∧r (acc++y) σ H1 Q):=by
 intro pins s σ H acc Q R I q k;show wpAny _ _ (eval e X.env) _ _ s;refine thn (he pins s σ H _ I q) fun v s1 ⟨x,H1,I1,r1,y,e1,hz,q1⟩=>?_;subst e1;obtain ⟨u,rfl⟩:=r1;exact ⟨y,u,rfl,hz,hr pins s1 σ H1 _ Q R I1 q1 k⟩
theorem qX {X:Cx} {e:Expr} {t:TE} {pos:Pos} (he:PE X e t):PE X (.FormattedValue e (-1) none pos) (fun σ H Q=>t σ H fun v H1=>∃y:Str,v=.str y∧y.length≤sizeLine∧Q v H1):=by
 walk_at "ah";refine wpAny_FormattedValue_plain (thn (he pins s σ H _ I h) fun v s1 ⟨x,H1,I1,r1,y,e1,hz,q1⟩=>?_);subst e1;obtain ⟨u,rfl⟩:=r1;exact wpAny_formatField_str ⟨.str y,H1,I1,⟨_,rfl⟩,q1⟩ ⟨.str y,H1,I1.kept (t':=s1.toks+1) fun _ _ e=>e,⟨_,rfl⟩,q1⟩ hz
theorem oA {X:Cx} {a b:Expr} {r:List Expr} {t:TJ} {pos:Pos} (h:PJ X (a::b::r) t):PE X (.JoinedStr (a::b::r) pos) (fun σ H Q=>t Str.empty σ H fun out H1=>out.length≤sizeLine∧Q (.str out) H1):=by
 intro pins s σ H Q I q;exact wpAny_JoinedStr (h pins s σ H _ _ _ I q fun out s1 H1 I1 ⟨hz,q1⟩=>⟨hz,.str out,H1,I1.kept (t':=s1.toks+1) fun _ _ e=>e,⟨_,rfl⟩,q1⟩)
end L2
namespace Sm
open PySem L2 PySem.Spec PyProof.Rows Builtin.Str
abbrev JM:=DS->MH->Str->Option (Str×MH)
noncomputable def oP:JM:=fun _ h acc=>some (acc,h)
noncomputable def di (e:EM) (r:JM):JM:=fun δ h acc=>(e δ h).bind fun p=>match p.1 with
 | .str y=>if (acc++y).length≤sizeLine then r δ p.2 (acc++y) else none
 | _=>none
noncomputable def gm (d:D) (h:MH):Option (D×MH):=match d with
 | .str y=>if y.length≤sizeLine then some (.str y,h) else none
 | _=>none
noncomputable def eFs (m:JM):EM:=fun δ h=>(m δ h Str.empty).bind fun p=>if p.1.length≤sizeLine then some (.str p.1,p.2) else none
theorem bc {x y:Str} (hx:PyData.strOk x=true) (hy:PyData.strOk y=true):PyData.strOk (x++y)=true:=by
 unfold PyData.strOk at*;show (x.cps++y.cps).all _=true;rw [Array.all_append,hx,hy];rfl
inductive TMJi (K:FR) (m:JM) (acc:Str) (σ:L2.St) (H:Hp) (Q:Str->Hp->Prop):Prop where
 | mk (ρ δ h out h'):RepS K ρ H σ δ->Sim K ρ h H->PyData.strOk acc=true->(m δ h acc=some (out,h'))->(∀ρ' H',Stp ρ H ρ' H'->Sim K ρ' h' H'->PyData.strOk out=true->Q out H')->TMJi K m acc σ H Q
def SJ (X:Cx) (es:List Expr) (m:JM):Prop:=PJ X es (fun acc σ H Q=>TMJi X.K m acc σ H Q)
theorem PJ.imp {X:Cx} {es:List Expr} {t t':TJ} (h:PJ X es t) (i:∀acc σ H Q,t' acc σ H Q->t acc σ H Q):PJ X es t':=fun pins s σ H acc Q R I q k=>h pins s σ H acc Q R I (i acc σ H Q q) k
theorem p7 {X:Cx}:SJ X [] oP:=PJ.imp qJ fun acc σ H Q ⟨ρ,δ,h,out,h',R,S,o,e,k⟩=>by
 cases e;exact k ρ H (.refl _ _) S o
theorem hG {X:Cx} {e:Expr} {es:List Expr} {m:EM} {r:JM} (he:SE X e m) (hr:SJ X es r):SJ X (e::es) (di m r):=PJ.imp (ot he hr) fun acc σ H Q ⟨ρ,δ,h,out,h',R,S,o,e,k⟩=>by
 walk_at "ab";dsimp only at e2;walk_at "af";cases r1 <;> first | (cases e2;done) | skip
 rename_i y hy _;dsimp only at e2
 by_cases z:(acc++y).length≤sizeLine
 ·rw [if_pos z] at e2;exact ⟨y,rfl,z,ρ1,δ,h1,out,h',R.mono T1,S1,bc o hy,e2,fun ρ2 H2 T2 S2 o2=>k ρ2 H2 (T1.trans T2) S2 o2⟩
 ·rw [if_neg z] at e2;cases e2
theorem lP {X:Cx} {e:Expr} {m:EM} {pos:Pos} (he:SE X e m):SE X (.FormattedValue e (-1) none pos) (eUn gm m):=(qX he).imp fun σ H Q ⟨ρ,δ,h,d,h',R,S,e,k⟩=>by
 walk_at "ab";walk_at "af";cases r1 <;> first | (cases e2;done) | skip
 rename_i y hy _;unfold gm at e2;dsimp only at e2
 by_cases z:y.length≤sizeLine
 ·rw [if_pos z] at e2;cases e2;exact ⟨y,rfl,z,k _ _ ⟨ρ1,T1,S1,.str hy⟩⟩
 ·rw [if_neg z] at e2;cases e2
theorem nP {X:Cx} {a b:Expr} {r:List Expr} {m:JM} {pos:Pos} (hj:SJ X (a::b::r) m):SE X (.JoinedStr (a::b::r) pos) (eFs m):=(oA hj).imp fun σ H Q ⟨ρ,δ,h,d,h',R,S,e,k⟩=>by
 walk_at "ab";dsimp only at e2
 by_cases z:x.length≤sizeLine
 ·rw [if_pos z] at e2;cases e2;exact ⟨ρ,δ,h,x,_,R,S,by kernel_rfl,e1,fun ρ1 H1 T1 S1 o=>⟨z,k _ _ ⟨ρ1,T1,S1,.str o⟩⟩⟩
 ·rw [if_neg z] at e2;cases e2
noncomputable def isStr (d:D) (_:MH):Bool:=match d with
 | .str _=>true
 | _=>false
theorem ty_str {K:FR} {ρ:Ad} {H:Hp} {h:MH} {v:V} {d:D} (S:Sim K ρ h H) (r:Rep K ρ H v d) (e:isStr d h=true):tyV K "str" v H:=by
 cases r <;> first | (cases e;done) | exact rfl
noncomputable def fI:MFn:=fun d ds h=>match d,ds with
 | .str x,[y]=>(aU y h).bind fun p=>(gA p.1).bind fun ns=>if (ns.map (·.length)).sum+ns.length*x.length≤16777216 then some (.str (Str.join x ns),h) else none
 | _,_=>none
theorem fk {x:Str} (hx:PyData.strOk x=true):∀ns:List Str,(∀y∈ns,PyData.strOk y=true)->PyData.strOk (Str.join x ns)=true
 | [],_=>by kernel_rfl
 | [y],h=>h y (.head _)
 | y::z::r,h=>bc (bc (h y (.head _)) hx) (fk hx (z::r) fun a ha=>h a (.tail _ ha))
theorem iw {X:Cx}:MtR X "str.join" (rM X.K fI):=by
 walk_at "ae";cases rd <;> first | (cases ee;done) | skip
 rename_i p hp
 match ds,l,ee with
 | [],_,ee=>cases ee
 | _::_::_,_,ee=>cases ee
 | [y],l,ee=>
  obtain ⟨⟨ys,w⟩,e1,e2⟩:=bnd ee;obtain ⟨ns,e3,e4⟩:=bnd e2
  by_cases c:(ns.map (·.length)).sum+ns.length*p.length≤16777216
  ·rw [if_pos c] at e4;cases e4;obtain ⟨v1,rfl,ry⟩:=rep1 l;obtain ⟨a,vs,rfl,hq,l2⟩:=c8 S ry e1;have:=iV e3;dsimp only at this;subst this;obtain ⟨e5,f⟩:=fz l2;subst e5;refine oJ pins s σ H _ _ v us Q I rx rs ⟨p,a,ns,rfl,rfl,hq,c,?_⟩;rw [show Txt.join p ns=Str.join p ns from StrLaws.glued_eq_join p ns];exact k _ _ (.here S (.str (fk hp ns f)))
  ·rw [if_neg c] at e4;cases e4
noncomputable def fJ:MFn:=fun d ds h=>match d,ds with
 | .str x,[.str y]=>match occurrences x y 0 x.length 1 with
  | i::_=>some (.int i,h)
  | []=>none
 | _,_=>none
theorem mE {X:Cx}:MtR X "str.index" (rM X.K fJ):=by
 walk_at "ae";cases rd <;> first | (cases ee;done) | skip
 rename_i p hp
 match ds,l,ee with
 | [],_,ee=>cases ee
 | y::_::_,_,ee=>cases y <;> cases ee
 | [y],l,ee=>
  obtain ⟨v1,rfl,ry⟩:=rep1 l;cases ry <;> first | (cases ee;done) | skip
  rename_i q hq _;unfold fJ at ee;dsimp only at ee;cases ho:occurrences p q 0 p.length 1 with
  | nil=>rw [ho] at ee;cases ee
  | cons i r=>
   rw [ho] at ee;cases ee;exact mC pins s σ H _ _ v us Q I rx rs ⟨p,q,i,r,rfl,rfl,ho,k _ _ (.here S (.int _))⟩
noncomputable def cY:MFn:=fun d ds h=>match d,ds with
 | .str x,[.str y]=>if (y.length==0)=false∧x.length≤sizeLine∧(Txt.split x y).length≤sizeLine∧(partsBetween x (occurrences x y 0 x.length (x.length+1)) y.length).length≤sizeLine∧(Txt.split x y).all PyData.strOk=true then some (.lv ((Txt.split x y).map D.str),h) else none
 | _,_=>none
theorem mD {X:Cx}:MtR X "str.split" (rM X.K cY):=by
 walk_at "ae";cases rd <;> first | (cases ee;done) | skip
 rename_i p hp
 match ds,l,ee with
 | [],_,ee=>cases ee
 | y::_::_,_,ee=>cases y <;> cases ee
 | [y],l,ee=>
  obtain ⟨v1,rfl,ry⟩:=rep1 l;cases ry <;> first | (cases ee;done) | skip
  rename_i q hq _;unfold cY at ee;dsimp only at ee
  split at ee
  ·rename_i c;cases ee;exact mB pins s σ H _ _ v us Q I rx rs ⟨p,q,rfl,rfl,c.1,c.2.1,c.2.2.1,c.2.2.2.1,fun l hl=>k _ _ (.lv S (dR _ fun x hx=>List.all_eq_true.mp c.2.2.2.2 x hx) hl)⟩
  ·cases ee
noncomputable def bD:MFn:=fun d ds h=>match d,ds with
 | .str x,[.str y]=>if (y.length==0)=false∧x.length≤sizeLine∧(part3 x y).all PyData.strOk=true then some (.tup ((part3 x y).map D.str),h) else none
 | _,_=>none
theorem iu {X:Cx}:MtR X "str.partition" (rM X.K bD):=by
 walk_at "ae";cases rd <;> first | (cases ee;done) | skip
 rename_i p hp
 match ds,l,ee with
 | [],_,ee=>cases ee
 | y::_::_,_,ee=>cases y <;> cases ee
 | [y],l,ee=>
  obtain ⟨v1,rfl,ry⟩:=rep1 l;cases ry <;> first | (cases ee;done) | skip
  rename_i q hq _;unfold bD at ee;dsimp only at ee
  split at ee
  ·rename_i c;cases ee;exact ir pins s σ H _ _ v us Q I rx rs ⟨p,q,rfl,rfl,c.1,c.2.1,fun l hl=>k _ _ (.tup S (dR _ fun x hx=>List.all_eq_true.mp c.2.2 x hx) hl)⟩
  ·cases ee
theorem kH (i:Int):PyData.strOk (Str.ofString (toString i))=true:=by
 unfold PyData.strOk;rw [Array.all_eq_true'];intro c hc;refine decide_eq_true (Nat.lt_of_not_le fun h=>?_);exact int_text_free' c ⟨by lia,.inr (by lia)⟩ i (Array.mem_toList_iff.mpr hc)
noncomputable def dq:Fn:=fun ds h=>match ds with
 | [.int i]=>if i.natAbs.log2 < 1920 then some (.str (toString i),h) else none
 | _=>none
noncomputable def fe:Fn:=fun ds h=>match ds with
 | [.int i,.int j]=>if 0 < j∧j < 1073741824 then some (.tup [.int (i / j),.int (i % j)],h) else none
 | _=>none
theorem kj {X:Cx}:cN X (.type "str") dq:=by
 walk_at "ad"
 match ds,l,ee with
 | [],_,ee=>cases ee
 | d::_::_,_,ee=>cases d <;> cases ee
 | [d],l,ee=>
  obtain ⟨v,rfl,rd⟩:=rep1 l;cases rd <;> first | (cases ee;done) | skip
  unfold dq at ee;dsimp only at ee
  split at ee
  ·rename_i c;cases ee;refine iH pins s σ H _ us Q I r ⟨_,rfl,c,k _ _ (.here S (.str ?_))⟩;exact kH _
  ·cases ee
theorem k9 {X:Cx}:cN X (.builtin "divmod") fe:=by
 walk_at "ad"
 match ds,l,ee with
 | [],_,ee=>cases ee
 | [d],_,ee=>cases d <;> cases ee
 | d::e::_::_,_,ee=>cases d <;> cases e <;> cases ee
 | [d,e],l,ee=>
  obtain ⟨v,u,rfl,rd,re⟩:=rep2 l;cases rd <;> first | (cases ee;done) | skip
  cases re <;> first | (cases ee;done) | skip
  unfold fe at ee;dsimp only at ee
  split at ee
  ·rename_i c;cases ee;exact jn pins s σ H _ us Q I r ⟨_,_,rfl,c,fun l hl=>k _ _ (.tup S (.cons (.int _) (.cons (.int _) .nil)) hl)⟩
  ·cases ee
theorem lr:bootBuiltins "divmod"=some (.builtin "divmod"):=by decide+kernel
end Sm
namespace Mi
open PySem L2 Sm PySem.Spec PyProof.Rows
structure Bs (P:Program) (w:World) (K:FR) (mg:Str->Option Value):Prop where
 b6:mg "abs"=none
 b9:mg "all"=none
 b10:mg "bool"=none
 b7:mg "divmod"=none
 b11:mg "int"=none
 b2:mg "isinstance"=none
 b5:mg "len"=none
 b3:mg "list"=none
 b0:mg "range"=none
 b1:mg "str"=none
 b4:mg "tuple"=none
 b8:mg "zip"=none
 C_FIGURES:Con mg "FIGURES" (.str "0123456789")
abbrev bX:Stmt:=top 12
abbrev cc:List Str:=["_law_script"]
theorem gb:FnScope ["_law_script"] cc (ao bX):=by walk_at "s"
noncomputable def bb:Fn:=mkF 1
  (bO (eOb (ab (eK (.int 0)) (ab (eOb (ny (ab (se (af 0) pNo (pAt (eK (.int 63)))) aj))) (ab (eK (.int 0)) aj)))))
abbrev cC:Stmt:=top 13
abbrev cF:List Str:=["_law_state"]
theorem aE:FnScope ["_law_state","_law_cells","_law_tour","_law_cell","_law_mixed"] cF (ao cC):=by walk_at "s"
noncomputable def bJ:Fn:=mkF 5
  (aG (bG 1 (eOp fIx (af 0) (eK (.int 1))))
  (aG (bG 2 (eOp fIx (af 0) (eK (.int 2))))
  (aG (i1 (eOp a8 (af 2) (eK (.int 1))) (jf (af 0) (eK (.int 2))))
  (aG (bG 3 (eK (.int 0)))
  (aG (sIf (aX (eOp fP (af 1) (eLv aj))) (bG 3 (eOp fIx (af 1) (eOp gj (af 2) (eFn du (ab (af 1) aj))))) dc)
  (sIf (jw (aX (eOp fLt (af 2) (eFn du (ab (af 1) aj)))) (aX (eOp fGe (eFn oX (ab (af 3) aj)) (eOp k3 (eK (.int 10)) (eK (.int 18)))))) (i1 (eFn oX (ab (af 3) aj)) (jf (af 0) (eK (.int 0)))) (aG (bG 4 (eOp gj (eOp dr (eOp a8 (eOp a8 (eOp gj (af 3) (eK (.int 2305843009213693951))) (eOp dr (eOp dr (eK (.int 7919)) (af 2)) (af 2))) (eK (.int 11))) (eK (.int 48271))) (eK (.int 2305843009213693951))))
  (aG (bG 4 (eOp gj (eOp dr (af 4) (af 4)) (eK (.int 2305843009213693921))))
  (i1 (eOp a8 (eOp gj (eOp a8 (eOp a8 (eOp dr (af 4) (eK (.int 69621))) (af 2)) (eK (.int 104729))) (eK (.int 2305843009213693951))) (eOp k3 (eK (.int 10)) (eK (.int 9)))) (jf (af 0) (eK (.int 0))))))))))))
abbrev cB:Stmt:=top 14
abbrev cE:List Str:=["_law_state","_law_many"]
theorem c9:FnScope ["_law_state","_law_many","_law_found"] cE (ao cB):=by walk_at "s"
noncomputable def aD:Fn:=mkF 3
  (aG (sIf (aX (eOp fLt (eOp fIx (af 0) (eK (.int 0))) (af 1))) (gB (eFn bJ (ab (af 0) aj))) dc)
  (aG (bG 2 (eOp gj (eOp fIx (af 0) (eK (.int 0))) (af 1)))
  (aG (i1 (eOp mQ (eOp fIx (af 0) (eK (.int 0))) (af 1)) (jf (af 0) (eK (.int 0))))
  (bO (af 2)))))
abbrev dO:Stmt:=top 15
abbrev dY:List Str:=["_law_state","_law_some"]
theorem jB:FnScope ["_law_state","_law_some"] dY (ao dO):=by walk_at "s"
noncomputable def bu:Fn:=mkF 2
  (bO (eOp fIx (af 1) (eFn aD (ab (af 0) (ab (eFn du (ab (af 1) aj)) aj)))))
abbrev bz:Stmt:=top 17
abbrev bC:List Str:=["_law_state"]
theorem aR:FnScope ["_law_state","_law_some_moves","_law_k","_law_some"] bC (ao bz):=by walk_at "s"
noncomputable def ba:Fn:=mkL 4
  (aG (bG 1 (eOb aj))
  (aG (jD (mL (ab (eFn aD (ab (af 0) (ab (eK (.int 41)) aj))) aj)) (gN 2) (aG (bG 3 (eLv (ab (eK (.int 0)) (ab (eK (.int 1)) (ab (eFn aD (ab (af 0) (ab (eK (.int 4)) aj))) (ab (eK (.int 9)) (ab (eK (.int 10)) (ab (eFn aD (ab (af 0) (ab (eOp k3 (eK (.int 10)) (eK (.int 9))) aj))) (ab (eOp a8 (eOp k3 (eK (.int 10)) (eK (.int 29))) (eFn aD (ab (af 0) (ab (eK (.int 99)) aj)))) aj)))))))))
  (gB (eM dj cj (af 1) (ab (eFn jN (ab (eFn bu (ab (af 0) (ab (af 3) aj))) (ab (eFn bu (ab (af 0) (ab (af 3) aj))) aj))) aj)))))
  (bO (eFn jM (ab (af 1) aj)))))
abbrev bK:Stmt:=top 5
abbrev bL:List Str:=["number"]
theorem aM:FnScope ["number","left","signs","figure"] bL (ao bK):=by walk_at "s"
noncomputable def ar:Fn:=mkL 4
  (aG (bG 1 (eFn oX (ab (af 0) aj)))
  (aG (bG 2 (eOb aj))
  (aG (bU (tOr (aX (eOp fGt (af 1) (eK (.int 0)))) (g7 (g6 (af 2)))) (aG (i1 (eFn fe (ab (af 1) (ab (eK (.int 10)) aj))) (gT 2 (aV (gN 1) (aV (gN 3) eE))))
  (gB (eM dj cj (af 2) (ab (eOp fIx (eK (.str "0123456789")) (af 3)) aj)))) 100)
  (aG (sIf (aX (eOp fLt (af 0) (eK (.int 0)))) (gB (eM dj cj (af 2) (ab (eK (.str "-")) aj))) dc)
  (bO (eM isStr fI (eK (.str "")) (ab (mV (af 2) (eUn pU (eK (.int 1)))) aj)))))))
abbrev bw:Stmt:=top 8
abbrev bA:List Str:=["weaving"]
theorem eN:FnScope ["weaving"] bA (ao bw):=by walk_at "s"
noncomputable def aN:Fn:=mkF 1
  (bO (eM isStr fI (eK (.str " ")) (ab (eLv (bF [none,none] (eV (af 0)) (gT 2 (aV (gN 0) (aV (gN 1) eE))) bV (eFs (di (eUn gm (eFn ar (ab (af 0) aj))) (di (eK (.str ".")) (di (eUn gm (eFn ar (ab (af 1) aj))) oP)))))) aj)))
abbrev cA:Stmt:=top 16
abbrev bo:List Str:=["_law_found","_law_due"]
theorem hY:FnScope ["_law_found","_law_due"] bo (ao cA):=by walk_at "s"
noncomputable def aw:Nat->Fn
 | 0=>fun _ _=>none
 | n+1=>mkF 2
  (aG (sIf (g6 (eFn gk (ab (af 1) (ab (eK (.ty "tuple")) aj)))) (aG (sIf (tOr (g7 (g6 (eFn gk (ab (af 0) (ab (eK (.ty "tuple")) aj))))) (aX (eOp fP (eFn du (ab (af 0) aj)) (eFn du (ab (af 1) aj))))) (bO (eK (.bl false))) dc)
  (bO (eFn r8 (ab (eLv (bF [none,none] (rP (ab (af 0) (ab (af 1) aj))) (gT 2 (aV (gN 0) (aV (gN 1) eE))) bV (eFn (aw n) (ab (af 0) (ab (af 1) aj))))) aj)))) dc)
  (aG (sIf (aX (eOp rY (af 1) (eK .non))) (bO (eOp rY (af 0) (eK .non))) dc)
  (aG (sIf (g6 (eFn gk (ab (af 1) (ab (eK (.ty "str")) aj)))) (bO (k5 (eFn gk (ab (af 0) (ab (eK (.ty "str")) aj))) (eOp gn (af 0) (af 1)))) dc)
  (bO (k5 (eFn gk (ab (af 0) (ab (eK (.ty "int")) aj))) (k5 (sf (eFn gk (ab (af 0) (ab (eK (.ty "bool")) aj)))) (eOp gn (af 0) (af 1))))))))
abbrev bW:Stmt:=top 6
abbrev cb:List Str:=["text"]
theorem bh:FnScope ["text","number","sign"] cb (ao bW):=by walk_at "s"
noncomputable def a9:Fn:=mkF 3
  (aG (sIf (tOr (aX (eOp gn (af 0) (eK (.str "")))) (jw (aX (eOp gn (eOp fIx (af 0) (eK (.int 0))) (eK (.str "0")))) (aX (eOp fP (af 0) (eK (.str "0")))))) (bO (eK .non)) dc)
  (aG (bG 1 (eK (.int 0)))
  (aG (jD (oT (af 0)) (gN 2) (aG (sIf (aX (eOp jO (af 2) (eK (.str "0123456789")))) (bO (eK .non)) dc)
  (bG 1 (eOp a8 (eOp dr (af 1) (eK (.int 10))) (eM isStr fJ (eK (.str "0123456789")) (ab (af 2) aj))))))
  (bO (af 1)))))
abbrev cz:Stmt:=top 9
abbrev cD:List Str:=["text"]
theorem aZ:FnScope ["text","hand","point","choice","move"] cD (ao cz):=by walk_at "s"
noncomputable def bq:Fn:=mkF 5
  (aG (i1 (eM isStr bD (af 0) (ab (eK (.str ".")) aj)) (gT 3 (aV (gN 1) (aV (gN 2) (aV (gN 3) eE)))))
  (aG (bG 4 (eFn jN (ab (eFn a9 (ab (af 1) aj)) (ab (eFn a9 (ab (af 3) aj)) aj))))
  (aG (sIf (aX (eOp fIn (eK .non) (af 4))) jC dc)
  (bO (af 4)))))
abbrev bx:Stmt:=top 10
abbrev bB:List Str:=["text"]
theorem eO:FnScope ["text"] bB (ao bx):=by walk_at "s"
noncomputable def aO:Fn:=mkF 1
  (aG (sIf (g7 (g6 (eFn gk (ab (af 0) (ab (eK (.ty "str")) aj))))) jC dc)
  (bO (eIf (aX (eOp fP (af 0) (eK (.str "")))) (eFn jM (ab (eLv (bF [none] (eV (eM isStr cY (af 0) (ab (eK (.str " ")) aj))) (gN 0) bV (eFn bq (ab (af 0) aj)))) aj)) (eFn jN aj))))
abbrev eA:Stmt:=top 18
abbrev pG:List Str:=["_law_script"]
theorem cX:FnScope ["_law_script","_law_state","_law_turn","_law_weaving_here","_law_text","_law_again","_law_found"] pG (ao eA):=by walk_at "s"
noncomputable def ku:Fn:=mkF 7
  (aG (bG 1 (eFn bb (ab (af 0) aj)))
  (aG (jD (mL (ab (eK (.int 4)) aj)) (gN 2) (aG (bG 3 (eFn ba (ab (af 1) aj)))
  (aG (bG 4 (eM isStr fI (eK (.str " ")) (ab (eLv (bF [none,none] (eV (af 3)) (gT 2 (aV (gN 0) (aV (gN 1) eE))) bV (eOp a8 (eOp a8 (eFn dq (ab (af 0) aj)) (eK (.str "."))) (eFn dq (ab (af 1) aj))))) aj)))
  (jD (mL (ab (eK (.int 2)) aj)) (gN 5) (aG (bG 6 (eFn aN (ab (af 3) aj)))
  (sIf (tOr (g7 (g6 (eFn gk (ab (af 6) (ab (eK (.ty "str")) aj))))) (tOr (aX (eOp fP (af 6) (af 4))) (g7 (g6 (eFn (aw 20) (ab (eFn aO (ab (af 4) aj)) (ab (af 3) aj))))))) (bO (eK (.bl false))) dc))))))
  (bO (k5 (eOp gn (eFn aN (ab (eFn jN aj) aj)) (eK (.str ""))) (eOp rZ (eFn aO (ab (eK (.str "")) aj)) (eFn jN aj))))))
section
variable (P:Program) (w:World) (K:FR) (mg:Str->Option Value) (base:Heap)
abbrev dE:Prop:=Df P w K mg base "_law_drawn" 1 cc 1 bb
abbrev eL:Prop:=Df P w K mg base "_law_load" 1 cF 1 bJ
abbrev cM:Prop:=Df P w K mg base "_law_next" 2 cE 2 aD
abbrev gW:Prop:=Df P w K mg base "_law_of" 3 dY 2 bu
abbrev cL:Prop:=Df P w K mg base "_law_weaving" 4 bC 1 ba
abbrev cU:Prop:=Df P w K mg base "show_number" 1 bL 1 ar
abbrev cJ:Prop:=Df P w K mg base "show_weaving" 2 bA 1 aN
abbrev eJ:Prop:=Df P w K mg base "_law_same" 21 bo 2 (aw 20)
abbrev dD:Prop:=Df P w K mg base "read_count" 1 cb 1 a9
abbrev eI:Prop:=Df P w K mg base "read_move" 2 cD 1 bq
abbrev cK:Prop:=Df P w K mg base "read_weaving" 3 bB 1 aO
end
section
variable {P:Program} {w:World} {K:FR} {mg:Str->Option Value} {base:Heap}
theorem gi (F:Fun K "_law_drawn" "_law_drawn" bX f fd) (B:Bs P w K mg):FnOk P w K mg base CX0 1 f fd cc (spF K 1 bb):=
 (bt F gb fun cdv A outer s H E hr=>by (conv=>arg 2;whnf);with_reducible exact (au (aI (SFL.ob (fu (aa ag (aa (SFL.ob (nM (by unfold Gl;kernel_rfl) B.b3 pd (aa (qb (sv 0) nI (nG ag)) ae) (av aQ))) (aa ag ae))) (av (av (av aQ))))))))
theorem iq (F:Fun K "_law_load" "_law_load" cC f fd) (B:Bs P w K mg):FnOk P w K mg base CX0 1 f fd cF (spF K 1 bJ):=
 (bt F aE fun cdv A outer s H E hr=>by (conv=>arg 2;whnf);with_reducible exact (ah (sset 1 aE.nd (six hr (sv 0) ag))
   (ah (sset 2 aE.nd (six hr (sv 0) ag))
   (ah (dM (aB bj (sv 2) ag) (hJ hr.units (sv 0) ag))
   (ah (sset 3 aE.nd ag)
   (ah (bM (aT (fE hr.units) (sv 1) (SFL.lv (fu ae aQ)) (aJ _)) (au (sset 3 aE.nd (six hr (sv 1) (aB dZ (sv 2) (scb fT B.b5 fX (aa (sv 1) ae)))))) br)
   (au (bM (SW.st (lJ (aT mn (sv 2) (scb fT B.b5 fX (aa (sv 1) ae)) (aJ _)) (jZ (aT tU (scb jR B.b6 jV (aa (sv 3) ae)) (aB ig ag ag) (aJ _))))) (au (dM (scb jR B.b6 jV (aa (sv 3) ae)) (hJ hr.units (sv 0) ag))) (ah (sset 4 aE.nd (aB dZ (aB cO (aB bj (aB bj (aB dZ (sv 3) ag) (aB cO (aB cO ag (sv 2)) (sv 2))) ag) ag) ag))
   (ah (sset 4 aE.nd (aB dZ (aB cO (sv 4) (sv 4)) ag))
   (au (dM (aB bj (aB dZ (aB bj (aB bj (aB cO (sv 4) ag) (sv 2)) ag) ag) (aB ig ag ag)) (hJ hr.units (sv 0) ag)))))))))))))
theorem ip (F:Fun K "_law_next" "_law_next" cB f fd) (B:Bs P w K mg) (d6:eL P w K mg base):FnOk P w K mg base CX0 2 f fd cE (spF K 2 aD):=
 (bt F c9 fun cdv A outer s H E hr=>by (conv=>arg 2;whnf);with_reducible exact (ah (bM (aT mn (six hr (sv 0) ag) (sv 1) (aJ _)) (au (eW (scl d6 hr (aa (sv 0) ae)))) br)
   (ah (sset 2 c9.nd (aB dZ (six hr (sv 0) ag) (sv 1)))
   (ah (dM (aB q5 (six hr (sv 0) ag) (sv 1)) (hJ hr.units (sv 0) ag))
   (au (aI (sv 2)))))))
theorem jJ (F:Fun K "_law_of" "_law_of" dO f fd) (B:Bs P w K mg) (d7:cM P w K mg base):FnOk P w K mg base CX0 3 f fd dY (spF K 2 bu):=
 (bt F jB fun cdv A outer s H E hr=>by (conv=>arg 2;whnf);with_reducible exact (au (aI (six hr (sv 1) (scl d7 hr (aa (sv 0) (aa (scb fT B.b5 fX (aa (sv 1) ae)) ae)))))))
theorem eS (F:Fun K "_law_weaving" "_law_weaving" bz f fd) (B:Bs P w K mg) (d7:cM P w K mg base) (d8:gW P w K mg base):FnOk P w K mg base CX0 4 f fd bC (spF K 1 ba):=
 jg (bt F aR fun cdv A outer s H E hr=>by (conv=>arg 2;whnf);with_reducible exact (ah (sset 1 aR.nd (SFL.ob (fu ae aQ)))
   (ah (g9 PassesOwn.never rfl (dN (by unfold Gl;kernel_rfl) B.b0 (aa (scl d7 hr (aa (sv 0) (aa ag ae))) ae) (hl:=(av aQ))) (sgn 2 aR.nd) (ah (sset 3 aR.nd (SFL.lv (fu (aa ag (aa ag (aa (scl d7 hr (aa (sv 0) (aa ag ae))) (aa ag (aa ag (aa (scl d7 hr (aa (sv 0) (aa (aB ig ag ag) ae))) (aa (aB bj (aB ig ag ag) (scl d7 hr (aa (sv 0) (aa ag ae)))) ae))))))) (av (av (av (av (av (av (av aQ))))))))))
   (au (eW (hV (isT:=dj) jt PySem.F.plainAttrs_list PySem.F.slot_list_append PySem.F.type_list_append ef (sv 1) (aa (fv (aa (scl d8 hr (aa (sv 0) (aa (sv 3) ae))) (aa (scl d8 hr (aa (sv 0) (aa (sv 3) ae))) ae)) (av (av aQ))) ae))))))
   (au (aI (sct jk B.b4 dB (aa (sv 1) ae)))))))
theorem fG (F:Fun K "show_number" "show_number" bK f fd) (B:Bs P w K mg):FnOk P w K mg base CX0 1 f fd bL (spF K 1 ar):=
 jg (bt F aM fun cdv A outer s H E hr=>by (conv=>arg 2;whnf);with_reducible exact (ah (sset 1 aM.nd (scb jR B.b6 jV (aa (sv 0) ae)))
   (ah (sset 2 aM.nd (SFL.ob (fu ae aQ)))
   (ah (lL (n:=100) PassesOwn.never (SW.st (iT (aT tT (sv 1) ag (aJ _)) (g8 (fo (cV (sv 2)))))) (ah (dM (scb k9 B.b7 lr (aa (sv 1) (aa ag ae))) (ft rfl (aL (sgn 1 aM.nd) (aL (sgn 3 aM.nd) c7))))
   (au (eW (hV (isT:=dj) jt PySem.F.plainAttrs_list PySem.F.slot_list_append PySem.F.type_list_append ef (sv 2) (aa (six hr (jA B.C_FIGURES (by unfold Gl;kernel_rfl)) (sv 3)) ae))))))
   (ah (bM (aT mn (sv 0) ag (aJ _)) (au (eW (hV (isT:=dj) jt PySem.F.plainAttrs_list PySem.F.slot_list_append PySem.F.type_list_append ef (sv 2) (aa aY ae)))) br)
   (au (aI (hV (isT:=isStr) ty_str PySem.F.plainAttrs_str PySem.F.slot_str_join PySem.F.type_str_join iw aY (aa (nN (sv 2) (sX pS ag)) ae)))))))))
theorem eQ (F:Fun K "show_weaving" "show_weaving" bw f fd) (B:Bs P w K mg) (d0:cU P w K mg base):FnOk P w K mg base CX0 2 f fd bA (spF K 1 aN):=
 (bt F eN fun cdv A outer s H E hr=>by (conv=>arg 2;whnf);with_reducible exact (au (aI (hV (isT:=isStr) ty_str PySem.F.plainAttrs_str PySem.F.slot_str_join PySem.F.type_str_join iw aY (aa (eY (N':=["hand","choice"]) (caps:=[none,none]) (cQ (by kernel_rfl)) rfl (jy (sv 0)) (fun _ _ _ _ _=>(ft rfl (aL (sgn 0 (by show (["hand","choice"]:List Str).Nodup;decide+kernel)) (aL (sgn 1 (by show (["hand","choice"]:List Str).Nodup;decide+kernel)) c7)))) (fun _ _ _ _ _=>eX) (fun _ _ _ _ _=>(nP (hG (lP (scl d0 hr (aa (sv 0) ae))) (hG aY (hG (lP (scl d0 hr (aa (sv 1) ae))) p7)))))) ae)))))
theorem de (F:Fun K "_law_same" "_law_same" cA f fd) (B:Bs P w K mg) (kf:PySem.W.keepIn K (.ref f)=true) (bf:Binds K fd bo []) (mf:mg "_law_same"=some (.ref f)):∀n,FnOk P w K mg base CX0 (1+n) f fd bo (spF K 2 (aw n))
 | 0=>oI
 | n+1=>by
  have d9:Df P w K mg base "_law_same" (1+n) bo 2 (aw n):=⟨f,fd,de F B kf bf mf  n,kf,bf,mf⟩;exact (bt F hY fun cdv A outer s H E hr=>by (conv=>arg 2;whnf);with_reducible exact (ah (bM (cV (scb cI B.b2 ax (aa (sv 1) (aa (sty B.b4 dB) ae)))) (ah (bM (SW.st (iT (fo (cV (scb cI B.b2 ax (aa (sv 0) (aa (sty B.b4 dB) ae))))) (g8 (aT (fE hr.units) (scb fT B.b5 fX (aa (sv 0) ae)) (scb fT B.b5 fX (aa (sv 1) ae)) (aJ _))))) (au (aI pv)) br)
   (au (aI (scb (sh rfl) B.b9 sj (aa (eY (N':=["_law_one","_law_other"]) (caps:=[none,none]) (cQ (by kernel_rfl)) rfl (p8 (by unfold Gl;kernel_rfl) B.b8 (aa (sv 0) (aa (sv 1) ae)) (av (av aQ))) (fun _ _ _ _ _=>(ft rfl (aL (sgn 0 (by show (["_law_one","_law_other"]:List Str).Nodup;decide+kernel)) (aL (sgn 1 (by show (["_law_one","_law_other"]:List Str).Nodup;decide+kernel)) c7)))) (fun _ _ _ _ _=>eX) (fun _ _ _ _ _=>(scl d9 hr (aa (sv 0) (aa (sv 1) ae)) (Nat.le_refl _)))) ae))))) br)
   (ah (bM (aT mr (sv 1) fw (aJ _)) (au (aI (fx mr (sv 0) fw (aJ _)))) br)
   (ah (bM (cV (scb cI B.b2 ax (aa (sv 1) (aa (sty B.b1 en) ae)))) (au (aI (hW (scb cI B.b2 ax (aa (sv 0) (aa (sty B.b1 en) ae))) (jz (fx (fF hr.units) (sv 0) (sv 1) (aJ _)))))) br)
   (au (aI (hW (scb cI B.b2 ax (aa (sv 0) (aa (sty B.b11 si) ae))) (hW (qc (scb cI B.b2 ax (aa (sv 0) (aa (sty B.b10 pe) ae)))) (jz (fx (fF hr.units) (sv 0) (sv 1) (aJ _)))))))))))
theorem gh (F:Fun K "read_count" "read_count" bW f fd) (B:Bs P w K mg):FnOk P w K mg base CX0 1 f fd cb (spF K 1 a9):=
 (bt F bh fun cdv A outer s H E hr=>by (conv=>arg 2;whnf);with_reducible exact (ah (bM (SW.st (iT (aT (fF hr.units) (sv 0) aY (aJ _)) (g8 (SW.st (lJ (aT (fF hr.units) (six hr (sv 0) ag) aY (aJ _)) (jZ (aT (fE hr.units) (sv 0) aY (aJ _)))))))) (au (aI fw)) br)
   (ah (sset 1 bh.nd ag)
   (ah (g9 PassesOwn.never rfl (p9 (sv 0)) (sgn 2 bh.nd) (ah (bM (aT (mm hr.units) (sv 2) (jA B.C_FIGURES (by unfold Gl;kernel_rfl)) (by kernel_rfl)) (au (aI fw)) br)
   (au (sset 1 bh.nd (aB bj (aB cO (sv 1) ag) (hV (isT:=isStr) ty_str PySem.F.plainAttrs_str PySem.F.slot_str_index PySem.F.type_str_index mE (jA B.C_FIGURES (by unfold Gl;kernel_rfl)) (aa (sv 2) ae)))))))
   (au (aI (sv 1)))))))
theorem il (F:Fun K "read_move" "read_move" cz f fd) (B:Bs P w K mg) (d1:dD P w K mg base):FnOk P w K mg base CX0 2 f fd cD (spF K 1 bq):=
 (bt F aZ fun cdv A outer s H E hr=>by (conv=>arg 2;whnf);with_reducible exact (ah (dM (hV (isT:=isStr) ty_str PySem.F.plainAttrs_str PySem.F.slot_str_partition PySem.F.type_str_partition iu (sv 0) (aa aY ae)) (ft rfl (aL (sgn 1 aZ.nd) (aL (sgn 2 aZ.nd) (aL (sgn 3 aZ.nd) c7)))))
   (ah (sset 4 aZ.nd (fv (aa (scl d1 hr (aa (sv 1) ae)) (aa (scl d1 hr (aa (sv 3) ae)) ae)) (av (av aQ))))
   (ah (bM (aT (tS hr.units) fw (sv 4) (by kernel_rfl)) (au iZ) br)
   (au (aI (sv 4)))))))
theorem eR (F:Fun K "read_weaving" "read_weaving" bx f fd) (B:Bs P w K mg) (d3:eI P w K mg base):FnOk P w K mg base CX0 3 f fd bB (spF K 1 aO):=
 (bt F eO fun cdv A outer s H E hr=>by (conv=>arg 2;whnf);with_reducible exact (ah (bM (fo (cV (scb cI B.b2 ax (aa (sv 0) (aa (sty B.b1 en) ae))))) (au iZ) br)
   (au (aI (td (aT (fE hr.units) (sv 0) aY (aJ _)) (sct jk B.b4 dB (aa (eY (N':=["word"]) (caps:=[none]) (cQ (by kernel_rfl)) rfl (jy (hV (isT:=isStr) ty_str PySem.F.plainAttrs_str PySem.F.slot_str_split PySem.F.type_str_split mD (sv 0) (aa aY ae))) (fun _ _ _ _ _=>(sgn 0 (by show (["word"]:List Str).Nodup;decide+kernel))) (fun _ _ _ _ _=>eX) (fun _ _ _ _ _=>(scl d3 hr (aa (sv 0) ae)))) ae)) (fv ae aQ))))))
theorem rn (F:Fun K "law" "law" eA f fd) (B:Bs P w K mg) (d5:dE P w K mg base) (d10:cL P w K mg base) (d2:cJ P w K mg base) (d9:eJ P w K mg base) (d4:cK P w K mg base):FnOk P w K mg base CX0 22 f fd pG (spF K 1 ku):=
 (bt F cX fun cdv A outer s H E hr=>by (conv=>arg 2;whnf);with_reducible exact (ah (sset 1 cX.nd (scl d5 hr (aa (sv 0) ae)))
   (ah (g9 PassesOwn.never rfl (dN (by unfold Gl;kernel_rfl) B.b0 (aa ag ae) (hl:=(av aQ))) (sgn 2 cX.nd) (ah (sset 3 cX.nd (scl d10 hr (aa (sv 1) ae)))
   (ah (sset 4 cX.nd (hV (isT:=isStr) ty_str PySem.F.plainAttrs_str PySem.F.slot_str_join PySem.F.type_str_join iw aY (aa (eY (N':=["_law_hand","_law_choice"]) (caps:=[none,none]) (cQ (by kernel_rfl)) rfl (jy (sv 3)) (fun _ _ _ _ _=>(ft rfl (aL (sgn 0 (by show (["_law_hand","_law_choice"]:List Str).Nodup;decide+kernel)) (aL (sgn 1 (by show (["_law_hand","_law_choice"]:List Str).Nodup;decide+kernel)) c7)))) (fun _ _ _ _ _=>eX) (fun _ _ _ _ _=>(aB bj (aB bj (sct kj B.b1 en (aa (sv 0) ae)) aY) (sct kj B.b1 en (aa (sv 1) ae))))) ae)))
   (au (g9 PassesOwn.never rfl (dN (by unfold Gl;kernel_rfl) B.b0 (aa ag ae) (hl:=(av aQ))) (sgn 5 cX.nd) (ah (sset 6 cX.nd (scl d2 hr (aa (sv 3) ae)))
   (au (bM (SW.st (iT (fo (cV (scb cI B.b2 ax (aa (sv 6) (aa (sty B.b1 en) ae))))) (iT (aT (fE hr.units) (sv 6) (sv 4) (aJ _)) (g8 (fo (cV (scl d9 hr (aa (scl d4 hr (aa (sv 4) ae)) (aa (sv 3) ae))))))))) (au (aI pv)) br))))))))
   (au (aI (hW (fx (fF hr.units) (scl d2 hr (aa (fv ae aQ) ae)) aY (aJ _)) (jz (fx (q4 hr.units) (scl d4 hr (aa aY ae)) (fv ae aQ) (aJ _)))))))))
end
theorem cu:Hd.freeOk view ([]:List Str) ["abs","all","bool","divmod","int","isinstance","len","list","range","str","tuple","zip"]=true:=by decide+kernel
abbrev Rc (x:Str) (s:Stmt):Prop:=(recsOf view).find? (fun e=>e.name==x)=some (Hd.gC x s)
theorem fB:Rc "_law_drawn" bX:=by kernel_rfl
theorem gg:Rc "_law_load" cC:=by kernel_rfl
theorem gf:Rc "_law_next" cB:=by kernel_rfl
theorem i4:Rc "_law_of" dO:=by kernel_rfl
theorem dX:Rc "_law_weaving" bz:=by kernel_rfl
theorem eP:Rc "show_number" bK:=by kernel_rfl
theorem dU:Rc "show_weaving" bw:=by kernel_rfl
theorem gd:Rc "_law_same" cA:=by kernel_rfl
theorem fA:Rc "read_count" bW:=by kernel_rfl
theorem gc:Rc "read_move" cz:=by kernel_rfl
theorem dW:Rc "read_weaving" bx:=by kernel_rfl
theorem nV:Rc "law" eA:=by kernel_rfl
theorem all_mk {l:PySem.W.OpenLaw} {w:World} {h:Heap} {mg mb:Str->Option Value} {mean:ExcName->Option Value} (T:Top view (PySem.W.looseW view ([]:List Str)) mean mg mb h)
  (hF:∀ns:List Int,ns.length≤63->∃h',ku [.ro (ns.map D.int)] []=some (.bl true,h')):
  ∃(fa:Addr) (fd:FuncData),mg "law"=some (.ref fa)∧(∀(s:Shared) (v:Value),BindsTo s fd ⟨[v],[]⟩ [("_law_script",v)])∧∀base:Heap,(Hd.aP h).In base->base.Ns mainGlobals mg->FnOk l.prog w (Hd.aP h) mg base CX0 22 fa fd ["_law_script"] (spT (Hd.aP h)):=by
 have B:Bs l.prog w (Hd.aP h) mg:=⟨Hd.aS T cu (List.mem_of_getElem? (i:=0) rfl),Hd.aS T cu (List.mem_of_getElem? (i:=1) rfl),Hd.aS T cu (List.mem_of_getElem? (i:=2) rfl),Hd.aS T cu (List.mem_of_getElem? (i:=3) rfl),Hd.aS T cu (List.mem_of_getElem? (i:=4) rfl),Hd.aS T cu (List.mem_of_getElem? (i:=5) rfl),Hd.aS T cu (List.mem_of_getElem? (i:=6) rfl),Hd.aS T cu (List.mem_of_getElem? (i:=7) rfl),Hd.aS T cu (List.mem_of_getElem? (i:=8) rfl),Hd.aS T cu (List.mem_of_getElem? (i:=9) rfl),Hd.aS T cu (List.mem_of_getElem? (i:=10) rfl),Hd.aS T cu (List.mem_of_getElem? (i:=11) rfl),Hd.oZ T (by kernel_rfl) (by decide+kernel)⟩;obtain ⟨f12,fd12,m12,F12⟩:=Hd.pK T nV;refine ⟨f12,fd12,m12,F12.one fun _ _ _ _ _ _ _=>rfl,fun base _ _=>?_⟩;have d5:dE l.prog w (Hd.aP h) mg base:=Hd.cG T fB (fun F=>F.binds fun _ _ _ _ _ _=>Hd.u1 (fun _=>rfl)) fun F _ _ _=>gi F B;have d6:eL l.prog w (Hd.aP h) mg base:=Hd.cG T gg (fun F=>F.binds fun _ _ _ _ _ _=>Hd.u1 (fun _=>rfl)) fun F _ _ _=>iq F B;have d7:cM l.prog w (Hd.aP h) mg base:=Hd.cG T gf (fun F=>F.binds fun _ _ _ _ _ _=>Hd.u2 (fun _ _=>rfl)) fun F _ _ _=>ip F B d6;have d8:gW l.prog w (Hd.aP h) mg base:=Hd.cG T i4 (fun F=>F.binds fun _ _ _ _ _ _=>Hd.u2 (fun _ _=>rfl)) fun F _ _ _=>jJ F B d7;have d10:cL l.prog w (Hd.aP h) mg base:=Hd.cG T dX (fun F=>F.binds fun _ _ _ _ _ _=>Hd.u1 (fun _=>rfl)) fun F _ _ _=>eS F B d7 d8;have d0:cU l.prog w (Hd.aP h) mg base:=Hd.cG T eP (fun F=>F.binds fun _ _ _ _ _ _=>Hd.u1 (fun _=>rfl)) fun F _ _ _=>fG F B;have d2:cJ l.prog w (Hd.aP h) mg base:=Hd.cG T dU (fun F=>F.binds fun _ _ _ _ _ _=>Hd.u1 (fun _=>rfl)) fun F _ _ _=>eQ F B d0;have d9:eJ l.prog w (Hd.aP h) mg base:=Hd.cG T gd (fun F=>F.binds fun _ _ _ _ _ _=>Hd.u2 (fun _ _=>rfl)) fun F k b m=>de F B k b m  20;have d1:dD l.prog w (Hd.aP h) mg base:=Hd.cG T fA (fun F=>F.binds fun _ _ _ _ _ _=>Hd.u1 (fun _=>rfl)) fun F _ _ _=>gh F B;have d3:eI l.prog w (Hd.aP h) mg base:=Hd.cG T gc (fun F=>F.binds fun _ _ _ _ _ _=>Hd.u1 (fun _=>rfl)) fun F _ _ _=>il F B d1;have d4:cK l.prog w (Hd.aP h) mg base:=Hd.cG T dW (fun F=>F.binds fun _ _ _ _ _ _=>Hd.u1 (fun _=>rfl)) fun F _ _ _=>eR F B d3;exact oM (rn F12 B d5 d10 d2 d9 d4) hF
end Mi
local macro_rules | `(tactic| walk_at "o") => `(tactic| with_reducible first
 | refine Sm.pC ?_ | refine Sm.um ?_ | refine Sm.tq ?_ | refine Sm.tF ?_ | refine Sm.qx ?_ | refine Sm.pD ?_ | refine Sm.pB ?_ | refine Sm.qq ?_ | refine Sm.tw ?_ | refine Sm.qr ?_ | refine Sm.nX ?_
 | refine Sm.uF ?_ | refine Sm.uC ?_ | refine Sm.r_k ?_ | refine Sm.tE ?_ | refine Sm.ie ?_ | refine Sm.j5 ?_ | refine Sm.uH ?_ | refine Sm.nY ?_ | refine Sm.uG ?_ | refine Sm.uK ?_ | refine Sm.uL ?_
 | refine Sm.qB ?_ | refine Sm.qm ?_ | refine Sm.qo ?_ | refine Sm.qp ?_ | refine Sm.pA ?_ | refine Sm.tG ?_ | refine Sm.uE ?_ | refine Sm.tx ?_
 | refine Sm.uD ?_ | refine Sm.tu ?_ | refine Sm.tv ?_ | refine Sm.uJ ?_ | refine Sm.qw ?_ | refine Sm.lX ?_ | refine Sm.nZ ?_ | refine Sm.tD ?_ | refine Sm.qA ?_
 | refine Sm.uW ?_ | refine Sm.uX ?_ | refine Sm.uk ?_ | refine Sm.uq ?_ | refine Sm.uo ?_ | refine Sm.u6 ?_ | refine Sm.u7 ?_ | refine Sm.u9 ?_ | refine Sm.u5 ?_)
local macro_rules | `(tactic| walk_at "g") => `(tactic| (repeat (first | walk_at "o" | with_reducible refine Sm.lW ?_ | with_reducible refine Sm.pF ?_)); (try dsimp only))
local macro_rules | `(tactic| walk_at "r") => `(tactic| (repeat (first | walk_at "o" | with_reducible refine Sm.lW ?_ | with_reducible refine Sm.pF ?_ | with_reducible refine Sm.sA ?_ | with_reducible refine Sm.sC ?_ | with_reducible refine Sm.w_add ?_ | with_reducible refine Sm.w_sub ?_ | with_reducible refine Sm.w_lt ?_ | with_reducible refine Sm.uf ?_ | with_reducible refine Sm.ug ?_ | with_reducible refine Sm.uh ?_ | with_reducible refine Sm.sJ ?_ | with_reducible refine Sm.sE ?_ | with_reducible refine Sm.sI ?_ | with_reducible refine Sm.sD ?_ | with_reducible refine Sm.sH ?_ | with_reducible refine Sm.sG ?_ | with_reducible refine Sm.sF ?_ | with_reducible refine Sm.pO ?_ | with_reducible refine Sm.pP ?_ | with_reducible refine Sm.qy ?_)); (try dsimp only))
namespace Mi
open PySem Sm
theorem dQ {a b:Int} {h:MH} {Q:D×MH->Prop} (hb:0 < b) (q:Q (.int (a % b),h)):Rn (gj (.int a) (.int b) h) Q:=⟨_,by unfold gj;dsimp only;rw [if_pos hb],q⟩
theorem qh {a b:Int} {h:MH} {Q:D×MH->Prop} (hb:0 < b) (hb2:b≤10^40) (q:Q (.int (a / b),h)):Rn (mQ (.int a) (.int b) h) Q:=⟨_,by unfold mQ;dsimp only;rw [if_pos ⟨hb,hb2⟩],q⟩
theorem dP {a b:Int} {h:MH} {Q:D×MH->Prop} (hb:df a b=true) (q:Q (.int (a*b),h)):Rn (dr (.int a) (.int b) h) Q:=⟨_,by show (if df a b then _ else _)=_;rw [if_pos hb],q⟩
theorem mul_r {a b:Int} (h1:-(2^64) < b) (h2:b < 2^64):df a b=true:=by unfold df;simp only [Bool.or_eq_true,Bool.and_eq_true,decide_eq_true_eq];exact .inr ⟨h1,h2⟩
theorem pI {a b:Int} (h1:-(2^64) < a) (h2:a < 2^64):df a b=true:=by unfold df;simp only [Bool.or_eq_true,Bool.and_eq_true,decide_eq_true_eq];exact .inl ⟨h1,h2⟩
theorem kR {h:MH} {s c:Nat} {cs:List Int} {n t:Int} (hs:h[s]?=some (.lst [.int n,.ob c,.int t])) (hc:h[c]?=some (.lst (cs.map D.int))) (ne:c≠s) (t0:0≤t) (tB:t < 2^60):
  Rn (bJ [.ob s] h) fun p=>∃n',0≤n'∧p=(.non,h.set s (.lst [.int n',.ob c,.int (t+1)])):=by
 have hl:s < h.length:=(List.getElem?_eq_some_iff.mp hs).1;generalize hH:h.set s (.lst [.int n,.ob c,.int (t+1)])=H;have Hs:H[s]?=some (.lst [.int n,.ob c,.int (t+1)]):=by rw [←hH];exact List.getElem?_set_self hl
 have Hc:H[c]?=some (.lst (cs.map D.int)):=by rw [←hH,List.getElem?_set_ne (Ne.symm ne)];exact hc
 have set0:∀v:Int,jh (.ob s) (.int 0) (.int v) H=some (h.set s (.lst [.int v,.ob c,.int (t+1)])):=fun v=>by
  rw [iB (p:=0) Hs rfl,←hH,List.set_set];rfl
 have e3:jh (.ob s) (.int 2) (.int (t+1)) h=some H:=by rw [iB (p:=2) hs rfl,←hH];rfl
 have e4:du [.ob c] H=some (.int cs.length,H):=by rw [oV Hc,List.length_map]
 refine cq ?_;walk_at "g";refine rv (eh hs rfl) ?_;walk_at "g";refine rv (eh hs rfl) ?_;walk_at "g";refine rv rfl ?_;walk_at "g";refine rv e3 ?_;walk_at "g";refine rv (k4 Hc) ⟨_,rfl,fun hne=>?pos,fun hne=>?neg⟩
 case' pos=>
  have hpos:0 < cs.length:=by cases cs with | nil=>simp at hne | cons _ _=>simp
  walk_at "g";refine rv e4 (dQ (by lia) ?_);obtain ⟨z,hz⟩:=nu cs (t % (cs.length:Int)) (Int.emod_nonneg _ (by lia)) (Int.emod_lt_of_pos _ (by lia));refine rv (eh Hc hz) ?_
 all_goals
  walk_at "g";refine rv e4 (rv rfl ⟨_,rfl,?_⟩);refine (fun mix=>⟨fun c1=>?thenA,fun _=>⟨fun z=>(nomatch z),fun _=>mix⟩⟩) ?thenB
  case thenA=>
   walk_at "g";refine rv rfl ?_;walk_at "g";refine rv rfl (rv rfl ⟨_,rfl,fun c2=>?_,fun _=>mix⟩);walk_at "g";refine rv rfl ?_;walk_at "g";refine rv (set0 _) ?_;walk_at "g";exact ⟨_,by split <;> lia,rfl⟩
  case thenB=>
   walk_at "g";refine dQ (by decide) ?_;walk_at "g";refine dP (pI (by decide) (by decide)) ?_;walk_at "g";refine dP (mul_r (by lia) (by lia)) (rv rfl ?_);walk_at "g";refine rv rfl ?_;walk_at "g";refine dP (mul_r (by decide) (by decide)) ?_;walk_at "g";refine dQ (by decide) ?_;walk_at "g";refine dP (pI (Int.lt_of_lt_of_le (by decide) (Int.emod_nonneg _ (by decide))) (Int.lt_trans (Int.emod_lt_of_pos _ (by decide)) (by decide))) ?_;walk_at "g";refine dQ (by decide) ?_;walk_at "g";refine dP (mul_r (by decide) (by decide)) ?_;walk_at "g";refine rv rfl ?_;walk_at "g";refine rv rfl ?_;walk_at "g";refine dQ (by decide) ?_;walk_at "g";refine rv rfl (rv rfl ?_);walk_at "g";refine rv (set0 _) ?_;walk_at "g";exact ⟨_,Int.add_nonneg (Int.emod_nonneg _ (by decide)) (by decide),rfl⟩
structure St (s c:Nat) (cs:List Int) (R:Nat) (h:MH):Prop where
 st:∃n t:Int,h[s]?=some (.lst [.int n,.ob c,.int t])∧0≤n∧0≤t∧t+R≤2^60
 ce:h[c]?=some (.lst (cs.map D.int))
 ne:c≠s
def But (s:Nat) (h h':MH):Prop:=h'.length=h.length∧∀k,k≠s->h'[k]?=h[k]?
theorem But.refl (s:Nat) (h:MH):But s h h:=⟨rfl,fun _ _=>rfl⟩
theorem But.trans {s:Nat} {h h1 h2:MH} (a:But s h h1) (b:But s h1 h2):But s h h2:=⟨b.1.trans a.1,fun k n=>(b.2 k n).trans (a.2 k n)⟩
theorem But.set {s:Nat} {h:MH} {o:MO}:But s h (h.set s o):=⟨List.length_set,fun k n=>List.getElem?_set_ne (Ne.symm n)⟩
section
variable {s c R:Nat} {cs:List Int} {h:MH}
theorem St.le {R':Nat} (S:St s c cs R h) (hB:R'≤R):St s c cs R' h:=by
 obtain ⟨n,t,e,a,b,d⟩:=S.st;exact ⟨⟨n,t,e,a,b,by lia⟩,S.ce,S.ne⟩
theorem St.dn (k:Nat) (S:St s c cs (R+k) h):St s c cs R h:=S.le (Nat.le_add_right _ _)
theorem St.set {R':Nat} {n t:Int} (S:St s c cs R h) (h1:0≤n) (h2:0≤t) (h3:t+R'≤2^60):St s c cs R' (h.set s (.lst [.int n,.ob c,.int t])):=by
 obtain ⟨n0,t0,e,_⟩:=S.st;exact ⟨⟨n,t,List.getElem?_set_self (List.getElem?_eq_some_iff.mp e).1,h1,h2,h3⟩,by rw [List.getElem?_set_ne (Ne.symm S.ne)];exact S.ce,S.ne⟩
theorem St.more (S:St s c cs R h) (g:MH):St s c cs R (h++g):=by
 obtain ⟨n,t,e,r⟩:=S.st;exact ⟨⟨n,t,by rw [List.getElem?_append_left (List.getElem?_eq_some_iff.mp e).1];exact e,r⟩,by rw [List.getElem?_append_left (List.getElem?_eq_some_iff.mp S.ce).1];exact S.ce,S.ne⟩
theorem St.lt (S:St s c cs R h):s < h.length∧c < h.length:=by
 obtain ⟨n,t,e,r⟩:=S.st;exact ⟨(List.getElem?_eq_some_iff.mp e).1,(List.getElem?_eq_some_iff.mp S.ce).1⟩
structure Sb (s c:Nat) (cs:List Int) (h0:MH) (R:Nat) (h:MH):Prop where
 S:St s c cs R h
 b:But s h0 h
theorem St.sb (S:St s c cs R h):Sb s c cs h R h:=⟨S,But.refl _ _⟩
theorem Sb.at_ {h0:MH} {k:Nat} {o:MO} (A:Sb s c cs h0 R h) (e:h0[k]?=some o) (n:k≠s):h[k]?=some o:=(A.b.2 k n).trans e
variable {h0:MH}
theorem fW {m:Int} {Q:D×MH->Prop} (A:Sb s c cs h0 (R+1) h) (m0:0 < m) (m1:m≤10^40) (k:∀(r:Int) (h1:MH),0≤r->r < m->Sb s c cs h0 R h1->Q (.int r,h1)):Rn (aD [.ob s,.int m] h) Q:=by
 have S:=A.S;obtain ⟨n,t,hs,n0,t0,tB⟩:=S.st;refine cq ?_;walk_at "g";refine rv (eh hs rfl) ?_;walk_at "g";refine rv rfl ⟨_,rfl,fun _=>?pos,fun _=>?neg⟩
 case' pos=>
  walk_at "g";obtain ⟨p,ep,n',n0',rfl⟩:=kR hs S.ce S.ne t0 (by lia);refine rv ep ?_;have S1:St s c cs R (h.set s (.lst [.int n',.ob c,.int (t+1)])):=S.set n0' (by lia) (by lia);have b1:But s h (h.set s (.lst [.int n',.ob c,.int (t+1)])):=But.set
 case' neg=>
  have S1:St s c cs R h:=S.dn 1;have b1:But s h h:=But.refl s h
 all_goals
  generalize h.set s (MO.lst [D.int _,D.ob c,D.int (t+1)])=h1 at*;obtain ⟨n2,t2,hs2,n02,t02,tB2⟩:=S1.st;walk_at "g";refine rv (eh hs2 rfl) ?_;walk_at "g";refine dQ m0 ?_;walk_at "g";refine rv (eh hs2 rfl) ?_;walk_at "g";refine qh m0 m1 ?_;walk_at "g";refine rv (iB (p:=0) hs2 rfl) ?_;walk_at "g";exact k _ _ (Int.emod_nonneg _ (by lia)) (Int.emod_lt_of_pos _ m0) ⟨S1.set (Int.ediv_nonneg n02 (by lia)) t02 tB2,A.b.trans (b1.trans But.set)⟩
theorem vj {d:D} {xs:List D} {Q:D×MH->Prop} (A:Sb s c cs h0 (R+1) h) (hd:d=.lv xs∨d=.tup xs) (l0:0 < xs.length) (l1:xs.length≤1000000) (k:∀(x:D) (h1:MH),x∈xs->Sb s c cs h0 R h1->Q (x,h1)):Rn (bu [.ob s,d] h) Q:=by
 refine cq ?_;walk_at "g";have e1:du [d] h=some (.int xs.length,h):=by rcases hd with rfl | rfl <;> rfl
 refine rv e1 ?_;walk_at "g";refine fW A (by lia) (by lia) fun r h' r0 r1 A1=>?_;obtain ⟨v,e3,hv⟩:=sm r0 r1;have e4:fIx d (.int r) h'=some (v,h'):=by rcases hd with rfl | rfl <;> simp only [fIx,cH,aU,Option.bind_some,e3,Option.map_some]
 refine rv e4 ?_;walk_at "g";exact k v h' hv A1
theorem pM {is:List Int} {Q:D×MH->Prop} (P:Int->Prop) (hP:∀i∈is,P i) (A:Sb s c cs h0 (R+1) h) (k:∀(i:Int) (h1:MH),P i->i∈is->Sb s c cs h0 R h1->Q (.int i,h1)) (l0:0 < is.length:=by simp) (l1:is.length≤1000:=by simp):Rn (bu [.ob s,.lv (is.map D.int)] h) Q:=
 vj A (.inl rfl) (by rw [List.length_map];exact l0) (by rw [List.length_map];lia) fun x h1 hx A1=>by
  obtain ⟨i,hi,rfl⟩:=List.mem_map.mp hx;exact k i h1 (hP i hi) hi A1
end
theorem jP (ns:List Int) (hn:ns.length≤63) (R:Nat) (hR:R≤2^60):∃cs:List Int,bb [.ro (ns.map D.int)] []=some (.ob 1,[.lst (cs.map D.int),.lst [.int 0,.ob 0,.int 0]])∧St 1 0 cs R [.lst (cs.map D.int),.lst [.int 0,.ob 0,.int 0]]:=by
 refine ⟨(ns.drop (HT.sIx ns.length 0 none)).take (HT.sIx ns.length ns.length (some 63)-HT.sIx ns.length 0 none),?_,⟨⟨0,0,rfl,by decide,by decide,by lia⟩,rfl,by decide⟩⟩;have e:Rn (bb [.ro (ns.map D.int)] []) fun p=>p=(.ob 1,[.lst (((ns.drop (HT.sIx ns.length 0 none)).take (HT.sIx ns.length ns.length (some 63)-HT.sIx ns.length 0 none)).map D.int),.lst [.int 0,.ob 0,.int 0]]):=by
  refine cq ?_;walk_at "g";refine qt ?_;walk_at "g";refine ⟨_,rfl,rv rfl ?_⟩;walk_at "g";refine ⟨_,_,_,rfl,rfl,?_⟩;walk_at "g";simp only [cutD,List.length_map,List.map_drop,List.map_take,List.length_nil,List.nil_append,List.cons_append,List.length_cons]
 obtain ⟨p,ep,rfl⟩:=e;exact ep
end Mi
namespace Mi
open PySem Sm L2
theorem pE {len:Nat} {b:SM} {ds:List D} {h:MH} {Q:D×MH->Prop} (r:Rn (b (entry len ds) h) (nS fun p=>Rn (leave h p.1 p.2) Q)):Rn (mkL len b ds h) Q:=by
 obtain ⟨p,e,q⟩:=cq r;obtain ⟨z,e2,k⟩:=q;refine ⟨z,?_,k⟩;have e:((b (entry len ds) h).bind nT)=some p:=e;show ((b (entry len ds) h).bind nT).bind _=_;rw [e];exact e2
theorem kS {H g:MH} {d:D} (h1:∀n,d≠.ob n) (h2:clD H.length d=true):leave H d (H++g)=some (d,H):=by
 have h3:kF H.length (H++g) d=d:=by
  cases d with
  | ob n=>exact absurd rfl (h1 n)
  | _=>rfl
 unfold leave;rw [h3,List.take_append_of_le_length (Nat.le_refl _),List.take_length,h2,gR];rfl
theorem jG {isT:D->MH->Bool} {f:MFn} {o:EM} {m:AM} {δ:DS} {h:MH} {Q:D×MH->Prop} (r:Rn (o δ h) fun p=>isT p.1 p.2=true∧Rn (m δ p.2) fun q=>Rn (f p.1 q.1 q.2) Q):Rn (eM isT f o m δ h) Q:=
 aq (r.imp fun p ⟨e,r⟩=>by rw [if_pos e];exact aq r)
theorem je {h:MH} {n:Nat} {xs:List D} (e:h[n]?=some (.lst xs)):dj (.ob n) h=true:=by unfold dj ix;dsimp only;rw [e];rfl
theorem fK {h:MH} {n:Nat} {xs:List D} {y:D} (e:h[n]?=some (.lst xs)) (hl:xs.length < sizeLine):cj (.ob n) [y] h=some (.non,h.set n (.lst (xs++[y]))):=by unfold cj;dsimp only;rw [e];dsimp only;rw [if_pos hl]
theorem sW (H:MH) (a b:MO):(H++[a]).set H.length b=H++[b]:=by simp
theorem getL (H:MH) (a:MO):(H++[a])[H.length]?=some a:=by simp
theorem j3 {h:MH} {n:Nat} {xs:List D} (e:h[n]?=some (.lst xs)):aU (.ob n) h=some (xs,[(n,.lst xs)]):=by unfold aU;dsimp only;rw [e]
theorem ic {c:TM} {b:SM} {Q:SQ} (I:Nat->DS->MH->Prop) (step:∀k δ h,I k δ h->Rn (c δ h) fun p=>(p.1=true->Rn (b δ p.2) (gG (fun δ h=>∃k',k' < k∧I k' δ h) Q))∧(p.1=false->Q (.nx,δ,p.2))):
  ∀(n k:Nat) (δ:DS) (h:MH),k < n->I k δ h->Rn (bU c b n δ h) Q
 | 0,k,δ,h,hk,_=>absurd hk (by lia)
 | n+1,k,δ,h,hk,hI=>by
  obtain ⟨p,e1,q1,q2⟩:=step k δ h hI;unfold bU;rw [e1];walk_at "ai"
  by_cases z:p.1=true
  ·rw [if_pos z];obtain ⟨⟨f,δ',h'⟩,e2,q⟩:=q1 z;rw [e2];walk_at "ai";cases f with
   | nx=>obtain ⟨k',hk',hI'⟩:=q;exact ic I step n k' δ' h' (by lia) hI'
   | ct=>obtain ⟨k',hk',hI'⟩:=q;exact ic I step n k' δ' h' (by lia) hI'
   | bk=>exact ⟨_,rfl,q⟩
   | rt d=>exact ⟨_,rfl,q⟩
  ·rw [if_neg z];exact ⟨_,rfl,q2 (by simpa using z)⟩
end Mi
namespace Sm
open PySem L2 Builtin.Str StrLaws
noncomputable def mkS (l:List Nat):Str:=⟨l.toArray⟩
theorem cf (l:List Nat):(mkS l).cps.toList=l:=by simp [mkS]
theorem dh (a b:List Nat):mkS a++mkS b=mkS (a++b):=by
 show (⟨a.toArray++b.toArray⟩:Str)=⟨(a++b).toArray⟩;simp
theorem fb (l:List Nat):(mkS l).length=l.length:=by
 show l.toArray.size=_;simp
theorem j7 (x:Str):mkS x.cps.toList=x:=by cases x;simp [mkS]
noncomputable def ay (n:Nat):List Nat:=if n < 10 then [n] else n % 10::ay (n / 10)
termination_by n
decreasing_by exact Nat.div_lt_self (by lia) (by decide)
theorem aF {n:Nat} (h:n < 10):ay n=[n]:=by rw [ay,if_pos h]
theorem bp {n:Nat} (h:¬n < 10):ay n=n % 10::ay (n / 10):=by rw [ay,if_neg h]
theorem bQ {P:Nat->Prop} (h1:∀n,n < 10->P n) (h2:∀n,¬n < 10->P (n / 10)->P n) (n:Nat):P n:=by
 induction n using Nat.strongRecOn with
 | _ n ih=>
  by_cases h:n < 10
  ·exact h1 n h
  ·exact h2 n h (ih _ (Nat.div_lt_self (by lia) (by decide)))
theorem iE (n:Nat):∀d∈ay n,d < 10:=by
 refine bQ (P:=fun n=>∀d∈ay n,d < 10) (fun n h d hd=>?_) (fun n h ih d hd=>?_) n
 ·rw [aF h] at hd;rw [List.mem_singleton.mp hd];exact h
 ·rw [bp h] at hd;rcases List.mem_cons.mp hd with rfl | hd
  ·exact Nat.mod_lt _ (by decide)
  ·exact ih d hd
theorem iD (n:Nat):ay n≠[]:=by
 by_cases h:n < 10
 ·rw [aF h];simp
 ·rw [bp h];simp
noncomputable def jr:List Nat->Nat
 | []=>0
 | d::r=>d+10*jr r
theorem kA (n:Nat):jr (ay n)=n:=by
 refine bQ (P:=fun n=>jr (ay n)=n) (fun n h=>?_) (fun n h ih=>?_) n
 ·rw [aF h];simp [jr]
 ·rw [bp h];show n % 10+10*jr _=n;rw [ih];lia
theorem mZ {n:Nat}:∀{k:Nat},n < 10^(k+1)->(ay n).length≤k+1:=by
 refine bQ (P:=fun n=>∀{k:Nat},n < 10^(k+1)->(ay n).length≤k+1) (fun n h k _=>?_) (fun n h ih k hk=>?_) n
 ·rw [aF h];simp
 ·rw [bp h,List.length_cons];cases k with
  | zero=>exact absurd hk (by simpa using h)
  | succ k=>
   have:=ih (k:=k) (by rw [Nat.div_lt_iff_lt_mul (by decide)];rw [Nat.pow_succ] at hk;exact hk)
   lia
theorem k6 (n:Nat) (h:n≠0):(ay n).getLast?≠some 0:=by
 refine bQ (P:=fun n=>n≠0->(ay n).getLast?≠some 0) (fun n h h0=>?_) (fun n h ih h0=>?_) n h
 ·rw [aF h];simpa using h0
 ·rw [bp h,List.getLast?_cons_of_ne_nil (iD _)];exact ih (by lia)
noncomputable def txt (n:Nat):Str:=mkS ((ay n).reverse.map (48+·))
theorem nB (n:Nat):Str.ofString (toString (n:Int))=txt n:=by
 rw [Str.ofString_eq_toList,show toString (n:Int)=toString n from rfl,Nat.toString_eq_ofList_toDigits,String.toList_ofList];unfold txt mkS;congr 2;refine bQ (P:=fun n=>(Nat.toDigits 10 n).map Char.toNat=(ay n).reverse.map (48+·)) (fun n h=>?_) (fun n h ih=>?_) n
 ·rw [Nat.toDigits_of_lt_base h,aF h];revert h;revert n;decide
 ·rw [Nat.toDigits_of_base_le (by decide) (by lia),bp h,List.map_append,ih,List.reverse_cons,List.map_append];have:n % 10 < 10:=Nat.mod_lt _ (by decide);congr 1;generalize n % 10=k at this;revert this;revert k;decide
theorem g0 (n:Nat):∀c∈(txt n).cps.toList,48≤c∧c≤57:=by
 intro c hc;unfold txt at hc;rw [cf] at hc;obtain ⟨d,hd,rfl⟩:=List.mem_map.mp hc;have:=iE n d (List.mem_reverse.mp hd)
 lia
theorem lE {n c:Nat} (h:c < 48∨57 < c):c∉(txt n).cps.toList:=fun hc=>by have:=g0 n c hc;lia
theorem gZ (n:Nat):PyData.strOk (txt n)=true:=by
 unfold PyData.strOk;rw [Array.all_eq_true'];intro c hc;have:=g0 n c (Array.mem_toList_iff.mpr hc);exact decide_eq_true (by lia)
theorem bH (n:Nat):(txt n).length=(ay n).length:=by unfold txt;rw [fb];simp
theorem aH (c:Nat):∀(x:Str) (r:List Str),(Str.join ⟨#[c]⟩ (x::r)).cps.toList=x.cps.toList++(r.map fun y=>c::y.cps.toList).flatten
 | x,[]=>by show x.cps.toList=_;simp
 | x,y::r=>by
  show (x.cps++#[c]++(Str.join ⟨#[c]⟩ (y::r)).cps).toList=_;rw [Array.toList_append,Array.toList_append,aH c y r];simp
theorem fR {c:Nat}:∀{a b s t:List Nat},c∉a->c∉b->a++c::s=b++c::t->a=b∧s=t
 | [],[],s,t,_,_,e=>⟨rfl,by simpa using e⟩
 | [],y::b,s,t,_,hb,e=>by simp at e;exact absurd (e.1 ▸ List.mem_cons_self) hb
 | x::a,[],s,t,ha,_,e=>by simp at e;exact absurd (e.1 ▸ List.mem_cons_self) ha
 | x::a,y::b,s,t,ha,hb,e=>by
  simp at e;obtain ⟨e1,e2⟩:=fR (fun h=>ha (List.mem_cons_of_mem _ h)) (fun h=>hb (List.mem_cons_of_mem _ h)) e.2;exact ⟨by rw [e.1,e1],e2⟩
theorem ff {x y:Str} (e:x.cps.toList=y.cps.toList):x=y:=by rw [←j7 x,e,j7]
theorem eD {c:Nat}:∀(r r':List Str) (x y:Str),(∀z∈x::r,c∉z.cps.toList)->(∀z∈y::r',c∉z.cps.toList)->(Str.join ⟨#[c]⟩ (x::r)).cps.toList=(Str.join ⟨#[c]⟩ (y::r')).cps.toList->x::r=y::r'
 | [],[],x,y,_,_,e=>by
  rw [aH,aH] at e;rw [ff (x:=x) (y:=y) (by simpa using e)]
 | [],z::r',x,y,hx,hy,e=>by
  rw [aH,aH] at e;exact absurd (by simp at e;rw [e];simp) (hx x List.mem_cons_self)
 | z::r,[],x,y,hx,hy,e=>by
  rw [aH,aH] at e;exact absurd (by simp at e;rw [←e];simp) (hy y List.mem_cons_self)
 | z::r,w::r',x,y,hx,hy,e=>by
  have e0:=e;rw [aH,aH] at e;simp only [List.map_cons,List.flatten_cons,List.cons_append] at e;obtain ⟨e1,e2⟩:=fR (hx x List.mem_cons_self) (hy y List.mem_cons_self) e;have e3:=eD r r' z w (fun q hq=>hx q (List.mem_cons_of_mem _ hq)) (fun q hq=>hy q (List.mem_cons_of_mem _ hq)) (by rw [aH,aH];exact e2);rw [ff e1,e3]
theorem jx {c:Nat} {ws:List Str} (h0:ws≠[]) (h:∀z∈ws,c∉z.cps.toList):Txt.split (Str.join ⟨#[c]⟩ ws) ⟨#[c]⟩=ws:=by
 cases ws with
 | nil=>exact absurd rfl h0
 | cons x r=>
  have e:=join_split (Str.join ⟨#[c]⟩ (x::r)) ⟨#[c]⟩;have f:=split_free (Str.join ⟨#[c]⟩ (x::r)) c;have p:=PyProof.Rows.split_pos (Str.join ⟨#[c]⟩ (x::r)) ⟨#[c]⟩;generalize Txt.split (Str.join ⟨#[c]⟩ (x::r)) ⟨#[c]⟩=ps at e f p;cases ps with
  | nil=>simp at p
  | cons y r'=>exact eD r' r y x f h (by rw [e])
theorem mj {c:Nat} {a b:List Nat} (h:c∉a):part3 (mkS (a++c::b)) ⟨#[c]⟩=[mkS a,⟨#[c]⟩,mkS b]:=by
 have hlen:(mkS (a++c::b)).length=a.length+1+b.length:=by rw [fb];simp;lia
 have atA:∀i,StrLaws.At (mkS (a++c::b)) ⟨#[c]⟩ (mkS (a++c::b)).length i↔(a++c::b)[i]?=some c:=fun i=>by
  have:=subAt_one (mkS (a++c::b)) c i;rw [cf] at this;exact this
 unfold part3;rcases occ_head (mkS (a++c::b)) ⟨#[c]⟩ 1 (Nat.le_refl _) with ⟨e,hn⟩ | ⟨i,r,e,hi,hn⟩
 ·exact absurd ((atA a.length).mpr (by simp)) (hn a.length)
 ·have e1:i=a.length:=by
   have h1:=(atA i).mp hi;rcases Nat.lt_trichotomy i a.length with z | z | z
   ·rw [List.getElem?_append_left z] at h1;exact absurd (List.mem_of_getElem? h1) h
   ·exact z
   ·exact absurd ((atA a.length).mpr (by simp)) (hn _ z)
  rw [e];subst e1;have s1:strSub (mkS (a++c::b)) 0 a.length=mkS a:=by
   apply ff;show ((a++c::b).toArray.extract 0 a.length).toList=_;rw [cf];simp
  have s2:strSub (mkS (a++c::b)) (a.length+(⟨#[c]⟩:Str).length) (mkS (a++c::b)).length=mkS b:=by
   apply ff;show ((a++c::b).toArray.extract (a.length+1) (mkS (a++c::b)).length).toList=_;rw [cf,hlen];simp
  show [strSub _ 0 a.length,_,strSub _ _ _]=_;rw [s1,s2]
end Sm
namespace Sm
open PySem L2
theorem cS {α:Type} {o:Option α} {a:α} (r:Rn o fun p=>p=a):o=some a:=let ⟨_,e,q⟩:=r;by rw [e,q]
end Sm
namespace Mi
open PySem Sm L2 Builtin.Str
noncomputable def chD (d:Nat):D:=.str (mkS [48+d])
theorem rW {d:Nat} {h:MH} (hd:d < 10):fIx (.str "0123456789") (.int (d:Int)) h=some (chD d,h):=by
 have:∀d < 10,atI (Str.ofString "0123456789").cps.toList ((d:Nat):Int)=some (48+d):=by decide+kernel
 show (if (Str.ofString "0123456789").length≤sizeLine then (atI (Str.ofString "0123456789").cps.toList (d:Int)).map fun c=>(D.str ⟨#[c]⟩,h) else none)=_;rw [if_pos (by decide+kernel),this d hd];rfl
theorem jd:∀ds:List Nat,Str.join (Str.ofString "") (ds.map fun d=>mkS [48+d])=mkS (ds.map (48+·))
 | []=>rfl
 | [d]=>rfl
 | d::e::r=>by
  show mkS [48+d]++Str.ofString ""++Str.join (Str.ofString "") ((e::r).map fun d=>mkS [48+d])=_;rw [jd (e::r),show mkS [48+d]++Str.ofString ""=mkS [48+d] from dh [48+d] [],dh];rfl
theorem iU:∀ds:List Nat,((ds.map fun d=>mkS [48+d]).map (·.length)).sum=ds.length
 | []=>rfl
 | d::r=>by simp only [List.map_cons,List.sum_cons,List.length_cons];rw [iU r,fb];simp;lia
theorem fH {x:Str} {d:D} {ns:List Str} {ws:List (Nat×MO)} {h:MH} (e:aU d h=some (ns.map D.str,ws)) (hl:(ns.map (·.length)).sum+ns.length*x.length≤16777216):fI (.str x) [d] h=some (.str (Str.join x ns),h):=by
 unfold fI;dsimp only;rw [e];walk_at "ai";rw [gz];walk_at "ai";rw [if_pos hl]
theorem cy {n:Nat} {h:MH} (hn:(ay n).length < 99):ar [.int (n:Int)] h=some (.str (txt n),h):=by
 refine cS (pE ?_);walk_at "r";refine rv (a:=(.int (n:Int),h)) (by show some (D.int _,h)=_;congr) ?_;walk_at "r";refine ic (fun k δ h'=>∃(m:Nat) (pre:List Nat) (o:Option D),δ=[some (.int (n:Int)),some (.int (m:Int)),some (.ob h.length),o]∧h'=h++[.lst (pre.map chD)]∧k=(ay n).length-pre.length∧(pre=[]∧m=n∨pre≠[]∧m=0∧pre=ay n∨pre≠[]∧m≠0∧pre++ay m=ay n)) ?_ 100 (ay n).length _ _ (by lia) ⟨n,[],none,rfl,rfl,by simp,.inl ⟨rfl,rfl⟩⟩
 ·rintro k δ h' ⟨m,pre,o,rfl,rfl,rfl,hI⟩;walk_at "r";refine (fun (body:(m≠0∨pre=[])->_)=>⟨_,rfl,fun c=>⟨fun _=>body (.inl (by have:=of_decide_eq_true c;lia)),fun z=>(nomatch z)⟩,fun c=>?test⟩) ?body
  case test=>
   walk_at "r";refine ⟨!pre.isEmpty,by show (match (h++[MO.lst (pre.map chD)])[h.length]? with | some (.lst xs)=>some (!xs.isEmpty) | some (.dct kvs)=>some (!kvs.isEmpty) | none=>none)=_;rw [getL];simp,fun z=>body (.inr (by simpa using z)),fun z=>?_⟩;have m0:m=0:=by have:=of_decide_eq_false c;lia
   have p0:pre≠[]:=by intro e;rw [e] at z;cases z
   have e0:pre=ay n:=by
    rcases hI with q | q | q
    ·exact absurd q.1 p0
    ·exact q.2.2
    ·exact absurd m0 q.2.1
   subst e0;walk_at "r";refine ⟨_,rfl,fun z=>absurd (of_decide_eq_true z) (by lia),fun _=>?_⟩;walk_at "r";refine jG ?_;walk_at "r";refine ⟨rfl,?_⟩;walk_at "r";refine n4 ?_;walk_at "r";refine ⟨rfl,_,_,j3 (getL _ _),?_⟩;walk_at "r";rw [show eT (.ob h.length)=true from rfl,if_pos rfl,←List.map_reverse];refine rv (fH (ns:=(ay n).reverse.map fun d=>mkS [48+d]) (ws:=[]) ?_ ?_) ?_
   ·show some _=some _;rw [List.map_map];rfl
   ·rw [iU,List.length_map,List.length_reverse,show (Str.ofString "").length=0 from rfl];lia
   ·rw [jd];walk_at "r";exact ⟨_,kS (fun n z=>(nomatch z)) rfl,rfl⟩
  case body=>
   intro hb;have hp:pre++ay m=ay n:=by
    rcases hI with q | q | q
    ·rw [q.1,q.2];rfl
    ·rcases hb with z | z
     ·exact absurd q.2.1 z
     ·exact absurd z q.1
    ·exact q.2.2
   have hl:pre.length+(ay m).length=(ay n).length:=by rw [←hp,List.length_append]
   have hm:m % 10 < 10:=Nat.mod_lt _ (by decide);have hd:=List.length_pos_iff.mpr (iD m);have e1:fe [.int (m:Int),.int 10] (h++[.lst (pre.map chD)])=some (.tup [.int ((m / 10:Nat):Int),.int ((m % 10:Nat):Int)],h++[.lst (pre.map chD)]):=rfl;walk_at "r";refine rv e1 ?_;walk_at "r";refine jG ?_;walk_at "r";refine ⟨je (getL _ _),?_⟩;walk_at "r";refine rv (rW hm) ?_;walk_at "r";refine rv (fK (getL _ _) ?_) ?_
   ·rw [List.length_map,show sizeLine=16777216 from rfl];lia
   ·rw [sW];walk_at "r";refine ⟨_,?_,m / 10,pre++[m % 10],_,rfl,?_,rfl,?_⟩
    ·rw [List.length_append,List.length_singleton];lia
    ·rw [List.map_append];rfl
    ·by_cases z:m < 10
     ·refine .inr (.inl ⟨by simp,by lia,?_⟩);rw [←hp,aF z,Nat.mod_eq_of_lt z]
     ·refine .inr (.inr ⟨by simp,by lia,?_⟩);rw [←hp,bp z,List.append_assoc];rfl
theorem qv {x:Str} {e:EM} {δ:DS} {h:MH} {Q:List D×List (Nat×MO)×MH->Prop} (r:Rn (e δ h) fun p=>p.1=.str x∧x.cps.all (· < 128)=true∧Q (x.cps.toList.map fun c=>D.str ⟨#[c]⟩,[],p.2)):Rn (oT e δ h) Q:=by
 obtain ⟨p,e1,e2,e3,q⟩:=r;refine ⟨_,?_,q⟩;unfold oT;rw [e1];walk_at "ai";rw [e2];dsimp only;rw [if_pos e3]
theorem kg:∀d < 10,occurrences (Str.ofString "0123456789") ⟨#[48+d]⟩ 0 (Str.ofString "0123456789").length 1=[d]:=by decide+kernel
theorem rV {d:Nat} {h:MH} (hd:d < 10):jO (.str ⟨#[48+d]⟩) (.str "0123456789") h=some (.bl false,h):=by
 show some (D.bl (!(!(occurrences (Str.ofString "0123456789") ⟨#[48+d]⟩ 0 (Str.ofString "0123456789").length 1).isEmpty)),h)=_;rw [kg d hd];rfl
theorem rT {d:Nat} {h:MH} (hd:d < 10):fJ (.str "0123456789") [.str ⟨#[48+d]⟩] h=some (.int d,h):=by
 unfold fJ;dsimp only;rw [kg d hd]
noncomputable def kC (ds:List Nat):Nat:=ds.foldl (fun a d=>a*10+d) 0
theorem kB (n:Nat):kC (ay n).reverse=n:=by
 unfold kC;rw [List.foldl_reverse];have:∀ds:List Nat,ds.foldr (fun d a=>a*10+d) 0=jr ds:=fun ds=>by
  induction ds with
  | nil=>rfl
  | cons d r ih=>rw [List.foldr_cons,ih];show _=d+10*jr r;lia
 rw [this,kA]
theorem lD (n:Nat):∃(a:Nat) (r:List Nat),(ay n).reverse=a::r∧a < 10∧(a=0->n=0):=by
 cases e:(ay n).reverse with
 | nil=>exact absurd (List.reverse_eq_nil_iff.mp e) (iD n)
 | cons a r=>
  refine ⟨a,r,rfl,iE n a (List.mem_reverse.mp (by rw [e];exact List.mem_cons_self)),fun z=>?_⟩
  by_cases h0:n=0
  ·exact h0
  ·refine absurd ?_ (k6 n h0);rw [←List.head?_reverse,e,z];rfl
theorem cT {n:Nat} {h:MH} (hn:(ay n).length≤1000):a9 [.str (txt n)] h=some (.int (n:Int),h):=by
 have hc:(txt n).cps.toList=(ay n).reverse.map (48+·):=cf _;have hz:(txt n).length≤sizeLine:=by rw [bH,show sizeLine=16777216 from rfl];lia
 obtain ⟨a,r,ea,ha,h0⟩:=lD n;have e1:(txt n==Str.ofString "")=false:=by
  rw [beq_eq_false_iff_ne];intro z;have:(txt n).cps.toList=[]:=by rw [z];rfl
  rw [hc,ea] at this;cases this
 have e2:fIx (.str (txt n)) (.int 0) h=some (.str ⟨#[48+a]⟩,h):=by
  show (if (txt n).length≤sizeLine then (atI (txt n).cps.toList 0).map fun c=>(D.str ⟨#[c]⟩,h) else none)=_;rw [if_pos hz,hc,ea,List.map_cons,show atI ((48+a)::r.map (48+·)) 0=some (48+a) from iO (j:=0) rfl];rfl
 have et:Sm.tOr (aX (eOp gn (af 0) (eK (.str "")))) (Sm.jw (aX (eOp gn (eOp fIx (af 0) (eK (.int 0))) (eK (.str "0")))) (aX (eOp fP (af 0) (eK (.str "0"))))) (entry 3 [.str (txt n)]) h=some (false,h):=by
  refine cS (pA ?_);walk_at "r";rw [e1];refine ⟨_,rfl,fun z=>(nomatch z),fun _=>?_⟩;walk_at "r";refine rv e2 ?_;walk_at "r";refine ⟨_,rfl,fun z=>?_,fun _=>rfl⟩;walk_at "r";refine ⟨_,rfl,?_⟩;have a0:a=0:=by
   have z1:=eq_of_beq z;have z2:(48+a)=48:=by
    have:=congrArg (fun x:Str=>x.cps.toList) z1;have e3:(Str.ofString "0").cps.toList=[48]:=by decide+kernel
    dsimp only at this;rw [e3] at this
    simpa using this
   lia
  have:txt n=Str.ofString "0":=by rw [h0 a0];unfold txt;rw [aF (by decide)];decide+kernel
  rw [this];show (!(Str.ofString "0"==Str.ofString "0"),h)=_;rw [beq_self_eq_true];rfl
 refine cS (cq (pC (pB (rv et ⟨fun z=>(nomatch z),fun _=>?_⟩))));walk_at "r";refine qv (x:=txt n) ?_;walk_at "r";refine ⟨rfl,?_,?_⟩
 ·rw [Array.all_eq_true'];intro c hc;have:=g0 n c (Array.mem_toList_iff.mpr hc);exact decide_eq_true (by lia)
 rw [hc,List.map_map];refine fC (fun i δ h'=>∃o,δ=[some (.str (txt n)),some (.int (kC ((ay n).reverse.take i):Nat)),o]∧h'=h) ⟨none,rfl,rfl⟩ (fun _ _ _ _ _=>rfl) ?_ ?_
 ·rintro i x δ h' hx ⟨o,rfl,rfl⟩;rw [List.getElem?_map] at hx;obtain ⟨d,e3,rfl⟩:=Option.map_eq_some_iff.mp hx;have hd:d < 10:=iE n d (List.mem_reverse.mp (List.mem_of_getElem? e3));walk_at "r";refine rv (rV hd) ?_;walk_at "r";refine ⟨_,rfl,fun z=>(nomatch z),fun _=>?_⟩;walk_at "r";refine dP (mul_r (by decide) (by decide)) ?_;refine jG ?_;walk_at "r";refine ⟨rfl,?_⟩;walk_at "r";refine rv (rT hd) ?_;walk_at "r";have e4:kC ((ay n).reverse.take (i+1))=kC ((ay n).reverse.take i)*10+d:=by
   rw [List.take_add_one,e3];unfold kC;rw [List.foldl_append];rfl
  rw [e4];exact ⟨some (.str ⟨#[48+d]⟩),rfl,rfl⟩
 ·rintro δ h' ⟨o,rfl,rfl⟩;walk_at "r";rw [List.length_map,List.take_length,kB]
end Mi
namespace Sm
open PySem L2
theorem jl {α:Type} {e:EM} {h:MH} {t:DS} (A f:α->D):∀(xs:List α) (o:Option D),(∀x∈xs,e (some (A x)::t) h=some (f x,h))->bI [] (gN 0) bV e (xs.map A) (o::t) h=some (xs.map f,h)
 | [],o,_=>rfl
 | x::r,o,hx=>by
  have e1:e (some (A x)::t) h=some (f x,h):=hx x List.mem_cons_self;have e2:=jl A f r (some (A x)) fun y hy=>hx y (List.mem_cons_of_mem _ hy);show ((e (some (A x)::t) h).bind fun y=>(bI [] (gN 0) bV e (r.map A) (some (A x)::t) y.2).map fun z=>(y.1::z.1,z.2))=_;rw [e1];show ((bI [] (gN 0) bV e (r.map A) (some (A x)::t) h).map fun z=>(f x::z.1,z.2))=_;rw [e2];rfl
theorem ly {α:Type} {caps:List (Option Nat)} {ei e:EM} {δ t:DS} {o:Option D} {h:MH} {d:D} {xs:List α} (A f:α->D) (hi:ei δ h=some (d,h)) (hs:aU d h=some (xs.map A,[])) (hc:eG caps δ=o::t) (hl:xs.length≤100000) (he:∀x∈xs,e (some (A x)::t) h=some (f x,h)):
  bF caps (eV ei) (gN 0) bV e δ h=some (xs.map f,h):=by
 unfold bF eV;rw [hi];walk_at "ai";rw [hs];dsimp only [Option.map_some,Option.bind_some];rw [hc,jl A f xs o he];walk_at "ai";rw [if_pos (by rw [List.length_map,show sizeLine=16777216 from rfl];lia)]
abbrev g2:GM:=gT 2 (aV (gN 0) (aV (gN 1) eE))
theorem fU {α:Type} {e:EM} {h:MH} {t:DS} (A B f:α->D):∀(xs:List α) (o o2:Option D),(∀x∈xs,e (some (A x)::some (B x)::t) h=some (f x,h))->bI [] g2 bV e (xs.map fun x=>.tup [A x,B x]) (o::o2::t) h=some (xs.map f,h)
 | [],o,o2,_=>rfl
 | x::r,o,o2,hx=>by
  have e1:e (some (A x)::some (B x)::t) h=some (f x,h):=hx x List.mem_cons_self;have e2:=fU A B f r (some (A x)) (some (B x)) fun y hy=>hx y (List.mem_cons_of_mem _ hy);show ((e (some (A x)::some (B x)::t) h).bind fun y=>(bI [] g2 bV e (r.map fun x=>.tup [A x,B x]) (some (A x)::some (B x)::t) y.2).map fun z=>(y.1::z.1,z.2))=_;rw [e1];show ((bI [] g2 bV e (r.map fun x=>.tup [A x,B x]) (some (A x)::some (B x)::t) h).map fun z=>(f x::z.1,z.2))=_;rw [e2];rfl
theorem gV {α:Type} {caps:List (Option Nat)} {ei e:EM} {δ t:DS} {o o2:Option D} {h:MH} {d:D} {xs:List α} (A B f:α->D) (hi:ei δ h=some (d,h)) (hs:aU d h=some (xs.map fun x=>.tup [A x,B x],[])) (hc:eG caps δ=o::o2::t) (hl:xs.length≤100000) (he:∀x∈xs,e (some (A x)::some (B x)::t) h=some (f x,h)):
  bF caps (eV ei) g2 bV e δ h=some (xs.map f,h):=by
 unfold bF eV;rw [hi];walk_at "ai";rw [hs];dsimp only [Option.map_some,Option.bind_some];rw [hc,fU A B f xs o o2 he];walk_at "ai";rw [if_pos (by rw [List.length_map,show sizeLine=16777216 from rfl];lia)]
end Sm
namespace Mi
open PySem Sm L2 Builtin.Str
noncomputable def dg (n:Nat):List Nat:=(ay n).reverse.map (48+·)
noncomputable def wrd (m:Nat×Nat):Str:=mkS (dg m.1++46::dg m.2)
noncomputable def cw (ms:List (Nat×Nat)):D:=.tup (ms.map fun m=>.tup [.int m.1,.int m.2])
def okM (m:Nat×Nat):Prop:=(ay m.1).length≤40∧(ay m.2).length≤40
theorem mW:Str.ofString "."=⟨#[46]⟩:=by decide+kernel
theorem blank_eq:Str.ofString " "=⟨#[32]⟩:=by decide+kernel
theorem iF {n c:Nat} (h:c < 48∨57 < c):c∉dg n:=by have:=lE (n:=n) h;unfold txt at this;rw [cf] at this;exact this
theorem m4 (n:Nat):(dg n).length=(ay n).length:=by unfold dg;simp
theorem gX (m:Nat×Nat):txt m.1++Str.ofString "."++txt m.2=wrd m:=by
 rw [mW,show (⟨#[46]⟩:Str)=mkS [46] from rfl];show mkS (dg m.1)++mkS [46]++mkS (dg m.2)=_;rw [dh,dh];unfold wrd;simp
theorem c0 {m:Nat×Nat} (h:okM m):(wrd m).length≤81∧1≤(wrd m).length:=by
 unfold wrd;rw [fb,List.length_append,List.length_cons,m4,m4];have:=h.1;have:=h.2;lia
theorem lC (m:Nat×Nat):32∉(wrd m).cps.toList:=by
 unfold wrd;rw [cf];intro z;rcases List.mem_append.mp z with z | z
 ·exact iF (.inl (by decide)) z
 ·rcases List.mem_cons.mp z with z | z
  ·cases z
  ·exact iF (.inl (by decide)) z
theorem pN (m:Nat×Nat):PyData.strOk (wrd m)=true:=by
 rw [←gX];exact Sm.bc (Sm.bc (gZ _) (by decide+kernel)) (gZ _)
theorem oE {m:Nat×Nat} {h:MH} (hm:okM m):bD (.str (wrd m)) [.str "."] h=some (.tup [.str (txt m.1),.str ".",.str (txt m.2)],h):=by
 have e:part3 (wrd m) (Str.ofString ".")=[txt m.1,Str.ofString ".",txt m.2]:=by
  rw [mW];exact mj (iF (.inl (by decide)))
 unfold bD;dsimp only;rw [e,if_pos]
 ·rfl
 ·refine ⟨by decide+kernel,Nat.le_trans (c0 hm).1 (by decide),?_⟩;show (PyData.strOk (txt m.1)&&(PyData.strOk (Str.ofString ".")&&(PyData.strOk (txt m.2)&&true)))=true;rw [gZ,gZ,show PyData.strOk (Str.ofString ".")=true by decide+kernel];rfl
theorem ia {m:Nat×Nat} {h:MH} (hm:okM m):bq [.str (wrd m)] h=some (.tup [.int m.1,.int m.2],h):=by
 have h1:=hm.1;have h2:=hm.2;refine cS (cq ?_);walk_at "r";refine jG ?_;walk_at "r";refine ⟨rfl,?_⟩;walk_at "r";refine rv (oE hm) ?_;walk_at "r";refine rv (cT (by lia)) ?_;walk_at "r";refine rv (cT (by lia)) ?_;walk_at "r";refine rv (a:=(.bl false,h)) rfl ?_;walk_at "r";refine ⟨_,rfl,fun z=>(nomatch z),fun _=>?_⟩;walk_at "r"
theorem dH (ms:List (Nat×Nat)) (h:∀m∈ms,okM m) (hl:ms.length≤50):((ms.map wrd).map (·.length)).sum+(ms.map wrd).length*(Str.ofString " ").length≤5000:=by
 have:∀l:List (Nat×Nat),(∀m∈l,okM m)->((l.map wrd).map (·.length)).sum≤81*l.length:=fun l=>by
  induction l with
  | nil=>intro _;simp
  | cons m r ih=>
   intro hk;have a:=ih fun x hx=>hk x (List.mem_cons_of_mem _ hx);have b:=(c0 (hk m List.mem_cons_self)).1;simp only [List.map_cons,List.sum_cons,List.length_cons]
   lia
 have a:=this ms h;rw [show (Str.ofString " ").length=1 by decide+kernel,List.length_map]
 lia
noncomputable def aW (ms:List (Nat×Nat)):Str:=Str.join (Str.ofString " ") (ms.map wrd)
theorem mP {e:EM} {δ:DS} {h:MH} {x:Str} (e1:e δ h=some (.str x,h)) (hx:x.length≤1000):eUn gm e δ h=some (.str x,h):=by
 unfold eUn gm;rw [e1];walk_at "ai";rw [if_pos (Nat.le_trans hx (by decide))]
theorem mJ {e:EM} {r:JM} {δ:DS} {h:MH} {x acc:Str} (e1:e δ h=some (.str x,h)) (hx:(acc++x).length≤1000):di e r δ h acc=r δ h (acc++x):=by
 unfold di;rw [e1];walk_at "ai";rw [if_pos (Nat.le_trans hx (by decide))]
theorem cn {ms:List (Nat×Nat)} {h:MH} (hk:∀m∈ms,okM m) (hl:ms.length≤50):aN [cw ms] h=some (.str (aW ms),h):=by
 refine cS (cq (pD ?_));refine jG ?_;walk_at "r";refine ⟨rfl,?_⟩;have e1:bF [none,none] (eV (af 0)) g2 bV (eFs (di (eUn gm (eFn ar (ab (af 0) aj))) (di (eK (.str ".")) (di (eUn gm (eFn ar (ab (af 1) aj))) oP)))) (entry 1 [cw ms]) h=some (ms.map fun m=>.str (wrd m),h):=by
  refine gV (o:=none) (o2:=none) (t:=[]) (fun m=>.int m.1) (fun m=>.int m.2) (fun m=>.str (wrd m)) rfl rfl rfl (by lia) fun m hm=>?_;have hm:=hk m hm;have h1:=hm.1;have h2:=hm.2;have f1:eUn gm (eFn ar (ab (af 0) aj)) [some (.int m.1),some (.int m.2)] h=some (.str (txt m.1),h):=mP (show ar [.int m.1] h=_ from cy (by lia)) (by rw [bH];lia);have f2:eUn gm (eFn ar (ab (af 1) aj)) [some (.int m.1),some (.int m.2)] h=some (.str (txt m.2),h):=mP (show ar [.int m.2] h=_ from cy (by lia)) (by rw [bH];lia);have hw:=(c0 hm).1;have e0:Str.empty++txt m.1=txt m.1:=dh [] (dg m.1);have l1:(txt m.1++Str.ofString ".").length≤1000:=by rw [PySem.Str.length_append,bH,show (Str.ofString ".").length=1 by decide+kernel];lia
  unfold eFs;rw [mJ f1 (by rw [e0,bH];lia),e0,mJ (x:=Str.ofString ".") rfl l1,mJ f2 (by rw [gX];lia),gX];unfold oP;walk_at "ai";rw [if_pos (Nat.le_trans hw (by decide))]
 refine ie (nY (rv e1 (j5 ?_)));refine rv (fH (ns:=ms.map wrd) (ws:=[]) (by show some _=some _;rw [List.map_map];rfl) (Nat.le_trans (dH ms hk hl) (by decide))) ?_;walk_at "r";rfl
theorem gv:aW []=Str.ofString "":=rfl
theorem kz:∀(ms:List (Nat×Nat)),ms≠[]->(∀m∈ms,okM m)->1≤(aW ms).length
 | [],h,_=>absurd rfl h
 | m::r,_,hk=>by
  have e:(aW (m::r)).cps.toList=(wrd m).cps.toList++((r.map wrd).map fun y=>32::y.cps.toList).flatten:=by unfold aW;rw [blank_eq,List.map_cons];exact aH 32 (wrd m) (r.map wrd)
  have hw:=(c0 (hk m List.mem_cons_self)).2;have:(aW (m::r)).cps.toList.length=(aW (m::r)).length:=by simp [Str.length]
  rw [←this,e,List.length_append];have:(wrd m).cps.toList.length=(wrd m).length:=by simp [Str.length]
  lia
theorem kx (ms:List (Nat×Nat)) (hk:∀m∈ms,okM m) (hl:ms.length≤50):(aW ms).length≤5000:=by
 have h1:=dH ms hk hl;exact Nat.le_trans (StrLaws.join_length_le _ _) h1
theorem lM {ms:List (Nat×Nat)} {h:MH} (h0:ms≠[]) (hk:∀m∈ms,okM m) (hl:ms.length≤50):cY (.str (aW ms)) [.str " "] h=some (.lv ((ms.map wrd).map D.str),h):=by
 have e:Txt.split (aW ms) (Str.ofString " ")=ms.map wrd:=by
  unfold aW;rw [blank_eq];refine jx (by simpa using h0) fun z hz=>?_;obtain ⟨m,_,rfl⟩:=List.mem_map.mp hz;exact lC m
 have hz:=kx ms hk hl;unfold cY;dsimp only;rw [e,if_pos];refine ⟨by decide+kernel,Nat.le_trans hz (by decide),?_,?_,?_⟩
 ·rw [List.length_map,show sizeLine=16777216 from rfl];lia
 ·rw [PyProof.Rows.len_partsBetween];have:=StrLaws.occ_length_le (aW ms) (Str.ofString " ") 0 (aW ms).length ((aW ms).length+1);rw [show sizeLine=16777216 from rfl];lia
 ·rw [List.all_eq_true];intro z hz;obtain ⟨m,_,rfl⟩:=List.mem_map.mp hz;exact pN m
theorem cp {ms:List (Nat×Nat)} {h:MH} (hk:∀m∈ms,okM m) (hl:ms.length≤50):aO [.str (aW ms)] h=some (cw ms,h):=by
 refine cS (cq ?_);walk_at "r";refine rv (a:=(.bl true,h)) rfl ?_;walk_at "r";refine ⟨true,rfl,fun z=>(nomatch z),fun _=>?_⟩;walk_at "r";refine ⟨_,rfl,fun z=>?_,fun z=>?_⟩
 ·have h0:ms≠[]:=by intro e;rw [e,gv,beq_self_eq_true] at z;cases z
  have e1:bF [none] (eV (eM isStr cY (af 0) (ab (eK (.str " ")) aj))) (gN 0) bV (eFn bq (ab (af 0) aj)) (entry 1 [.str (aW ms)]) h=some (ms.map (fun m=>.tup [.int m.1,.int m.2]),h):=
   ly (t:=[]) (o:=none) (fun m=>.str (wrd m)) _ (show cY (.str (aW ms)) [.str " "] h=_ from lM h0 hk hl) (by show some _=some _;rw [List.map_map];rfl) rfl (by lia) fun m hm=>ia (hk m hm)
  refine tE (ie (nY (rv e1 (j5 ?_))));refine rv (a:=(cw ms,h)) rfl ?_;walk_at "r"
 ·have h0:ms=[]:=by
   refine Classical.byContradiction fun c=>?_;have:=kz ms c hk;have e:aW ms=Str.ofString "":=by simpa using z
   rw [e] at this;exact absurd this (by decide+kernel)
  subst h0;walk_at "r";rfl
end Mi
namespace Mi
open PySem Sm L2
theorem gu:∀xs:List D,dG xs xs=xs.map fun x=>.tup [x,x]
 | []=>rfl
 | x::r=>by rw [List.map_cons,←gu r];rfl
theorem jo {α:Type}:∀xs:List α,lu (xs.map fun _=>D.bl true)=some (xs.map fun _=>true)
 | []=>rfl
 | x::r=>by rw [List.map_cons];show (lu (r.map _)).map _=_;rw [jo r];rfl
theorem mR {α:Type} (xs:List α) (h:MH):r8 [.lv (xs.map fun _=>D.bl true)] h=some (.bl true,h):=by
 show (lu (xs.map fun _=>D.bl true)).map _=_;rw [jo];simp
theorem i0 {n:Nat} {xs:List D} {h:MH} (hl:xs.length≤100000) (hx:∀x∈xs,aw n [x,x] h=some (.bl true,h)):aw (n+1) [.tup xs,.tup xs] h=some (.bl true,h):=by
 refine cS ?_;unfold aw;refine cq ?_;walk_at "r";refine rv rfl ⟨true,rfl,fun _=>?_,fun z=>(nomatch z)⟩;walk_at "r";refine rv rfl ⟨true,rfl,fun z=>(nomatch z),fun _=>?_⟩;walk_at "r";refine ⟨false,by simp,fun z=>(nomatch z),fun _=>?_⟩;walk_at "r";refine qu ?_;walk_at "r";refine ⟨_,_,_,_,_,_,rfl,rfl,rfl,?_⟩;rw [gu];refine rv (fU (fun x=>x) (fun x=>x) (fun _=>.bl true) xs none none fun x hm=>hx x hm) ⟨?_,?_⟩
 ·dsimp only;rw [List.length_map,show sizeLine=16777216 from rfl]
  lia
 ·walk_at "r";refine rv (mR xs h) ?_;walk_at "r"
theorem same_int {n:Nat} {x:Int} {h:MH}:aw (n+1) [.int x,.int x] h=some (.bl true,h):=by
 refine cS ?_;unfold aw;refine cq ?_;walk_at "r";refine rv rfl ⟨false,rfl,fun z=>(nomatch z),fun _=>?_⟩;walk_at "r";refine rv rfl ⟨false,rfl,fun z=>(nomatch z),fun _=>?_⟩;walk_at "r";refine rv rfl ⟨false,rfl,fun z=>(nomatch z),fun _=>?_⟩;walk_at "r";refine rv rfl ⟨true,rfl,fun _=>?_,fun z=>(nomatch z)⟩;walk_at "r";refine rv rfl ⟨false,rfl,⟨_,rfl,fun _=>?_,fun z=>(nomatch z)⟩⟩;walk_at "r";simp
theorem But.app {s:Nat} {hb h2:MH} {o:MO} (b:But s (hb++[o]) h2) (hs:s < hb.length):∃hb',h2=hb'++[o]∧But s hb hb':=by
 have hl:h2.length=hb.length+1:=by rw [b.1];simp
 refine ⟨h2.take hb.length,?_,by rw [List.length_take];lia,fun k hk=>?_⟩
 ·refine List.ext_getElem? fun k=>?_
  by_cases z:k < hb.length
  ·rw [List.getElem?_append_left (by rw [List.length_take];lia),List.getElem?_take_of_lt z]
  ·by_cases z2:k=hb.length
   ·subst z2;rw [b.2 _ (by lia),List.getElem?_append_right (Nat.le_refl _),List.getElem?_append_right (by rw [List.length_take];lia),List.length_take];rw [show min hb.length h2.length=hb.length by lia]
   ·rw [List.getElem?_eq_none (by lia),List.getElem?_eq_none (by rw [List.length_append,List.length_take];simp;lia)]
 ·by_cases z:k < hb.length
  ·rw [List.getElem?_take_of_lt z,b.2 k hk,List.getElem?_append_left z]
  ·rw [List.getElem?_eq_none (by rw [List.length_take];lia),List.getElem?_eq_none (by lia)]
theorem St.cut {s c:Nat} {cs:List Int} {B:Nat} {hb g:MH} (S:Mi.St s c cs B (hb++g)) (h1:s < hb.length) (h2:c < hb.length):Mi.St s c cs B hb:=by
 obtain ⟨n,t,e,r⟩:=S.st;have e2:=S.ce;rw [List.getElem?_append_left h1] at e;rw [List.getElem?_append_left h2] at e2;exact ⟨⟨n,t,e,r⟩,e2,S.ne⟩
def Cl (h:MH):Prop:=∀o∈h,clO h.length o=true
theorem km (n:Nat):∀js:List Int,clL n (js.map D.int)=true
 | []=>rfl
 | j::r=>by rw [List.map_cons];show (clD n (.int _)&&clL n _)=true;rw [km n r];rfl
theorem Cl.but {s c:Nat} {cs:List Int} {B:Nat} {h h':MH} (C:Cl h) (S:Mi.St s c cs B h') (b:But s h h'):Cl h':=by
 intro o ho;obtain ⟨k,hk⟩:=List.mem_iff_getElem?.mp ho
 by_cases z:k=s
 ·subst z;obtain ⟨n,t,e,_⟩:=S.st;rw [e] at hk;cases hk;show (true&&(decide (c < h'.length)&&(true&&true)))=true;rw [decide_eq_true S.lt.2];rfl
 ·rw [b.2 k z] at hk;rw [b.1];exact C o (List.mem_of_getElem? hk)
theorem mG {h hb g:MH} {d:D} (hl:hb.length=h.length) (C:Cl hb) (h1:∀n,d≠.ob n) (h2:clD h.length d=true):leave h d (hb++g)=some (d,hb):=by
 have h3:kF h.length (hb++g) d=d:=by
  cases d with
  | ob n=>exact absurd rfl (h1 n)
  | _=>rfl
 unfold leave;rw [h3,←hl,List.take_append_of_le_length (Nat.le_refl _),List.take_length,hl,h2];have:(hb.all (clO h.length))=true:=by
  rw [List.all_eq_true];intro o ho;rw [←hl];exact C o ho
 rw [this,Bool.or_true];rfl
mutual
theorem m9 {n m:Nat} (hm:n≤m):∀d:D,clD n d=true->clD m d=true
 | .non,_=>rfl
 | .bl _,_=>rfl
 | .int _,_=>rfl
 | .str _,_=>rfl
 | .ty _,_=>rfl
 | .ob k,h=>by simp only [clD,decide_eq_true_eq] at h ⊢;lia
 | .tup xs,h=>by simp only [clD] at h ⊢;exact iG hm xs h
 | .lv xs,h=>by simp only [clD] at h ⊢;exact iG hm xs h
 | .ro xs,h=>by simp only [clD] at h ⊢;exact iG hm xs h
 | .dv xs,h=>by simp only [clD] at h ⊢;exact m8 hm xs h
theorem iG {n m:Nat} (hm:n≤m):∀d:List D,clL n d=true->clL m d=true
 | [],_=>rfl
 | x::r,h=>by
  simp only [clL,Bool.and_eq_true] at h ⊢;exact ⟨m9 hm x h.1,iG hm r h.2⟩
theorem m8 {n m:Nat} (hm:n≤m):∀d:List (Key×D),clK n d=true->clK m d=true
 | [],_=>rfl
 | (_,x)::r,h=>by
  simp only [clK,Bool.and_eq_true] at h ⊢;exact ⟨m9 hm x h.1,m8 hm r h.2⟩
end
noncomputable def mvD (m:Nat×Nat):D:=.tup [.int m.1,.int m.2]
theorem kh {j:Int} (h0:0≤j) (h1:j < 10^30):(ay j.toNat).length≤40:=Nat.le_trans (mZ (k:=29) (by lia)) (by decide)
theorem m7 (n:Nat):∀ms:List (Nat×Nat),clL n (ms.map mvD)=true
 | []=>rfl
 | m::r=>by rw [List.map_cons];show (clD n (mvD m)&&clL n _)=true;rw [m7 n r];rfl
theorem lj {s c R:Nat} {cs:List Int} {h0 h:MH} {Q:D×MH->Prop} (A:Sb s c cs h0 (R+201) h) (C:Cl h) (k:∀(ms:List (Nat×Nat)) (h1:MH),(∀m∈ms,okM m)->ms.length≤40->Sb s c cs h0 R h1->Cl h1->Q (cw ms,h1)):Rn (ba [.ob s] h) Q:=by
 obtain ⟨hs,hc⟩:=A.S.lt;refine pE ?_;walk_at "r";refine jF ?_;walk_at "r";refine fW (A.S.more [.lst []]).sb (by decide) (by decide) fun r h1 r0 r1 A1=>?_;walk_at "r";refine ⟨r,rfl,by lia,by lia,?_⟩;refine fC (fun i δ h'=>∃(ms:List (Nat×Nat)) (hb:MH) (o2 o3:Option D),δ=[some (.ob s),some (.ob h.length),o2,o3]∧h'=hb++[.lst (ms.map mvD)]∧But s h hb∧St s c cs (R+5*(40-i)) h'∧(∀m∈ms,okM m)∧ms.length=i) ?_ (fun _ _ _ _ _=>rfl) ?_ ?_
 ·obtain ⟨hb,rfl,b⟩:=A1.b.app hs;exact ⟨[],hb,none,none,rfl,rfl,b,A1.S,fun m hm=>(nomatch hm),rfl⟩
 ·rintro i x δ h' hx ⟨ms,hb,o2,o3,rfl,rfl,b,S,hk,hl⟩;have hi:i < r.toNat:=by
   have:=(List.getElem?_eq_some_iff.mp hx).1
   simpa using this
  have hbl:hb.length=h.length:=b.1;rw [show R+5*(40-i)=R+5*(40-(i+1))+5 by lia] at S;walk_at "r";refine fW S.sb (by decide) (by decide) fun r1 h2 _ _ A2=>?_;walk_at "r";refine rv rfl ?_;walk_at "r";refine fW A2 (by decide) (by decide) fun r2 h3 _ _ A3=>?_;walk_at "r";refine rv rfl ?_;walk_at "r";refine fW A3 (by decide) (by decide) fun r3 h4 _ _ A4=>?_;walk_at "r";have hat:∀{R':Nat} {h':MH},Sb s c cs (hb++[MO.lst (ms.map mvD)]) R' h'->h'[h.length]?=some (.lst (ms.map mvD)):=fun A=>A.at_ (by rw [←hbl];exact getL _ _) (by lia);refine jG ?_;walk_at "r";refine ⟨je (hat A4),?_⟩;walk_at "r";have hP:∀j∈[0,1,r1,9,10,r2,10^Int.toNat 29+r3],0≤j∧j < 10^30:=by
   intro j hj;have e9:(10:Int)^Int.toNat 9=1000000000:=by decide
   have e29:(10:Int)^Int.toNat 29=100000000000000000000000000000:=by decide
   rw [e9] at*;rw [e29] at hj;simp at hj
   lia
  refine pM (is:=[0,1,r1,9,10,r2,10^Int.toNat 29+r3]) (fun j=>0≤j∧j < 10^30) hP A4 fun j1 h5 p1 _ A5=>?_;walk_at "r";refine pM (is:=[0,1,r1,9,10,r2,10^Int.toNat 29+r3]) (fun j=>0≤j∧j < 10^30) hP A5 fun j2 h6 p2 _ A6=>?_;walk_at "r";refine rv (fK (hat A6) (by rw [List.length_map,show sizeLine=16777216 from rfl];lia)) ?_;walk_at "r";obtain ⟨hb',rfl,b'⟩:=A6.b.app (by lia);have e1:(hb'++[MO.lst (ms.map mvD)]).set h.length (.lst (ms.map mvD++[D.tup [D.int j1,D.int j2]]))=hb'++[.lst ((ms++[(j1.toNat,j2.toNat)]).map mvD)]:=by
   rw [←hbl,←b'.1,sW,List.map_append];show _=hb'++[MO.lst (ms.map mvD++[D.tup [D.int (j1.toNat:Int),D.int (j2.toNat:Int)]])];rw [Int.toNat_of_nonneg p1.1,Int.toNat_of_nonneg p2.1]
  refine ⟨ms++[(j1.toNat,j2.toNat)],hb',_,_,rfl,e1,b.trans b',?_,fun m hm=>?_,by simp [hl]⟩
  ·rw [e1];exact (A6.S.cut (by have:=b'.1;lia) (by have:=b'.1;lia)).more _
  ·rcases List.mem_append.mp hm with z | z
   ·exact hk m z
   ·rw [List.mem_singleton.mp z];exact ⟨kh p1.1 p1.2,kh p2.1 p2.2⟩
 ·rintro δ h' ⟨ms,hb,o2,o3,rfl,rfl,b,S,hk,hl⟩;have hbl:hb.length=h.length:=b.1;rw [List.length_map,List.length_range] at hl S;have Sb':St s c cs R hb:=(S.cut (by lia) (by lia)).le (by lia);have C':=C.but Sb' b;walk_at "r";refine rv (a:=(cw ms,hb++[.lst (ms.map mvD)])) ?_ ?_
  ·show (aU (.ob h.length) _).map _=_;rw [←hbl,j3 (getL _ _)];rfl
  ·walk_at "r";exact ⟨_,mG hbl C' (fun n z=>(nomatch z)) (m7 _ ms),k ms hb hk (by lia) ⟨Sb',A.b.trans b⟩ C'⟩
theorem hZ {ms:List (Nat×Nat)} {h:MH} (hl:ms.length≤40):aw 20 [cw ms,cw ms] h=some (.bl true,h):=by
 refine i0 (by rw [List.length_map];lia) fun x hx=>?_;obtain ⟨m,_,rfl⟩:=List.mem_map.mp hx;refine i0 (by simp) fun y hy=>?_;simp at hy;rcases hy with rfl | rfl <;> exact same_int
theorem mY (n:Nat):n < 10^(ay n).length:=by
 refine bQ (P:=fun n=>n < 10^(ay n).length) (fun n h=>?_) (fun n h ih=>?_) n
 ·rw [aF h];exact h
 ·rw [bp h,List.length_cons,Nat.pow_succ]
  lia
theorem kQ {n:Nat} (h:(ay n).length≤40):(n:Int).natAbs.log2 < 1920:=by
 show n.log2 < 1920
 by_cases h0:n=0
 ·rw [h0];decide
 ·have a:=Nat.lt_of_lt_of_le (mY n) (Nat.pow_le_pow_right (by decide) h);exact (Nat.log2_lt h0).mpr (Nat.lt_of_lt_of_le a (Nat.le_trans (show 10^40≤2^133 by decide) (Nat.pow_le_pow_right (by decide) (by decide))))
theorem mH {ms:List (Nat×Nat)} {h:MH} {o1 o2 o4 o5 o6 o7:Option D} (hk:∀m∈ms,okM m) (hl:ms.length≤40):eM isStr fI (eK (.str " ")) (ab (eLv (bF [none,none] (eV (af 3)) g2 bV (eOp a8 (eOp a8 (eFn dq (ab (af 0) aj)) (eK (.str "."))) (eFn dq (ab (af 1) aj))))) aj) [o1,o2,o4,some (cw ms),o5,o6,o7] h=some (.str (aW ms),h):=by
 have e1:bF [none,none] (eV (af 3)) g2 bV (eOp a8 (eOp a8 (eFn dq (ab (af 0) aj)) (eK (.str "."))) (eFn dq (ab (af 1) aj))) [o1,o2,o4,some (cw ms),o5,o6,o7] h=some (ms.map fun m=>.str (wrd m),h):=by
  refine gV (o:=none) (o2:=none) (t:=[]) (fun m=>.int m.1) (fun m=>.int m.2) (fun m=>.str (wrd m)) rfl rfl rfl (by lia) fun m hm=>?_;have hm:=hk m hm;have h1:=hm.1;have h2:=hm.2;have hw:=(c0 hm).1;have l1:(txt m.1++Str.ofString ".").length≤41:=by rw [PySem.Str.length_append,bH,show (Str.ofString ".").length=1 by decide+kernel];lia
  have s1:∀n:Nat,(ay n).length≤40->dq [.int (n:Int)] h=some (.str (txt n),h):=fun n hn=>by
   show (if (n:Int).natAbs.log2 < 1920 then some (D.str (Str.ofString (toString (n:Int))),h) else none)=_;rw [nB,if_pos (kQ hn)]
  have a1:a8 (.str (txt m.1)) (.str ".") h=some (.str (txt m.1++Str.ofString "."),h):=by
   show (if (txt m.1).length+(Str.ofString ".").length≤sizeLine then some (D.str (txt m.1++Str.ofString "."),h) else none)=_;rw [if_pos (by rw [bH,show (Str.ofString ".").length=1 by decide+kernel,show sizeLine=16777216 from rfl];lia)]
  have a2:a8 (.str (txt m.1++Str.ofString ".")) (.str (txt m.2)) h=some (.str (wrd m),h):=by
   show (if (txt m.1++Str.ofString ".").length+(txt m.2).length≤sizeLine then some (D.str (txt m.1++Str.ofString "."++txt m.2),h) else none)=_;rw [if_pos (by rw [bH,show sizeLine=16777216 from rfl];lia),gX]
  refine cS ?_;walk_at "r";refine rv (s1 _ h1) ?_;walk_at "r";refine rv a1 ?_;walk_at "r";refine rv (s1 _ h2) ?_;walk_at "r";exact rv a2 rfl
 refine cS (jG ?_);walk_at "r";refine ⟨rfl,?_⟩;refine ie (nY (rv e1 (j5 ?_)));refine rv (fH (ns:=ms.map wrd) (ws:=[]) (by show some _=some _;rw [List.map_map];rfl) (Nat.le_trans (dH ms hk (by lia)) (by decide))) ?_;rfl
theorem law_true (ns:List Int) (hn:ns.length≤63):∃h',ku [.ro (ns.map D.int)] []=some (.bl true,h'):=by
 obtain ⟨cs,e0,S0⟩:=jP ns hn 1000 (by decide);have e:Rn (ku [.ro (ns.map D.int)] []) fun p=>p.1=.bl true:=by
  refine cq ?_;walk_at "r";refine rv e0 ?_;walk_at "r";refine jF ?_;walk_at "r";refine ⟨4,rfl,by decide,by decide,?_⟩;refine fC (fun i δ h'=>∃o2 o3 o4 o5 o6,δ=[some (.ro (ns.map D.int)),some (.ob 1),o2,o3,o4,o5,o6]∧St 1 0 cs (1000-201*i) h'∧Cl h') ⟨_,_,_,_,_,rfl,S0,?_⟩ (fun _ _ _ _ _=>rfl) ?_ ?_
  ·intro o ho;simp at ho;rcases ho with rfl | rfl
   ·exact km _ cs
   ·rfl
  ·rintro i x δ h' hx ⟨o2,o3,o4,o5,o6,rfl,S,C⟩;have hi:i < 4:=by
    have:=(List.getElem?_eq_some_iff.mp hx).1
    simpa using this
   rw [show 1000-201*i=1000-201*(i+1)+201 by lia] at S;walk_at "r";refine lj S.sb C fun ms h1 hk hl A1 C1=>?_;walk_at "r";refine rv (mH hk hl) ?_;walk_at "r";refine jF ?_;walk_at "r";refine ⟨2,rfl,by decide,by decide,?_⟩;refine fC (fun i δ h'=>∃o2 o5 o6,δ=[some (.ro (ns.map D.int)),some (.ob 1),o2,some (cw ms),some (.str (aW ms)),o5,o6]∧h'=h1) ⟨_,_,_,rfl,rfl⟩ (fun _ _ _ _ _=>rfl) ?_ ?_
   ·rintro j y δ h' hy ⟨o2,o5,o6,rfl,rfl⟩;walk_at "r";refine rv (cn hk (by lia)) ?_;walk_at "r";refine rv (a:=(.bl true,h')) rfl ⟨true,rfl,fun z=>(nomatch z),fun _=>?_⟩;walk_at "r";rw [beq_self_eq_true];refine ⟨_,rfl,fun z=>(nomatch z),fun _=>?_⟩;walk_at "r";refine rv (cp hk (by lia)) ?_;walk_at "r";refine rv (hZ hl) ?_;refine ⟨true,rfl,fun z=>(nomatch z),fun _=>?_⟩;walk_at "r";exact ⟨_,_,_,rfl,rfl⟩
   ·rintro δ h' ⟨o2,o5,o6,rfl,rfl⟩;walk_at "r";exact ⟨_,_,_,_,_,rfl,A1.S,C1⟩
  ·rintro δ h' ⟨o2,o3,o4,o5,o6,rfl,S,C⟩;walk_at "r";refine rv (cn (ms:=[]) (fun m hm=>(nomatch hm)) (by decide)) ?_;walk_at "r";rw [gv,beq_self_eq_true];refine ⟨_,rfl,fun _=>?_,fun z=>(nomatch z)⟩;walk_at "r";refine rv (cp (ms:=[]) (fun m hm=>(nomatch hm)) (by decide)) ?_;walk_at "r";refine rv (a:=(.bl true,h')) rfl ?_;walk_at "r"
 obtain ⟨⟨d,h'⟩,e1,e2⟩:=e;exact ⟨h',by rw [e1,←e2]⟩
end Mi
open PySem PySem.W PyProof.Rows
theorem Mi.vd:defOf Mi.view "law"=some (Hd.gC "law" Mi.eA,[]):=by kernel_rfl
theorem Mi.hp:PySem.Program.theDef Mi.pw "law"=some (L2.dw Mi.eA,L2.ck Mi.eA,L2.ao Mi.eA):=by kernel_rfl
theorem PySem.Challenge.cw_neverstuck_k82_weavings_written_holds : PySem.Challenge.rw_neverstuck_k82_weavings_written.Holds := by
 refine holds_law Mi.qe fun qe=>?_;refine PySem.W.holds_open (q:=Mi.view) (loose:=[]) (Xt:=Mi.Xt) (XP:=XL Mi.view []) (Yf:=Mi.Yf) (Ya:=fun _=>()) (YP:=fun _ _=>True) (N:=20000) (d:=Hd.gC "law" Mi.eA) (kwd:=[]) Mi.left (fun _ _ _=>trivial) (fun _ _ _ _ _=>trivial) (fun s e=>xl_of s (Bool.and_eq_true_iff.mp e).1) XL.keeps Mi.vd Mi.hp (by kernel_rfl) (fun s e=>recFacts_of (Bool.and_eq_true_iff.mp e).2) (by kernel_rfl) qe (by decide+kernel) ⟨rfl,rfl,rfl,rfl,rfl,by decide+kernel⟩ (by w_witness2) ?_;exact Hd.rQ (k:=22) (by kernel_rfl) (by kernel_rfl) ⟨rfl,by decide,by decide⟩ fun w s₀ mg mb h G _=>Mi.all_mk G.T Mi.law_true
