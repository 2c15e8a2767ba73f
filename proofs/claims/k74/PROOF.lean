import PyProof.Rows.All
import Wide.All
import OpenK.AllK
import Wide.FinOn
import Lean
import PyProof.EqAt
import PyProof.EqKinds
import PyProof.TupleCall
import PyProof.AttrMissHeap
import KE.KDictOf
import PyProof.ConsumeWalk
import PyProof.ZipIter
import PyProof.EnumMake
import KE.KEqDict
import KE.KDictSum
import KE.KItemsList
import PyProof.CallStr
import PyProof.CollectIter
import PyProof.FString
import PyProof.FString5
import PyProof.FactsAll.tuple_2
import PyProof.FactsAll.zip_1
import PyProof.ListMulRoad
import PyProof.ListRange
import PyProof.MeetsStr
import PyProof.NeKinds
import PyProof.Rows.ReprOcc
import PyProof.Rows.RuleDivmod
import PyProof.Rows.SortShell
import PyProof.Rows.StrWeight2
import PyProof.StrCalls2
import PyProof.StrCalls5
import PyProof.StrWalks
import PyProof.WalksMore
import PySem.Challenge.RW_neverstuck_k74_old_numbers
set_option Elab.async false
set_option linter.all false
set_option maxRecDepth 100000
set_option maxHeartbeats 4000000
set_option compiler.small 0
set_option compiler.extract_closed false
set_option compiler.reuse false
noncomputable section
set_option hygiene false
local macro_rules | `(tactic| walk_at "aa") => `(tactic| (walk_at "r";refine ⟨false,by kernel_rfl,fun z=>(nomatch z),fun _=>?_⟩;walk_at "r";refine ⟨false,by kernel_rfl,fun z=>(nomatch z),fun _=>?_⟩;walk_at "r"))
local macro_rules | `(tactic| walk_at "ab") => `(tactic| (intro pins s σ H x y v u Q I rx ry hh;obtain ⟨ρ,h,d,e,z,h',S,rd,re,ee,k⟩:=hh))
local macro_rules | `(tactic| walk_at "ac") => `(tactic| (intro pins s σ H xs us Q I r hh;obtain ⟨ρ,h,ds,z,h',S,l,ee,k⟩:=hh))
local macro_rules | `(tactic| walk_at "ad") => `(tactic| (obtain ⟨⟨x,h1⟩,e1,e2⟩:=bnd e))
local macro_rules | `(tactic| walk_at "ae") => `(tactic| (walk_at "r";refine ⟨_,rfl,fun z=>?_,fun z=>?_⟩))
local macro_rules | `(tactic| walk_at "af") => `(tactic| (walk_at "r";refine mQ ?_;walk_at "r";refine ⟨_,_,rfl,?_⟩))
local macro_rules | `(tactic| walk_at "ag") => `(tactic| (dsimp only [Option.bind_some]))
local macro_rules | `(tactic| walk_at "ah") => `(tactic| (walk_at "r";refine yD ?_;walk_at "r"))
local macro_rules | `(tactic| walk_at "ai") => `(tactic| (intro pins s σ H x xs v us Q I rx rs hh;obtain ⟨ρ,h,d,ds,z,h',S,rd,l,ee,k⟩:=hh))
local macro_rules | `(tactic| walk_at "aj") => `(tactic| (intro X hP hw hK hc i pins s σ H E I hf st hg;subst hP hw hK))
local macro_rules | `(tactic| walk_at "ak") => `(tactic| (subst ey;cases (show u=Value.ref b from ry);obtain ⟨z,hd,xs,rel,dd⟩:=xH I.hok e))
local macro_rules | `(tactic| walk_at "al") => `(tactic| (obtain ⟨⟨ds,h1⟩,e1,e2⟩:=bnd e;refine ⟨ρ,δ,h,ds,h1,R,S,e1,fun vs ρ1 H1 T1 S1 r1=>?_⟩))
set_option hygiene true
abbrev FR:=PySem.W.Frag
namespace Hd
open PySem PySem.W PySem.Spec PyProof.Rows
noncomputable def uo:List Value->Option (List Int)
 | []=>some []
 | .int i _::r=>(uo r).map fun is=>i::is
 | _=>none
noncomputable def uz (v:Value) (t:String):Bool:=match v with
 | .type s=>decide (s=t)
 | _=>false
noncomputable def rowAt (h:Heap) (e:DictEntry):Option (Str×Int×List Int):=match e.key with
 | .str x _=>match e.val with
  | .ref t=>match h.get? t with
   | some u=>if uz u.cls "tuple"&&u.dict.isNone then (match u.data with
     | .seq its _=>if its.size≤100 then (uo its.toList).map fun is=>(x,e.hash,is) else none
     | _=>none) else none
   | none=>none
  | _=>none
 | _=>none
noncomputable def je (h:Heap):List DictEntry->Option (List (Str×Int×List Int))
 | []=>some []
 | e::r=>(rowAt h e).bind fun x=>(je h r).map fun xs=>x::xs
noncomputable def tabAt (h:Heap) (nm:Str):Option (List (Str×Int×List Int)):=match h.nsMap mainGlobals nm with
 | some (.ref a)=>if a==sysModules then none else (match h.get? a with
  | some o=>if uz o.cls "dict"&&o.dict.isNone&&decide (o.slots=#[]) then (match o.data with
    | .dict es _=>je h es.toList
    | _=>none) else none
  | none=>none)
 | _=>none
theorem zf (row:String) (h0:∀w:World,(fencedOpening treeTable p w N).map (fun s₀=>(topFrom treeTable p (w.withFollow row false) N s₀).map (fun s=>(openSeen q loose (importedModules p.main.body) Xt true s,Yf s)))=some (some (openGood q loose,Ya (w.withFollow row false)))) (h1:∀w:World,(fencedOpening treeTable p w N).map (fun s₀=>(topFrom treeTable p (w.withFollow row true) N s₀).map (fun s=>(openSeen q loose (importedModules p.main.body) Xt true s,Yf s)))=some (some (openGood q loose,Ya (w.withFollow row true)))):LeftO p q loose Xt Yf Ya N true:=fun w=>by
 obtain ⟨s₀,a,b0⟩:=Option.map_eq_some_iff.mp (h0 w);obtain ⟨s₁,a1,b1⟩:=Option.map_eq_some_iff.mp (h1 w);have e:=World.withFollow_self w row;unfold openEnds;cases hb:w.params.followText row <;> rw [hb] at e
 ·rw [a];rw [e] at b0;exact b0
 ·rw [a1];rw [e] at b1;exact b1
end Hd
namespace Mi
open PySem
abbrev pw:Program:=PySem.Challenge.pw_neverstuck_k74_old_numbers
noncomputable def top (i:Nat):Stmt:=pw.main.body.getD i (.Pass ⟨0,0,0,0⟩)
noncomputable def iG:List (Str×List Int):=[("say",[2,0]),("call",[3,0]),("within",[2,1]),("all",[2,1]),("ask",[2,2]),("by",[3,3]),("either",[1,2]),("again",[1,1])]
noncomputable def view:Program:={pw with main:={pw.main with body:=[top 1,top 2,top 4,top 5,top 6,top 7,top 8,top 10,top 11,top 12,top 14,top 15,top 16,top 17,top 18,top 19,top 20,top 21,top 22,top 23,top 24,top 25,top 26,top 27,top 28,top 29,top 30,top 31,top 32,top 33,top 34,top 35,top 36,top 37,top 38,top 39]}}
end Mi
local macro_rules | `(tactic| walk_at "s") => `(tactic| exact ⟨rfl, rfl, rfl, by decide +kernel, rfl, by decide +kernel, by decide +kernel⟩)
namespace Mi
open PySem PySem.W PyProof.Rows
abbrev ya (w:World):=some (iG.map fun x:Str×List Int=>(x.1,hashStr w x.1,x.2))
abbrev Xt:Shared->Bool:=fun s=>xlAt view [] s&&recOk (RowW.records (OpenRow.toRowW PySem.Challenge.rw_neverstuck_k74_old_numbers.row)) s
abbrev Yf:Shared->Option (List (Str×Int×List Int)):=fun s=>Hd.tabAt s.heap "SHAPES"
theorem Dw (w:World):(fencedOpening treeTable pw w 20000).map (fun s₀=>(topFrom treeTable pw (w.withFollow "special-get-raises" false) 20000 s₀).map (fun s=>(openSeen view (["SHAPES"]:List Str) (importedModules pw.main.body) Xt true s,Yf s)))=some (some (openGood view (["SHAPES"]:List Str),(ya) (w.withFollow "special-get-raises" false))):=by kernel_rfl
theorem Dv (w:World):(fencedOpening treeTable pw w 20000).map (fun s₀=>(topFrom treeTable pw (w.withFollow "special-get-raises" true) 20000 s₀).map (fun s=>(openSeen view (["SHAPES"]:List Str) (importedModules pw.main.body) Xt true s,Yf s)))=some (some (openGood view (["SHAPES"]:List Str),(ya) (w.withFollow "special-get-raises" true))):=by kernel_rfl
theorem left:LeftO pw view (["SHAPES"]:List Str) Xt Yf (ya) 20000:=Hd.zf "special-get-raises" Dw Dv
theorem Ah:PySem.Challenge.rw_neverstuck_k74_old_numbers.wellSaid=true:=by
 unfold OpenLaw.wellSaid
 repeat (with_reducible refine look_both ?_ (by decide+kernel))
 unfold OpenRow.wellSaid
 repeat (with_reducible refine look_both ?_ (by decide+kernel))
 unfold OpenRow.partSaid
 repeat (with_reducible refine look_both ?_ (by decide+kernel))
 unfold looksOpen
 repeat (with_reducible refine look_both ?_ (by decide+kernel))
 decide+kernel
end Mi
namespace L2
open PySem PySem.Spec PyProof.Rows
abbrev Key:=Sum Int Str
noncomputable def oX:Key->Value->Bool
 | .inl k,v=>Value.isInt k v
 | .inr x,v=>Value.isStrOf x v
noncomputable def Ey (w:World):Key->Int
 | .inl k=>hashInt k
 | .inr x=>hashStr w x
theorem bW:∀{k:Key} {v:Value},oX k v=true->(∃i t,k=Sum.inl i∧v=Value.int i t)∨(∃x t,k=Sum.inr x∧v=Value.str x t)
 | .inl i,v,h=>by
  obtain ⟨t,e⟩:=Value.isInt_shape (k:=i) (v:=v) h;exact .inl ⟨i,t,rfl,e⟩
 | .inr x,v,h=>by
  obtain ⟨t,e⟩:=Value.isStrOf_shape (x:=x) (v:=v) h;exact .inr ⟨x,t,rfl,e⟩
theorem ve (i:Int) (t:Tok):oX (.inl i) (.int i t)=true:=by simp [oX,Value.isInt]
theorem vd (x:Str) (t:Tok):oX (.inr x) (.str x t)=true:=by simp [oX,Value.isStrOf]
theorem BC (a b:Int):decide ((Sum.inl a:Key)=Sum.inl b)=(a==b):=by
 by_cases e:a=b
 ·subst e;simp
 ·have h:¬(Sum.inl a:Key)=Sum.inl b:=fun q=>e (Sum.inl.inj q);rw [decide_eq_false h];exact (beq_eq_false_iff_ne.mpr e).symm
theorem Bz (a b:Str):decide ((Sum.inr a:Key)=Sum.inr b)=decide (a=b):=by
 by_cases e:a=b
 ·subst e;simp
 ·have h:¬(Sum.inr a:Key)=Sum.inr b:=fun q=>e (Sum.inr.inj q);rw [decide_eq_false h,decide_eq_false e]
theorem BB (a:Int) (b:Str):decide ((Sum.inl a:Key)=Sum.inr b)=false:=decide_eq_false (fun q=>nomatch q)
theorem BA (a:Str) (b:Int):decide ((Sum.inr a:Key)=Sum.inl b)=false:=decide_eq_false (fun q=>nomatch q)
noncomputable def bF (prog:Program) (w:World):PySem.KeyKind prog w Key where
 is:=oX
 hash:=Ey w
 inj:=fun v a b ha hb=>by
  rcases bW ha with ⟨i,t,rfl,rfl⟩ | ⟨x,t,rfl,rfl⟩
  ·rcases bW hb with ⟨j,u,rfl,e⟩ | ⟨y,u,rfl,e⟩
   ·injection e with e1 _;rw [e1]
   ·exact nomatch e
  ·rcases bW hb with ⟨j,u,rfl,e⟩ | ⟨y,u,rfl,e⟩
   ·exact nomatch e
   ·injection e with e1 _;rw [e1]
 byValue:=fun k v h=>by
  rcases bW h with ⟨i,t,rfl,rfl⟩ | ⟨x,t,rfl,rfl⟩ <;> rfl
 pyHash:=fun hv h=>by
  rcases bW hv with ⟨i,t,rfl,rfl⟩ | ⟨x,t,rfl,rfl⟩
  ·exact wpAny_pyHash_int h
  ·exact wpAny_pyHash_str h
 eqBool:=fun hu hv h=>by
  rcases bW hu with ⟨i,t,rfl,rfl⟩ | ⟨x,t,rfl,rfl⟩
  ·rcases bW hv with ⟨j,u,rfl,rfl⟩ | ⟨y,u,rfl,rfl⟩
   ·rw [BC] at h;exact wpAny_eqBool_int h
   ·rw [BB] at h;exact SeqAt.EqAt.int_str i t y u _ _ _ _ h
  ·rcases bW hv with ⟨j,u,rfl,rfl⟩ | ⟨y,u,rfl,rfl⟩
   ·rw [BA] at h;exact SeqAt.EqAt.str_int x t j u _ _ _ _ h
   ·rw [Bz] at h;exact wpAny_eqBool_str h
 «strs»:=fun k x t v h=>by
  rcases bW h with ⟨i,u,rfl,e⟩ | ⟨y,u,rfl,e⟩
  ·exact nomatch e
  ·injection e with e1 _
   subst e1;cases v <;> rfl
theorem rL (prog:Program) (w:World) (i:Int) (t:Tok):(bF prog w).is (.inl i) (.int i t)=true:=ve i t
theorem rK (prog:Program) (w:World) (x:Str) (t:Tok):(bF prog w).is (.inr x) (.str x t)=true:=vd x t
inductive V where
 | non | bl (b:Bool) | int (i:Int) | str (x:Str) | byt (b:Array UInt8) | flt (b:UInt64) | ref (a:Addr) | ty (n:String)
 deriving DecidableEq
def RelV:V->Value->Prop
 | .non,u=>u=Value.none
 | .bl b,u=>u=Value.bool b
 | .int i,u=>∃t,u=Value.int i t
 | .str x,u=>∃t,u=Value.str x t
 | .byt b,u=>∃t,u=Value.bytes b t
 | .flt b,u=>∃t,u=Value.float b t
 | .ref a,u=>u=Value.ref a
 | .ty n,u=>u=Value.type n
abbrev Vals:List V->List Value->Prop:=Paired RelV
theorem Vals.length (r:Vals xs us):xs.length=us.length:=Paired.length r
theorem Vals.get:∀{xs:List V} {us:List Value} {i:Nat} {x:V},Vals xs us->xs[i]?=some x->∃u,us[i]?=some u∧RelV x u
 | _,_,_,_,.nil,e=>by simp at e
 | _,_,0,_,.cons r _,e=>by simp at e;subst e;exact ⟨_,rfl,r⟩
 | _,_,i+1,x,.cons _ t,e=>by
  obtain ⟨u,h1,h2⟩:=Vals.get (i:=i) (x:=x) t (by simpa using e);exact ⟨u,by simpa using h1,h2⟩
theorem Vals.set (r:RelV x u):∀{xs:List V} {us:List Value} (i:Nat),Vals xs us->Vals (xs.set i x) (us.set i u)
 | _,_,_,.nil=>.nil
 | _,_,0,.cons _ t=>.cons r t
 | _,_,i+1,.cons q t=>.cons q (Vals.set r i t)
theorem Vals.append:∀{xs ys:List V} {us ws:List Value},Vals xs us->Vals ys ws->Vals (xs++ys) (us++ws)
 | _,_,_,_,.nil,s=>s
 | _,_,_,_,.cons r t,s=>.cons r (Vals.append t s)
theorem Vals.take:∀{xs:List V} {us:List Value} (n:Nat),Vals xs us->Vals (xs.take n) (us.take n)
 | _,_,0,_=>.nil
 | _,_,_+1,.nil=>.nil
 | _,_,n+1,.cons r t=>.cons r (Vals.take n t)
theorem Vals.drop:∀{xs:List V} {us:List Value} (n:Nat),Vals xs us->Vals (xs.drop n) (us.drop n)
 | _,_,0,r=>r
 | _,_,_+1,.nil=>.nil
 | _,_,n+1,.cons _ t=>Vals.drop n t
def lj:Option V->Option Value->Prop
 | some v,some u=>RelV v u
 | none,none=>True
 | _,_=>False
def KV {κ:Type}:List (κ×V)->List (κ×Value)->Prop:=Paired fun (p:κ×V) (q:κ×Value)=>p.1=q.1∧RelV p.2 q.2
noncomputable def kV:Key->V
 | .inl i=>.int i
 | .inr x=>.str x
inductive HO where
 | lst (xs:List V)
 | tup (xs:List V)
 | dK (kvs:List (Key×V)) | dT (kvs:List (List Key×V))
 | set (S:Int->Bool) (n:Nat)
 | ins (C dx:Addr) (fs:List (Str×V))
 | own (x:Addr)
 | xd (fs:List (Str×V))
 | met (f x:Addr)
 | rng (lo hi:Int)
 | frz (o:Obj) (u:HO)
 | tbl (ps:Array Value)
 | ext (φ:Heap->Prop)
abbrev Hp:=Addr->Option HO
noncomputable def upd (H:Hp) (a:Addr) (o:HO):Hp:=fun b=>if b=a then some o else H b
theorem a9:upd H a o a=some o:=by unfold upd;rw [if_pos rfl]
theorem aJ (h:b≠a):upd H a o b=H b:=by unfold upd;rw [if_neg h]
theorem Dn {H:Hp} {a b:Addr} {o u:HO} (h:H a=some o) (h':H b=some u) (d:o≠u):a≠b:=by
 intro e;subst e;rw [h] at h';exact d (Option.some.inj h')
theorem aU {H:Hp} {a b:Addr} {o:HO} (h:H a=some o) (h':H b=none):a≠b:=by
 intro e;subst e;rw [h] at h';cases h'
def su (h:Heap) (a:Addr) (items:Array Value):Prop:=∃o,h.get? a=some o∧o.cls=.type "tuple"∧(∃n,o.data=.seq items n)∧o.dict=none
theorem su.tup (x:su h a items):IsTup h a items:=let ⟨o,e,c,d,_⟩:=x;⟨o,e,c,d⟩
theorem su.new (h:Heap) (items:Array Value):su (h.push {cls:=.type "tuple",data:=.seq items}) h.objs.size items:=⟨_,Heap.get?_push_size _ rfl,rfl,⟨_,rfl⟩,rfl⟩
section
variable (P:Program) (w:World)
def cj (H:Hp) (h:Heap) (a:Addr):HO->Prop
 | .lst xs=>xs.length≤sizeLine∧∃(its:List Value) (n:Nat),Vals xs its∧h.get? a=some {cls:=.type "list",data:=.seq its.toArray n}
 | .tup xs=>xs.length≤sizeLine∧∃its:List Value,Vals xs its∧su h a its.toArray
 | .dK kvs=>kvs.length≤sizeLine∧(a==sysModules)=false∧∃vs,KV kvs vs∧h.DictOf (bF P w) a vs
 | .dT kvs=>kvs.length≤sizeLine∧(a==sysModules)=false∧∃xs:List (List Key×Addr×Value),
   Paired (fun (p:List Key×V) (q:List Key×Addr×Value)=>p.1=q.1∧H q.2.1=some (.tup (p.1.map kV))∧RelV p.2 q.2.2) kvs xs∧
   ∃o es ep,h.get? a=some o∧o.ExactDict∧o.data=.dict es ep∧es.toList=xs.map (entryOfKey (tupleKind (bF P w)))∧(xs.map (·.1)).Nodup
 | .set S n=>h.SetOf (intKind P w) a S n
 | .ins C dx fs=>H dx=some (.own a)∧fs.length≤1000∧dx≠a∧h.get? a=some (PySem.W.instObj C dx)∧
   ∃mA,h.Ns1 dx mA∧(∀f,lj (fs.lookup f) (mA f))∧PySem.Within mA (fs.map (·.1))
 | .own _=>∃o,h.get? a=some o
 | .xd fs=>∃mA,h.Ns1 a mA∧∀f,lj (fs.lookup f) (mA f)
 | .rng lo hi=>∃t u v,h.get? a=some {cls:=.type "range",data:=.fields #[.int lo t,.int hi u,.int 1 v]}
 | .frz o u=>h.get? a=some o∧cj H h a u
 | .tbl ps=>h.get? a=some {cls:=.none,data:=.fields ps}
 | .met f x=>h.get? a=some (PySem.W.methodObj (.ref f) (.ref x))
 | .ext φ=>φ h∧(∃o,h.get? a=some o)∧∀h1 h2:Heap,φ h1->(∀o,h1.get? a=some o->h2.get? a=some o)->φ h2
def HOk (H:Hp) (h:Heap):Prop:=∀a o,H a=some o->cj P w H h a o
end
theorem cj.lt (x:cj P w H h a o):a < h.objs.size:=by
 cases o with
 | lst xs=>obtain ⟨_,_,_,_,e⟩:=x;exact Heap.lt_size e
 | tup xs=>obtain ⟨_,_,_,p⟩:=x;exact p.tup.lt
 | dK kvs=>obtain ⟨_,_,_,_,o,_,_,e,_⟩:=x;exact Heap.lt_size e
 | dT kvs=>obtain ⟨_,_,_,_,o,_,_,e,_⟩:=x;exact Heap.lt_size e
 | set S n=>obtain ⟨o,_,_,_,e,_⟩:=x;exact Heap.lt_size e
 | ins C dx fs=>obtain ⟨_,_,_,e,_⟩:=x;exact Heap.lt_size e
 | own y=>obtain ⟨_,e⟩:=x;exact Heap.lt_size e
 | xd fs=>obtain ⟨_,⟨_,_,_,e,_⟩,_⟩:=x;exact Heap.lt_size e
 | rng lo hi=>obtain ⟨_,_,_,e⟩:=x;exact Heap.lt_size e
 | frz ob u=>obtain ⟨e,_⟩:=x;exact Heap.lt_size e
 | tbl ps=>exact Heap.lt_size (show h.get? a=some _ from x)
 | met f y=>exact Heap.lt_size (show h.get? a=some _ from x)
 | ext φ=>obtain ⟨_,⟨_,e⟩,_⟩:=x;exact Heap.lt_size e
theorem Paired.Bq:∀{l₁:List α} {l₂:List β},Paired F l₁ l₂->(∀a b,F a b->G a b)->Paired G l₁ l₂
 | _,_,.nil,_=>.nil
 | _,_,.cons r t,f=>.cons (f _ _ r) (Paired.Bq t f)
theorem cj.qY (x:cj P w H h a o) (k:∀b u,(b=a∨H b=some (.own a))->h.get? b=some u->h'.get? b=some u)
  (ho:∀b,H b=some (.own a)->H' b=some (.own a)) (ht:∀b xs,H b=some (.tup xs)->H' b=some (.tup xs)):cj P w H' h' a o:=by
 induction o with
 | lst xs=>obtain ⟨z,its,n,r,e⟩:=x;exact ⟨z,its,n,r,k _ _ (.inl rfl) e⟩
 | tup xs=>obtain ⟨z,its,r,ob,e,c⟩:=x;exact ⟨z,its,r,ob,k _ _ (.inl rfl) e,c⟩
 | dK kvs=>obtain ⟨z,y,vs,r,ob,es,ep,e,c⟩:=x;exact ⟨z,y,vs,r,ob,es,ep,k _ _ (.inl rfl) e,c⟩
 | dT kvs=>
  obtain ⟨z,y,xs,r,ob,es,ep,e,c⟩:=x;exact ⟨z,y,xs,Paired.Bq r fun p q z=>⟨z.1,ht _ _ z.2.1,z.2.2⟩,ob,es,ep,k _ _ (.inl rfl) e,c⟩
 | set S n=>obtain ⟨ob,es,ep,t,e,c⟩:=x;exact ⟨ob,es,ep,t,k _ _ (.inl rfl) e,c⟩
 | ins C dx fs=>
  obtain ⟨d,z,ne,e,mA,⟨od,es,ep,e2,c⟩,r⟩:=x;exact ⟨ho _ d,z,ne,k _ _ (.inl rfl) e,mA,⟨od,es,ep,k _ _ (.inr d) e2,c⟩,r⟩
 | own y=>obtain ⟨ob,e⟩:=x;exact ⟨ob,k _ _ (.inl rfl) e⟩
 | xd fs=>obtain ⟨mA,⟨od,es,ep,e,c⟩,r⟩:=x;exact ⟨mA,⟨od,es,ep,k _ _ (.inl rfl) e,c⟩,r⟩
 | rng lo hi=>obtain ⟨t,u,v,e⟩:=x;exact ⟨t,u,v,k _ _ (.inl rfl) e⟩
 | frz ob u ih=>obtain ⟨e,q⟩:=x;exact ⟨k _ _ (.inl rfl) e,ih q⟩
 | tbl ps=>
  have e:h.get? a=some {cls:=.none,data:=.fields ps}:=x;show h'.get? a=some {cls:=.none,data:=.fields ps};exact k a _ (.inl rfl) e
 | met f y=>
  have e:h.get? a=some (PySem.W.methodObj (.ref f) (.ref y)):=x;show h'.get? a=some (PySem.W.methodObj (.ref f) (.ref y));exact k a _ (.inl rfl) e
 | ext φ=>obtain ⟨p,⟨o,e⟩,st⟩:=x;exact ⟨st _ _ p fun o q=>k _ _ (.inl rfl) q,⟨o,k _ _ (.inl rfl) e⟩,st⟩
theorem HOk.lt (x:HOk P w H h) (e:H a=some o):a < h.objs.size:=(x a o e).lt
theorem HOk.fresh (x:HOk P w H h) (e:h.objs.size≤a):H a=none:=by
 cases q:H a with
 | none=>rfl
 | some u=>exact absurd (Nat.lt_of_lt_of_le (x.lt q) e) (Nat.lt_irrefl _)
theorem HOk.kept (x:HOk P w H h) (k:∀b u,h.get? b=some u->h'.get? b=some u):HOk P w H h':=fun a o e=>
 (x a o e).qY (fun b u _ q=>k b u q) (fun _ q=>q) fun _ _ q=>q
theorem HOk.laid (x:HOk P w H h) (k:∀b u,h.get? b=some u->h'.get? b=some u) (hp:h.objs.size≤a) (new:cj P w (upd H a o) h' a o):HOk P w (upd H a o) h':=fun b u e=>by
 have hn:=x.fresh hp
 by_cases hb:b=a
 ·subst hb;rw [a9] at e;cases e;exact new
 ·rw [aJ hb] at e;exact (x b u e).qY (fun c v _ q=>k c v q) (fun c q=>by rw [aJ (aU q hn)];exact q) fun c xs q=>by rw [aJ (aU q hn)];exact q
def Rd (H:Hp) (a:Addr) (u:HO):Prop:=H a=some u∨∃o,H a=some (.frz o u)
theorem Rd.ok (r:Rd H a u) (x:HOk P w H h):cj P w H h a u:=by
 rcases r with r | ⟨o,r⟩
 ·exact x a u r
 ·obtain ⟨_,q⟩:=x a _ r;exact q
def Mut:Option HO->Prop
 | some (.lst _)=>True
 | some (.dK _)=>True
 | some (.dT _)=>True
 | some (.set _ _)=>True
 | some (.ins _ _ _)=>True
 | some (.ext _)=>True
 | _=>False
theorem HOk.write (ok:HOk P w H h) (mu:Mut (H x)) (he:e=x∨H e=some (.own x)) (k:∀b u,b≠e->h.get? b=some u->h'.get? b=some u) (heo:∃u,h'.get? e=some u)
  (new:cj P w (upd H x o') h' x o'):HOk P w (upd H x o') h':=fun b u q=>by
 have nown:∀c y,H c=some (.own y)->c≠x:=fun c y r z=>by subst z;rw [r] at mu;exact mu
 have ntup:∀c xs,H c=some (.tup xs)->c≠x:=fun c xs r z=>by subst z;rw [r] at mu;exact mu
 by_cases hb:b=x
 ·subst hb;rw [a9] at q;cases q;exact new
 ·rw [aJ hb] at q
  by_cases hbe:b=e
  ·have q':H b=some (.own x):=by
    rcases he with z | z
    ·exact absurd (hbe.trans z) hb
    ·rw [hbe];exact z
   rw [q] at q';cases q';obtain ⟨v,hv⟩:=heo;exact ⟨v,by rw [hbe];exact hv⟩
  ·refine (ok b u q).qY (fun c v hc r=>k c v ?_ r) (fun c r=>by rw [aJ (nown c b r)];exact r) fun c xs r=>by rw [aJ (ntup c xs r)];exact r
   rcases hc with rfl | hc
   ·exact hbe
   ·rintro rfl;rcases he with z | z
    ·exact nown c b hc z
    ·rw [hc] at z;cases z;exact hb rfl
structure Un (fs ex:List Addr) (H H':Hp) (h h':Heap):Prop where
 keep:∀b o,h.get? b=some o->H b=none->b∉fs->b∉ex->h'.get? b=some o
 slot:∀b o,h.get? b=some o->H b=none->b∈fs->b∉ex->∃sl,h'.get? b=some {o with slots:=sl}
 free:∀b o,h.get? b=some o->H b=none->b∉ex->H' b=none
 there:∀b o,h.get? b=some o->b∉ex->∃o',h'.get? b=some o'
 tups:∀b xs,H b=some (.tup xs)->H' b=some (.tup xs)
 frzs:∀b o u,H b=some (.frz o u)->H' b=some (.frz o u)
 tbls:∀b ps,H b=some (.tbl ps)->∃more,H' b=some (.tbl (ps++more))
theorem Un.any (u:Un fs ex H H1 h h1) (q:h.get? b=some ob) (n:H b=none) (hx:b∉ex):∃sl,h1.get? b=some {ob with slots:=sl}:=by
 by_cases hb:b∈fs
 ·exact u.slot b ob q n hb hx
 ·exact ⟨ob.slots,u.keep b ob q n hb hx⟩
theorem Un.kept (k:∀b u,h.get? b=some u->h'.get? b=some u):Un fs ex H H h h':=
 ⟨fun b ob q _ _ _=>k b ob q,fun b ob q _ _ _=>⟨ob.slots,k b ob q⟩,fun _ _ _ n _=>n,fun b ob q _=>⟨ob,k b ob q⟩,fun _ _ q=>q,fun _ _ _ q=>q,fun _ ps q=>⟨#[],by rw [q];simp⟩⟩
theorem Un.refl:Un fs ex H H h h:=Un.kept fun _ _ q=>q
theorem Un.laid (k:∀b u,h.get? b=some u->h'.get? b=some u) (hp:h.objs.size≤a) (hn:H a=none):Un fs ex H (upd H a o) h h' where
 keep:=fun b u q _ _ _=>k b u q
 slot:=fun b u q _ _ _=>⟨u.slots,k b u q⟩
 free:=fun b u q n _=>by rw [aJ (Nat.ne_of_lt (Nat.lt_of_lt_of_le (Heap.lt_size q) hp))];exact n
 there:=fun b u q _=>⟨u,k b u q⟩
 tups:=fun b xs q=>by rw [aJ (aU q hn)];exact q
 frzs:=fun b u xs q=>by rw [aJ (aU q hn)];exact q
 tbls:=fun b ps q=>⟨#[],by rw [aJ (aU q hn),q];simp⟩
theorem Un.write (mu:Mut (H x)) (he:e=x∨H e=some (.own x)) (k:∀b u,b≠e->h.get? b=some u->h'.get? b=some u) (heo:∃u,h'.get? e=some u):Un fs ex H (upd H x o) h h':=by
 have hx:∀b,H b=none->b≠x:=fun b n z=>by subst z;rw [n] at mu;exact mu
 have hb:∀b,H b=none->b≠e:=fun b n z=>by
  subst z;rcases he with r | r
  ·exact hx b n r
  ·rw [n] at r;cases r
 have hm:∀b u,H b=some u->¬Mut (some u)->b≠x:=fun b u q nm z=>by subst z;rw [q] at mu;exact nm mu
 refine ⟨fun b u q n _ _=>k b u (hb b n) q,fun b u q n _ _=>⟨u.slots,k b u (hb b n) q⟩,fun b u q n _=>by rw [aJ (hx b n)];exact n,fun b u q _=>?_,
  fun b xs q=>by rw [aJ (hm b _ q fun z=>z)];exact q,fun b u xs q=>by rw [aJ (hm b _ q fun z=>z)];exact q,fun b ps q=>⟨#[],by rw [aJ (hm b _ q fun z=>z),q];simp⟩⟩
 by_cases hbe:b=e
 ·subst hbe;exact heo
 ·exact ⟨u,k b u hbe q⟩
noncomputable def trk (h:Heap) (H:Hp):List Addr:=(List.range h.objs.size).filter fun a=>(H a).isSome
noncomputable def qu (h:Heap) (H:Hp):Heap:=PySem.W.hideAll h (trk h H)
theorem vh (h:Heap) (H:Hp):(qu h H).objs.size=h.objs.size:=PySem.W.hideAll_size _ _
theorem xq (e:h.get? b=some o) (n:H b=none):(qu h H).get? b=some o:=
 PySem.W.hideAll_get _ e fun hm=>by
  have q:(H b).isSome=true:=(List.mem_filter.mp hm).2;rw [n] at q;simp at q
theorem y8 (e:(qu h H).get? b=some o):h.get? b=some o∧H b=none:=by
 have e':h.get? b=some o:=PySem.W.of_hideAll (trk h H) e;refine ⟨e',?_⟩;cases q:H b with
 | none=>rfl
 | some x=>
  have hm:b∈trk h H:=List.mem_filter.mpr ⟨List.mem_range.mpr (Heap.lt_size e'),by simp [q]⟩;have z:(qu h H).get? b=none:=PySem.W.hideAll_none (trk h H) hm;rw [z] at e;cases e
structure Mod (K:FR) (mg:Str->Option Value) (base:Heap):Prop where
 kin:K.In base
 glob:base.Ns mainGlobals mg
 blt:∃mb,base.Ns builtinsNs mb∧∀x:Str,x≠"__name__"->mb x=bootBuiltins x
 nolimit:base.NoLimit
structure Cx where
 prog:Program
 w:World
 K:FR
 mg:Str->Option Value
 base:Heap
 A:Around
 N:List Str
 s₀:Shared
 H₀:Hp
 env:Env
 outer:List Env
 stack:List Env
 ex:List Addr
 fn:Str->Bool
 calm:Bool
 pn:List (Addr×Obj)
 xe:Value->Shared->Prop
noncomputable def frs (l:List Env):List Addr:=l.filterMap (·.frame)
abbrev Cx.fs (X:Cx):List Addr:=frs X.outer
def Vis (sc:Scope) (x:Str):Prop:=sc.names.lookup x=some .local∨sc.names.lookup x=some .cell∨sc.names.lookup x=some .free
def Loc (sc:Scope) (x:Str):Prop:=sc.names.lookup x=some .local∨sc.names.lookup x=some .cell
def Look (env:Env) (h:Heap) (m:Str->Option Value) (x:Str) (u:Value):Prop:=
 (env.kindOf x=some .local∧m x=some u)∨((env.kindOf x=some .cell∨env.kindOf x=some .free)∧∃c,env.cells.lookup x=some c∧h.IsCell c (some u))
structure Cx.Ok (X:Cx):Prop where
 mod:Mod X.K X.mg X.base
 kind:X.env.scope.kind=.function
 glob:X.env.globals=mainGlobals
 blt:X.env.builtins=builtinsNs
 above:X.s₀.heap.objs.size≤X.env.locals
 inj:∀x y c,X.env.cells.lookup x=some c->X.env.cells.lookup y=some c->x=y
 has:∀x,(X.env.kindOf x=some .cell∨X.env.kindOf x=some .free)->∃c,X.env.cells.lookup x=some c
 cab:∀x c,X.fn x=true->X.env.cells.lookup x=some c->X.s₀.heap.objs.size≤c
 hd:X.calm=true->X.A.handled=none
 frames:X.A.frames=some X.stack
 stk:X.stack=X.outer∨(X.stack=X.env::X.outer∧X.env.frame=some X.env.locals)
 exf:∀b∈X.ex,b≠X.env.locals∧∀x c,X.env.cells.lookup x=some c->c≠b
 bs:∀b o,X.base.get? b=some o->X.s₀.heap.get? b=some o∧X.H₀ b=none
 bsz:X.base.objs.size≤X.s₀.heap.objs.size
 noex:∀b o,X.base.get? b=some o->b∉X.ex
 exfs:∀b∈X.ex,b∉X.fs
 nq:X.s₀.heap.FunFrames X.base X.outer
 frf:∀b∈X.fs,X.H₀ b=none
structure Inv (X:Cx) (pins:List (Addr×Obj)) (σ:List (Option V)) (H:Hp) (s:Shared):Prop where
 ok:X.Ok
 os:s.os=X.s₀.os
 bare:AllBare s.gens
 base:Un X.fs X.ex X.H₀ H X.s₀.heap s.heap
 loc:∃m,s.heap.Ns X.env.locals m∧∀(i:Nat) (x:Str) (v:V),X.N[i]?=some x->σ[i]?=some (some v)->Vis X.env.scope x->∃u,RelV v u∧Look X.env s.heap m x u
 cell:∀x c,X.env.cells.lookup x=some c->∃v,s.heap.IsCell c v
 free:H X.env.locals=none
 freeC:∀x c,X.env.cells.lookup x=some c->H c=none
 pin:∀p∈X.pn++pins,s.heap.get? p.1=some p.2∧H p.1=none∧p.1≠X.env.locals∧p.1∉X.fs∧∀v,p.2.data≠.cell v
 hok:HOk X.prog X.w H s.heap
 len:σ.length=X.N.length
section
variable {X:Cx} {pins:List (Addr×Obj)} {σ:List (Option V)} {H H':Hp} {s:Shared} {h':Heap}
theorem Cx.Ok.Er (ok:X.Ok) (e:X.base.get? b=some o):b∉X.fs:=fun hb=>by
 have:=(ok.nq.mem hb).1;rw [e] at this;cases this
theorem Inv.bs (I:Inv X pins σ H s):∀b o,X.base.get? b=some o->s.heap.get? b=some o∧H b=none:=fun b o e=>
 ⟨I.base.keep b o (I.ok.bs b o e).1 (I.ok.bs b o e).2 (I.ok.Er e) (I.ok.noex b o e),I.base.free b o (I.ok.bs b o e).1 (I.ok.bs b o e).2 (I.ok.noex b o e)⟩
theorem Inv.bk (I:Inv X pins σ H s):∀b o,X.base.get? b=some o->s.heap.get? b=some o:=fun b o e=>(I.bs b o e).1
theorem Inv.mod (I:Inv X pins σ H s):Mod X.K X.mg X.base:=I.ok.mod
theorem Inv.kIn (I:Inv X pins σ H s):X.K.In s.heap:=I.ok.mod.kin.keeps I.bk
theorem Inv.lt (I:Inv X pins σ H s):X.env.locals < s.heap.objs.size:=let ⟨_,hn,_⟩:=I.loc;hn.lt
theorem Inv.sz (I:Inv X pins σ H s):X.s₀.heap.objs.size≤s.heap.objs.size:=Nat.le_trans I.ok.above (Nat.le_of_lt I.lt)
theorem Inv.Ep (I:Inv X pins σ H s) (h:s.heap.objs.size≤a):a∉X.fs:=fun hb=>by
 obtain ⟨_,o,ho,_⟩:=I.ok.nq.mem hb;exact absurd (Nat.lt_of_lt_of_le (Heap.lt_size ho) (Nat.le_trans I.sz h)) (Nat.lt_irrefl _)
theorem Inv.cne (I:Inv X pins σ H s):∀x c,X.env.cells.lookup x=some c->c≠X.env.locals:=fun x c e z=>by
 obtain ⟨v,o,ho,hd⟩:=I.cell x c e;obtain ⟨m,⟨o',es,ep,ho',hd',_⟩,_⟩:=I.loc;rw [z,ho'] at ho;cases ho;rw [hd'] at hd;cases hd
theorem Inv.nq (I:Inv X pins σ H s):s.heap.FunFrames X.base X.outer:=by
 have all:∀(l:List Env),(∀b∈frs l,b∈X.fs)->X.s₀.heap.FunFrames X.base l->s.heap.FunFrames X.base l:=by
  intro l
  induction l with
  | nil=>intro _ _;trivial
  | cons env r ih=>
   intro hs hl;obtain ⟨hk,⟨L,o,hf,hn,ho,hd⟩,hr⟩:=hl;have hL:L∈X.fs:=hs L (by unfold frs;rw [List.filterMap_cons,hf];exact List.mem_cons_self);obtain ⟨sl,e⟩:=I.base.slot L o ho (I.ok.frf L hL) hL fun z=>I.ok.exfs L z hL;exact ⟨hk,⟨L,_,hf,hn,e,hd⟩,ih (fun b hb=>hs b (by unfold frs;rw [List.filterMap_cons,hf];exact List.mem_cons_of_mem _ hb)) hr⟩
 exact all X.outer (fun _ hb=>hb) I.ok.nq
theorem Inv.stack (I:Inv X pins σ H s):s.heap.FunFrames X.base X.stack:=by
 rcases I.ok.stk with e | ⟨e,hf⟩
 ·rw [e];exact I.nq
 ·rw [e];obtain ⟨m,hn,_⟩:=I.loc;refine .cons (by rw [I.ok.kind];decide) hf hn ?_ I.nq;exact Heap.get?_none_of_le (Nat.le_trans I.ok.bsz I.ok.above)
theorem Inv.mC (I:Inv X pins σ H s):∀b∈frs X.stack,b∈X.env.locals::X.fs:=fun b hb=>by
 rcases I.ok.stk with e | ⟨e,hf⟩
 ·rw [e] at hb;exact List.mem_cons_of_mem _ hb
 ·rw [e] at hb;unfold frs at hb;rw [List.filterMap_cons,hf] at hb;exact hb
theorem Inv.tY (I:Inv X pins σ H s):∀b∈frs X.stack,H b=none:=fun b hb=>by
 rcases List.mem_cons.mp (I.mC b hb) with e | hb
 ·rw [e];exact I.free
 ·obtain ⟨_,o,ho,_⟩:=I.ok.nq.mem hb;exact I.base.free b o ho (I.ok.frf b hb) fun z=>I.ok.exfs b z hb
theorem Inv.step {g':Array GenState} {t':Nat} {d':Drawn} {ch:List Addr} (I:Inv X pins σ H s)
  (hch:∀b∈ch,(b∈X.ex∨X.s₀.heap.objs.size≤b)∧b≠X.env.locals∧(∀x c,X.env.cells.lookup x=some c->c≠b)∧∀p∈X.pn++pins,p.1≠b)
  (keep:∀b o,b≠X.env.locals->b∉X.fs->b∉ch->s.heap.get? b=some o->H b=none->h'.get? b=some o)
  (slot:∀b o,b≠X.env.locals->b∈X.fs->b∉ch->s.heap.get? b=some o->H b=none->∃sl,h'.get? b=some {o with slots:=sl}) (free:∀b o,b∉ch->s.heap.get? b=some o->H b=none->H' b=none)
  (there:∀b o,b∉ch->s.heap.get? b=some o->∃o',h'.get? b=some o')
  (tups:∀b xs,H b=some (.tup xs)->H' b=some (.tup xs)) (frzs:∀b o u,H b=some (.frz o u)->H' b=some (.frz o u)) (tbls:∀b ps,H b=some (.tbl ps)->∃more,H' b=some (.tbl (ps++more)))
  (ns:∀m,s.heap.Ns X.env.locals m->h'.Ns X.env.locals m) (hok:HOk X.prog X.w H' h') (hg:AllBare g'):
  Inv X pins σ H' {s with heap:=h',gens:=g',drawn:=d',toks:=t'}:=by
 have neL:∀b o,X.s₀.heap.get? b=some o->b≠X.env.locals:=fun b o e=>Nat.ne_of_lt (Nat.lt_of_lt_of_le (Heap.lt_size e) I.ok.above);have neC:∀b o,X.s₀.heap.get? b=some o->b∉X.ex->b∉ch:=fun b o e hx hb=>by
  rcases (hch b hb).1 with z | z
  ·exact hx z
  ·exact absurd (Nat.lt_of_lt_of_le (Heap.lt_size e) z) (Nat.lt_irrefl _)
 have cellK:∀x c,X.env.cells.lookup x=some c->∀v,s.heap.IsCell c v->h'.IsCell c v:=fun x c e v ⟨o,ho,hd⟩=>by
  have nch:c∉ch:=fun z=>(hch c z).2.2.1 x c e rfl
  by_cases hc:c∈X.fs
  ·obtain ⟨sl,q⟩:=slot c o (I.cne x c e) hc nch ho (I.freeC x c e);exact ⟨_,q,hd⟩
  ·exact ⟨o,keep c o (I.cne x c e) hc nch ho (I.freeC x c e),hd⟩
 refine ⟨I.ok,I.os,hg,⟨fun b o e n hb hx=>?_,fun b o e n hb hx=>?_,fun b o e n hx=>?_,fun b o e hx=>?_,fun b xs e=>tups b xs (I.base.tups b xs e),fun b o xs e=>frzs b o xs (I.base.frzs b o xs e),fun b ps e=>?_⟩,?_,fun x c e=>?_,?_,fun x c e=>?_,fun p hp=>?_,hok,I.len⟩
 ·exact keep b o (neL b o e) hb (neC b o e hx) (I.base.keep b o e n hb hx) (I.base.free b o e n hx)
 ·obtain ⟨sl,e1⟩:=I.base.slot b o e n hb hx;obtain ⟨sl',e2⟩:=slot b _ (neL b o e) hb (neC b o e hx) e1 (I.base.free b o e n hx);exact ⟨sl',e2⟩
 ·obtain ⟨o',e1⟩:=I.base.there b o e hx;exact free b o' (neC b o e hx) e1 (I.base.free b o e n hx)
 ·obtain ⟨o',e1⟩:=I.base.there b o e hx;exact there b o' (neC b o e hx) e1
 ·obtain ⟨m1,e1⟩:=I.base.tbls b ps e;obtain ⟨m2,e2⟩:=tbls b _ e1;exact ⟨m1++m2,by rw [e2,Array.append_assoc]⟩
 ·obtain ⟨m,hn,hl⟩:=I.loc;refine ⟨m,ns m hn,fun i x v e1 e2 e3=>?_⟩;obtain ⟨u,r,l⟩:=hl i x v e1 e2 e3;refine ⟨u,r,?_⟩;rcases l with l | ⟨k,c,e,z⟩
  ·exact .inl l
  ·exact .inr ⟨k,c,e,cellK x c e _ z⟩
 ·obtain ⟨v,z⟩:=I.cell x c e;exact ⟨v,cellK x c e v z⟩
 ·obtain ⟨m,⟨o,_,_,ho,_⟩,_⟩:=I.loc;exact free _ o (fun z=>(hch _ z).2.1 rfl) ho I.free
 ·obtain ⟨v,o,ho,hd⟩:=I.cell x c e;exact free c o (fun z=>(hch c z).2.2.1 x c e rfl) ho (I.freeC x c e)
 ·obtain ⟨e,n,ne,nf,d⟩:=I.pin p hp;have nch:p.1∉ch:=fun z=>(hch p.1 z).2.2.2 p hp rfl;exact ⟨keep p.1 p.2 ne nf nch e n,free p.1 p.2 nch e n,ne,nf,d⟩
theorem Inv.un {t':Nat} (I:Inv X pins σ H s) (u:Un X.fs [] H H' s.heap h') (hok:HOk X.prog X.w H' h'):Inv X pins σ H' {s with heap:=h',toks:=t'}:=by
 obtain ⟨m,⟨o,es,ep,ho,r⟩,_⟩:=id I.loc;obtain ⟨sl,hL⟩:=u.any ho I.free (by simp);exact I.step (g':=s.gens) (d':=s.drawn) (ch:=[]) (fun _ z=>nomatch z) (fun b o _ hb _ e n=>u.keep b o e n hb (by simp)) (fun b o _ hb _ e n=>u.slot b o e n hb (by simp)) (fun b o _ e n=>u.free b o e n (by simp)) (fun b o _ e=>u.there b o e (by simp)) u.tups u.frzs u.tbls (fun m' hm=>by
  obtain ⟨o',es',ep',ho',r'⟩:=hm;rw [ho] at ho';cases ho';exact ⟨_,es',ep',hL,r'⟩) hok I.bare
theorem Inv.call {g':Array GenState} {t':Nat} {d':Drawn} {ch:List Addr} (I:Inv X pins σ H s) (u:Un (frs X.stack) ch H H' s.heap h') (hok:HOk X.prog X.w H' h') (hg:AllBare g')
  (hch:∀b∈ch,(b∈X.ex∨X.s₀.heap.objs.size≤b)∧b≠X.env.locals∧(∀x c,X.env.cells.lookup x=some c->c≠b)∧∀p∈X.pn++pins,p.1≠b):
  Inv X pins σ H' {s with heap:=h',gens:=g',drawn:=d',toks:=t'}:=by
 obtain ⟨m,⟨o,es,ep,ho,r⟩,_⟩:=id I.loc;obtain ⟨sl,hL⟩:=u.any ho I.free fun z=>(hch _ z).2.1 rfl;exact I.step (ch:=ch) hch (fun b o hL hb hc e n=>u.keep b o e n (fun z=>(List.mem_cons.mp (I.mC b z)).elim hL hb) hc) (fun b o _ _ hc e n=>u.any e n hc) (fun b o hc e n=>u.free b o e n hc) (fun b o hc e=>u.there b o e hc) u.tups u.frzs u.tbls (fun m' hm=>by
  obtain ⟨o',es',ep',ho',r'⟩:=hm;rw [ho] at ho';cases ho';exact ⟨_,es',ep',hL,r'⟩) hok hg
theorem Inv.turned {t':Nat} {it:Addr} (I:Inv X pins σ H s) (k:∀b o,b≠it->s.heap.get? b=some o->h'.get? b=some o) (hn:H it=none) (hL:it≠X.env.locals)
  (h1:it∈X.ex∨X.s₀.heap.objs.size≤it) (h2:∀x c,X.env.cells.lookup x=some c->c≠it) (h3:∀p∈X.pn++pins,p.1≠it):Inv X pins σ H {s with heap:=h',toks:=t'}:=by
 have nit:∀b u,H b=some u->b≠it:=fun b u e z=>by rw [z,hn] at e;cases e
 refine I.step (g':=s.gens) (d':=s.drawn) (ch:=[it]) (fun b hb=>?_) (fun b o _ _ hc e _=>k b o (fun z=>hc (by simp [z])) e) (fun b o _ _ hc e _=>⟨o.slots,k b o (fun z=>hc (by simp [z])) e⟩) (fun _ _ _ _ n=>n)
  (fun b o hc e=>⟨o,k b o (fun z=>hc (by simp [z])) e⟩) (fun _ _ e=>e) (fun _ _ _ e=>e) (fun b ps e=>⟨#[],by rw [e];simp⟩) (fun m hm=>?_) (fun b u e=>?_) I.bare
 ·have e:b=it:=by simpa using hb
  subst e;exact ⟨h1,hL,h2,h3⟩
 ·obtain ⟨o,es,ep,ho,r⟩:=hm;exact ⟨o,es,ep,k _ o (Ne.symm hL) ho,r⟩
 ·refine (I.hok b u e).qY (fun c v hc q=>k c v ?_ q) (fun _ q=>q) fun _ _ q=>q;rcases hc with z | z
  ·rw [z];exact nit b u e
  ·exact nit c _ z
theorem Inv.tok (I:Inv X pins σ H s) (t:Nat):Inv X pins σ H {s with toks:=t}:=I.un (h':=s.heap) (t':=t) Un.refl I.hok
theorem Inv.kept (I:Inv X pins σ H s) (k:∀b u,s.heap.get? b=some u->h'.get? b=some u):Inv X pins σ H {s with heap:=h',toks:=t'}:=I.un (Un.kept k) (I.hok.kept k)
theorem Inv.laid (I:Inv X pins σ H s) (k:∀b u,s.heap.get? b=some u->h'.get? b=some u) (hp:s.heap.objs.size≤a) (new:cj X.prog X.w (upd H a o) h' a o):
  Inv X pins σ (upd H a o) {s with heap:=h',toks:=t'}:=I.un (Un.laid k hp (I.hok.fresh hp)) (I.hok.laid k hp new)
theorem Inv.write (I:Inv X pins σ H s) (mu:Mut (H x)) (he:e=x∨H e=some (.own x)) (k:∀b u,b≠e->s.heap.get? b=some u->h'.get? b=some u) (heo:∃u,h'.get? e=some u) (new:cj X.prog X.w (upd H x o) h' x o):Inv X pins σ (upd H x o) {s with heap:=h',toks:=t'}:=I.un (Un.write mu he k heo) (I.hok.write mu he k heo new)
theorem Inv.ub (I:Inv X pins σ H s) (h:∀p∈pins',s.heap.get? p.1=some p.2∧H p.1=none∧p.1≠X.env.locals∧p.1∉X.fs∧∀v,p.2.data≠.cell v):Inv X pins' σ H s:=
 ⟨I.ok,I.os,I.bare,I.base,I.loc,I.cell,I.free,I.freeC,fun p hp=>(List.mem_append.mp hp).elim (fun z=>I.pin p (List.mem_append_left _ z)) (h p),I.hok,I.len⟩
theorem rJ {N:List Str} (hN:N.Nodup) {i j:Nat} {x:Str} (a:N[i]?=some x) (b:N[j]?=some x):i=j:=by
 obtain ⟨h1,e1⟩:=List.getElem?_eq_some_iff.mp a;obtain ⟨h2,e2⟩:=List.getElem?_eq_some_iff.mp b;exact (List.getElem_inj hN).mp (e1.trans e2.symm)
theorem oF {M:Model} {A:Around} {E:Value->Shared->Prop} {i:Nat} {x:Str} {v:V} {u:Value} {Q:Unit->Shared->Prop} (I:Inv X pins σ H s) (hN:X.N.Nodup) (hi:X.N[i]?=some x) (hx:Loc X.env.scope x) (r:RelV v u)
  (h:∀s',Inv X pins (σ.set i (some v)) H s'->(∃a,Heap.SameBut a s.heap s'.heap∧(a=X.env.locals∨X.env.cells.lookup x=some a))->Q () s') (hf:X.fn x=true∨X.env.scope.names.lookup x=some .local:=by first | exact .inl rfl | exact .inr rfl | assumption):wpAny M A (storeName X.env x u) Q E s:=by
 obtain ⟨m,hn,hl⟩:=id I.loc;have hcls:(X.env.scope.kind==.class||(X.env.scope.kind==.module&&X.env.locals !=X.env.globals))=false:=by rw [I.ok.kind];rfl
 have hiσ:i < σ.length:=by rw [I.len];exact (List.getElem?_eq_some_iff.mp hi).1
 have cne:=I.cne;have tracked:∀{a:Addr} {h':Heap},(∃o,s.heap.get? a=some o∧H a=none)->Heap.SameBut a s.heap h'->HOk X.prog X.w H h':=fun {a h'} ha hs b ob e=>by
  obtain ⟨_,_,hfree⟩:=ha;refine (I.hok b ob e).qY (fun c w' hc q=>(hs.2 c ?_).trans q) (fun _ q=>q) fun _ _ q=>q;rintro rfl;rcases hc with rfl | hc
  ·rw [hfree] at e;cases e
  ·rw [hfree] at hc;cases hc
 rcases hx with hk | hk
 ·refine wpAny_storeName_local hk hn (fun h' hn' hs=>?_) hcls;obtain ⟨oL,_,_,hoL,_⟩:=id hn;refine h _ ⟨I.ok,I.os,I.bare,⟨fun b o e n hb hx=>?_,fun b o e n hb hx=>?_,I.base.free,fun b o e hx=>?_,I.base.tups,I.base.frzs,I.base.tbls⟩,⟨_,hn',fun j y v' e1 e2 e3=>?_⟩,fun y c e=>?_,I.free,I.freeC,fun p hp=>?_,tracked ⟨oL,hoL,I.free⟩ hs,by simpa using I.len⟩ ⟨_,hs,.inl rfl⟩
  ·exact (hs.2 b (Nat.ne_of_lt (Nat.lt_of_lt_of_le (Heap.lt_size e) I.ok.above))).trans (I.base.keep b o e n hb hx)
  ·obtain ⟨sl,e1⟩:=I.base.slot b o e n hb hx;exact ⟨sl,(hs.2 b (Nat.ne_of_lt (Nat.lt_of_lt_of_le (Heap.lt_size e) I.ok.above))).trans e1⟩
  ·obtain ⟨o',e1⟩:=I.base.there b o e hx;exact ⟨o',(hs.2 b (Nat.ne_of_lt (Nat.lt_of_lt_of_le (Heap.lt_size e) I.ok.above))).trans e1⟩
  ·by_cases hj:j=i
   ·subst hj;rw [hi] at e1;cases e1;rw [List.getElem?_set_self hiσ] at e2;cases e2;exact ⟨u,r,.inl ⟨hk,by simp⟩⟩
   ·rw [List.getElem?_set_ne (Ne.symm hj)] at e2;obtain ⟨u',r',q⟩:=hl j y v' e1 e2 e3;refine ⟨u',r',?_⟩;rcases q with ⟨k,e⟩ | ⟨k,c,e,z⟩
    ·refine .inl ⟨k,?_⟩;have:y≠x:=fun e=>hj (rJ hN e1 (e ▸ hi));simp [this,e]
    ·exact .inr ⟨k,c,e,z.sameBut hs (cne y c e)⟩
  ·obtain ⟨w',z⟩:=I.cell y c e;exact ⟨w',z.sameBut hs (cne y c e)⟩
  ·obtain ⟨e,n,ne,nf,d⟩:=I.pin p hp;exact ⟨(hs.2 p.1 ne).trans e,n,ne,nf,d⟩
 ·have hfn:X.fn x=true:=by
   rcases hf with z | z
   ·exact z
   ·rw [z] at hk;cases hk
  obtain ⟨c,hc⟩:=I.ok.has x (.inl hk);obtain ⟨w',z⟩:=I.cell x c hc;refine wpAny_storeName_cell I.ok.kind hk hc z (fun h' hc' hs=>?_);obtain ⟨oc,hoc,hocd⟩:=id z;refine h {s with heap:=h'} ⟨I.ok,I.os,I.bare,⟨fun b o e n hb hx=>?_,fun b o e n hb hx=>?_,I.base.free,fun b o e hx=>?_,I.base.tups,I.base.frzs,I.base.tbls⟩,⟨m,hn.sameBut hs (Ne.symm (cne x c hc)),fun j y v' e1 e2 e3=>?_⟩,fun y c' e=>?_,I.free,I.freeC,fun p hp=>?_,tracked ⟨oc,hoc,I.freeC x c hc⟩ hs,by simpa using I.len⟩ ⟨c,hs,.inr hc⟩
  ·exact (hs.2 b (Nat.ne_of_lt (Nat.lt_of_lt_of_le (Heap.lt_size e) (I.ok.cab x c hfn hc)))).trans (I.base.keep b o e n hb hx)
  ·obtain ⟨sl,e1⟩:=I.base.slot b o e n hb hx;exact ⟨sl,(hs.2 b (Nat.ne_of_lt (Nat.lt_of_lt_of_le (Heap.lt_size e) (I.ok.cab x c hfn hc)))).trans e1⟩
  ·obtain ⟨o',e1⟩:=I.base.there b o e hx;exact ⟨o',(hs.2 b (Nat.ne_of_lt (Nat.lt_of_lt_of_le (Heap.lt_size e) (I.ok.cab x c hfn hc)))).trans e1⟩
  ·by_cases hj:j=i
   ·subst hj;rw [hi] at e1;cases e1;rw [List.getElem?_set_self hiσ] at e2;cases e2;exact ⟨u,r,.inr ⟨.inl hk,c,hc,hc'⟩⟩
   ·rw [List.getElem?_set_ne (Ne.symm hj)] at e2;obtain ⟨u',r',q⟩:=hl j y v' e1 e2 e3;refine ⟨u',r',?_⟩;rcases q with q | ⟨k,c',e,z'⟩
    ·exact .inl q
    ·refine .inr ⟨k,c',e,z'.sameBut hs ?_⟩;rintro rfl;exact hj (rJ hN e1 (I.ok.inj _ _ _ e hc ▸ hi))
  ·by_cases hcc:c'=c
   ·subst hcc;exact ⟨_,hc'⟩
   ·obtain ⟨w2,z2⟩:=I.cell y c' e;exact ⟨w2,z2.sameBut hs hcc⟩
  ·obtain ⟨e,n,ne,nf,d⟩:=I.pin p hp;refine ⟨(hs.2 p.1 ?_).trans e,n,ne,nf,d⟩;intro q;rw [q,hoc] at e;have q':oc=p.2:=Option.some.inj e;exact d w' (by rw [←q'];exact hocd)
theorem jM (I:Inv X pins σ H s) (hN:X.N.Nodup) (hi:X.N[i]?=some x) (hx:Loc X.env.scope x) (r:RelV v u) (h:∀s',Inv X pins (σ.set i (some v)) H s'->Q () s') (hf:X.fn x=true∨X.env.scope.names.lookup x=some .local:=by first | exact .inl rfl | exact .inr rfl | assumption):wpAny M A (storeName X.env x u) Q E s:=
 oF I hN hi hx r (fun s' I' _=>h s' I') hf
theorem Inv.call' (I:Inv X pins σ H s) (ho:s'.os=s.os) (u:Un (frs X.stack) ch H H' s.heap s'.heap) (hok:HOk X.prog X.w H' s'.heap) (hg:AllBare s'.gens) (hch:∀b∈ch,(b∈X.ex∨X.s₀.heap.objs.size≤b)∧b≠X.env.locals∧(∀x c,X.env.cells.lookup x=some c->c≠b)∧∀p∈X.pn++pins,p.1≠b):Inv X pins σ H' s':=by
 obtain ⟨h',g',d',t',o'⟩:=s';have e:o'=s.os:=ho;subst e;exact I.call (g':=g') (t':=t') (d':=d') u hok hg hch
end
abbrev XK:=Value->Option Addr->Hp->Prop
abbrev St:=List (Option V)
abbrev VK:=V->Hp->Prop
abbrev TE:=St->Hp->VK->Prop
abbrev TT:=St->Hp->(Bool->Hp->Prop)->Prop
abbrev TA:=St->Hp->(List V->Hp->Prop)->Prop
structure Ends where
 nx:St->Hp->Prop
 rt:VK
 bk:St->Hp->Prop:=fun _ _=>False
 ct:St->Hp->Prop:=fun _ _=>False
abbrev TS:=Ends->St->Hp->Prop
inductive EPi (X:Cx) (pins:List (Addr×Obj)) (σ:St) (Q:VK) (u:Value) (s':Shared):Prop where
 | mk (v H'):Inv X pins σ H' s'->RelV v u->Q v H'->EPi X pins σ Q u s'
def EP (X:Cx) (pins:List (Addr×Obj)) (σ:St) (Q:VK) (u:Value) (s':Shared):Prop:=EPi X pins σ Q u s'
def TP (X:Cx) (pins:List (Addr×Obj)) (σ:St) (Q:Bool->Hp->Prop) (b:Bool) (s':Shared):Prop:=∃H',Inv X pins σ H' s'∧Q b H'
inductive APi (X:Cx) (pins:List (Addr×Obj)) (σ:St) (Q:List V->Hp->Prop) (us:List Value) (s':Shared):Prop where
 | mk (vs H'):Inv X pins σ H' s'->Vals vs us->Q vs H'->APi X pins σ Q us s'
def AP (X:Cx) (pins:List (Addr×Obj)) (σ:St) (Q:List V->Hp->Prop) (us:List Value) (s':Shared):Prop:=APi X pins σ Q us s'
def SP (X:Cx) (pins:List (Addr×Obj)) (D:Ends) (f:Flow) (s':Shared):Prop:=
 match f with
 | .next=>∃σ' H',Inv X pins σ' H' s'∧D.nx σ' H'
 | .brk=>∃σ' H',Inv X pins σ' H' s'∧D.bk σ' H'
 | .cont=>∃σ' H',Inv X pins σ' H' s'∧D.ct σ' H'
 | .ret u=>∃v σ' H',Inv X pins σ' H' s'∧RelV v u∧D.rt v H'
def PE (X:Cx) (e:Expr) (t:TE):Prop:=
 ∀(pins:List (Addr×Obj)) (s:Shared) (σ:St) (H:Hp) (Q:VK),Inv X pins σ H s->t σ H Q->wpAny (model X.prog X.w) X.A (eval e X.env) (EP X pins σ Q) X.xe s
def PT (X:Cx) (e:Expr) (t:TT):Prop:=
 ∀(pins:List (Addr×Obj)) (s:Shared) (σ:St) (H:Hp) (Q:Bool->Hp->Prop),Inv X pins σ H s->t σ H Q->wpAny (model X.prog X.w) X.A (isTrue e X.env (eval e X.env)) (TP X pins σ Q) X.xe s
def PW (X:Cx) (e:Expr) (t:TT):Prop:=
 ∀(whole:Sem Value) (pins:List (Addr×Obj)) (s:Shared) (σ:St) (H:Hp) (Q:Bool->Hp->Prop),Inv X pins σ H s->t σ H Q->wpAny (model X.prog X.w) X.A (isTrue e X.env whole) (TP X pins σ Q) X.xe s
theorem PW.pt (h:PW X e t):PT X e t:=h _
def PA (X:Cx) (es:List Expr) (t:TA):Prop:=
 ∀(pos:Pos) (pins:List (Addr×Obj)) (s:Shared) (σ:St) (H:Hp) (Q:List V->Hp->Prop),Inv X pins σ H s->t σ H Q->wpAny (model X.prog X.w) X.A (spliced (backTo pos (starEach es X.env))) (AP X pins σ Q) X.xe s
def PS (X:Cx) (st:Stmt) (t:TS):Prop:=
 ∀(pins:List (Addr×Obj)) (s:Shared) (σ:St) (H:Hp) (D:Ends),Inv X pins σ H s->t D σ H->wpAny (model X.prog X.w) X.A (exec st X.env) (SP X pins D) X.xe s
def PSs (X:Cx) (st:List Stmt) (t:TS):Prop:=
 ∀(pins:List (Addr×Obj)) (s:Shared) (σ:St) (H:Hp) (D:Ends),Inv X pins σ H s->t D σ H->wpAny (model X.prog X.w) X.A (execs st X.env) (SP X pins D) X.xe s
theorem thn (h:wpAny M A t Q E s) (hQ:∀a s,Q a s->Q' a s):wpAny M A t Q' E s:=wpAny_mono h hQ fun _ _ x=>x
section
variable {X:Cx}
def DQ (i:Nat):TE:=fun σ H Q=>∃v,σ[i]?=some (some v)∧Q v H
def tC (v:V):TE:=fun _ H Q=>Q v H
theorem AL (hN:X.N[i]?=some x) (hv:Vis X.env.scope x) (hd:(x==("__debug__":Str))=false:=by decide) (hcd:(x==("__classdict__":Str))=false:=by decide):PE X (.Name x pos) (DQ i):=by
 intro pins s σ H Q I h;obtain ⟨v,e,h⟩:=h;obtain ⟨m,hn,hl⟩:=I.loc;obtain ⟨u,r,l⟩:=hl i x v hN e hv;have fin:EP X pins σ Q u s:=⟨v,H,I,r,h⟩;rcases l with ⟨hk,hm⟩ | ⟨hk,c,hc,hcell⟩
 ·exact wpAny_Name (wpAny_loadName_local I.ok.kind hk hn hm fin) hd
 ·rcases hk with hk | hk
  ·exact wpAny_Name (wpAny_loadName_cell I.ok.kind hk hc hcell fin) hd
  ·exact wpAny_Name (wpAny_loadName_free I.ok.kind hk hc hcell fin hcd) hd
theorem AW {i j pos}:PE X (.Constant (.int i) j pos) (tC (.int i)):=fun _ _ _ H _ I h=>wpAny_Constant_int ⟨.int i,H,I.tok _,⟨_,rfl⟩,h⟩
theorem C8 {b j pos}:PE X (.Constant (.bool b) j pos) (tC (.bl b)):=fun _ _ _ H _ I h=>Constant_bool ⟨.bl b,H,I,rfl,h⟩
theorem AU {j pos}:PE X (.Constant .none j pos) (tC .non):=fun _ _ _ H _ I h=>Constant_none ⟨.non,H,I,rfl,h⟩
theorem AQ {x j pos}:PE X (.Constant (.str x) j pos) (tC (.str x)):=fun _ _ _ H _ I h=>Calls.Constant_str ⟨.str x,H,I.tok _,⟨_,rfl⟩,h⟩
def Gl (X:Cx) (x:Str):Prop:=X.env.kindOf x=some .globalImplicit
theorem ug (I:Inv X pins σ H s) (hg:Gl X x) (hm:X.mg x=some u) (h:Q u s) (hd:(x==("__debug__":Str))=false:=by decide):wpAny (model X.prog X.w) X.A (eval (.Name x pos) X.env) Q E s:=
 Calls.Name_function_global I.ok.kind hg (Calls.loadGlobal_global (by rw [I.ok.glob];exact I.mod.glob.keeps I.bk) hm h) hd
theorem jA (I:Inv X pins σ H s) (hg:Gl X x) (hm:X.mg x=none) (hv:bootBuiltins x=some u) (h:Q u s) (hn:x≠"__name__":=by decide) (hd:(x==("__debug__":Str))=false:=by decide):wpAny (model X.prog X.w) X.A (eval (.Name x pos) X.env) Q E s:=by
 obtain ⟨mb,h1,h2⟩:=I.mod.blt;exact Calls.Name_function_global I.ok.kind hg (Calls.loadGlobal_builtin (by rw [I.ok.glob];exact I.mod.glob.keeps I.bk) hm (by rw [I.ok.blt];exact h1.keeps I.bk) ((h2 x hn).trans hv) h) hd
theorem yY (hg:Gl X x) (hm:X.mg x=none) (hv:bootBuiltins x=some u) (r:RelV v u) (hn:x≠"__name__":=by decide) (hd:(x==("__debug__":Str))=false:=by decide):PE X (.Name x pos) (tC v):=
 fun _ _ _ H _ I h=>jA I hg hm hv ⟨v,H,I,r,h⟩ hn hd
variable {a b:Expr} {ta tb:TE} {pos:Pos}
variable {tA tB':TT} {rest:List Expr}
def iQ (t u:TT):TT:=fun σ H Q=>t σ H fun c H1=>if c=true then u σ H1 Q else Q false H1
def tOr (t u:TT):TT:=fun σ H Q=>t σ H fun c H1=>if c=true then Q true H1 else u σ H1 Q
def qV (t:TT):TT:=fun σ H Q=>t σ H fun c H1=>Q (!c) H1
theorem yG (ha:PT X a tA):PW X (.BoolOp .And [a] pos) tA:=by
 intro wh pins s σ H Q I h;refine isTrue_and (thn (ha pins s σ H Q I h) fun c s1 e=>?_);cases c with
 | true=>exact isTrue_and_nil e
 | false=>exact e
theorem AA (ha:PT X a tA):PW X (.BoolOp .Or [a] pos) tA:=by
 intro wh pins s σ H Q I h;refine isTrue_or (thn (ha pins s σ H Q I h) fun c s1 e=>?_);cases c with
 | false=>exact isTrue_or_nil e
 | true=>exact e
theorem AB (ha:PT X a tA) (hb:PW X (.BoolOp .And (b::rest) pos) tB'):PW X (.BoolOp .And (a::b::rest) pos) (iQ tA tB'):=by
 intro wh pins s σ H Q I h;refine isTrue_and (thn (ha pins s σ H _ I h) fun c s1 ⟨H1,I1,q1⟩=>?_);cases c with
 | true=>exact hb wh pins s1 σ H1 Q I1 q1
 | false=>exact ⟨H1,I1,q1⟩
theorem CZ (ha:PT X a tA) (hb:PW X (.BoolOp .Or (b::rest) pos) tB'):PW X (.BoolOp .Or (a::b::rest) pos) (tOr tA tB'):=by
 intro wh pins s σ H Q I h;refine isTrue_or (thn (ha pins s σ H _ I h) fun c s1 ⟨H1,I1,q1⟩=>?_);cases c with
 | true=>exact ⟨H1,I1,q1⟩
 | false=>exact hb wh pins s1 σ H1 Q I1 q1
theorem AD (ha:PT X a tA):PT X (.UnaryOp .Not a pos) (qV tA):=by
 intro pins s σ H Q I h;exact isTrue_not (ha pins s σ H (fun c H1=>Q (!c) H1) I h)
def CB (ta tb:TE):TE:=fun σ H Q=>ta σ H fun x H1=>∃c,x=.bl c∧if c=true then tb σ H1 Q else Q (.bl false) H1
theorem AS {op} (h:PE X a t):PE X (.BoolOp op [a] pos) t:=fun pins s σ H Q I hw=>BoolOp_one (h pins s σ H Q I hw)
theorem AY (ha:PE X a ta) (hb:PE X (.BoolOp .And (b::rest) pos) tb):PE X (.BoolOp .And (a::b::rest) pos) (CB ta tb):=by
 intro pins s σ H Q I h;refine BoolOp_and (thn (ha pins s σ H _ I h) fun v s1 ⟨x,H1,I1,r1,q1⟩=>?_);obtain ⟨c,rfl,q1⟩:=q1;cases r1;refine wpAny_truthy_bool ?_;cases c with
 | true=>exact hb pins s1 σ H1 Q I1 q1
 | false=>exact ⟨.bl false,H1,I1,rfl,q1⟩
def tIf (t:TT) (ta tb:TE):TE:=fun σ H Q=>t σ H fun c H1=>if c=true then ta σ H1 Q else tb σ H1 Q
theorem wW (hc:PT X c tA) (ha:PE X a ta) (hb:PE X b tb):PE X (.IfExp c a b pos) (tIf tA ta tb):=by
 intro pins s σ H Q I h;refine wpAny_IfExp (thn (hc pins s σ H _ I h) fun d s1 ⟨H1,I1,q1⟩=>?_);cases d with
 | true=>exact ha pins s1 σ H1 Q I1 q1
 | false=>exact hb pins s1 σ H1 Q I1 q1
end
def SqL (K:FR) (H:Hp) (a:Addr) (xs:List V):Prop:=
 Rd H a (.lst xs)∨
  ∃(o:Obj) (its:Array Value) (n:Nat),K.lookup a=some o∧o.cls=.type "list"∧o.dict=none∧o.data=.seq its n∧its.size≤sizeLine∧Vals xs its.toList
def SqT (K:FR) (H:Hp) (a:Addr) (xs:List V):Prop:=
 Rd H a (.tup xs)∨
  ∃(o:Obj) (its:Array Value) (n:Nat),K.lookup a=some o∧o.cls=.type "tuple"∧o.data=.seq its n∧its.size≤sizeLine∧Vals xs its.toList∧o.dict=none
noncomputable def EG:Value->Option V
 | .none=>some .non
 | .bool b=>some (.bl b)
 | .int i _=>some (.int i)
 | .str x _=>some (.str x)
 | .bytes b _=>some (.byt b)
 | .float b _=>some (.flt b)
 | .ref a=>some (.ref a)
 | .type n=>some (.ty n)
 | _=>none
theorem RelV.abs (r:RelV x u):EG u=some x:=by
 cases x with
 | non=>cases r;rfl
 | bl _=>cases r;rfl
 | int _=>obtain ⟨t,rfl⟩:=r;rfl
 | str _=>obtain ⟨t,rfl⟩:=r;rfl
 | byt _=>obtain ⟨t,rfl⟩:=r;rfl
 | flt _=>obtain ⟨t,rfl⟩:=r;rfl
 | ref _=>cases r;rfl
 | ty _=>cases r;rfl
theorem RelV.inj (r:RelV x u) (q:RelV y u):x=y:=Option.some.inj (r.abs.symm.trans q.abs)
theorem Vals.inj:∀{xs ys:List V} {us:List Value},Vals xs us->Vals ys us->xs=ys
 | _,_,_,.nil,.nil=>rfl
 | _,_,_,.cons r t,.cons r' t'=>by rw [r.inj r',Vals.inj t t']
theorem SqL.of {K:FR} (h:H a=some (.lst xs)):SqL K H a xs:=.inl (.inl h)
theorem Inv.list (I:Inv X pins σ H s) (h:SqL X.K H a xs):∃its:List Value,Vals xs its∧PlainL s.heap a its.toArray∧xs.length≤sizeLine:=by
 rcases h with h | ⟨o,its,n,hk,hc,hd,hs,hz,r⟩
 ·obtain ⟨z,its,n,r,e⟩:=h.ok I.hok;exact ⟨its,r,⟨_,n,e,rfl,rfl,rfl⟩,z⟩
 ·refine ⟨its.toList,r,⟨o,n,I.kIn a o hk,hc,hd,by simpa using hs⟩,?_⟩;have e:=r.length;simp only [Array.length_toList] at e
  lia
theorem Inv.tuple (I:Inv X pins σ H s) (h:SqT X.K H a xs):∃its:List Value,Vals xs its∧IsTup s.heap a its.toArray∧xs.length≤sizeLine:=by
 rcases h with h | ⟨o,its,n,hk,hc,hs,hz,r,_⟩
 ·obtain ⟨z,its,r,p⟩:=h.ok I.hok;exact ⟨its,r,p.tup,z⟩
 ·refine ⟨its.toList,r,⟨o,I.kIn a o hk,hc,n,by simpa using hs⟩,?_⟩;have e:=r.length;simp only [Array.length_toList] at e
  lia
theorem Inv.rQ (I:Inv X pins σ H s) (h:SqL X.K H a xs) (h':SqL X.K H a ys):xs=ys:=by
 obtain ⟨its,r,⟨o,n,e,_,_,d⟩,_⟩:=I.list h;obtain ⟨its',r',⟨o',n',e',_,_,d'⟩,_⟩:=I.list h';rw [e] at e';cases e';rw [d] at d';injection d' with d1 _
 have:its=its':=by simpa using congrArg Array.toList d1
 subst this;exact r.inj r'
theorem Inv.oC (I:Inv X pins σ H s) (h:SqT X.K H a xs) (h':SqT X.K H a ys):xs=ys:=by
 obtain ⟨its,r,⟨o,e,_,n,d⟩,_⟩:=I.tuple h;obtain ⟨its',r',⟨o',e',_,n',d'⟩,_⟩:=I.tuple h';rw [e] at e';cases e';rw [d] at d';injection d' with d1 _
 have:its=its':=by simpa using congrArg Array.toList d1
 subst this;exact r.inj r'
abbrev Cx.nU (X:Cx) (E:Value->Shared->Prop):Cx:={X with xe:=E}
abbrev Cx.nox (X:Cx):Cx:=X.nU fun _ _=>False
theorem Cx.Ok.nU {X:Cx} (ok:X.Ok) (E:Value->Shared->Prop):(X.nU E).Ok:=
 ⟨ok.mod,ok.kind,ok.glob,ok.blt,ok.above,ok.inj,ok.has,ok.cab,ok.hd,ok.frames,ok.stk,ok.exf,ok.bs,ok.bsz,ok.noex,ok.exfs,ok.nq,ok.frf⟩
theorem Cx.Ok.gY {X:Cx} {E:Value->Shared->Prop} (ok:(X.nU E).Ok):X.Ok:=
 ⟨ok.mod,ok.kind,ok.glob,ok.blt,ok.above,ok.inj,ok.has,ok.cab,ok.hd,ok.frames,ok.stk,ok.exf,ok.bs,ok.bsz,ok.noex,ok.exfs,ok.nq,ok.frf⟩
theorem Inv.nU (I:Inv X pins σ H s) (E:Value->Shared->Prop):Inv (X.nU E) pins σ H s:=⟨I.ok.nU E,I.os,I.bare,I.base,I.loc,I.cell,I.free,I.freeC,I.pin,I.hok,I.len⟩
theorem Inv.gY (I:Inv (X.nU E) pins σ H s):Inv X pins σ H s:=⟨I.ok.gY,I.os,I.bare,I.base,I.loc,I.cell,I.free,I.freeC,I.pin,I.hok,I.len⟩
theorem SP.gY (h:SP (X.nU E) pins D f s'):SP X pins D f s':=by
 cases f with
 | next=>obtain ⟨σ',H',I,q⟩:=h;exact ⟨σ',H',I.gY,q⟩
 | brk=>obtain ⟨σ',H',I,q⟩:=h;exact ⟨σ',H',I.gY,q⟩
 | cont=>obtain ⟨σ',H',I,q⟩:=h;exact ⟨σ',H',I.gY,q⟩
 | ret u=>obtain ⟨v,σ',H',I,r,q⟩:=h;exact ⟨v,σ',H',I.gY,r,q⟩
theorem PSs.nox {st:List Stmt} {t:TS} (h:PSs X.nox st t):PSs X st t:=fun pins s σ H D I hw=>
 wpAny_mono (h pins s σ H D (I.nU _) hw) (fun _ _ q=>q.gY) fun _ _ z=>False.elim z
section
variable {X:Cx} {st:Stmt} {rest:List Stmt} {t u:TS} {e:Expr} {te:TE} {pos:Pos}
def Cv:TS:=fun D σ H=>D.nx σ H
def Cs (t u:TS):TS:=fun D σ H=>t {D with nx:=u D} σ H
theorem yJ:PSs X [] Cv:=fun _ _ σ H _ I h=>wpAny_execs_nil ⟨σ,H,I,h⟩
theorem wL (h1:PS X st t) (h2:PSs X rest u):PSs X (st::rest) (Cs t u):=by
 intro pins s σ H D I h;refine wpAny_execs_cons (thn (h1 pins s σ H {D with nx:=u D} I h) fun f s1 q=>?_);cases f with
 | next=>
  obtain ⟨σ',H',I',q⟩:=q;exact h2 pins s1 σ' H' D I' q
 | ret v=>exact q
 | brk=>exact q
 | cont=>exact q
theorem yI (h1:PS X st t):PSs X [st] t:=by
 intro pins s σ H D I h;refine wpAny_execs_cons (thn (h1 pins s σ H D I h) fun f s1 q=>?_);cases f with
 | next=>exact wpAny_execs_nil q
 | ret v=>exact q
 | brk=>exact q
 | cont=>exact q
theorem Inv.quiet (I:Inv X pins σ H s):interactive X.env=false:=by simp [interactive,I.ok.kind]
def Cy (te:TE):TS:=fun D σ H=>te σ H fun _ H1=>D.nx σ H1
theorem yL (he:PE X e te) (hs:swapsWith e none pos.line X.env=pure false:=by rfl):PS X (.Expr e pos) (Cy te):=by
 intro pins s σ H D I h;exact wpAny_Expr_any (thn (he pins s σ H _ I h) fun v s1 ⟨x,H1,I1,r1,q1⟩=>⟨σ,H1,I1,q1⟩) I.quiet hs
def DT (te:TE):TS:=fun D σ H=>te σ H D.rt
theorem AF (he:PE X e te):PS X (.Return (some e) pos) (DT te):=by
 intro pins s σ H D I h;exact wpAny_Return_some (thn (he pins s σ H _ I h) fun v s1 ⟨x,H1,I1,r1,q1⟩=>⟨x,σ,H1,I1,r1,q1⟩)
def DX (c:TT) (t u:TS):TS:=fun D σ H=>c σ H fun b H1=>if b=true then t D σ H1 else u D σ H1
theorem C0 (hc:PT X c tc) (ha:PSs X a t) (hb:PSs X b u):PS X (.If c a b pos) (DX tc t u):=by
 intro pins s σ H D I h;refine wpAny_If (thn (hc pins s σ H _ I h) fun d s1 ⟨H1,I1,q1⟩=>?_);cases d with
 | true=>exact ha pins s1 σ H1 D I1 q1
 | false=>exact hb pins s1 σ H1 D I1 q1
def zZ:TS:=fun _ _ _=>False
theorem wM:PS X st zZ:=fun _ _ _ _ _ _ h=>h.elim
end
abbrev TG:=V->St->Hp->(St->Hp->Prop)->Prop
abbrev TGs:=List V->St->Hp->(St->Hp->Prop)->Prop
def PG (X:Cx) (target:Expr) (t:TG):Prop:=
 ∀(pins:List (Addr×Obj)) (s:Shared) (σ:St) (H:Hp) (v:V) (u:Value) (Q:St->Hp->Prop),Inv X pins σ H s->RelV v u->t v σ H Q->
  wpAny (model X.prog X.w) X.A (assign target X.env u) (fun _ s'=>∃σ' H',Inv X pins σ' H' s'∧Q σ' H') X.xe s
def PGs (X:Cx) (ts:List Expr) (t:TGs):Prop:=
 ∀(pins:List (Addr×Obj)) (s:Shared) (σ:St) (H:Hp) (vs:List V) (us:List Value) (Q:St->Hp->Prop),Inv X pins σ H s->Vals vs us->t vs σ H Q->
  wpAny (model X.prog X.w) X.A (assignInOrder ((assignEach ts X.env).map (·.2)) us) (fun _ s'=>∃σ' H',Inv X pins σ' H' s'∧Q σ' H') X.xe s
abbrev DG:=V->V->V->Hp->(Hp->Prop)->Prop
def Cc (X:Cx) (t:DG):Prop:=
 ∀(pins:List (Addr×Obj)) (s:Shared) (σ:St) (H:Hp) (o i v:V) (ov iv u:Value) (Q:Hp->Prop),Inv X pins σ H s->RelV o ov->RelV i iv->RelV v u->t o i v H Q->
  wpAny (model X.prog X.w) X.A (setItem ov iv u) (fun _ s'=>∃H',Inv X pins σ H' s'∧Q H') X.xe s
def rX (i:Nat):TG:=fun v σ H Q=>Q (σ.set i (some v)) H
theorem yV (hN:X.N.Nodup) (hi:X.N[i]?=some x) (hx:Loc X.env.scope x) (hf:X.fn x=true∨X.env.scope.names.lookup x=some .local:=by first | exact .inl rfl | exact .inr rfl | assumption):PG X (.Name x pos) (rX i):=by
 intro pins s σ H v u Q I r h;exact wpAny_assign_Name (jM I hN hi hx r (fun s' I'=>⟨_,H,I',h⟩) hf)
noncomputable def EB:TGs:=fun vs σ H Q=>vs=[]∧Q σ H
def Dy (t:TG) (u:TGs):TGs:=fun vs σ H Q=>∃v r,vs=v::r∧t v σ H fun σ' H'=>u r σ' H' Q
theorem yT:PGs X [] EB:=by
 intro pins s σ H vs us Q I r h;obtain ⟨e,h⟩:=h;subst e;cases r;exact assignInOrder_nil ⟨σ,H,I,h⟩
theorem wR (h1:PG X e t) (h2:PGs X es u) (hs:(assignEach (e::es) X.env).map (·.2)=assign e X.env::(assignEach es X.env).map (·.2):=by rfl):PGs X (e::es) (Dy t u):=by
 intro pins s σ H vs us Q I r h;obtain ⟨v,vr,e1,h⟩:=h;subst e1;cases r with
 | cons r rr=>
  rw [hs];refine assignInOrder_cons (thn (h1 pins s σ H _ _ _ I r h) fun _ s1 ⟨σ1,H1,I1,q1⟩=>?_);exact h2 pins s1 σ1 H1 _ _ Q I1 rr q1
def EA (K:FR) (n:Nat) (t:TGs):TG:=fun v σ H Q=>∃a xs,v=.ref a∧SqT K H a xs∧xs.length=n∧t xs σ H Q
theorem AJ (hc:X.calm=true) (h:PGs X es t) (hn:(assignEach es X.env).length=n:=by rfl) (hst:(assignEach es X.env).findIdx? (·.1)=none:=by rfl):PG X (.Tuple es k pos) (EA X.K n t):=by
 intro pins s σ H v u Q I r hw;obtain ⟨a,xs,e1,hq,hl,hw⟩:=hw;subst e1;cases r;obtain ⟨its,rv,ht,hz⟩:=I.tuple hq;refine assign_Tuple_tuple (I.ok.hd hc) ht (by simp [hn,←hl,rv.length]) hst fun h' hx=>?_;have I1:Inv X pins σ H {s with heap:=h'}:=I.kept (t':=s.toks) fun b o e=>hx b o (Nat.ne_of_lt (Heap.lt_size e)) e;exact h pins _ σ H xs _ Q I1 (by simpa using rv) hw
def lV (to ti:TE) (t:DG):TG:=fun v σ H Q=>to σ H fun o H1=>ti σ H1 fun i H2=>t o i v H2 fun H3=>Q σ H3
theorem AK (ho:PE X o to) (hi:PE X i ti) (hs:Cc X t) (ha:∀v,assign (.Subscript o i pos) X.env v=(do
   let ov←holding [v] (eval o X.env);let iv←holding [v,ov] (eval i X.env)
   standAt pos
   holding [v,ov,iv] (setItem ov iv v)
   release [v,ov,iv] []):=by intro _;rfl):PG X (.Subscript o i pos) (lV to ti t):=by
 intro pins s σ H v u Q I r h;rw [ha];refine wpAny_bind (wpAny_holding (thn (ho pins s σ H _ I h) fun ov s1 ⟨x,H1,I1,r1,q1⟩=>?_));refine wpAny_bind (wpAny_holding (thn (hi pins s1 σ H1 _ I1 q1) fun iv s2 ⟨y,H2,I2,r2,q2⟩=>?_));refine wpAny_bind (wpAny_standAt (wpAny_bind (wpAny_holding (thn (hs pins s2 σ H2 x y v ov iv u _ I2 r1 r2 r q2) fun _ s3 ⟨H3,I3,q3⟩=>?_))));exact wpAny_release ⟨σ,H3,I3,q3⟩
def yh (te:TE) (g:TG):TS:=fun D σ H=>te σ H fun x H1=>g x σ H1 D.nx
theorem AH (he:PE X e te) (hg:PG X tg g) (hs:swapsWithSole [tg] e pos.line X.env=pure false:=by rfl) (hw:swappedStores [tg] e X.env=pure none:=by rfl) (h1:(assignEach [tg] X.env).map (·.2)=[assign tg X.env]:=by rfl):PS X (.Assign [tg] e pos) (yh te g):=by
 intro pins s σ H D I h;refine wpAny_Assign_stores (thn (he pins s σ H _ I h) fun v s1 ⟨x,H1,I1,r1,q1⟩=>?_) hs hw;rw [h1];exact thn (hg pins s1 σ H1 x v _ I1 r1 q1) fun _ s2 q=>q
theorem AE (hN:X.N.Nodup) (hi:X.N[i]?=some x) (hx:Loc X.env.scope x) (he:PE X e te) (hs:swapsWith e (some (.Name x pos')) pos.line X.env=pure false:=by rfl) (hf:X.fn x=true∨X.env.scope.names.lookup x=some .local:=by first | exact .inl rfl | exact .inr rfl | assumption):
  PS X (.Assign [.Name x pos'] e pos) (yh te (rX i)):=by
 intro pins s σ H D I h;refine wpAny_Assign_Name (thn (he pins s σ H _ I h) fun v s1 ⟨y,H1,I1,r1,q1⟩=>?_) hs;exact jM I1 hN hi hx r1 (fun s2 I2=>⟨_,H1,I2,q1⟩) hf
def Cu (i j:Nat) (ta:TA):TS:=fun D σ H=>ta σ H fun vs H1=>∃v w,vs=[v,w]∧D.nx ((σ.set i (some v)).set j (some w)) H1
theorem jl {kt k2 pt2} (hc:X.calm=true) (hN:X.N.Nodup) (hi:X.N[i]?=some x) (hj:X.N[j]?=some y) (hij:i≠j) (hx:X.env.scope.names.lookup x=some .local) (hy:X.env.scope.names.lookup y=some .local) (ha:PA X [a,b] ta) (hw:swappedStores [.Tuple [.Name x px,.Name y py] kt pt] (.Tuple [a,b] k2 pt2) X.env=pure (some [x,y])) (hs:swapsWithSole [.Tuple [.Name x px,.Name y py] kt pt] (.Tuple [a,b] k2 pt2) pos.line X.env=pure false:=by rfl):
  PS X (.Assign [.Tuple [.Name x px,.Name y py] kt pt] (.Tuple [a,b] k2 pt2) pos) (Cu i j ta):=by
 intro pins s σ H D I h;rw [exec_Assign_arm];refine wpAny_bind (wpAny_standAt ?_);rw [hs];refine wpAny_bind (wpAny_pure ?_);rw [if_neg (by decide)];refine wpAny_bind (Tuple_ (thn (ha _ pins s σ H _ I h) fun us s1 ⟨vs,H1,I1,r1,q1⟩=>?_));obtain ⟨v,w,e1,q1⟩:=q1;subst e1;obtain ⟨u1,u2,rfl,rv,rw'⟩:∃u1 u2,us=[u1,u2]∧RelV v u1∧RelV w u2:=by
  cases r1 with
  | cons p q=>
   cases q with
   | cons p' q'=>
    cases q';exact ⟨_,_,rfl,p,p'⟩
 refine wpAny_newObj_type ?_ (by show 2≤sizeLine;decide);have I2:Inv X pins σ H1 {s1 with heap:=s1.heap.push {cls:=.type "tuple",data:=.seq [u1,u2].toArray}}:=I1.kept (t':=s1.toks) fun b o e=>Heap.get?_push_of_some _ e;rw [hw];refine wpAny_bind (wpAny_pure ?_);show wpAny (model X.prog X.w) X.A (do rule "assign.swapped-stores";let items←unpackItems (.ref s1.heap.objs.size) 2 none;assignInOrder [fun v=>bindName X.env y v,fun v=>bindName X.env x v] items.reverse;pure Flow.next) _ _ _;refine wpAny_bind (wpAny_rule (wpAny_bind (unpackItems_tuple (items:=#[u1,u2]) (I.ok.hd hc) (IsTup.new s1.heap _) fun h' hx'=>?_)));have I3:=I2.kept (h':=h') (t':=s1.toks) fun b o e=>hx' b o (Nat.ne_of_lt (Heap.lt_size e)) e;show wpAny _ _ (assignInOrder [fun v=>bindName X.env y v,fun v=>bindName X.env x v] [u2,u1] >>=fun _=>pure Flow.next) _ _ _;refine wpAny_bind (assignInOrder_cons (wpAny_bindName (jM I3 hN hj (.inl hy) rw' (fun s2 I4=>?_) (.inr hy))));refine assignInOrder_cons (wpAny_bindName (jM I4 hN hi (.inl hx) rv (fun s3 I5=>assignInOrder_nil (wpAny_pure ?_)) (.inr hx)));rw [List.set_comm _ _ (Ne.symm hij)] at I5;exact ⟨_,H1,I5,q1⟩
structure It where
 go:Nat->Hp->Prop
 yld:Nat->Hp->V->Hp->Prop
 stop:Nat->Hp->Prop
def iT (X:Cx) (pins:List (Addr×Obj)) (H:Hp) (b:Addr):Prop:=
 H b=none∧b≠X.env.locals∧b∉X.fs∧(b∈X.ex∨X.s₀.heap.objs.size≤b)∧(∀x c,X.env.cells.lookup x=some c->c≠b)∧∀p∈X.pn++pins,p.1≠b
theorem Inv.vj (I:Inv X pins σ H s) (hb:s.heap.objs.size≤b) (hn:H' b=none):iT X pins H' b:=by
 refine ⟨hn,Nat.ne_of_gt (Nat.lt_of_lt_of_le I.lt hb),I.Ep hb,.inr (Nat.le_trans I.sz hb),fun x c e z=>?_,fun p hp z=>?_⟩
 ·obtain ⟨v,q⟩:=I.cell x c e;exact absurd (Nat.lt_of_lt_of_le q.lt (by rw [z];exact hb)) (Nat.lt_irrefl _)
 ·exact absurd (Nat.lt_of_lt_of_le (Heap.lt_size (I.pin p hp).1) (by rw [z];exact hb)) (Nat.lt_irrefl _)
structure Turn (P:Program) (w:World) (K:FR) (tg:Expr) (J:It) (fp:List Addr) (it:Addr) (tn:Nat->Heap->Prop):Prop where
 mem:it∈fp
 obj:∀i h,tn i h->∀b∈fp,∃o,h.get? b=some o∧∀v,o.data≠.cell v
 keep:∀i h h',tn i h->(∀b∈fp,∀o,h.get? b=some o->h'.get? b=some o)->tn i h'
 item:∀(X:Cx),X.prog=P->X.w=w->X.K=K->X.calm=true->∀(i:Nat) (pins:List (Addr×Obj)) (s:Shared) (σ:St) (H:Hp) (E:Value->Shared->Prop),Inv X pins σ H s->(∀b∈fp,iT X pins H b)->tn i s.heap->J.go i H->
  wpAny (model P w) X.A (pyNext (.ref it)) (fun r s1=>∃u,r=some u∧
   wpAny (model P w) X.A (letOwnedTupleGo tg (.ref it) u) (fun _ s2=>∃x H',Inv X pins σ H' s2∧RelV x u∧J.yld i H x H'∧tn (i+1) s2.heap∧∀b∈fp,H' b=none) E s1) E s
 done:∀(X:Cx),X.prog=P->X.w=w->X.K=K->X.calm=true->∀(i:Nat) (pins:List (Addr×Obj)) (s:Shared) (σ:St) (H:Hp) (E:Value->Shared->Prop),Inv X pins σ H s->(∀b∈fp,iT X pins H b)->tn i s.heap->J.stop i H->
  wpAny (model P w) X.A (pyNext (.ref it)) (fun r s1=>r=none∧Inv X pins σ H s1) E s
 self:∀(A:Around) (i:Nat) (s:Shared) (Q:Value->Shared->Prop) (E:Value->Shared->Prop),tn i s.heap->Q (.ref it) s->wpAny (model P w) A (pyIter (.ref it)) Q E s
abbrev TI:=St->Hp->(It->Hp->Prop)->Prop
def PIE (X:Cx) (pins:List (Addr×Obj)) (σ:St) (tg:Expr) (R:It->Hp->Prop) (itv:Value) (s2:Shared):Prop:=
 ∃(it:Addr) (fp:List Addr) (tn:Nat->Heap->Prop) (J:It) (H':Hp),itv=.ref it∧Inv X pins σ H' s2∧Turn X.prog X.w X.K tg J fp it tn∧tn 0 s2.heap∧(∀b∈fp,iT X pins H' b)∧R J H'
def PI (X:Cx) (tg iter:Expr) (wi:TI):Prop:=
 ∀(pins:List (Addr×Obj)) (s:Shared) (σ:St) (H:Hp) (R:It->Hp->Prop),Inv X pins σ H s->wi σ H R->
  wpAny (model X.prog X.w) X.A (eval iter X.env) (fun v s1=>wpAny (model X.prog X.w) X.A (pyIter v) (PIE X pins σ tg R) X.xe s1) X.xe s
theorem xt (ho:s.heap.get? it=some o) (hc:o.cls=.type n) (hd:o.data=.fields vs) (hn:["enumerate","zip","dict_itemiterator","dict_reverseitemiterator","odict_iterator","itertools.zip_longest","itertools.pairwise"].contains n=false) (hQ:Q () s):wpAny M A (letOwnedTupleGo tg (.ref it) u) Q E s:=by
 unfold letOwnedTupleGo;cases tg <;> first
  | exact wpAny_pure hQ
  | (cases u <;> first
    | exact wpAny_pure hQ
    | (refine wpAny_bind (wpAny_load ho ?_);rw [hc,hd];show wpAny M A (if (["enumerate","zip","dict_itemiterator","dict_reverseitemiterator","odict_iterator","itertools.zip_longest","itertools.pairwise"].contains n&&vs[0]?==some (rawInt _))=true then _ else _) Q E s;rw [if_neg (by intro h;rw [hn,Bool.false_and] at h;cases h)];exact wpAny_pure hQ))
noncomputable def Itl (K:FR) (a:Addr):It:=
 ⟨fun i H=>∃xs x,SqL K H a xs∧xs[i]?=some x,fun i H x H'=>H'=H∧∀xs,SqL K H a xs->xs[i]?=some x,fun i H=>∃xs,SqL K H a xs∧xs.length≤i⟩
noncomputable def Itt (K:FR) (a:Addr):It:=
 ⟨fun i H=>∃xs x,SqT K H a xs∧xs[i]?=some x,fun i H x H'=>H'=H∧∀xs,SqT K H a xs->xs[i]?=some x,fun i H=>∃xs,SqT K H a xs∧xs.length≤i⟩
noncomputable def Itr (lo:Int) (n:Nat):It:=⟨fun i _=>i < n,fun i H x H'=>H'=H∧x=.int (lo+i),fun i _=>n≤i⟩
theorem uJ {P:Program} {w:World} {K:FR} {tg:Expr} (a it:Addr):Turn P w K tg (Itl K a) [it] it (fun i h=>h.IsListIter it a i) where
 mem:=by simp
 obj:=fun i h st b hb=>by
  have e:b=it:=by simpa using hb
  subst e;obtain ⟨o,e,c,d⟩:=st;exact ⟨o,e,fun v z=>by rw [d] at z;cases z⟩
 keep:=fun i h h' st k=>st.at fun o e=>k it (by simp) o e
 item:=by
  walk_at "aj";obtain ⟨xs,x,hq,hx⟩:=hg;obtain ⟨its,rv,p,hz⟩:=I.list hq;obtain ⟨u,hu,ru⟩:=rv.get hx;obtain ⟨f0,f1,f2,f3,f4,f5⟩:=hf it (by simp);refine wpAny_pyNext_list_item st p.isList (x:=u) (by simpa using hu) fun h' st' sb=>?_;have I1:Inv X pins σ H {s with heap:=h'}:=I.turned (t':=s.toks) (fun b o hb e=>(sb.2 b hb).trans e) f0 f1 f3 f4 f5;obtain ⟨o,e,c,d⟩:=id st';exact ⟨u,rfl,xt (s:={s with heap:=h'}) e c d (by decide) ⟨x,H,I1,ru,⟨rfl,fun ys hy=>by rw [I.rQ hy hq];exact hx⟩,st',fun b hb=>(hf b hb).1⟩⟩
 done:=by
  walk_at "aj";obtain ⟨xs,hq,hx⟩:=hg;obtain ⟨its,rv,p,hz⟩:=I.list hq;obtain ⟨f0,f1,f2,f3,f4,f5⟩:=hf it (by simp);have hl:=rv.length;exact wpAny_pyNext_list_end (I.ok.hd hc) st p.isList (by simp;lia) fun h' eb=>⟨rfl,I.turned (t':=s.toks) (fun b o hb e=>eb b o hb e) f0 f1 f3 f4 f5⟩
 self:=fun _ _ _ _ _ st h=>wpAny_pyIter_listiter st h
theorem sA {P:Program} {w:World} {K:FR} {tg:Expr} (a it:Addr):Turn P w K tg (Itt K a) [it] it (fun i h=>h.IsTupleIter it a i) where
 mem:=by simp
 obj:=fun i h st b hb=>by
  have e:b=it:=by simpa using hb
  subst e;obtain ⟨o,e,c,d⟩:=st;exact ⟨o,e,fun v z=>by rw [d] at z;cases z⟩
 keep:=fun i h h' st k=>st.at fun o e=>k it (by simp) o e
 item:=by
  walk_at "aj";obtain ⟨xs,x,hq,hx⟩:=hg;obtain ⟨its,rv,p,hz⟩:=I.tuple hq;obtain ⟨u,hu,ru⟩:=rv.get hx;obtain ⟨f0,f1,f2,f3,f4,f5⟩:=hf it (by simp);refine wpAny_pyNext_tuple_item st (show s.heap.IsTuple a its.toArray from p) (x:=u) (by simpa using hu) fun h' st' sb=>?_;have I1:Inv X pins σ H {s with heap:=h'}:=I.turned (t':=s.toks) (fun b o hb e=>(sb.2 b hb).trans e) f0 f1 f3 f4 f5;obtain ⟨o,e,c,d⟩:=id st';exact ⟨u,rfl,xt (s:={s with heap:=h'}) e c d (by decide) ⟨x,H,I1,ru,⟨rfl,fun ys hy=>by rw [I.oC hy hq];exact hx⟩,st',fun b hb=>(hf b hb).1⟩⟩
 done:=by
  walk_at "aj";obtain ⟨xs,hq,hx⟩:=hg;obtain ⟨its,rv,p,hz⟩:=I.tuple hq;obtain ⟨f0,f1,f2,f3,f4,f5⟩:=hf it (by simp);have hl:=rv.length;exact wpAny_pyNext_tuple_end (I.ok.hd hc) st (show s.heap.IsTuple a its.toArray from p) (by simp;lia) fun h' eb=>⟨rfl,I.turned (t':=s.toks) (fun b o hb e=>eb b o hb e) f0 f1 f3 f4 f5⟩
 self:=fun _ _ _ _ _ st h=>wpAny_pyIter_tupleiter st h
theorem sC {P:Program} {w:World} {K:FR} {tg:Expr} (it:Addr) (lo:Int) (n:Nat):Turn P w K tg (Itr lo n) [it] it (fun i h=>IsRangeIter h it (lo+(i:Nat)*1) ((n:Int)-(i:Nat)) 1) where
 mem:=by simp
 obj:=fun i h st b hb=>by
  have e:b=it:=by simpa using hb
  subst e;exact ⟨_,st,fun v z=>by
   have z':Data.fields _=Data.cell v:=z;cases z'⟩
 keep:=fun i h h' st k=>k it (by simp) _ st
 item:=by
  walk_at "aj";obtain ⟨f0,f1,f2,f3,f4,f5⟩:=hf it (by simp);have W:=Walks.range (prog:=X.prog) (w:=X.w) (I.ok.hd hc) it lo 1 n;refine W.item i s _ _ hg st fun v h' tk hv st' kk=>?_;obtain ⟨t,rfl⟩:=hv;have I1:Inv X pins σ H {s with heap:=h',toks:=tk}:=I.turned (fun b o hb e=>kk b o (by simpa using hb) e) f0 f1 f3 f4 f5;refine ⟨_,rfl,xt (s:={s with heap:=h',toks:=tk}) (n:="range_iterator") st' rfl rfl (by decide) ⟨.int (lo+i),H,I1,⟨t,?_⟩,⟨rfl,rfl⟩,st',fun b hb=>(hf b hb).1⟩⟩;rw [Int.mul_one]
 done:=by
  walk_at "aj";obtain ⟨f0,f1,f2,f3,f4,f5⟩:=hf it (by simp);exact wpAny_pyNext_range_end (I.ok.hd hc) st (by have:n≤i:=hg;lia) fun h' eb=>⟨rfl,I.turned (t':=s.toks) (fun b o hb e=>eb b o hb e) f0 f1 f3 f4 f5⟩
 self:=fun _ _ _ _ _ st h=>wpAny_pyIter_rangeiter st h
theorem wu {pins:List (Addr×Obj)} {σ:St} {H:Hp} {s:Shared} {R:It->Hp->Prop} {E:Value->Shared->Prop} {lo hi:Int} {t u v:Tok} {tk:Nat} (I:Inv X pins σ H s) (h1:-(2^62)≤lo) (h2:lo < 2^62) (h3:-(2^62)≤hi) (h4:hi < 2^62)
  (q:R (Itr lo (hi-lo).toNat) H):wpAny (model X.prog X.w) X.A (pyIter (.ref s.heap.objs.size)) (PIE X pins σ tg R) E {s with heap:=s.heap.push {cls:=.type "range",data:=.fields #[.int lo t,.int hi u,.int 1 v]},toks:=tk}:=by
 refine wpAny_pyIter_range (IsRange.new ..) (small_one h1 h2 h3 h4) ?_;have I1:Inv X pins σ H {s with heap:=s.heap.push {cls:=.type "range",data:=.fields #[.int lo t,.int hi u,.int 1 v]},toks:=tk}:=I.kept fun b o e=>Heap.get?_push_of_some _ e;refine ⟨(s.heap.push {cls:=.type "range",data:=.fields #[.int lo t,.int hi u,.int 1 v]}).objs.size,[(s.heap.push {cls:=.type "range",data:=.fields #[.int lo t,.int hi u,.int 1 v]}).objs.size],_,_,H,rfl,
  I1.kept (t':=tk) fun b o e=>Heap.get?_push_of_some _ e,sC _ lo (hi-lo).toNat,?_,fun b hb=>?_,q⟩
 ·have e1:lo+((0:Nat):Int)*1=lo:=by simp
  have e2:(((hi-lo).toNat:Nat):Int)-((0:Nat):Int)=Builtin.Range.rangeSize lo hi 1:=by rw [rangeSize_one];split <;> lia
  show IsRangeIter _ _ (lo+((0:Nat):Int)*1) ((((hi-lo).toNat:Nat):Int)-((0:Nat):Int)) 1;rw [e1,e2];exact Heap.get?_push_size _ rfl
 ·have e:b=(s.heap.push {cls:=.type "range",data:=.fields #[.int lo t,.int hi u,.int 1 v]}).objs.size:=by simpa using hb
  subst e;exact I1.vj (Nat.le_refl _) (I1.hok.fresh (Nat.le_refl _))
def Dt (ta:TA):TI:=fun σ H R=>ta σ H fun vs H1=>∃j:Int,vs=[.int j]∧-(2^62)≤j∧j < 2^62∧R (Itr 0 j.toNat) H1
theorem uU {a:Expr} {ta:TA} {p pos:Pos} (hg:Gl X "range") (hm:X.mg "range"=none) (ha:PA X [a] ta) (hs:starEach [a] X.env=[(false,eval a X.env)]:=by rfl):PI X tg (.Call (.Name "range" p) [a] [] pos) (Dt ta):=by
 intro pins s σ H R I h;refine Call_ (jA I hg hm boot_range (PyProof.Rows.callWith_type1 (thn (ha pos pins s σ H _ I h) fun us s1 ⟨vs,H1,I1,r1,q1⟩=>?_) hs rfl));obtain ⟨j,e,q1,q2,q⟩:=q1;subst e;cases r1 with
 | cons r rr=>
  cases rr;obtain ⟨t,rfl⟩:=r;exact call_range_1 (wu I1 (by lia) (by lia) q1 q2 (by simpa using q))
def Cw (wi:TI) (g:TG) (tb:TS):TS:=fun D σ H=>wi σ H fun J H1=>∃W:Nat->Nat->St->Hp->Prop,(∃m,W 0 m σ H1)∧∀i m σ H,W i m σ H->
 (J.stop i H∧D.nx σ H)∨(J.go i H∧∃N:St->Hp->Prop,(∀σ' H',N σ' H'->∃m',m' < m∧W (i+1) m' σ' H')∧∀x H',J.yld i H x H'->g x σ H' fun σ2 H2=>tb {D with nx:=N,ct:=N,bk:=D.nx} σ2 H2)
noncomputable def mS (fp:List Addr) (h:Heap):List (Addr×Obj):=fp.filterMap fun b=>(h.get? b).map fun o=>(b,o)
theorem gC (hb:b∈fp) (e:h.get? b=some o):(b,o)∈mS fp h:=List.mem_filterMap.mpr ⟨b,hb,by rw [e];rfl⟩
theorem uW (hp:p∈mS fp h):p.1∈fp∧h.get? p.1=some p.2:=by
 obtain ⟨b,hb,e⟩:=List.mem_filterMap.mp hp;cases q:h.get? b with
 | none=>rw [q] at e;cases e
 | some o=>
  rw [q] at e;have e':(b,o)=p:=Option.some.inj e;subst e';exact ⟨hb,q⟩
theorem Inv.pinned (I:Inv X pins σ H s) (hf:∀b∈fp,iT X pins H b) (ho:∀b∈fp,∃o,s.heap.get? b=some o∧∀v,o.data≠.cell v):Inv X (pins++mS fp s.heap) σ H s:=
 I.ub fun p hp=>(List.mem_append.mp hp).elim (fun z=>I.pin p (List.mem_append_right _ z)) fun z=>by
  obtain ⟨hb,e⟩:=uW z;obtain ⟨f0,f1,f2,_⟩:=hf p.1 hb;obtain ⟨o,e',d⟩:=ho p.1 hb;rw [e] at e';cases e';exact ⟨e,f0,f1,f2,d⟩
theorem Inv.jK (I:Inv X (pins++pl) σ H s):Inv X pins σ H s:=I.ub fun p hp=>I.pin p (List.mem_append_right _ (List.mem_append_left _ hp))
theorem AG (hp:PassesOwn (model X.prog X.w) X.A X.env X.xe) (hc:X.calm=true) (hi:PI X tg iter wi) (hg:PG X tg g) (hb:PSs X body tb) (hs:∀x,foldedSetIterable iter X.env x=pure x:=by intro _;rfl):PS X (.For tg iter body [] pos) (Cw wi g tb):=by
 intro pins s σ H D I h;refine wpAny_For (thn (hi pins s σ H _ I h) fun v s1 h1=>thn h1 fun itv s2 h2=>?_) hs;obtain ⟨it,fp,tn,J,H2,e,I2,T,st2,f2,W,⟨m0,w0⟩,turn⟩:=h2;subst e;have stat:∀{H':Hp},(∀b∈fp,H' b=none)->∀b∈fp,iT X pins H' b:=fun hn b hb=>⟨hn b hb,(f2 b hb).2⟩;refine codeAny_forLoop_any (fun n s'=>∃i σ' H',Inv X pins σ' H' s'∧tn i s'.heap∧(∀b∈fp,H' b=none)∧W i n σ' H') ?_ m0 ⟨0,σ,H2,I2,st2,fun b hb=>(f2 b hb).1,w0⟩;rintro n s3 ⟨i,σ3,H3,I3,st3,fr3,w3⟩;rcases turn i n σ3 H3 w3 with ⟨stop,qn⟩ | ⟨go,N,hN,step⟩
 ·refine wpAny_passesOwn hp (thn (T.done X rfl rfl rfl hc i pins s3 σ3 H3 X.xe I3 (stat fr3) st3 stop) fun r s4 ⟨hr,I4⟩=>?_);subst hr;exact wpAny_execs_nil ⟨σ3,H3,I4,qn⟩
 ·refine wpAny_passesOwn hp (thn (T.item X rfl rfl rfl hc i pins s3 σ3 H3 X.xe I3 (stat fr3) st3 go) fun r s4 ⟨u,hr,h4⟩=>?_);subst hr;refine wpAny_passesOwn hp (thn h4 fun _ s5 ⟨x,H5,I5,r5,y5,st5,fr5⟩=>?_);have I5':=I5.pinned (stat fr5) (T.obj _ _ st5);refine wpAny_passesOwn hp (thn (hg _ s5 σ3 H5 x u _ I5' r5 (step x H5 y5)) fun _ s6 ⟨σ6,H6,I6,q6⟩=>?_);refine wpAny_passesOwn hp (thn (hb _ s6 σ6 H6 _ I6 q6) fun f s7 q7=>?_);have again:∀{σ7:St} {H7:Hp},Inv X (pins++mS fp s5.heap) σ7 H7 s7->N σ7 H7->∃m,m < n∧∃i σ' H',Inv X pins σ' H' s7∧tn i s7.heap∧(∀b∈fp,H' b=none)∧W i m σ' H':=fun {σ7 H7} I7 n7=>by
   obtain ⟨m',hm,w7⟩:=hN σ7 H7 n7;refine ⟨m',hm,i+1,σ7,H7,I7.jK,T.keep _ _ _ st5 fun b hb o e=>(I7.pin (b,o) (List.mem_append_right _ (List.mem_append_right _ (gC hb e)))).1,fun b hb=>?_,w7⟩;obtain ⟨o,e,d⟩:=T.obj _ _ st5 b hb;exact (I7.pin (b,o) (List.mem_append_right _ (List.mem_append_right _ (gC hb e)))).2.1
  cases f with
  | next=>obtain ⟨σ7,H7,I7,n7⟩:=q7;exact again I7 n7
  | cont=>obtain ⟨σ7,H7,I7,n7⟩:=q7;exact again I7 n7
  | brk=>obtain ⟨σ7,H7,I7,q7⟩:=q7;exact ⟨σ7,H7,I7.jK,q7⟩
  | ret v=>obtain ⟨x7,σ7,H7,I7,r7,q7⟩:=q7;exact ⟨x7,σ7,H7,I7.jK,r7,q7⟩
abbrev R2:=V->V->Hp->VK->Prop
def OpR (X:Cx) (f:Value->Value->Sem Value) (r:R2):Prop:=
 ∀(pins:List (Addr×Obj)) (s:Shared) (σ:St) (H:Hp) (x y:V) (v u:Value) (Q:VK),Inv X pins σ H s->RelV x v->RelV y u->r x y H Q->
  wpAny (model X.prog X.w) X.A (f v u) (EP X pins σ Q) X.xe s
def UnR (X:Cx) (f:Value->Sem Value) (r:V->Hp->VK->Prop):Prop:=
 ∀(pins:List (Addr×Obj)) (s:Shared) (σ:St) (H:Hp) (x:V) (v:Value) (Q:VK),Inv X pins σ H s->RelV x v->r x H Q->
  wpAny (model X.prog X.w) X.A (f v) (EP X pins σ Q) X.xe s
def eB (X:Cx) (f:Value) (r:List V->Hp->VK->Prop):Prop:=
 ∀(pins:List (Addr×Obj)) (s:Shared) (σ:St) (H:Hp) (xs:List V) (us:List Value) (Q:VK),Inv X pins σ H s->Vals xs us->r xs H Q->
  wpAny (model X.prog X.w) X.A (call f us) (EP X pins σ Q) X.xe s
def EH (X:Cx) (r:V->Hp->(Bool->Hp->Prop)->Prop):Prop:=
 ∀(pins:List (Addr×Obj)) (s:Shared) (σ:St) (H:Hp) (x:V) (v:Value) (Q:Bool->Hp->Prop),Inv X pins σ H s->RelV x v->r x H Q->
  wpAny (model X.prog X.w) X.A (truthy v) (TP X pins σ Q) X.xe s
def tOp (r:R2) (ta tb:TE):TE:=fun σ H Q=>ta σ H fun x H1=>tb σ H1 fun y H2=>r x y H2 Q
def tUn (r:V->Hp->VK->Prop) (ta:TE):TE:=fun σ H Q=>ta σ H fun x H1=>r x H1 Q
def rI (C:Int->Int->Prop) (g:Int->Int->V):R2:=fun x y H Q=>∃i j,x=.int i∧y=.int j∧C i j∧Q (g i j) H
def rI0 (g:Int->Int->V):R2:=fun x y H Q=>∃i j,x=.int i∧y=.int j∧Q (g i j) H
def rU (g:Int->V):V->Hp->VK->Prop:=fun x H Q=>∃i,x=.int i∧Q (g i) H
theorem B6 (ha:PE X a ta) (hb:PE X b tb) {pins:List (Addr×Obj)} {s:Shared} {σ:St} {H:Hp} {R:V->V->Hp->Prop} (I:Inv X pins σ H s)
  (h:ta σ H fun x H1=>tb σ H1 fun y H2=>R x y H2) {Q:Value->Shared->Prop} {f:Value->Value->Sem Value}
  (hf:∀v u s2 x y H2,Inv X pins σ H2 s2->RelV x v->RelV y u->R x y H2->wpAny (model X.prog X.w) X.A (f v u) Q X.xe s2):
  wpAny (model X.prog X.w) X.A (eval a X.env) (fun v s₁=>wpAny (model X.prog X.w) X.A (eval b X.env) (fun u s₂=>wpAny (model X.prog X.w) X.A (f v u) Q X.xe s₂) X.xe s₁) X.xe s:=by
 refine thn (ha pins s σ H _ I h) fun v s1 ⟨x,H1,I1,r1,q1⟩=>?_;refine thn (hb pins s1 σ H1 _ I1 q1) fun u s2 ⟨y,H2,I2,r2,q2⟩=>?_;exact hf v u s2 x y H2 I2 r1 r2 q2
theorem zM {op:Operator} {r:R2} (ho:OpR X (binaryOp op) r) (ha:PE X a ta) (hb:PE X b tb):PE X (.BinOp a op b pos) (tOp r ta tb):=by
 intro pins s σ H Q I h;exact wpAny_BinOp (B6 ha hb I h fun v u s2 x y H2 I2 rx ry q=>ho pins s2 σ H2 x y v u Q I2 rx ry q)
theorem C5 (ho:UnR X (unaryOp op) r) (ha:PE X a ta):PE X (.UnaryOp op a pos) (tUn r ta):=by
 intro pins s σ H Q I h;exact UnaryOp_ (thn (ha pins s σ H _ I h) fun v s1 ⟨x,H1,I1,r1,q1⟩=>ho pins s1 σ H1 x v Q I1 r1 q1)
theorem opI {f:Value->Value->Sem Value} {C:Int->Int->Prop} {g:Int->Int->Int}
  (rule:∀(i j:Int) (t u:Tok) (s:Shared) (Q:Value->Shared->Prop) (E:Value->Shared->Prop),C i j->Q (.int (g i j) s.toks) {s with toks:=s.toks+1}->wpAny (model X.prog X.w) X.A (f (.int i t) (.int j u)) Q E s):
  OpR X f (rI C fun i j=>.int (g i j)):=by
 intro pins s σ H x y v u Q I rx ry h;obtain ⟨i,j,rfl,rfl,hc,q⟩:=h;obtain ⟨t,rfl⟩:=rx;obtain ⟨t',rfl⟩:=ry;exact rule i j t t' s _ _ hc ⟨.int (g i j),H,I.tok _,⟨_,rfl⟩,q⟩
theorem Dk {f:Value->Value->Sem Value} {g:Int->Int->Int}
  (rule:∀(i j:Int) (t u:Tok) (s:Shared) (Q:Value->Shared->Prop) (E:Value->Shared->Prop),Q (.int (g i j) s.toks) {s with toks:=s.toks+1}->wpAny (model X.prog X.w) X.A (f (.int i t) (.int j u)) Q E s):
  OpR X f (rI0 fun i j=>.int (g i j)):=by
 intro pins s σ H x y v u Q I rx ry h;obtain ⟨i,j,rfl,rfl,q⟩:=h;obtain ⟨t,rfl⟩:=rx;obtain ⟨t',rfl⟩:=ry;exact rule i j t t' s _ _ ⟨.int (g i j),H,I.tok _,⟨_,rfl⟩,q⟩
theorem y7 {f:Value->Value->Sem Value} {g:Int->Int->Bool}
  (rule:∀(i j:Int) (t u:Tok) (s:Shared) (Q:Value->Shared->Prop) (E:Value->Shared->Prop),Q (.bool (g i j)) s->wpAny (model X.prog X.w) X.A (f (.int i t) (.int j u)) Q E s):
  OpR X f (rI0 fun i j=>.bl (g i j)):=by
 intro pins s σ H x y v u Q I rx ry h;obtain ⟨i,j,rfl,rfl,q⟩:=h;obtain ⟨t,rfl⟩:=rx;obtain ⟨t',rfl⟩:=ry;exact rule i j t t' s _ _ ⟨.bl (g i j),H,I,rfl,q⟩
def EK (i j:Int):Prop:=0≤j∧j≤1000000∧i.natAbs < 2^64
def Ce (i j:Int):Prop:=(-(2^64) < i∧i < 2^64)∨(-(2^64) < j∧j < 2^64)
theorem Ce.ok (h:Ce i j):IntMulOk i j:=by
 rcases h with ⟨h1,h2⟩ | ⟨h1,h2⟩
 ·exact .of_left (intBits_le_64 h1 h2)
 ·exact .of_right (intBits_le_64 h1 h2)
theorem Bm:OpR X (binaryOp .Add) (rI0 fun i j=>.int (i+j)):=Dk fun _ _ _ _ _ _ _ q=>add_int q
theorem Bg:OpR X (binaryOp .Sub) (rI0 fun i j=>.int (i-j)):=Dk fun _ _ _ _ _ _ _ q=>sub_int q
theorem Bj:OpR X (binaryOp .Mult) (rI Ce fun i j=>.int (i*j)):=opI fun _ _ _ _ _ _ _ hc q=>mul_int q hc.ok
theorem Bk:OpR X (binaryOp .Mod) (rI (fun _ j=>0 < j) fun i j=>.int (i % j)):=opI fun i j _ _ _ _ _ hc q=>by
 have h1:(0:Int) < j:=hc;exact mod_int' (by lia) (by rw [Int.fmod_eq_emod_of_nonneg i (by lia)];exact q)
theorem Bi:OpR X (binaryOp .Pow) (rI EK fun i j=>.int (i^j.toNat)):=opI fun _ _ _ _ _ _ _ hc q=>pow_int_small hc.1 hc.2.1 hc.2.2 q
theorem unI {f:Value->Sem Value} {g:Int->Int}
  (rule:∀(i:Int) (t:Tok) (s:Shared) (Q:Value->Shared->Prop) (E:Value->Shared->Prop),Q (.int (g i) s.toks) {s with toks:=s.toks+1}->wpAny (model X.prog X.w) X.A (f (.int i t)) Q E s):
  UnR X f (rU fun i=>.int (g i)):=by
 intro pins s σ H x v Q I rx h;obtain ⟨i,rfl,q⟩:=h;obtain ⟨t,rfl⟩:=rx;exact rule i t s _ _ ⟨.int (g i),H,I.tok _,⟨_,rfl⟩,q⟩
theorem zW:UnR X (unaryOp .USub) (rU fun i=>.int (-i)):=unI fun _ _ _ _ _ q=>neg_int q
theorem BK (I:Inv X pins σ H s) (q:Q (.bl k) H) (e:k=k'):EP X pins σ Q (.bool k') s:=by
 subst e;exact ⟨.bl k,H,I,rfl,q⟩
theorem Dg:OpR X (compareOp .Lt) (rI0 fun i j=>.bl (decide (i < j))):=y7 fun _ _ _ _ _ _ _ q=>lt_int q
theorem Dh:OpR X (compareOp .LtE) (rI0 fun i j=>.bl (decide (i≤j))):=y7 fun _ _ _ _ _ _ _ q=>le_int q
theorem Di:OpR X (compareOp .Gt) (rI0 fun i j=>.bl (decide (j < i))):=y7 fun _ _ _ _ _ _ _ q=>gt_int q
theorem Dj:OpR X (compareOp .GtE) (rI0 fun i j=>.bl (decide (j≤i))):=y7 fun _ _ _ _ _ _ _ q=>ge_int q
theorem Bl:OpR X (compareOp .Is) (fun x y H Q=>y=.non∧Q (.bl (decide (x=.non))) H):=by
 intro pins s σ H x y v u Q I rx ry h;obtain ⟨rfl,q⟩:=h;cases ry;refine is_none_gen (BK I q ?_);cases x <;> first
  | (cases rx;rfl)
  | (obtain ⟨t,rfl⟩:=rx;rfl)
theorem aC (b:Expr) (h:op≠.In:=by decide) (h2:op≠.NotIn:=by decide):behindInMarks op b=false:=by
 have e1:(op==CmpOp.In)=false:=by cases op <;> first | rfl | exact absurd rfl h
 have e2:(op==CmpOp.NotIn)=false:=by cases op <;> first | rfl | exact absurd rfl h2
 cases b <;> simp [behindInMarks,e1,e2]
theorem yW {op:CmpOp} {r:R2} (ho:OpR X (compareOp op) r) (ha:PE X a ta) (hb:PE X b tb) (hm:behindInMarks op b=false):PE X (.Compare a [op] [b] pos) (tOp r ta tb):=by
 intro pins s σ H Q I h;exact wpAny_Compare1 (B6 ha hb I h fun v u s2 x y H2 I2 rx ry q=>ho pins s2 σ H2 x y v u Q I2 rx ry q) hm
def zH (t:TE):TT:=fun σ H Q=>t σ H fun x H'=>∃k,x=.bl k∧Q k H'
theorem yH (ho:OpR X (compareOp op) r) (ha:PE X a ta) (hb:PE X b tb) (hm:behindInMarks op b=false):PT X (.Compare a [op] [b] pos) (zH (tOp r ta tb)):=by
 intro pins s σ H Q I h;refine wpAny_isTrue_Compare1 (thn (ha pins s σ H _ I h) fun v s1 ⟨x,H1,I1,r1,q1⟩=>thn (hb pins s1 σ H1 _ I1 q1) fun u s2 ⟨y,H2,I2,r2,q2⟩=>
  thn (ho pins s2 σ H2 x y v u _ I2 r1 r2 q2) fun c s3 ⟨z,H3,I3,r3,k,e,q3⟩=>?_) hm
 subst e;cases r3;exact wpAny_truthy_bool ⟨H3,I3,q3⟩
def vS (r r':R2) (ta tb tc:TE):TE:=fun σ H Q=>ta σ H fun x H1=>tb σ H1 fun y H2=>r x y H2 fun z H3=>∃k,z=.bl k∧
 (if k=true then tc σ H3 fun w' H4=>r' y w' H4 Q else Q (.bl false) H3)
theorem wK (ho:OpR X (compareOp op) r) (ho':OpR X (compareOp op') r') (ha:PE X a ta) (hb:PE X b tb) (hc:PE X c tc) (hm:lastMarks [op,op'] [b,c]=false:=by with_unfolding_all rfl):PT X (.Compare a [op,op'] [b,c] pos) (zH (vS r r' ta tb tc)):=by
 intro pins s σ H Q I h;refine isTrue_chain (thn (ha pins s σ H _ I h) fun v s1 ⟨x,H1,I1,r1,q1⟩=>test_link (thn (hb pins s1 σ H1 _ I1 q1) fun u s2 ⟨y,H2,I2,r2,q2⟩=>
  thn (ho pins s2 σ H2 x y v u _ I2 r1 r2 q2) fun d s3 ⟨z,H3,I3,r3,k,e,q3⟩=>?_)) hm
 subst e;cases r3;refine wpAny_truthy_bool ?_;cases k with
 | false=>
  obtain ⟨k',e',q'⟩:=q3;cases e';exact ite_ff ⟨H3,I3,q'⟩
 | true=>
  refine ite_tt (test_last (thn (hc pins s3 σ H3 _ I3 q3) fun w' s4 ⟨z',H4,I4,r4,q4⟩=>thn (ho' pins s4 σ H4 y z' u w' _ I4 r2 r4 q4) fun d' s5 ⟨z2,H5,I5,r5,k2,e2,q5⟩=>?_));subst e2;cases r5;exact wpAny_truthy_bool ⟨H5,I5,q5⟩
def zE (K:FR) (x:V) (H:Hp) (k:Bool):Prop:=
 match x with
 | .non=>k=false
 | .bl b=>k=b
 | .int i=>k=(i !=0)
 | .str y=>y.length≤sizeLine∧k=((y.length:Int) !=0)
 | .byt y=>y.size≤sizeLine∧k=((y.size:Int) !=0)
 | .ref p=>(∃xs,SqL K H p xs∧k=!xs.isEmpty)∨(∃xs,SqT K H p xs∧k=!xs.isEmpty)∨∃kvs,H p=some (.dK kvs)∧k=!kvs.isEmpty
 | _=>False
theorem tw (r:KV kvs vs):(!vs.isEmpty)=!kvs.isEmpty:=by
 cases r <;> rfl
theorem m8 (r:Vals xs its):(!its.toArray.isEmpty)=!xs.isEmpty:=by
 cases r <;> simp
theorem jy:(sizeLine:Nat) < 2^63:=by rw [sizeLine_eq];decide
theorem vO:EH X (fun x H Q=>∃k,zE X.K x H k∧Q k H):=by
 intro pins s σ H x v Q I rx h;obtain ⟨k,e,q⟩:=h;have hl:=jy;have hs:sizeLine=16777216:=sizeLine_eq;cases x with
 | non=>
  cases rx;have e':k=false:=e;subst e';exact truthy_none ⟨H,I,q⟩
 | bl b=>
  cases rx;have e':k=b:=e;subst e';exact wpAny_truthy_bool ⟨H,I,q⟩
 | int i=>
  obtain ⟨t,rfl⟩:=rx;have e':k=(i !=0):=e;subst e';exact PySem.P.truthy_int ⟨H,I,q⟩
 | str y=>
  obtain ⟨t,rfl⟩:=rx;obtain ⟨hy,e'⟩:y.length≤sizeLine∧k=((y.length:Int) !=0):=e;subst e';exact PySem.P.truthy_str (by lia) ⟨H,I.tok _,q⟩
 | byt y=>
  obtain ⟨t,rfl⟩:=rx;obtain ⟨hy,e'⟩:y.size≤sizeLine∧k=((y.size:Int) !=0):=e;subst e';exact PySem.W.truthy_bytes (by lia) ⟨H,I.tok _,q⟩
 | ref p=>
  cases rx;have e':(∃xs,SqL X.K H p xs∧k=!xs.isEmpty)∨(∃xs,SqT X.K H p xs∧k=!xs.isEmpty)∨∃kvs,H p=some (.dK kvs)∧k=!kvs.isEmpty:=e;rcases e' with ⟨xs,hx,e'⟩ | ⟨xs,hx,e'⟩ | ⟨kvs,hx,e'⟩
  ·subst e';obtain ⟨its,r,pl,hz⟩:=I.list hx;have hlen:=r.length;exact wpAny_truthy_list pl.isList (by simp only [List.size_toArray];lia) ⟨H,I.tok _,by rw [m8 r];exact q⟩
  ·subst e';obtain ⟨its,r,pl,hz⟩:=I.tuple hx;have hlen:=r.length;exact truthy_tuple pl (by simp only [List.size_toArray];lia) ⟨H,I.tok _,by rw [m8 r];exact q⟩
  ·subst e';obtain ⟨hz,hS,vs,r,m⟩:kvs.length≤sizeLine∧(p==sysModules)=false∧∃vs,KV kvs vs∧s.heap.DictOf (bF X.prog X.w) p vs:=I.hok p _ hx;have hlen:kvs.length=vs.length:=Paired.length r;exact wpAny_truthy_dict hS m (by lia) ⟨H,I.tok _,by rw [tw r];exact q⟩
 | _=>exact (show False from e).elim
theorem wJ (ha:PE X a ta) (he:∀whole,isTrue a X.env whole=(do let v←whole;standAt a.pos;holding [v] (truthy v))):
  PT X a (fun σ H Q=>ta σ H fun x H'=>∃k,zE X.K x H' k∧Q k H'):=by
 intro pins s σ H Q I h;exact isTrue_plain (thn (ha pins s σ H _ I h) fun v s1 ⟨x,H1,I1,r1,q1⟩=>vO pins s1 σ H1 x v Q I1 r1 q1) (he _)
theorem sR:OpR X (binaryOp .Add) (fun x y H Q=>∃i j,x=.str i∧y=.str j∧i.length+j.length≤sizeLine∧Q (.str (i++j)) H):=by
 intro pins s σ H x y v u Q I rx ry h;obtain ⟨i,j,rfl,rfl,hz,q⟩:=h;obtain ⟨t,rfl⟩:=rx;obtain ⟨t',rfl⟩:=ry;exact add_str (fun t' tk=>⟨.str (i++j),H,I.tok _,⟨_,rfl⟩,q⟩) hz
theorem vals1 (r:Vals [x] us):∃u,us=[u]∧RelV x u:=by
 cases r with
 | cons r1 r2=>cases r2;exact ⟨_,rfl,r1⟩
theorem vals2 (r:Vals [x,y] us):∃u w',us=[u,w']∧RelV x u∧RelV y w':=by
 cases r with
 | cons r1 r2=>
  cases r2 with
  | cons r3 r4=>cases r4;exact ⟨_,_,rfl,r1,r3⟩
theorem xX:eB X (.builtin "abs") (fun xs H Q=>∃i,xs=[.int i]∧Q (.int (if i < 0 then -i else i)) H):=by
 intro pins s σ H xs us Q I r h;obtain ⟨i,rfl,q⟩:=h;obtain ⟨u,rfl,t,rfl⟩:=vals1 r;exact call_abs_int fun u tk=>⟨.int (if i < 0 then -i else i),H,I.tok _,⟨_,rfl⟩,q⟩
theorem vz (hc:X.calm=true):eB X (.builtin "max") (fun xs H Q=>∃i j,xs=[.int i,.int j]∧Q (.int (if j > i then j else i)) H):=by
 intro pins s σ H xs us Q I r h;obtain ⟨i,j,rfl,q⟩:=h;obtain ⟨u,w',rfl,⟨t,rfl⟩,⟨t',rfl⟩⟩:=vals2 r;refine max_two_ints (I.ok.hd hc) fun h' tk k=>⟨_,H,I.kept k,?_,q⟩
 by_cases hj:j > i
 ·rw [if_pos hj,if_pos hj];exact ⟨_,rfl⟩
 ·rw [if_neg hj,if_neg hj];exact ⟨_,rfl⟩
theorem vy (hc:X.calm=true):eB X (.builtin "min") (fun xs H Q=>∃i j,xs=[.int i,.int j]∧Q (.int (if j < i then j else i)) H):=by
 intro pins s σ H xs us Q I r h;obtain ⟨i,j,rfl,q⟩:=h;obtain ⟨u,w',rfl,⟨t,rfl⟩,⟨t',rfl⟩⟩:=vals2 r;refine min_two_ints (I.ok.hd hc) fun h' tk k=>⟨_,H,I.kept k,?_,q⟩
 by_cases hj:j < i
 ·rw [if_pos hj,if_pos hj];exact ⟨_,rfl⟩
 ·rw [if_neg hj,if_neg hj];exact ⟨_,rfl⟩
theorem qG:eB X (.type "str") (fun xs H Q=>∃i,xs=[.int i]∧i.natAbs.log2 < 1920∧Q (.str (toString i)) H):=by
 intro pins s σ H xs us Q I r h;obtain ⟨i,rfl,hz,q⟩:=h;obtain ⟨u,rfl,t,rfl⟩:=vals1 r;exact PySem.P.str_of_int hz ⟨.str _,H,I.tok _,⟨_,rfl⟩,q⟩
structure ObjM (h:Heap) (x dx C:Addr) (mA:Str->Option Value):Prop where
 obj:h.get? x=some (PySem.W.instObj C dx)
 ns:h.Ns1 dx mA
 ne:dx≠x
theorem uZ {h:Heap} {dx:Addr} {mA:Str->Option Value} (n:h.Ns1 dx mA):∃od,h.get? dx=some od∧∀name,PySem.W.lookIn name od=some (mA name):=by
 obtain ⟨o,es,ep,ho,hd,hk,_,hm⟩:=n;refine ⟨o,ho,fun name=>?_⟩;have e:=hm name;unfold nsFind findBy at e;rw [←Array.find?_toList] at e;unfold PySem.W.lookIn;rw [hd];dsimp only
 split
 ·rename_i y q;rw [q] at e;exact congrArg some e
 ·rename_i q;rw [q] at e;have a:es.toList.any (·.refKey)=false:=by
   rw [List.any_eq_false];intro y hy;obtain ⟨z,t,hkey⟩:=hk y (Array.mem_toList_iff.mp hy);simp [DictEntry.refKey,hkey]
  have a':¬es.toList.any (·.refKey)=true:=by rw [a];exact Bool.false_ne_true
  rw [if_neg a'];exact congrArg some e
theorem ObjM.look (I:ObjM h x dx C mA):∃od,PySem.W.InstAt h x (PySem.W.instObj C dx) C (some od)∧∀name,PySem.W.lookIn name od=some (mA name):=
 let ⟨od,ho,hl⟩:=uZ I.ns
 ⟨od,⟨I.obj,rfl,rfl,ho⟩,hl⟩
section
variable {prog:Program} {w:World} {A:Around} {E:Value->Shared->Prop} {s:Shared} {K:FR} {x dx C f:Addr} {mA:Str->Option Value} {name:Str} {v:Value}
end
theorem lj.some_of (r:lj (some v) o):∃u,o=some u∧RelV v u:=by
 cases o with
 | none=>exact (show False from r).elim
 | some u=>exact ⟨u,rfl,r⟩
theorem zk (hok:HOk P w H h) (e:H a=some (.ins C dx fs)):∃mA,ObjM h a dx C mA∧(∀f,lj (fs.lookup f) (mA f))∧PySem.Within mA (fs.map (·.1))∧fs.length≤1000∧H dx=some (.own a):=by
 obtain ⟨d,z,ne,ob,mA,n,r,q⟩:=(show cj P w H h a (.ins C dx fs) from hok a _ e);exact ⟨mA,⟨ob,n,ne⟩,r,q,z,d⟩
structure Cls (K:FR) (C:Addr):Prop where
 pg:PySem.W.plainGet K C Str.empty=true
 hd:PySem.W.hasDictIn K C=true
 po:PySem.W.plainOver K C=true
 sa:PySem.W.findIn K (.ref C) "__setattr__"=some (some (.builtin "object.__setattr__"))
theorem Cls.get {K:FR} {C:Addr} (c:Cls K C) (f:Str):PySem.W.plainGet K C f=true:=c.pg
inductive TyOf (K:FR) (H:Hp):V->Value->Prop where
 | non:TyOf K H .non (.type "NoneType")
 | bl (x:Bool):TyOf K H (.bl x) (.type "bool")
 | int (i:Int):TyOf K H (.int i) (.type "int")
 | str (x:Str):TyOf K H (.str x) (.type "str")
 | flt (x:UInt64):TyOf K H (.flt x) (.type "float")
 | lst {a:Addr} {xs:List V} (e:H a=some (.lst xs)):TyOf K H (.ref a) (.type "list")
 | frz {a:Addr} {o:Obj} {xs:List V} (e:H a=some (.frz o (.lst xs))):TyOf K H (.ref a) (.type "list")
 | tup {a:Addr} {xs:List V} (e:H a=some (.tup xs)):TyOf K H (.ref a) (.type "tuple")
 | dK {a:Addr} {kvs:List (Key×V)} (e:H a=some (.dK kvs)):TyOf K H (.ref a) (.type "dict")
 | dT {a:Addr} {kvs:List (List Key×V)} (e:H a=some (.dT kvs)):TyOf K H (.ref a) (.type "dict")
 | ins {a C dx:Addr} {fs:List (Str×V)} (e:H a=some (.ins C dx fs)) (cl:Cls K C) (ha:PySem.W.findIn K (.ref C) "__class__"=some (some (.builtin "object.__class__")))
   (hn:PySem.W.specialIn K (.builtin "object.__class__") "__get__"=some (some (.builtin "getset_descriptor.__get__"))) (htk:PySem.W.takesIn K (.builtin "object.__class__")=some true)
   (hm:PySem.W.mroIn K C (.type "object")=some true):TyOf K H (.ref a) (.ref C)
theorem vf (I:Inv X pins σ H s) (rx:RelV x u) (ty:TyOf X.K H x t) (e:PySem.W.kitOne X.K t c=some b) (h:∀tk,Q (.bool b) {s with toks:=tk}):
  wpAny (model X.prog X.w) A (call (.builtin "isinstance") [u,c]) Q E s:=by
 cases ty with
 | non=>cases (show u=Value.none from rx);exact PySem.W.kia_one PySem.W.kitx_none I.kIn True.intro e (fun z=>nomatch z) h
 | bl y=>cases (show u=Value.bool y from rx);exact PySem.W.kia_one PySem.W.kitx_bool I.kIn True.intro e (fun z=>nomatch z) h
 | int i=>obtain ⟨t,q⟩:=(show ∃t,u=Value.int i t from rx);cases q;exact PySem.W.kia_one PySem.W.kitx_int I.kIn True.intro e (fun z=>nomatch z) h
 | str y=>obtain ⟨t,q⟩:=(show ∃t,u=Value.str y t from rx);cases q;exact PySem.W.kia_one PySem.W.kitx_str I.kIn True.intro e (fun z=>nomatch z) h
 | flt y=>obtain ⟨t,q⟩:=(show ∃t,u=Value.float y t from rx);cases q;exact PySem.W.kia_one PySem.W.kitx_float I.kIn True.intro e (fun z=>nomatch z) h
 | @lst a xs ea=>
  cases (show u=Value.ref a from rx);obtain ⟨_,_,n,_,h1⟩:=(show cj X.prog X.w H s.heap a (.lst xs) from I.hok a _ ea);exact PySem.W.kia_one PySem.W.kitx_list I.kIn ⟨_,h1,rfl⟩ e (fun z=>nomatch z) h
 | @frz a ob xs ea=>
  cases (show u=Value.ref a from rx);obtain ⟨_,_,_,n,_,h1⟩:=(show cj X.prog X.w H s.heap a (.frz ob (.lst xs)) from I.hok a _ ea);exact PySem.W.kia_one PySem.W.kitx_list I.kIn ⟨_,h1,rfl⟩ e (fun z=>nomatch z) h
 | @tup a xs ea=>
  cases (show u=Value.ref a from rx);obtain ⟨_,_,_,p⟩:=(show cj X.prog X.w H s.heap a (.tup xs) from I.hok a _ ea);obtain ⟨o,h1,h2,_⟩:=p;exact PySem.W.kia_one PySem.W.kitx_tuple I.kIn ⟨o,h1,h2⟩ e (fun z=>nomatch z) h
 | @dK a kvs ea=>
  cases (show u=Value.ref a from rx);obtain ⟨_,_,vs,_,p⟩:=(show cj X.prog X.w H s.heap a (.dK kvs) from I.hok a _ ea);obtain ⟨o,es,ep,h1,h2,_⟩:=p;exact PySem.W.kia_one PySem.W.kitx_dict I.kIn ⟨o,h1,h2.1⟩ e (fun z=>nomatch z) h
 | @dT a kvs ea=>
  cases (show u=Value.ref a from rx);obtain ⟨_,_,xs,_,o,es,ep,h1,h2,_⟩:=(show cj X.prog X.w H s.heap a (.dT kvs) from I.hok a _ ea);exact PySem.W.kia_one PySem.W.kitx_dict I.kIn ⟨o,h1,h2.1⟩ e (fun z=>nomatch z) h
 | @ins a C dx fs ea cl ha hn htk hm=>
  cases (show u=Value.ref a from rx);obtain ⟨mA,O,_⟩:=zk I.hok ea;obtain ⟨od,J,_⟩:=O.look;exact PySem.W.kia_one (PySem.W.kitx_own (cl.get _) cl.hd ha hn htk hm) I.kIn J e (fun z=>nomatch z) h
structure Room (k:Nat) (A:Around):Prop where
 hd:A.handled=none
 dp:A.depth+3*k+5 < recursionLimit
 un:A.units+16*k+200 < cLine
theorem Room.mono (r:Room k A) (h:j≤k):Room j A:=⟨r.hd,by have:=r.dp;lia,by have:=r.un;lia⟩
theorem Room.deeper (r:Room (k+1) A) (env:Env):Room k (A.deeper env):=
 ⟨r.hd,by have:=r.dp;show A.depth+1+3*k+5 < _;lia,by have:=r.un;show A.units+3+16*k+200 < _;lia⟩
theorem Room.depth (r:Room k A):A.depth < recursionLimit:=by have:=r.dp;lia
theorem Room.units (r:Room k A):A.units+64 < cLine:=by have:=r.un;lia
def DU:TA:=fun _ H Q=>Q [] H
def Cz (ta:TE) (tr:TA):TA:=fun σ H Q=>ta σ H fun x H1=>tr σ H1 fun xs H2=>Q (x::xs) H2
theorem AZ:PA X [] DU:=fun _ _ _ _ H Q I h=>Calls.spliced_nil ⟨[],H,I,.nil,h⟩
theorem yZ (ha:PE X e te) (hr:PA X es t) (hs:starEach (e::es) X.env=(false,eval e X.env)::starEach es X.env:=by rfl):PA X (e::es) (Cz te t):=by
 intro pos pins s σ H Q I h;rw [hs];show wpAny _ _ (spliced ((false,eval e X.env)::backTo pos (starEach es X.env))) _ _ s;refine Calls.spliced_cons (thn (ha pins s σ H _ I h) fun u s1 ⟨x,H1,I1,r1,q1⟩=>?_);exact thn (hr pos pins s1 σ H1 _ I1 q1) fun us s2 ⟨xs,H2,I2,r2,q2⟩=>⟨x::xs,H2,I2,.cons r1 r2,q2⟩
def DR (t:TA):TE:=fun σ H Q=>t σ H fun xs H1=>xs.length≤sizeLine∧∀p,H1 p=none->Q (.ref p) (upd H1 p (.tup xs))
def DW (t:TA):TE:=fun σ H Q=>t σ H fun xs H1=>xs.length≤sizeLine∧∀p,H1 p=none->Q (.ref p) (upd H1 p (.lst xs))
theorem AN {x1} (h:PA X es t):PE X (.Tuple es x1 pos) (DR t):=by
 intro pins s σ H Q I hq;refine wpAny_Tuple_spliced (thn (h pos pins s σ H _ I hq) fun us s1 ⟨xs,H1,I1,r,z,q⟩=>⟨by rw [←r.length];exact z,?_⟩);have hf:H1 s1.heap.objs.size=none:=I1.hok.fresh (Nat.le_refl _);refine ⟨.ref s1.heap.objs.size,upd H1 s1.heap.objs.size (.tup xs),I1.laid (t':=s1.toks) (fun b u e=>Heap.get?_push_of_some _ e) (Nat.le_refl _) ?_,rfl,q _ hf⟩;exact ⟨z,us,r,⟨_,Heap.get?_push_size _ rfl,rfl,⟨_,rfl⟩,rfl⟩⟩
theorem AV (h:PA X es t):PE X (.List es pos) (DW t):=by
 intro pins s σ H Q I hq;refine wpAny_List_spliced (thn (h pos pins s σ H _ I hq) fun us s1 ⟨xs,H1,I1,r,z,q⟩=>⟨by rw [←r.length];exact z,?_⟩);have hf:H1 s1.heap.objs.size=none:=I1.hok.fresh (Nat.le_refl _);refine ⟨.ref s1.heap.objs.size,upd H1 s1.heap.objs.size (.lst xs),I1.laid (t':=s1.toks) (fun b u e=>Heap.get?_push_of_some _ e) (Nat.le_refl _) ?_,rfl,q _ hf⟩;exact ⟨z,us,0,r,Heap.get?_push_size _ rfl⟩
abbrev Sp:=List V->Hp->VK->XK->Prop
abbrev CXT:=List Env->Hp->Shared->XK->Value->Shared->Prop
structure Env0 (P:Program) (w:World) (K:FR) (mg:Str->Option Value) (base:Heap) (A:Around) (outer:List Env) (s:Shared) (H:Hp):Prop where
 frames:A.frames=some outer
 mod:Mod K mg base
 bs:∀b o,base.get? b=some o->s.heap.get? b=some o∧H b=none
 bsz:base.objs.size≤s.heap.objs.size
 nq:s.heap.FunFrames base outer
 frf:∀b∈frs outer,H b=none
 hok:HOk P w H s.heap
 bare:AllBare s.gens
def CE (outer:List Env) (P:Program) (w:World) (H:Hp) (s:Shared) (Q:VK) (u:Value) (s':Shared):Prop:=
 ∃v H',s'.os=s.os∧AllBare s'.gens∧Un (frs outer) [] H H' s.heap s'.heap∧HOk P w H' s'.heap∧RelV v u∧Q v H'
def CR (CX:CXT) (outer:List Env) (P:Program) (w:World) (H:Hp) (s:Shared) (Q:VK) (E:XK) (r:Result) (s':Shared):Prop:=
 match r with
 | .ok (.ret u)=>CE outer P w H s Q u s'
 | .ok _=>False
 | .error e=>CX outer H s E e s'
structure FnOk (P:Program) (w:World) (K:FR) (mg:Str->Option Value) (base:Heap) (CX:CXT) (k:Nat) (f:Addr) (fd:FuncData) (ps:List Str) (sp:Sp):Prop where
 len:∀vs H Q E,sp vs H Q E->vs.length=ps.length
 run:∀(A:Around) (outer:List Env) (s:Shared) (H:Hp) (args:Args) (us:List Value) (vs:List V) (Q:VK) (E:XK),Room k A->Env0 P w K mg base A outer s H->BindsTo s fd args (ps.zip us)->Vals vs us->sp vs H Q E->
  codeAny (model P w) A (.call (.ref f) args) (CR CX outer P w H s Q E) s
theorem FnOk.imp {P:Program} {w:World} {K:FR} {mg:Str->Option Value} {base:Heap} {CX:CXT} {k:Nat} {f:Addr} {fd:FuncData} {ps:List Str} {sp sp':Sp} (F:FnOk P w K mg base CX k f fd ps sp)
  (h:∀vs H Q E,sp' vs H Q E->sp vs H Q E):FnOk P w K mg base CX k f fd ps sp':=
 ⟨fun vs H Q E q=>F.len vs H Q E (h _ _ _ _ q),fun A outer s H args us vs Q E hr he hb hv hs=>F.run A outer s H args us vs Q E hr he hb hv (h _ _ _ _ hs)⟩
theorem Inv.EC (I:Inv X pins σ H s):Env0 X.prog X.w X.K X.mg X.base X.A X.stack s H:=
 ⟨I.ok.frames,I.ok.mod,I.bs,Nat.le_trans I.ok.bsz I.sz,I.stack,I.tY,I.hok,I.bare⟩
theorem Inv.after (I:Inv X pins σ H s) (h:CE X.stack X.prog X.w H s Q u s'):EP X pins σ Q u s':=by
 obtain ⟨v,H',os,bare,un,hok,r,q⟩:=h;obtain ⟨hh,g,d,t,os'⟩:=s';obtain rfl:os'=s.os:=os;exact ⟨v,H',I.call (h':=hh) (g':=g) (d':=d) (t':=t) (ch:=[]) un hok bare (fun b z=>absurd z (by simp)),r,q⟩
def CA (sp:Sp) (dvs:List V) (E:XK) (t:TA):TE:=fun σ H Q=>t σ H fun vs H1=>sp (vs++dvs) H1 Q E
def Binds (K:FR) (fd:FuncData) (ps:List Str) (ds:List Value):Prop:=
 ∀(s:Shared) (us:List Value),K.In s.heap->(us++ds).length=ps.length->BindsTo s fd ⟨us,[]⟩ (ps.zip (us++ds))
theorem Binds.all {K:FR} {fd:FuncData} {ps:List Str} (h:∀us:List Value,us.length=ps.length->bindArgs fd ⟨us,[]⟩=pure (ps.zip us)):Binds K fd ps []:=fun s us _ hl=>by
 rw [List.append_nil] at hl ⊢;exact .of_eq (h us hl)
def Passes (CX:CXT) (X:Cx) (E:XK):Prop:=∀(pins:List (Addr×Obj)) (σ:St) (H:Hp) (s:Shared) (e:Value) (s':Shared),Inv X pins σ H s->CX X.stack H s E e s'->X.xe e s'
theorem Ak (F:FnOk X.prog X.w X.K X.mg X.base CX k f fd ps sp) (hr:Room k X.A) (hb:Binds X.K fd ps ds) (hd:Vals dvs ds) (hx:Passes CX X E) (I:Inv X pins σ H s) (r:Vals vs us) (h:sp (vs++dvs) H Q E):wpAny (model X.prog X.w) X.A (call (.ref f) us) (EP X pins σ Q) X.xe s:=by
 have r2:Vals (vs++dvs) (us++ds):=r.append hd;have hl:(us++ds).length=ps.length:=by rw [←r2.length];exact F.len _ _ _ _ h
 refine wpAny_call (codeAny_mono (F.run X.A X.stack s H ⟨us,[]⟩ (us++ds) (vs++dvs) Q E hr I.EC (hb s us I.kIn hl) r2 h) fun r s' hq=>?_);cases r with
 | error e=>exact hx pins σ H s e s' I hq
 | ok fl=>
  cases fl with
  | ret u=>exact I.after hq
  | next=>exact False.elim hq
  | brk=>exact False.elim hq
  | cont=>exact False.elim hq
theorem yX (F:FnOk X.prog X.w X.K X.mg X.base CX k f fd ps sp) (hr:Room k X.A) (hg:Gl X x) (hm:X.mg x=some (.ref f)) (hk:PySem.W.keepIn X.K (.ref f)=true) (hb:Binds X.K fd ps ds) (hd:Vals dvs ds) (hx:Passes CX X E)
  (ha:PA X (e::es) t) (hdb:(x==("__debug__":Str))=false:=by decide) (he:starEach (e::es) X.env=(false,eval e X.env)::starEach es X.env:=by rfl) (hpl:(backTo pos (starEach es X.env)).any (·.1)=false:=by rfl):
  PE X (.Call (.Name x p) (e::es) [] pos) (CA sp dvs E t):=by
 intro pins s σ H Q I h;refine wpAny_Call_Name_kw (ug I hg hm ?_ hdb);refine PySem.W.callWith_K (h₀:=X.base) I.ok.mod.kin hk (thn (ha pos pins s σ H _ I h) fun us s1 ⟨vs,H1,I1,r,q⟩=>⟨I1.kIn,?_⟩) he hpl;exact Ak F hr hb hd hx I1 r q
structure FnScope (N P:List Str) (sc:Scope):Prop where
 kind:sc.kind=.function
 co:sc.isCoroutine=false
 gen:sc.isGenerator=false
 nd:N.Nodup
 pre:N.take P.length=P
 par:∀x∈P,sc.names.lookup x=some .local∨sc.names.lookup x=some .cell
 nofree:∀y∈sc.names,y.2≠.free
theorem pz {kindOf:Str->Option NameKind} {x:Str}:∀{binds:List (Str×Value)} {m:Str->Option Value},(∀v,(x,v)∉binds)->bindL kindOf binds m x=m x
 | [],_,_=>rfl
 | (n,v)::r,m,h=>by
  unfold bindL;rw [pz fun w hw=>h w (List.mem_cons_of_mem _ hw)]
  split
  ·have:x≠n:=by rintro rfl;exact h v List.mem_cons_self
   simp [this]
  ·rfl
theorem pB {kindOf:Str->Option NameKind} {x:Str}:∀{binds:List (Str×Value)} {m:Str->Option Value},(∀v,(x,v)∉binds)->bindC kindOf binds m x=m x
 | [],_,_=>rfl
 | (n,v)::r,m,h=>by
  unfold bindC;rw [pB fun w hw=>h w (List.mem_cons_of_mem _ hw)]
  split
  ·rfl
  ·have:x≠n:=by rintro rfl;exact h v List.mem_cons_self
   simp [this]
theorem pA {kindOf:Str->Option NameKind} {x:Str} {v:Value}:∀{P:List Str} {vs:List Value} {i:Nat} {m:Str->Option Value},P.Nodup->P[i]?=some x->vs[i]?=some v->kindOf x=some .local->
  bindL kindOf (P.zip vs) m x=some v
 | [],_,_,_,_,h,_,_=>by simp at h
 | _::_,[],_,_,_,_,h,_=>by simp at h
 | p::P,w::vs,0,m,nd,h1,h2,hk=>by
  simp at h1 h2;subst h1;subst h2;show bindL kindOf ((p,w)::P.zip vs) m p=_;unfold bindL;rw [pz fun v hv=>(List.nodup_cons.mp nd).1 (List.of_mem_zip hv).1,if_pos hk];simp
 | p::P,w::vs,i+1,m,nd,h1,h2,hk=>by
  show bindL kindOf ((p,w)::P.zip vs) m x=_;unfold bindL;exact pA (i:=i) (List.nodup_cons.mp nd).2 (by simpa using h1) (by simpa using h2) hk
theorem pC {kindOf:Str->Option NameKind} {x:Str} {v:Value}:∀{P:List Str} {vs:List Value} {i:Nat} {m:Str->Option Value},P.Nodup->P[i]?=some x->vs[i]?=some v->kindOf x≠some .local->
  bindC kindOf (P.zip vs) m x=some v
 | [],_,_,_,_,h,_,_=>by simp at h
 | _::_,[],_,_,_,_,h,_=>by simp at h
 | p::P,w::vs,0,m,nd,h1,h2,hk=>by
  simp at h1 h2;subst h1;subst h2;show bindC kindOf ((p,w)::P.zip vs) m p=_;unfold bindC;rw [pB fun v hv=>(List.nodup_cons.mp nd).1 (List.of_mem_zip hv).1,if_neg hk];simp
 | p::P,w::vs,i+1,m,nd,h1,h2,hk=>by
  show bindC kindOf ((p,w)::P.zip vs) m x=_;unfold bindC;exact pC (i:=i) (List.nodup_cons.mp nd).2 (by simpa using h1) (by simpa using h2) hk
noncomputable def start (N:List Str) (vs:List V):St:=vs.map some++List.replicate (N.length-vs.length) none
abbrev tK (CX:CXT) (P:Program) (w:World) (K:FR) (mg:Str->Option Value) (base:Heap) (N:List Str) (qual:Str) (scope:Scope) (f:Addr) (cd:Value) (A:Around) (outer:List Env) (s:Shared) (H:Hp) (E:XK):Cx where
 prog:=P
 w:=w
 K:=K
 mg:=mg
 base:=base
 A:=A.deeper (envOfC qual scope s.heap.objs.size f cd)
 N:=N
 s₀:=s
 H₀:=H
 env:=envOfC qual scope s.heap.objs.size f cd
 outer:=outer
 stack:=envOfC qual scope s.heap.objs.size f cd::outer
 ex:=[]
 calm:=true
 fn:=fun _=>true
 pn:=[]
 xe:=fun e s'=>wpAny (model P w) (A.deeper (envOfC qual scope s.heap.objs.size f cd)) (leaving (envOfC qual scope s.heap.objs.size f cd) e) (fun _ s''=>CX outer H s E e s'') (fun e' s''=>CX outer H s E e' s'') s'
theorem so {sc:Scope} {n:Nat} {x:Str} (h:sc.names.lookup x=some .cell):∃c,(cellsFrom n sc.names []).lookup x=some c:=by
 have q:=PySem.W.cellsFrom_some sc.names n [] (.inl h);exact Option.isSome_iff_exists.mp q
theorem vg {CX:CXT} {P:Program} {w:World} {K:FR} {mg:Str->Option Value} {base:Heap} {N ps:List Str} {qual:Str} {scope:Scope} {f:Addr} {cd:Value} {A:Around} {outer:List Env} {s s1:Shared} {H:Hp} {E:XK} {us:List Value} {vs:List V}
  (S:FnScope N ps scope) (hd:A.handled=none) (e0:Env0 P w K mg base A outer s H) (hl:vs.length=ps.length) (r:Vals vs us)
  (x:InCallC s s.heap.objs.size (bindL (envOfC qual scope s.heap.objs.size f cd).kindOf (ps.zip us) fun _=>none) (cellsFrom (s.heap.objs.size+1) scope.names []) (bindC (envOfC qual scope s.heap.objs.size f cd).kindOf (ps.zip us) fun _=>none) s1):
  Inv (tK CX P w K mg base N qual scope f cd A outer s H E) [] (start N vs) H s1:=by
 have hpl:ps.length≤N.length:=by have:=congrArg List.length S.pre;rw [List.length_take] at this;lia
 obtain ⟨h1,tk,rfl,hk⟩:=x.done;have noA:∀b:Addr,b∉(tK CX P w K mg base N qual scope f cd A outer s H E).ex:=fun b z=>absurd (show b∈([]:List Addr) from z) (by simp);refine ⟨⟨e0.mod,S.kind,rfl,rfl,Nat.le_refl _,fun y z c h1 h2=>?_,fun y hy=>?_,fun y c _ h=>?_,fun _=>hd,Around.frames_deeper e0.frames,.inr ⟨rfl,rfl⟩,fun b z=>absurd z (noA b),e0.bs,e0.bsz,fun b _ _=>noA b,fun b z=>absurd z (noA b),e0.nq,e0.frf⟩,
  rfl,e0.bare,Un.kept hk,⟨_,x.toInCall.ns,fun i y v h1 h2 h3=>?_⟩,fun y c h=>⟨_,x.cell y c h⟩,e0.hok.fresh (Nat.le_refl _),fun y c h=>?_,fun p hp=>absurd (show p∈([]:List (Addr×Obj)) from hp) (by simp),e0.hok.kept hk,?_⟩
 ·exact name_of_addr x.apart (PySem.mem_of_lookup h1) (PySem.mem_of_lookup h2)
 ·have hy:scope.names.lookup y=some .cell∨scope.names.lookup y=some .free:=hy;rcases hy with hy | hy
  ·exact so hy
  ·exact absurd rfl (S.nofree _ (PySem.mem_of_lookup hy))
 ·exact Nat.le_of_lt (x.above y c (PySem.mem_of_lookup h))
 ·have hi:i < vs.length:=by
   unfold start at h2
   by_cases hi:i < vs.length
   ·exact hi
   ·rw [List.getElem?_append_right (by simpa using hi)] at h2;rw [List.getElem?_replicate] at h2
    split at h2 <;> cases h2
  have ha:vs[i]?=some v:=by
   unfold start at h2;rw [List.getElem?_append_left (by simpa using hi),List.getElem?_map] at h2;cases e:vs[i]? with
   | none=>rw [e] at h2;cases h2
   | some a=>rw [e] at h2;cases h2;rfl
  obtain ⟨u,hu,rv⟩:=r.get ha;have hp:ps[i]?=some y:=by
   rw [←S.pre,List.getElem?_take_of_lt (by lia)];exact h1
  have ndP:ps.Nodup:=by rw [←S.pre];exact S.nd.sublist (List.take_sublist _ _)
  refine ⟨u,rv,?_⟩;rcases S.par y (List.mem_of_getElem? hp) with k | k
  ·exact .inl ⟨k,pA ndP hp hu k⟩
  ·obtain ⟨c,e⟩:=so (n:=s.heap.objs.size+1) k;refine .inr ⟨.inl k,c,e,?_⟩;have q:=x.cell y c e;rw [pC ndP hp hu (by show scope.names.lookup y≠_;rw [k];decide)] at q;exact q
 ·exact e0.hok.fresh (Nat.le_of_lt (x.above y c (PySem.mem_of_lookup h)))
 ·unfold start;show _=N.length;rw [List.length_append,List.length_map,List.length_replicate]
  lia
theorem Dz {CX:CXT} {P:Program} {w:World} {K:FR} {mg:Str->Option Value} {base:Heap} {k:Nat} {f:Addr} {name qual:Str} {params:Arguments} {body:List Stmt} {scope:Scope} {dV kV doc pm cdv ct oc:Value} {an od:Option Addr}
  {osl:Array (Option Value)} {N ps:List Str} {sp:Sp} (lk:K.lookup f=some ⟨oc,od,.func (PySem.W.fnOf name qual params body scope dV kV doc pm an cdv ct),osl⟩) (hcd:PySem.W.codeIn K cdv qual=true) (S:FnScope N ps scope)
  (len:∀vs H Q E,sp vs H Q E->vs.length=ps.length)
  (hbody:∀(A:Around) (outer:List Env) (s:Shared) (H:Hp) (vs:List V) (Q:VK) (E:XK),Room k (A.deeper (envOfC qual scope s.heap.objs.size f cdv))->sp vs H Q E->
   ∃t,PSs (tK CX P w K mg base N qual scope f cdv A outer s H E) body t∧t {nx:=fun _ H'=>Q .non H',rt:=Q} (start N vs) H):
  FnOk P w K mg base CX (k+1) f (PySem.W.fnOf name qual params body scope dV kV doc pm an cdv ct) ps sp:=by
 refine ⟨len,fun A outer s H args us vs Q E hr e0 hb r hsp=>?_⟩;have hl:=len _ _ _ _ hsp;have KX:K.In s.heap:=e0.mod.kin.keeps fun b o e=>(e0.bs b o e).1;have lim:s.heap.NoLimit:=e0.mod.nolimit.keeps fun b o e=>(e0.bs b o e).1;have hkind:∀y∈ps.zip us,scope.names.lookup y.1=some .local∨(scope.names.lookup y.1=some .cell∧((cellsFrom (s.heap.objs.size+1) scope.names []).lookup y.1).isSome=true):=fun ⟨n,v⟩ hy=>by
  rcases S.par n (List.of_mem_zip hy).1 with q | q
  ·exact .inl q
  ·exact .inr ⟨q,PySem.W.cellsFrom_some _ _ _ (.inl q)⟩
 refine codeAny_call_function hr.depth (KX _ _ lk) rfl S.co S.gen rfl (PySem.W.codeRec_of KX hcd) (hb _ _ _ _ ?_);refine wpAny_newFunctionEnv_cells S.kind hkind fun env he s1 x=>?_;subst he;refine ⟨lim.keeps x.toInCall.keep,codeAny_func ?_⟩;obtain ⟨t,ht,hq⟩:=hbody A outer s H vs Q E (hr.deeper _) hsp;have I:Inv (tK CX P w K mg base N qual scope f cdv A outer s H E) [] (start N vs) H s1:=vg S hr.hd e0 hl r x;refine wpAny_mono (ht [] s1 (start N vs) H _ I hq) (fun fl s' hs=>?_) fun e s' hs=>hs;have fin:∀{σ':St} {H':Hp} {v:V} {u:Value},Inv (tK CX P w K mg base N qual scope f cdv A outer s H E) [] σ' H' s'->RelV v u->Q v H'->CE outer P w H s Q u s':=
  fun {σ' H' v u} J rv q=>⟨v,H',J.os,J.bare,J.base,J.hok,rv,q⟩
 cases fl with
 | ret u=>
  obtain ⟨v,σ',H',J,rv,q⟩:=hs;exact fin J rv q
 | next=>
  obtain ⟨σ',H',J,q⟩:=hs;exact fin (v:=V.non) (u:=Value.none) J rfl q
 | brk=>
  obtain ⟨_,_,_,q⟩:=hs;exact False.elim q
 | cont=>
  obtain ⟨_,_,_,q⟩:=hs;exact False.elim q
section
variable {X:Cx} {x:Str} {p pos:Pos} {e:Expr} {es:List Expr} {t:TA} {id T:String} {r:List V->Hp->VK->Prop}
def tCB (r:List V->Hp->VK->Prop) (t:TA):TE:=fun σ H Q=>t σ H fun vs H1=>r vs H1 Q
theorem wY (hc:eB X (.builtin id) r) (hg:Gl X x) (hm:X.mg x=none) (hv:bootBuiltins x=some (.builtin id)) (ha:PA X (e::es) t) (hn:x≠"__name__":=by decide) (hdb:(x==("__debug__":Str))=false:=by decide)
  (he:starEach (e::es) X.env=(false,eval e X.env)::starEach es X.env:=by rfl) (hpl:(backTo pos (starEach es X.env)).any (·.1)=false:=by rfl):PE X (.Call (.Name x p) (e::es) [] pos) (tCB r t):=by
 intro pins s σ H Q I h;refine wpAny_Call_Name_kw (jA I hg hm hv ?_ hn hdb);exact PyProof.Rows.callWith_builtin1 (thn (ha pos pins s σ H _ I h) fun us s1 ⟨vs,H1,I1,r1,q1⟩=>hc pins s1 σ H1 vs us Q I1 r1 q1) he hpl
theorem oN (hc:eB X (.type T) r) (hg:Gl X x) (hm:X.mg x=none) (hv:bootBuiltins x=some (.type T)) (ha:PA X (e::es) t) (hn:x≠"__name__":=by decide) (hdb:(x==("__debug__":Str))=false:=by decide)
  (he:starEach (e::es) X.env=(false,eval e X.env)::starEach es X.env:=by rfl) (hpl:(backTo pos (starEach es X.env)).any (·.1)=false:=by rfl):PE X (.Call (.Name x p) (e::es) [] pos) (tCB r t):=by
 intro pins s σ H Q I h;refine wpAny_Call_Name_kw (jA I hg hm hv ?_ hn hdb);exact PyProof.Rows.callWith_type1 (thn (ha pos pins s σ H _ I h) fun us s1 ⟨vs,H1,I1,r1,q1⟩=>hc pins s1 σ H1 vs us Q I1 r1 q1) he hpl
end
end L2
namespace HT
open PySem PyProof.Rows
section
open PySem.SeqAt
open PySem.AutoSeq1 (wpAny_loadPart')
open PySem.MeetsSeq PySem.MeetsSeq2 PySem.MeetsSeq3
end
theorem zA (ht:IsTup s.heap t vs.toArray) (hb:IsTup s.heap b ws.toArray) (hv:vs≠[]) (h1:ws=[]->Q (.ref t) s) (h2:ws≠[]->Q (.ref s.heap.objs.size) {s with heap:=s.heap.push {cls:=.type "tuple",data:=.seq (vs++ws).toArray}}) (hsz:vs.length+ws.length≤sizeLine):wpAny (model prog w) A (binaryOp .Add (.ref t) (.ref b)) Q E s:=by
 obtain ⟨⟨cls,dd,data,sl⟩,ho,hc,n,hd⟩:=id ht;obtain ⟨⟨cls2,dd2,data2,sl2⟩,ho2,hc2,n2,hd2⟩:=id hb;simp only at hc hd hc2 hd2;subst hc hd hc2 hd2;have e:vs.toArray++ws.toArray=(vs++ws).toArray:=by simp
 by_cases hw:ws=[]
 ·exact concat_meets ⟨_,ho,rfl⟩ ⟨_,ho2,rfl⟩ noFill_tuple_add seq_tuple_add PySem.F.slot_tuple_add PySem.F.entry_tuple_add (PySem.F.args_tuple_add_2 _ _)
   (tuple_addW1 t b vs.toArray ws.toArray n n2 dd dd2 sl sl2 (by simpa using hv) (by simp [hw])) ⟨ho,ho2,h1 hw⟩
 ·refine concat_meets ⟨_,ho,rfl⟩ ⟨_,ho2,rfl⟩ noFill_tuple_add seq_tuple_add PySem.F.slot_tuple_add PySem.F.entry_tuple_add (PySem.F.args_tuple_add_2 _ _)
   (tuple_addW2 t b vs.toArray ws.toArray n n2 dd dd2 sl sl2 (by simpa using hv) (by simpa using hw) (by rw [List.size_toArray,List.size_toArray];exact hsz)) ⟨ho,ho2,?_⟩
  rw [e];exact h2 hw
noncomputable def sIx (n d:Nat):Option Int->Nat
 | none=>d
 | some v=>if v < 0 then (v+(n:Int)).toNat else min v.toNat n
theorem rl (n d:Nat):sIx n d none=d:=rfl
theorem t4 (n d k:Nat):sIx n d (some (k:Int))=min k n:=by
 show (if (k:Int) < 0 then ((k:Int)+(n:Int)).toNat else min (k:Int).toNat n)=min k n;rw [if_neg (by lia),Int.toNat_natCast]
theorem Aj (n d:Nat) (hd:d≤n) (o:Option Int):sIx n d o≤n:=by
 cases o with
 | none=>exact hd
 | some v=>
  show (if v < 0 then (v+(n:Int)).toNat else min v.toNat n)≤n
  by_cases hv:v < 0
  ·rw [if_pos hv];lia
  ·rw [if_neg hv];exact Nat.min_le_right _ _
theorem uA (v:Int) (n d:Nat):(if v < 0 then max (v+(n:Int)) 0 else min v (n:Int))=((sIx n d (some v):Nat):Int):=by
 show (if v < 0 then max (v+(n:Int)) 0 else min v (n:Int))=(((if v < 0 then (v+(n:Int)).toNat else min v.toNat n):Nat):Int)
 by_cases hv:v < 0
 ·simp only [if_pos hv];lia
 ·simp only [if_neg hv];lia
theorem tS (lo hi:Option Int) (n:Nat):Builtin.Slice.sliceAdjust lo hi 1 (n:Int)=(((sIx n 0 lo:Nat):Int),((sIx n n hi:Nat):Int)):=by
 have h1:¬((1:Int) < 0):=by lia
 unfold Builtin.Slice.sliceAdjust;simp only [h1,if_false];refine Prod.ext ?_ ?_
 ·cases lo with
  | none=>rfl
  | some v=>exact uA v n 0
 ·cases hi with
  | none=>rfl
  | some v=>exact uA v n n
theorem sQ (i j:Nat):Builtin.Slice.slicePlaces (i:Int) (j:Int) 1=j-i:=by
 unfold Builtin.Slice.slicePlaces;have h1:(1:Int) > 0:=by lia
 simp only [h1,if_true,Int.ediv_one]
 split <;> lia
theorem mE (p:IsPart v o) (h:Q o s):wpAny (model prog w) A (Builtin.Slice.slicePartIndex v) Q E s:=by
 cases p with
 | none=>exact slicePart_none h
 | int i t=>exact slicePart_int h
theorem fN {sl:Addr} {vl vu:Value} {lo hi:Option Int} {n:Nat} {Q:Int×Int×Nat->Shared->Prop} (hs:s.heap.IsSliceOf sl vl vu .none) (pl:IsPart vl lo) (pu:IsPart vu hi)
  (h:Q (((sIx n 0 lo:Nat):Int),1,sIx n n hi-sIx n 0 lo) s):wpAny (model prog w) A (Builtin.Slice.sliceApplied (.ref sl) (pure (n:Int))) Q E s:=by
 obtain ⟨os,hos,hcs,hds⟩:=id hs;unfold Builtin.Slice.sliceApplied Builtin.Slice.sliceFields;refine wpAny_bind (wpAny_bind (wpAny_field hos hds (x:=vl) rfl (wpAny_bind (wpAny_field hos hds (x:=vu) rfl (wpAny_bind (wpAny_field hos hds (x:=.none) rfl (wpAny_pure ?_)))))));refine wpAny_bind (slicePart_none ?_);show wpAny _ _ (if ((1:Int)==0)=true then _ else _) _ _ s;rw [if_neg (by decide)];refine wpAny_bind (mE pl (wpAny_bind (mE pu (wpAny_bind (wpAny_pure ?_)))));show wpAny _ _ (match Builtin.Slice.sliceAdjust lo hi 1 (n:Int) with | (lo,hi)=>pure (lo,(1:Int),Builtin.Slice.slicePlaces lo hi 1)) _ _ s;rw [tS lo hi n];show wpAny _ _ (pure (((sIx n 0 lo:Nat):Int),(1:Int),Builtin.Slice.slicePlaces ((sIx n 0 lo:Nat):Int) ((sIx n n hi:Nat):Int) 1)) _ _ s;rw [sQ];exact wpAny_pure h
theorem wQ (xs:Array Value) (i k:Nat):((List.range k).filterMap fun (m:Nat)=>xs[((i:Int)+(m:Int)*1).toNat]?).toArray=((xs.toList.drop i).take k).toArray:=by
 have e:(fun (m:Nat)=>xs[((i:Int)+(m:Int)*1).toNat]?)=fun m=>xs[i+m]?:=by
  funext m
  have:((i:Int)+(m:Int)*1).toNat=i+m:=by lia
  rw [this]
 rw [e];have:=pick_run xs i k;rw [List.filterMap_map] at this;have e2:((fun x=>xs[x]?)∘fun x=>i+x)=fun m=>xs[i+m]?:=rfl;rw [e2] at this;rw [this]
theorem j8 {t sl:Addr} {items:Array Value} {vl vu:Value} {lo hi:Option Int} {Q:Value->Shared->Prop} (ht:IsTup s.heap t items) (hs:s.heap.IsSliceOf sl vl vu .none) (pl:IsPart vl lo) (pu:IsPart vu hi)
  (hw:¬(sIx items.size 0 lo=0∧sIx items.size items.size hi=items.size))
  (h:Q (.ref s.heap.objs.size) {s with heap:=s.heap.push {cls:=.type "tuple",data:=.seq ((items.toList.drop (sIx items.size 0 lo)).take (sIx items.size items.size hi-sIx items.size 0 lo)).toArray}})
  (hsz:items.size≤sizeLine):wpAny (model prog w) A (getItem (.ref t) (.ref sl)) Q E s:=by
 have htake:sizeOk (.seq ((items.toList.drop (sIx items.size 0 lo)).take (sIx items.size items.size hi-sIx items.size 0 lo)).toArray):=by
  show ((items.toList.drop (sIx items.size 0 lo)).take (sIx items.size items.size hi-sIx items.size 0 lo)).toArray.size≤sizeLine;rw [List.size_toArray,List.length_take,List.length_drop,Array.length_toList]
  lia
 have hj:sIx items.size items.size hi≤items.size:=Aj _ _ (Nat.le_refl _) hi;obtain ⟨os,hos,hcs,hds⟩:=id hs;have hTs:s.TypeIs (.ref sl) "slice":=⟨os,hos,hcs⟩;unfold getItem
 try with_reducible refine wpAny_holding ?_
 first | refine wpAny_bind (wpAny_pure ?_) | skip
 refine wpAny_bind (wpAny_sequenceKey ht.typeIs (by decide) ?_);refine wpAny_bind (wpAny_callSpecial?_slot (name:=Str.ofString "__getitem__") ht.typeIs PyProof.Rows.slot_tuple_getitem
  (wpAny_call_entry PyProof.Rows.slot_tuple_getitem ht.typeIs entry_tuple_getitem ?_ (args_tuple_getitem _ _)))
 show wpAny _ _ (Builtin.Tuple.tupleItemsOf (.ref t) >>=_) _ _ s;refine wpAny_bind (tupleItemsOf_ ht ?_);refine wpAny_bind (wpAny_typeOf hTs ?_);rw [if_pos (by decide)];refine wpAny_bind (fN hs pl pu ?_);have hno:¬((((sIx items.size 0 lo:Nat):Int)==0&&(1:Int)==1&&(sIx items.size items.size hi-sIx items.size 0 lo)==items.size)=true):=by
  intro q;rw [Bool.and_eq_true,Bool.and_eq_true] at q;have q1:((sIx items.size 0 lo:Nat):Int)=0:=eq_of_beq q.1.1;have q2:sIx items.size items.size hi-sIx items.size 0 lo=items.size:=eq_of_beq q.2;exact hw ⟨by lia,by lia⟩
 show wpAny _ _ (if (((sIx items.size 0 lo:Nat):Int)==0&&(1:Int)==1&&(sIx items.size items.size hi-sIx items.size 0 lo)==items.size)=true then _ else _) _ _ s;rw [if_neg hno,wQ]
 first
  | exact wpAny_bind (m:=Builtin.Tuple.tupleExact _) (wpAny_newObj_type (wpAny_pure ⟨_,rfl,wpAny_pure h⟩) htake)
  | exact wpAny_bind (m:=Builtin.Tuple.tupleExact _) (wpAny_newObj_type (wpAny_bind (wpAny_pure (wpAny_pure ⟨_,rfl,wpAny_pure h⟩))) htake)
  | exact wpAny_bind (wpAny_bind (m:=Builtin.Tuple.tupleExact _) (wpAny_newObj_type (wpAny_pure (wpAny_pure ⟨_,rfl,wpAny_pure h⟩)) htake))
  | exact wpAny_bind (wpAny_bind (m:=Builtin.Tuple.tupleExact _) (wpAny_newObj_type (wpAny_pure ⟨_,rfl,wpAny_pure h⟩) htake))
end HT
namespace L2
open PySem PySem.Spec PyProof.Rows
abbrev TO:=St->Hp->(Option Int->Hp->Prop)->Prop
def PO (X:Cx) (e:Option Expr) (t:TO):Prop:=
 ∀(pins:List (Addr×Obj)) (s:Shared) (σ:St) (H:Hp) (Q:Option Int->Hp->Prop),Inv X pins σ H s->t σ H Q->
  wpAny (model X.prog X.w) X.A (evalPart e X.env) (fun u s'=>∃o H',Inv X pins σ H' s'∧IsPart u o∧Q o H') X.xe s
noncomputable def yg:TO:=fun _ H Q=>Q none H
def Ct (t:TE):TO:=fun σ H Q=>t σ H fun x H1=>∃i,x=.int i∧Q (some i) H1
theorem intsAre_of:∀{us:List Value},Vals (ns.map V.int) us->IntsAre us ns:=by
 induction ns with
 | nil=>intro us r;rw [List.map_nil] at r;cases r;exact .nil
 | cons n ns ih=>
  intro us r;rw [List.map_cons] at r;cases r with
  | cons r1 r2=>
   obtain ⟨t,e⟩:=r1;subst e;exact .cons n t (ih r2)
section
variable {X:Cx} {e:Expr} {te:TE} {lo hi:Option Expr} {tl th:TO} {pos p2:Pos}
theorem yP:PO X none yg:=by
 intro pins s σ H Q I h;rw [evalPart_none];exact wpAny_pure ⟨none,H,I,.none,h⟩
theorem yO (h:PE X e te):PO X (some e) (Ct te):=by
 intro pins s σ H Q I hw;rw [evalPart_some];refine thn (h pins s σ H _ I hw) fun u s1 ⟨x,H1,I1,r1,q1⟩=>?_;obtain ⟨i,rfl,q⟩:=q1;obtain ⟨t,rfl⟩:=r1;exact ⟨some i,H1,I1,.int i t,q⟩
def SlR (X:Cx) (r:V->Option Int->Option Int->Hp->VK->Prop):Prop:=
 ∀(pins:List (Addr×Obj)) (s:Shared) (σ:St) (H:Hp) (x:V) (v vl vu:Value) (lo hi:Option Int) (sl:Addr) (Q:VK),Inv X pins σ H s->RelV x v->s.heap.IsSliceOf sl vl vu .none->IsPart vl lo->IsPart vu hi->r x lo hi H Q->
  ∃T id,typeLookup (.type T) "__getitem__"=pure (some (.builtin id))∧s.TypeIs v T∧wpAny (model X.prog X.w) X.A (getItem v (.ref sl)) (EP X pins σ Q) X.xe s
def tSl (r:V->Option Int->Option Int->Hp->VK->Prop) (te:TE) (tl th:TO):TE:=fun σ H Q=>te σ H fun x H1=>tl σ H1 fun l H2=>th σ H2 fun u H3=>r x l u H3 Q
theorem wU (hr:SlR X r) (he:PE X e te) (hl:PO X lo tl) (hu:PO X hi th):PE X (.Subscript e (.Slice lo hi none p2) pos) (tSl r te tl th):=by
 intro pins s σ H Q I h;refine Subscript_ (thn (he pins s σ H _ I h) fun v s1 ⟨x,H1,I1,r1,q1⟩=>?_);refine wpAny_Slice (thn (hl pins s1 σ H1 _ I1 q1) fun vl s2 ⟨l,H2,I2,pl,q2⟩=>thn (hu pins s2 σ H2 _ I2 q2) fun vu s3 ⟨u,H3,I3,pu,q3⟩=>?_);rw [evalPart_none];refine wpAny_pure ?_;have I4:Inv X pins σ H3 {s3 with heap:=s3.heap.push {cls:=.type "slice",data:=.fields #[vl,vu,.none]}}:=I3.kept (t':=s3.toks) fun b ob q=>Heap.get?_push_of_some _ q;obtain ⟨T,id,hT,ht,hg⟩:=hr pins {s3 with heap:=s3.heap.push {cls:=.type "slice",data:=.fields #[vl,vu,.none]}} σ H3 x v vl vu l u s3.heap.objs.size Q I4 r1 (Heap.IsSliceOf.new ..) pl pu q3;show wpAny (model X.prog X.w) X.A (subscriptTail e (.Slice lo hi none p2) v (.ref s3.heap.objs.size)) (EP X pins σ Q) X.xe {s3 with heap:=s3.heap.push {cls:=.type "slice",data:=.fields #[vl,vu,.none]}};exact tail_any (ops:=[.ref s3.heap.objs.size,v]) ht hT hg (by with_unfolding_all rfl)
noncomputable def nD (xs:List V) (lo hi:Option Int):List V:=(xs.drop (HT.sIx xs.length 0 lo)).take (HT.sIx xs.length xs.length hi-HT.sIx xs.length 0 lo)
theorem lH (xs:List V) (lo hi:Option Int):(nD xs lo hi).length≤xs.length:=by
 unfold nD;rw [List.length_take,List.length_drop]
 lia
def Eb (K:FR):V->Option Int->Option Int->Hp->VK->Prop:=fun x lo hi H Q=>∃a xs,x=.ref a∧SqT K H a xs∧
 ¬(HT.sIx xs.length 0 lo=0∧HT.sIx xs.length xs.length hi=xs.length)∧∀p,H p=none->Q (.ref p) (upd H p (.tup (nD xs lo hi)))
theorem z8:SlR X (Eb X.K):=by
 intro pins s σ H x v vl vu lo hi sl Q I rx hs pl pu h;obtain ⟨a,xs,rfl,hx,hw,q⟩:=h;cases rx;obtain ⟨its,r,ht,hz⟩:=I.tuple hx;have hlen:its.toArray.size=xs.length:=by rw [List.size_toArray];exact r.length.symm
 refine ⟨"tuple",_,PyProof.Rows.slot_tuple_getitem.lookup,ht.typeIs,?_⟩;refine HT.j8 ht hs pl pu (by rw [hlen];exact hw) ?_ (by rw [hlen];exact hz);rw [hlen];refine ⟨.ref s.heap.objs.size,_,I.laid (t':=s.toks) (o:=.tup (nD xs lo hi)) (fun b ob q=>Heap.get?_push_of_some _ q) (Nat.le_refl _) ?_,rfl,q _ (I.hok.fresh (Nat.le_refl _))⟩;exact ⟨Nat.le_trans (lH xs lo hi) hz,_,(r.drop (HT.sIx xs.length 0 lo)).take (HT.sIx xs.length xs.length hi-HT.sIx xs.length 0 lo),su.new _ _⟩
def CY (K:FR):R2:=fun x y H Q=>∃a b xs ys,x=.ref a∧y=.ref b∧SqT K H a xs∧SqT K H b ys∧xs≠[]∧xs.length+ys.length≤sizeLine∧
 (ys=[]->Q (.ref a) H)∧(ys≠[]->∀p,H p=none->Q (.ref p) (upd H p (.tup (xs++ys))))
theorem Vals.mh (r:Vals xs us):us=[]↔xs=[]:=by
 cases r with
 | nil=>simp
 | cons _ _=>simp
theorem y4:OpR X (binaryOp .Add) (CY X.K):=by
 intro pins s σ H x y v u Q I rx ry h;obtain ⟨a,b,xs,ys,rfl,rfl,ha,hb,hx,hz,q1,q2⟩:=h;cases rx;cases ry;obtain ⟨its,r1,p1,_⟩:=I.tuple ha;obtain ⟨its2,r2,p2,_⟩:=I.tuple hb;refine HT.zA p1 p2 (fun z=>hx (r1.mh.mp z)) (fun z=>⟨.ref a,H,I,rfl,q1 (r2.mh.mp z)⟩) (fun z=>?_) (by rw [←r1.length,←r2.length];exact hz);refine ⟨.ref s.heap.objs.size,_,I.laid (t':=s.toks) (o:=.tup (xs++ys)) (fun b ob q=>Heap.get?_push_of_some _ q) (Nat.le_refl _) ?_,rfl,q2 (fun w=>z (r2.mh.mpr w)) _ (I.hok.fresh (Nat.le_refl _))⟩;exact ⟨by rw [List.length_append];exact hz,_,r1.append r2,su.new _ _⟩
end
noncomputable def ixN (n:Nat) (i:Int):Option Nat:=if 0≤i then (if i < n then some i.toNat else none) else if -(n:Int)≤i then some (i+n).toNat else none
noncomputable def atI {α:Type} (xs:List α) (i:Int):Option α:=(ixN xs.length i).bind fun j=>xs[j]?
theorem um (h:ixN n i=some j):seqIndex? i n=some j∧j < n∧-(n:Int)≤i∧i < n:=by
 unfold ixN at h
 by_cases h0:0≤i
 ·rw [if_pos h0] at h
  by_cases h1:i < n
  ·rw [if_pos h1] at h;have e:i.toNat=j:=Option.some.inj h;exact ⟨by rw [seqIndex_of h0 h1,e],by lia,by lia,h1⟩
  ·rw [if_neg h1] at h;cases h
 ·rw [if_neg h0] at h
  by_cases h1:-(n:Int)≤i
  ·rw [if_pos h1] at h;have e:(i+n).toNat=j:=Option.some.inj h;exact ⟨by rw [seqIndex_neg (by lia) h1,e],by lia,h1,by lia⟩
  ·rw [if_neg h1] at h;cases h
theorem mn (h:atI xs i=some v):∃j,seqIndex? i xs.length=some j∧xs[j]?=some v∧j < xs.length∧-(xs.length:Int)≤i∧i < xs.length:=by
 unfold atI at h;cases e:ixN xs.length i with
 | none=>rw [e] at h;cases h
 | some j=>
  rw [e] at h;obtain ⟨h1,h2,h3,h4⟩:=um e;exact ⟨j,h1,h,h2,h3,h4⟩
theorem qP {α:Type} {xs:List α} {j:Nat} {v:α} (h:xs[j]?=some v):atI xs (j:Int)=some v:=by
 have hj:j < xs.length:=(List.getElem?_eq_some_iff.mp h).1;have e:ixN xs.length (j:Int)=some j:=by
  unfold ixN;rw [if_pos (by lia),if_pos (by lia)];simp
 unfold atI;rw [e];exact h
theorem x8 (xs:List α) (v:α):atI (xs++[v]) (-1)=some v:=by
 have hl:(xs++[v]).length=xs.length+1:=by simp
 have e:ixN (xs++[v]).length (-1)=some xs.length:=by
  unfold ixN;rw [hl,if_neg (by decide),if_pos (by lia)];congr 1
  lia
 unfold atI;rw [e];show (xs++[v])[xs.length]?=some v;simp
def kB (b:Expr):Prop:=∀o i,subscripted b false o i=operate [o,i] (getItem o i)
def IxR (X:Cx) (r:R2):Prop:=
 ∀(value slice:Expr) (pins:List (Addr×Obj)) (s:Shared) (σ:St) (H:Hp) (x y:V) (v u:Value) (Q:VK),Inv X pins σ H s->RelV x v->RelV y u->r x y H Q->
  subscripted slice false v u=operate [v,u] (getItem v u)->wpAny (model X.prog X.w) X.A (subscriptTail value slice v u) (EP X pins σ Q) X.xe s
def MtR (X:Cx) (id:String) (r:V->List V->Hp->VK->Prop):Prop:=
 ∀(pins:List (Addr×Obj)) (s:Shared) (σ:St) (H:Hp) (x:V) (xs:List V) (v:Value) (us:List Value) (Q:VK),Inv X pins σ H s->RelV x v->Vals xs us->r x xs H Q->
  wpAny (model X.prog X.w) X.A (call (.builtin id) (v::us)) (EP X pins σ Q) X.xe s
section
variable {X:Cx} {a b:Expr} {ta tb:TE} {pos:Pos}
theorem C6 (hr:IxR X r) (ha:PE X a ta) (hb:PE X b tb) (hs:kB b):PE X (.Subscript a b pos) (tOp r ta tb):=by
 intro pins s σ H Q I h;exact Subscript_ (B6 ha hb I h fun v u s2 x y H2 I2 rx ry q=>hr a b pins s2 σ H2 x y v u Q I2 rx ry q (hs _ _))
def Ek (K:FR):R2:=fun x y H Q=>∃p xs i v,x=.ref p∧y=.int i∧SqL K H p xs∧atI xs i=some v∧Q v H
def Ei (K:FR):R2:=fun x y H Q=>∃p xs i v,x=.ref p∧y=.int i∧SqT K H p xs∧atI xs i=some v∧Q v H
def Ej:R2:=fun x y H Q=>∃z i c,x=.str z∧y=.int i∧z.length≤sizeLine∧atI z.cps.toList i=some c∧Q (.str ⟨#[c]⟩) H
theorem zi:IxR X (Ek X.K):=by
 intro value slice pins s σ H x y v u Q I rx ry h hs;obtain ⟨p,xs,i,z,rfl,rfl,hq,he,q⟩:=h;cases rx;obtain ⟨t,rfl⟩:=ry;obtain ⟨its,r,pl,hz⟩:=I.list hq;obtain ⟨j,h1,h2,h3,h4,h5⟩:=mn he;obtain ⟨w,ew,rw'⟩:=r.get h2;have hl:=r.length;have hn:=jy;have fin:EP X pins σ Q w s:=⟨z,H,I,rw',q⟩
 by_cases h0:0≤i
 ·have hj:i.toNat=j:=by
   rw [seqIndex_of h0 h5] at h1;exact Option.some.inj h1
  exact item_listR pl.isList h0 (by lia) (by rw [hj];simpa using ew) fin hs
 ·have hj:(i+(its.toArray.size:Int)).toNat=j:=by
   rw [seqIndex_neg (by lia) h4] at h1;rw [List.size_toArray,←hl];exact Option.some.inj h1
  exact subscriptTail_builtinR (x:=w) pl.isList.typeIs slot_list_getitem.lookup
   (wpAny_getItem_list_neg (Q:=fun r s'=>r=w∧EP X pins σ Q r s') pl.isList (by lia) (by rw [List.size_toArray] <;> lia) (by lia) (by rw [hj];simpa using ew) ⟨rfl,fin⟩) hs
theorem BD:IxR X (Ei X.K):=by
 intro value slice pins s σ H x y v u Q I rx ry h hs;obtain ⟨p,xs,i,z,rfl,rfl,hq,he,q⟩:=h;cases rx;obtain ⟨t,rfl⟩:=ry;obtain ⟨its,r,pl,hz⟩:=I.tuple hq;obtain ⟨j,h1,h2,h3,h4,h5⟩:=mn he;obtain ⟨w,ew,rw'⟩:=r.get h2;have hl:=r.length;have hn:=jy;have fin:EP X pins σ Q w s:=⟨z,H,I,rw',q⟩;exact subscriptTail_builtinR (x:=w) pl.typeIs slot_tuple_getitem.lookup
  (getItem_tuple (j:=j) (Q:=fun r s'=>r=w∧EP X pins σ Q r s') pl (by lia) (by lia) (by rw [List.size_toArray,←hl];exact h1) (by simpa using ew) ⟨rfl,fin⟩) hs
theorem BE:IxR X Ej:=by
 intro value slice pins s σ H x y v u Q I rx ry h hs;obtain ⟨z,i,c,rfl,rfl,hz,he,q⟩:=h;obtain ⟨t,rfl⟩:=rx;obtain ⟨t',rfl⟩:=ry;obtain ⟨j,h1,h2,h3,h4,h5⟩:=mn he;have hl:z.cps.toList.length=z.length:=by simp [Str.length]
 rw [hl] at h1 h4 h5;have hn:=jy;exact tail_any (typeIs_str s z t) slot_str_getitem.lookup (getItem_str (c:=c) (by
  have e1:decide (i < -(2^63:Int))=false:=decide_eq_false (by lia);have e2:decide (i≥2^63)=false:=decide_eq_false (by lia);rw [e1,e2,Bool.or_false]) (by rw [h1];simpa using h2) ⟨.str ⟨#[c]⟩,H,I.tok _,⟨_,rfl⟩,q⟩) hs
theorem sX (its:List Value) (n j:Nat) (u:Value):Obj.mapSeq (·.setIfInBounds j u) {cls:=.type "list",data:=.seq its.toArray n}={cls:=.type "list",data:=.seq (its.set j u).toArray n}:=by
 simp [Obj.mapSeq]
theorem Inv.lst (I:Inv X pins σ H s) (h:H p=some (.lst xs)):
  ∃(its:List Value) (n:Nat),Vals xs its∧s.heap.get? p=some {cls:=.type "list",data:=.seq its.toArray n}∧xs.length≤sizeLine:=by
 obtain ⟨z,its,n,r,e⟩:=I.hok p _ h;exact ⟨its,n,r,e,z⟩
theorem Inv.Bv {pins:List (Addr×Obj)} {σ:St} {H:Hp} {s:Shared} {p:Addr} {xs ys:List V} {its its':List Value} {n n':Nat} {f:Obj->Obj} (I:Inv X pins σ H s) (h:H p=some (.lst xs))
  (ho:s.heap.get? p=some {cls:=.type "list",data:=.seq its.toArray n}) (hf:f {cls:=.type "list",data:=.seq its.toArray n}={cls:=.type "list",data:=.seq its'.toArray n'}) (r:Vals ys its') (hz:ys.length≤sizeLine) (t:Nat):
  Inv X pins σ (upd H p (.lst ys)) {s with heap:=s.heap.update p f,toks:=t}:=by
 have e:(s.heap.update p f).get? p=some {cls:=.type "list",data:=.seq its'.toArray n'}:=by
  rw [Heap.get?_update_self f ho (by rw [hf] <;> rfl),hf]
 refine I.write (x:=p) (e:=p) (by rw [h];trivial) (.inl rfl) (fun b u hb q=>(Heap.get?_update_other _ _ (Ne.symm hb)).trans q) ⟨_,e⟩ ?_;exact ⟨hz,its',n',r,e⟩
def CW:V->V->V->Hp->(Hp->Prop)->Prop:=fun o i v H Q=>∃p xs k j,o=.ref p∧i=.int k∧H p=some (.lst xs)∧ixN xs.length k=some j∧Q (upd H p (.lst (xs.set j v)))
theorem set_list:Cc X CW:=by
 intro pins s σ H o i v ov iv u Q I ro ri rv h;obtain ⟨p,xs,k,j,rfl,rfl,hp,hj,q⟩:=h;cases ro;obtain ⟨t,rfl⟩:=ri;obtain ⟨its,n,r,ho,hz⟩:=I.lst hp;obtain ⟨h1,h2,h3,h4⟩:=um hj;have hl:=r.length;have hn:=jy;have I':Inv X pins σ (upd H p (.lst (xs.set j v))) {s with heap:=s.heap.update p (Obj.mapSeq (·.setIfInBounds j u))}:=
  I.Bv hp ho (sX its n j u) (r.set rv j) (by rw [List.length_set];exact hz) s.toks
 by_cases h0:0≤k
 ·have hk:k.toNat=j:=by
   rw [seqIndex_of h0 h4] at h1;exact Option.some.inj h1
  exact PySem.W.ki_setAt ho h0 (by lia) (by rw [List.size_toArray,←hl];exact h4) (by rw [hk];exact ⟨_,I',q⟩)
 ·have hk:(k+(its.toArray.size:Int)).toNat=j:=by
   rw [seqIndex_neg (by lia) h3] at h1;rw [List.size_toArray,←hl];exact Option.some.inj h1
  exact PySem.W.ki_setBack ho (by lia) (by rw [List.size_toArray,←hl];exact h3) (by lia) (by rw [hk];exact ⟨_,I',q⟩)
theorem pL (lo hi:Option Int) (n:Nat):(sliceBounds lo hi none n).1=((HT.sIx n 0 lo:Nat):Int)∧(sliceBounds lo hi none n).2.1=((HT.sIx n n hi:Nat):Int)∧(sliceBounds lo hi none n).2.2=1:=by
 refine ⟨?_,?_,rfl⟩
 ·cases lo with
  | none=>simp [sliceBounds,HT.sIx]
  | some i=>
   simp only [sliceBounds,HT.sIx,Option.getD_none,show (1:Int) > 0 by decide,if_true]
   by_cases h:i < 0
   ·simp only [h,if_true] <;> lia
   ·simp only [h,if_false] <;> lia
 ·cases hi with
  | none=>simp [sliceBounds,HT.sIx]
  | some i=>
   simp only [sliceBounds,HT.sIx,Option.getD_none,show (1:Int) > 0 by decide,if_true]
   by_cases h:i < 0
   ·simp only [h,if_true] <;> lia
   ·simp only [h,if_false] <;> lia
theorem nV (its:List Value) (lo hi:Option Int):slicePick its.toArray lo hi none=((its.drop (HT.sIx its.length 0 lo)).take (HT.sIx its.length its.length hi-HT.sIx its.length 0 lo)).toArray:=by
 obtain ⟨h1,h2,h3⟩:=pL lo hi its.toArray.size;unfold slicePick;rw [h1,h2,h3];simp only [sliceRange_one,pick_run,List.size_toArray] <;> rfl
def Ed (K:FR):V->Option Int->Option Int->Hp->VK->Prop:=fun x lo hi H Q=>∃a xs,x=.ref a∧SqL K H a xs∧∀p,H p=none->Q (.ref p) (upd H p (.lst (nD xs lo hi)))
theorem yk:SlR X (Ed X.K):=by
 intro pins s σ H x v vl vu lo hi sl Q I rx hs pl pu h;obtain ⟨a,xs,rfl,hx,q⟩:=h;cases rx;obtain ⟨its,r,ht,hz⟩:=I.list hx;have hlen:=r.length;refine ⟨"list",_,slot_list_getitem.lookup,ht.isList.typeIs,?_⟩;refine wpAny_getItem_list_slice ht.isList hs pl pu .none (by simp) ?_ (by rw [List.size_toArray] <;> lia);rw [nV,←hlen];refine ⟨.ref s.heap.objs.size,_,I.laid (t':=s.toks) (o:=.lst (nD xs lo hi)) (fun b ob q=>Heap.get?_push_of_some _ q) (Nat.le_refl _) ?_,rfl,q _ (I.hok.fresh (Nat.le_refl _))⟩;exact ⟨Nat.le_trans (lH xs lo hi) hz,_,0,(r.drop (HT.sIx xs.length 0 lo)).take (HT.sIx xs.length xs.length hi-HT.sIx xs.length 0 lo),Heap.get?_push_size _ rfl⟩
theorem qJ:eB X (.builtin "len") (fun xs H Q=>∃p ys,xs=[.ref p]∧(SqL X.K H p ys∨SqT X.K H p ys)∧Q (.int ys.length) H):=by
 intro pins s σ H xs us Q I r h;obtain ⟨p,ys,rfl,hq,q⟩:=h;obtain ⟨u,rfl,rx⟩:=vals1 r;cases rx;have hn:=jy;rcases hq with hq | hq
 ·obtain ⟨its,r',pl,hz⟩:=I.list hq;have hlen:=r'.length;exact Calls.call_len_list pl.isList (by simp only [List.size_toArray] <;> lia) ⟨.int ys.length,H,I.tok _,⟨s.toks+1,by rw [List.size_toArray,hlen]⟩,q⟩
 ·obtain ⟨its,r',pl,hz⟩:=I.tuple hq;have hlen:=r'.length;exact len_tuple pl (by simp only [List.size_toArray] <;> lia) ⟨.int ys.length,H,I.tok _,⟨s.toks+1,by rw [List.size_toArray,hlen]⟩,q⟩
theorem qI:eB X (.builtin "len") (fun xs H Q=>∃z,xs=[.str z]∧z.length≤sizeLine∧Q (.int z.length) H):=by
 intro pins s σ H xs us Q I r h;obtain ⟨z,rfl,hz,q⟩:=h;obtain ⟨u,rfl,t,rfl⟩:=vals1 r;have hn:=jy;exact len_str (by lia) ⟨.int z.length,H,I.tok _,⟨_,rfl⟩,q⟩
theorem qH:eB X (.type "list") (fun xs H Q=>∃p ys,xs=[.ref p]∧(SqL X.K H p ys∨SqT X.K H p ys)∧∀l,H l=none->Q (.ref l) (upd H l (.lst ys))):=by
 intro pins s σ H xs us Q I r h;obtain ⟨p,ys,rfl,hq,q⟩:=h;obtain ⟨u,rfl,rx⟩:=vals1 r;cases rx;have fin:∀(its:List Value),Vals ys its->ys.length≤sizeLine->∀(h':Heap) (c':Nat),(∀b o',s.heap.get? b=some o'->h'.get? b=some o')->
   h'.get? s.heap.objs.size=some {cls:=.type "list",dict:=none,data:=.seq its.toArray c',slots:=#[]}->EP X pins σ Q (.ref s.heap.objs.size) {s with heap:=h'}:=fun its r' hz h' c' kp e=>
  ⟨.ref s.heap.objs.size,_,I.laid (t':=s.toks) kp (Nat.le_refl _) (show cj X.prog X.w _ h' _ (.lst ys) from ⟨hz,its,c',r',e⟩),rfl,q _ (I.hok.fresh (Nat.le_refl _))⟩
 rcases hq with hq | hq
 ·obtain ⟨its,r',pl,hz⟩:=I.list hq;have hlen:=r'.length;obtain ⟨o,ho,hc,n,hd⟩:=pl.isList;exact call_list_seq p (.inl rfl) ho hc hd (fun h' c' kp e=>fin its r' hz h' c' kp e) (by simp only [List.size_toArray] <;> lia)
 ·obtain ⟨its,r',pl,hz⟩:=I.tuple hq;have hlen:=r'.length;obtain ⟨o,ho,hc,n,hd⟩:=pl;exact call_list_seq p (.inr rfl) ho hc hd (fun h' c' kp e=>fin its r' hz h' c' kp e) (by simp only [List.size_toArray] <;> lia)
theorem ox:eB X (.type "tuple") (fun xs H Q=>∃p ys,xs=[.ref p]∧((SqL X.K H p ys∧∀l,H l=none->Q (.ref l) (upd H l (.tup ys)))∨(SqT X.K H p ys∧Q (.ref p) H))):=by
 intro pins s σ H xs us Q I r h;obtain ⟨p,ys,rfl,h⟩:=h;obtain ⟨u,rfl,rx⟩:=vals1 r;cases rx;rcases h with ⟨hq,q⟩ | ⟨hq,q⟩
 ·obtain ⟨its,r',pl,hz⟩:=I.list hq;have hlen:=r'.length;refine call_tuple_list pl.isList (fun h' kp=>?_) (by simp only [List.size_toArray] <;> lia);have I1:Inv X pins σ H {s with heap:=h'}:=I.kept (t':=s.toks) kp;have I2:Inv X pins σ (upd H h'.objs.size (.tup ys)) {s with heap:=h'.push {cls:=.type "tuple",data:=.seq its.toArray}}:=
   I1.laid (t':=s.toks) (fun b o e=>Heap.get?_push_of_some _ e) (Nat.le_refl _) (show cj X.prog X.w _ _ _ (.tup ys) from ⟨hz,its,r',su.new _ _⟩)
  exact ⟨.ref h'.objs.size,_,I2,rfl,q _ (I1.hok.fresh (Nat.le_refl _))⟩
 ·obtain ⟨its,r',pl,hz⟩:=I.tuple hq;exact call_tuple_same pl ⟨.ref p,H,I,rfl,q⟩
def tyV (K:FR) (T:String) (x:V) (H:Hp):Prop:=match x with
 | .str _=>T="str"
 | .int _=>T="int"
 | .ref p=>(T="list"∧∃xs,SqL K H p xs)∨(T="tuple"∧∃o,K.lookup p=some o∧o.cls=.type "tuple"∧o.dict=none)∨
   (T="dict"∧((∃kvs,H p=some (.dK kvs))∨∃kvs,H p=some (.dT kvs)))∨(T="set"∧∃S n,H p=some (.set S n))
 | _=>False
theorem vN (I:Inv X pins σ H s) (r:RelV x v) (ty:tyV X.K T x H):
  s.TypeIs v T∧∀a,v=.ref a->∃ob,s.heap.get? a=some ob∧ob.dict=none:=by
 cases x with
 | str z=>
  obtain ⟨t,rfl⟩:=r;cases (show T="str" from ty);exact ⟨typeIs_str s z t,fun _ e=>nomatch e⟩
 | int i=>
  obtain ⟨t,rfl⟩:=r;cases (show T="int" from ty);exact ⟨typeIs_int s i t,fun _ e=>nomatch e⟩
 | ref p=>
  cases r;rcases ty with ⟨rfl,xs,hq⟩ | ⟨rfl,o,hk,hc,hd⟩ | ⟨rfl,hk⟩ | ⟨rfl,S,n,hk⟩
  ·obtain ⟨its,_,pl,_⟩:=I.list hq;refine ⟨pl.isList.typeIs,fun a e=>?_⟩;cases e;obtain ⟨o,n,e,c,hd,_⟩:=pl;exact ⟨o,e,hd⟩
  ·refine ⟨⟨o,I.kIn p o hk,hc⟩,fun a e=>?_⟩;cases e;exact ⟨o,I.kIn _ o hk,hd⟩
  ·have z:∃o,s.heap.get? p=some o∧o.ExactDict:=by
    rcases hk with ⟨kvs,hk⟩ | ⟨kvs,hk⟩
    ·obtain ⟨_,_,_,_,o,_,_,e,ex,_⟩:=I.hok p _ hk;exact ⟨o,e,ex⟩
    ·obtain ⟨_,_,_,_,o,_,_,e,ex,_⟩:=I.hok p _ hk;exact ⟨o,e,ex⟩
   obtain ⟨o,e,ex⟩:=z;refine ⟨⟨o,e,ex.1⟩,fun a e2=>?_⟩;cases e2;exact ⟨o,e,ex.2.1⟩
  ·obtain ⟨o,_,_,_,e,ex,_⟩:=I.hok p _ hk;refine ⟨⟨o,e,ex.1⟩,fun a e2=>?_⟩;cases e2;exact ⟨o,e,ex.2.1⟩
 | _=>exact False.elim ty
def DY (K:FR) (T:String) (r:V->List V->Hp->VK->Prop) (to:TE):TE:=fun σ H Q=>to σ H fun x H1=>tyV K T x H1∧r x [] H1 Q
def tBM (K:FR) (T:String) (r:V->List V->Hp->VK->Prop) (to:TE) (t:TA):TE:=fun σ H Q=>to σ H fun x H1=>tyV K T x H1∧t σ H1 fun xs H2=>r x xs H2 Q
variable {o e:Expr} {es:List Expr} {to:TE} {t:TA} {name:Str} {apos cpos:Pos} {T id:String} {r:V->List V->Hp->VK->Prop}
theorem AX (pa:PlainAttrs T) (slot:Slot T name id) (hty:typeOf (.builtin id)=pure (.type "method_descriptor")) (hm:MtR X id r) (ho:PE X o to)
  (hbase:attributeBase o name X.env (eval o X.env)=eval o X.env:=by rfl) (hline:(apos.endLine==cpos.line)=true:=by rfl):PE X (.Call (.Attribute o name apos) [] [] cpos) (DY X.K T r to):=by
 intro pins s σ H Q I h;refine wpAny_Call_method0_late hbase hline (thn (ho pins s σ H _ I h) fun v s1 ⟨x,H1,I1,r1,ty,q1⟩=>?_);obtain ⟨h1,h2⟩:=vN I1 r1 ty;exact ⟨T,id,pa,slot,hty,h1,h2,Calls.callWith_builtin rfl (PySem.evalArgs_none (hm pins s1 σ H1 x [] v [] Q I1 r1 .nil q1))⟩
theorem C7 (pa:PlainAttrs T) (slot:Slot T name id) (hty:typeOf (.builtin id)=pure (.type "method_descriptor")) (hm:MtR X id r) (ho:PE X o to) (ha:PA X (e::es) t)
  (hbase:attributeBase o name X.env (eval o X.env)=eval o X.env:=by rfl)
  (hfew:((backTo cpos (starEach (e::es) X.env)).all (fun x=>!x.1)&&(backToKw cpos (keywordEach [] X.env)).all (fun x=>x.1.isSome)
   &&decide ((e::es).length+([]:List Keyword).length+(if ([]:List Keyword).isEmpty then 0 else 1) < 30))=true:=by rfl)
  (hline:(apos.endLine==cpos.line)=true:=by rfl) (hs:starEach (e::es) X.env=(false,eval e X.env)::starEach es X.env:=by rfl) (hplain:(backTo cpos (starEach es X.env)).any (·.1)=false:=by rfl):
  PE X (.Call (.Attribute o name apos) (e::es) [] cpos) (tBM X.K T r to t):=by
 intro pins s σ H Q I h;refine wpAny_Call_method_late hbase hfew hline rfl (thn (ho pins s σ H _ I h) fun v s1 ⟨x,H1,I1,r1,ty,q1⟩=>?_);obtain ⟨h1,h2⟩:=vN I1 r1 ty;refine ⟨T,id,pa,slot,hty,h1,h2,?_⟩;have hA:=ha cpos pins s1 σ H1 _ I1 q1;rw [hs] at hA ⊢;refine Calls.callWith_builtin (by show (false||(backTo cpos (starEach es X.env)).any (·.1))=false;rw [hplain] <;> rfl) (Calls.evalArgs_plain ?_);exact thn hA fun us s2 ⟨vs,H2,I2,r2,q2⟩=>hm pins s2 σ H2 x vs v us Q I2 r1 r2 q2
end
def MtM (X:Cx) (id:String) (r:V->List V->Hp->VK->Prop):Prop:=
 ∀(pins:List (Addr×Obj)) (s:Shared) (σ:St) (H:Hp) (x:V) (xs:List V) (v:Value) (us:List Value) (Q:VK),Inv X pins σ H s->RelV x v->Vals xs us->r x xs H Q->
  wpAny (model X.prog X.w) X.A (call (.builtin id) (v::us)) (EP X pins σ Q) X.xe s
theorem Vals.one:∀{x:V} {us:List Value},Vals [x] us->∃u,us=[u]∧RelV x u
 | _,_,.cons r .nil=>⟨_,rfl,r⟩
theorem Vals.two:∀{x y:V} {us:List Value},Vals [x,y] us->∃u v,us=[u,v]∧RelV x u∧RelV y v
 | _,_,_,.cons r (.cons q .nil)=>⟨_,_,rfl,r,q⟩
theorem Vals.zero:∀{us:List Value},Vals [] us->us=[]
 | _,.nil=>rfl
theorem Vals.dropLast (h:Vals xs us):Vals xs.dropLast us.dropLast:=by
 induction h with
 | nil=>exact .nil
 | cons r t ih=>
  cases t with
  | nil=>exact .nil
  | cons q t'=>exact .cons r ih
theorem Vals.rep (h:Vals xs us):∀k:Nat,Vals (List.replicate k xs).flatten (List.replicate k us).flatten
 | 0=>.nil
 | k+1=>by
  rw [List.replicate_succ,List.replicate_succ,List.flatten_cons,List.flatten_cons];exact Vals.append h (Vals.rep h k)
theorem tG (l:List α):l.eraseIdx (l.length-1)=l.dropLast:=by
 induction l with
 | nil=>rfl
 | cons a r ih=>
  cases r with
  | nil=>rfl
  | cons b r=>
   have e:(a::b::r).length-1=((b::r).length-1)+1:=by
    have h1:(a::b::r).length=r.length+2:=rfl;have h2:(b::r).length=r.length+1:=rfl
    lia
   rw [e,List.eraseIdx_cons_succ,ih]
   all_goals rfl
theorem foldl_rep (its:List Value):∀(k:Nat) (acc:List Value),
  List.foldl (fun x1 x2=>x1++x2) acc.toArray (List.replicate k its.toArray)=(acc++(List.replicate k its).flatten).toArray
 | 0,acc=>by simp
 | k+1,acc=>by
  have e:acc.toArray++its.toArray=(acc++its).toArray:=by simp
  have e2:(acc++its)++(List.replicate k its).flatten=acc++(List.replicate (k+1) its).flatten:=by
   rw [List.replicate_succ,List.flatten_cons,List.append_assoc]
  rw [←e2,←foldl_rep its k (acc++its),←e,List.replicate_succ,List.foldl_cons]
theorem Inv.Bw {its its':List Value} {n:Nat} {f:Array Value->Array Value} {t':Nat} (I:Inv X pins σ H s) (hH:H l=some (.lst xs))
  (e:s.heap.get? l=some {cls:=.type "list",data:=.seq its.toArray n}) (hf:f its.toArray=its'.toArray) (hv:Vals ys its') (hz:ys.length≤sizeLine):
  Inv X pins σ (upd H l (.lst ys)) {s with heap:=s.heap.update l (Obj.mapSeq f),toks:=t'}:=by
 have q:=PySem.IsL.update e f;rw [hf] at q;refine I.write (x:=l) (e:=l) (by rw [hH];exact trivial) (.inl rfl) (fun b' u hb hu=>(Heap.get?_update_other s.heap (Obj.mapSeq f) (Ne.symm hb)).trans hu) ⟨_,q⟩ ?_;exact ⟨hz,its',_,hv,q⟩
theorem Inv.By (I:Inv X pins σ H s) (hv:Vals ys its) (hz:ys.length≤sizeLine):
  Inv X pins σ (upd H s.heap.objs.size (.lst ys)) {s with heap:=s.heap.push {cls:=.type "list",data:=.seq its.toArray},toks:=t'}:=
 I.laid (fun _ _ q=>Heap.get?_push_of_some _ q) (Nat.le_refl _) ⟨hz,its,0,hv,Heap.get?_push_size _ rfl⟩
theorem Inv.fresh (I:Inv X pins σ H s):H s.heap.objs.size=none:=I.hok.fresh (Nat.le_refl _)
theorem Inv.sY (I:Inv X pins σ H s) (hH:H l=some (.lst xs)):xs.length≤sizeLine∧∃(its:List Value) (n:Nat),Vals xs its∧xs.length=its.length∧s.heap.get? l=some {cls:=.type "list",data:=.seq its.toArray n}:=by
 obtain ⟨z,its,n,r,e⟩:=I.hok l _ hH;exact ⟨z,its,n,r,r.length,e⟩
theorem rH (h:n≤sizeLine):Builtin.List.listTooLong n=false:=by
 unfold Builtin.List.listTooLong;exact decide_eq_false (by lia)
def yF:V->List V->Hp->VK->Prop:=fun x vs H Q=>∃l xs y,x=.ref l∧vs=[y]∧H l=some (.lst xs)∧xs.length < sizeLine∧Q .non (upd H l (.lst (xs++[y])))
theorem oQ:MtM X "list.append" yF:=by
 intro pins s σ H x vs v us Q I rx rv h;obtain ⟨l,xs,y,rfl,rfl,hH,hz,q⟩:=h;cases rx;obtain ⟨u,rfl,ru⟩:=rv.one;obtain ⟨z,its,n,r,hl,e⟩:=I.sY hH;refine call_meets F.slot_list_append ⟨_,e,rfl⟩ F.entry_list_append (F.args_list_append_2 _ _) (PySem.list_append l its.toArray n u (by rw [List.size_toArray];lia)) ⟨e,?_⟩;refine ⟨.non,_,I.Bw (its':=its++[u]) hH e (by simp) (r.append (.cons ru .nil)) ?_,rfl,q⟩;rw [List.length_append,List.length_singleton]
 lia
def yE:V->List V->Hp->VK->Prop:=fun x vs H Q=>∃l b xs zs,x=.ref l∧vs=[.ref b]∧H l=some (.lst xs)∧H b=some (.lst zs)∧xs.length+zs.length≤sizeLine∧Q .non (upd H l (.lst (xs++zs)))
theorem uY:MtM X "list.extend" yE:=by
 intro pins s σ H x vs v us Q I rx rv h;obtain ⟨l,b,xs,zs,rfl,rfl,hH,hB,hz,q⟩:=h;cases rx;obtain ⟨u,rfl,ru⟩:=rv.one;cases ru;obtain ⟨z,its,n,r,hl,e⟩:=I.sY hH;obtain ⟨z2,its2,n2,r2,hl2,e2⟩:=I.sY hB;have hsz:its.toArray.size+its2.toArray.size≤sizeLine:=by rw [List.size_toArray,List.size_toArray];lia
 have hlong:¬(!its.toArray.isEmpty&&Builtin.List.listTooLong (its.toArray.size+its2.toArray.size))=true:=by
  rw [rH hsz,Bool.and_false];exact Bool.false_ne_true
 refine call_meets F.slot_list_extend ⟨_,e,rfl⟩ F.entry_list_extend (F.args_list_extend_2 _ _)
  (AutoSeq1.list_extend_list_list_0 l its.toArray n b its2.toArray n2 hlong (by rw [List.size_toArray];lia) (by lia)) ⟨e,e2,?_⟩
 refine ⟨.non,_,I.Bw (its':=its++its2) hH e (by simp) (r.append r2) ?_,rfl,q⟩;rw [List.length_append]
 lia
def Eh:V->List V->Hp->VK->Prop:=fun x vs H Q=>∃l xs y,x=.ref l∧vs=[]∧H l=some (.lst xs)∧xs[xs.length-1]?=some y∧Q y (upd H l (.lst xs.dropLast))
theorem Bp:MtM X "list.pop" Eh:=by
 intro pins s σ H x vs v us Q I rx rv h;obtain ⟨l,xs,y,rfl,rfl,hH,hy,q⟩:=h;cases rx;have hus:=rv.zero;subst hus;obtain ⟨z,its,n,r,hl,e⟩:=I.sY hH;obtain ⟨u,hu,ru⟩:=r.get hy;have hy':its.toArray[its.toArray.size-1]?=some u:=by
  show its.toArray[its.length-1]?=some u;rw [←Array.getElem?_toList,←hl];exact hu
 refine call_meets F.slot_list_pop ⟨_,e,rfl⟩ F.entry_list_pop (F.args_list_pop_1 _) (MeetsSeq.list_pop_last l its.toArray n u hy' (by rw [List.size_toArray];lia)) ⟨e,?_⟩;refine ⟨y,_,I.Bw (its':=its.dropLast) hH e ?_ r.dropLast ?_,ru,q⟩
 ·show its.toArray.eraseIdxIfInBounds (its.toArray.size-1)=its.dropLast.toArray;rw [List.size_toArray,List.eraseIdxIfInBounds_toArray,tG]
 ·rw [List.length_dropLast]
  lia
def El:R2:=fun x y H Q=>∃l b xs zs,x=.ref l∧y=.ref b∧H l=some (.lst xs)∧H b=some (.lst zs)∧xs.length+zs.length≤sizeLine∧∀p,H p=none->Q (.ref p) (upd H p (.lst (xs++zs)))
theorem xc:OpR X (binaryOp .Add) El:=by
 intro pins s σ H x y v u Q I rx ry h;obtain ⟨l,b,xs,zs,rfl,rfl,hH,hB,hz,q⟩:=h;cases rx;cases ry;obtain ⟨z,its,n,r,hl,e⟩:=I.sY hH;obtain ⟨z2,its2,n2,r2,hl2,e2⟩:=I.sY hB;refine PySem.P.add_list e e2 ?_ (by rw [List.size_toArray,List.size_toArray];lia);have ea:its.toArray++its2.toArray=(its++its2).toArray:=by simp
 rw [ea];exact ⟨.ref _,_,I.By (t':=s.toks) (r.append r2) (by rw [List.length_append];lia),rfl,q _ I.fresh⟩
def Eg:R2:=fun x y H Q=>∃l k xs,x=.ref l∧y=.int k∧H l=some (.lst xs)∧-(2^63)≤k∧k < 2^63∧xs.length*k.toNat≤sizeLine∧
 ∀p,H p=none->Q (.ref p) (upd H p (.lst (List.replicate k.toNat xs).flatten))
theorem len_rep (xs:List α) (k:Nat):(List.replicate k xs).flatten.length=k*xs.length:=by
 induction k with
 | zero=>simp
 | succ k ih=>rw [List.replicate_succ,List.flatten_cons,List.length_append,ih,Nat.succ_mul,Nat.add_comm]
theorem Bh:OpR X (binaryOp .Mult) Eg:=by
 intro pins s σ H x y v u Q I rx ry h;obtain ⟨l,k,xs,rfl,rfl,hH,h1,h2,hz,q⟩:=h;cases rx;obtain ⟨t,rfl⟩:=ry;obtain ⟨z,its,n,r,hl,e⟩:=I.sY hH;have hlen:its.toArray.size*k.toNat≤sizeLine:=by rw [List.size_toArray,←hl];exact hz
 have hcap:¬its.toArray.size*k.toNat > (2^63-1) / 8:=by
  have:(sizeLine:Nat)≤(2^63-1) / 8:=by decide
  lia
 have hfit:¬(!Builtin.List.listFitsIndex k)=true:=by
  rw [fitsIndex_both h1 h2];exact Bool.false_ne_true
 have hlong:¬Builtin.List.listTooLong (its.toArray.size*k.toNat)=true:=by
  rw [rH hlen];exact Bool.false_ne_true
 have hnew:List.foldl (fun x1 x2=>x1++x2) #[] (List.replicate (if its.toArray.isEmpty=true then 0 else k.toNat) its.toArray)=(List.replicate k.toNat its).flatten.toArray:=by
  have f0:∀m:Nat,List.foldl (fun x1 x2=>x1++x2) #[] (List.replicate m its.toArray)=(List.replicate m its).flatten.toArray:=fun m=>by
   have:=foldl_rep its m [];rw [List.nil_append] at this;exact this
  rw [f0];cases its with
  | nil=>simp
  | cons a r'=>rw [if_neg (by simp)]
 refine wpAny_binaryOp_repeat_ref (T:="list") (U:="int") (by decide) ⟨_,e,rfl⟩ (fun s'=>typeIs_int s' k t) noFill_list_mul F.fills_int_mul F.slot_int_rmul repeat_list F.slot_int_index.lookup
  (call_meets F.slot_int_rmul (typeIs_int s k t) F.entry_int_rmul (F.args_int_rmul_2 _ _) (int___rmul___int_list k t l its.toArray n)
   ⟨e,rfl,⟨_,e,rfl⟩,call_meets F.slot_list_mul ⟨_,e,rfl⟩ F.entry_list_mul (F.args_list_mul_2 _ _) (AutoListH.list___mul___list_int_3 l its.toArray n k t hfit hcap hlong) ⟨e,?_⟩⟩)
 rw [hnew];exact ⟨.ref _,_,I.By (t':=s.toks) (r.rep k.toNat) (by rw [len_rep,Nat.mul_comm];exact hz),rfl,q _ I.fresh⟩
section
variable {κ:Type} [DecidableEq κ]
noncomputable def gV (kvs:List (κ×V)) (k:κ):Option V:=(kvs.find? fun kv=>decide (kv.1=k)).map (·.2)
noncomputable def putK (kvs:List (κ×V)) (k:κ) (v:V):List (κ×V):=
 if (kvs.any fun kv=>decide (kv.1=k))=true then kvs.map (fun kv=>if kv.1=k then (kv.1,v) else kv) else kvs++[(k,v)]
theorem mw {p:κ×V} {r:List (κ×V)} {k:κ} (e:p.1=k):gV (p::r) k=some p.2:=by simp [gV,List.find?_cons,e]
theorem jJ {p:κ×V} {r:List (κ×V)} {k:κ} (e:¬p.1=k):gV (p::r) k=gV r k:=by simp [gV,List.find?_cons,e]
theorem qQ (k:κ):∀kvs:List (κ×V),(kvs.any fun kv=>decide (kv.1=k))=(gV kvs k).isSome
 | []=>rfl
 | p::r=>by
  rw [List.any_cons]
  by_cases e:p.1=k
  ·simp only [mw e,decide_eq_true e,Bool.true_or,Option.isSome_some]
  ·rw [jJ e,decide_eq_false e,Bool.false_or];exact qQ k r
theorem iC (kvs:List (κ×V)) (k:κ) (v:V):(putK kvs k v).length≤kvs.length+1:=by
 unfold putK
 split
 ·rw [List.length_map];lia
 ·rw [List.length_append,List.length_cons,List.length_nil];lia
theorem lj.fV (r:lj o u):o.isSome=u.isSome:=by
 cases o with
 | none=>cases u with
  | none=>rfl
  | some _=>exact (show False from r).elim
 | some _=>cases u with
  | none=>exact (show False from r).elim
  | some _=>rfl
theorem lj.getD (r:lj o u) (rd:RelV d d'):RelV (o.getD d) (u.getD d'):=by
 cases o with
 | none=>cases u with
  | none=>exact rd
  | some _=>exact (show False from r).elim
 | some _=>cases u with
  | none=>exact (show False from r).elim
  | some _=>exact r
theorem KV.val {kvs:List (κ×V)} {vs:List (κ×Value)} (r:KV kvs vs) (k:κ):lj (gV kvs k) (valueAt vs k):=by
 unfold KV at r
 induction r with
 | nil=>exact True.intro
 | @cons p q ps qs h t ih=>
  obtain ⟨h1,h2⟩:=h
  by_cases e:p.1=k
  ·have e':q.1=k:=h1.symm.trans e;have b:valueAt (q::qs) k=some q.2:=by simp [valueAt,List.find?_cons,e']
   rw [mw e,b];exact h2
  ·have e':¬q.1=k:=fun z=>e (h1.trans z);have b:valueAt (q::qs) k=valueAt qs k:=by simp [valueAt,List.find?_cons,e']
   rw [jJ e,b];exact ih
theorem KV.any (r:KV kvs vs) (k:κ):(kvs.any fun kv=>decide (kv.1=k))=vs.any fun kv=>decide (kv.1=k):=by
 unfold KV at r
 induction r with
 | nil=>rfl
 | cons h t ih=>rw [List.any_cons,List.any_cons,ih,h.1]
theorem KV.Ao (r:KV kvs vs) (k:κ) (ry:RelV y u):
  KV (kvs.map fun kv=>if kv.1=k then (kv.1,y) else kv) (vs.map fun kv=>if kv.1=k then (kv.1,u) else kv):=by
 unfold KV at r ⊢
 induction r with
 | nil=>exact .nil
 | @cons p q ps qs h t ih=>
  rw [List.map_cons,List.map_cons];refine .cons ?_ ih;obtain ⟨h1,h2⟩:=h
  by_cases e:p.1=k
  ·rw [if_pos e,if_pos (h1.symm.trans e)];exact ⟨h1,ry⟩
  ·rw [if_neg e,if_neg (fun z=>e (h1.trans z))];exact ⟨h1,h2⟩
theorem KV.put (r:KV kvs vs) (k:κ) (ry:RelV y u):KV (putK kvs k y) (stored vs k u):=by
 unfold putK stored;rw [r.any k]
 by_cases e:(vs.any fun kv=>decide (kv.1=k))=true
 ·rw [if_pos e,if_pos e];exact r.Ao k ry
 ·rw [if_neg e,if_neg e];exact Paired.snoc r ⟨rfl,ry⟩
theorem KV.length (r:KV kvs vs):kvs.length=vs.length:=Paired.length r
end
theorem lD (r:RelV (kV k) u):(bF P w).is k u=true:=by
 cases k with
 | inl i=>obtain ⟨t,e⟩:=(show ∃t,u=Value.int i t from r);subst e;exact rL P w i t
 | inr x=>obtain ⟨t,e⟩:=(show ∃t,u=Value.str x t from r);subst e;exact rK P w x t
theorem oY:∀{ks:List Key} {us:List Value},Vals (ks.map kV) us->ItemsAre (bF P w) ks us
 | [],_,r=>by rw [List.map_nil] at r;cases r;exact .nil
 | k::ks,_,r=>by
  rw [List.map_cons] at r;cases r with
  | cons h t=>exact .cons (lD h) (oY t)
abbrev KT (H:Hp):List (List Key×V)->List (List Key×Addr×Value)->Prop:=Paired fun p q=>p.1=q.1∧H q.2.1=some (.tup (p.1.map kV))∧RelV p.2 q.2.2
theorem KT.val {H:Hp} {kvs:List (List Key×V)} {xs:List (List Key×Addr×Value)} (r:KT H kvs xs) (k:List Key):lj (gV kvs k) ((atKey xs k).map (·.2)):=by
 induction r with
 | nil=>exact True.intro
 | @cons p q ps qs h t ih=>
  obtain ⟨h1,_,h2⟩:=h
  by_cases e:p.1=k
  ·have e':q.1=k:=h1.symm.trans e;have b:atKey (q::qs) k=some q.2:=by simp [atKey,List.find?_cons,e']
   rw [mw e,b];exact h2
  ·have e':¬q.1=k:=fun z=>e (h1.trans z);have b:atKey (q::qs) k=atKey qs k:=by simp [atKey,List.find?_cons,e']
   rw [jJ e,b];exact ih
theorem KT.Ao (r:KT H kvs xs) (k:List Key) (ry:RelV y u):
  KT H (kvs.map fun kv=>if kv.1=k then (kv.1,y) else kv) (xs.map (putAt k u)):=by
 induction r with
 | nil=>exact .nil
 | @cons p q ps qs h t ih=>
  rw [List.map_cons,List.map_cons];refine .cons ?_ ih;obtain ⟨h1,h2,h3⟩:=h;unfold putAt
  by_cases e:p.1=k
  ·rw [if_pos e,if_pos (h1.symm.trans e)];exact ⟨h1,h2,ry⟩
  ·rw [if_neg e,if_neg (fun z=>e (h1.trans z))];exact ⟨h1,h2,h3⟩
theorem KT.put (r:KT H kvs xs) (k:List Key) (hb:H b=some (.tup (k.map kV))) (ry:RelV y u):
  KT H (putK kvs k y) (storedH xs k b u):=by
 have e:(kvs.any fun kv=>decide (kv.1=k))=(atKey xs k).isSome:=by
  rw [qQ,(r.val k).fV,Option.isSome_map]
 unfold putK storedH;rw [e]
 by_cases q:(atKey xs k).isSome=true
 ·rw [if_pos q,if_pos q];exact r.Ao k ry
 ·rw [if_neg q,if_neg q];exact Paired.snoc r ⟨rfl,hb,ry⟩
theorem KT.keeps (r:KT H kvs xs) (ht:∀b ys,H b=some (.tup ys)->H' b=some (.tup ys)):KT H' kvs xs:=
 Paired.Bq r fun _ _ z=>⟨z.1,ht _ _ z.2.1,z.2.2⟩
theorem zJ (ok:HOk P w H h) (e:Rd H a u):cj P w H h a u:=e.ok ok
theorem lF (ok:HOk P w H h) (e:Rd H a (.dK kvs)):kvs.length≤sizeLine∧(a==sysModules)=false∧∃vs,KV kvs vs∧h.DictOf (bF P w) a vs:=
 show cj P w H h a (.dK kvs) from zJ ok e
theorem uv (ok:HOk P w H h) (e:H a=some (.dK kvs)):kvs.length≤sizeLine∧(a==sysModules)=false∧∃vs,KV kvs vs∧h.DictOf (bF P w) a vs:=lF ok (.inl e)
theorem jB (ok:HOk P w H h) (e:H a=some (.tup (ks.map kV))):(tupleKind (bF P w)).is h ks a:=by
 obtain ⟨_,its,r,o,h1,h2,⟨n,h3⟩,_⟩:=(show cj P w H h a (.tup (ks.map kV)) from ok a _ e);exact ⟨o,its.toArray,n,h1,h2,h3,by simpa using oY r⟩
theorem xH (ok:HOk P w H h) (e:Rd H a (.dT kvs)):kvs.length≤sizeLine∧(a==sysModules)=false∧
  ∃xs,KT H kvs xs∧h.DictOfH (tupleKind (bF P w)) a xs:=by
 obtain ⟨z,y,xs,r,o,es,ep,h1,h2,h3,h4,h5⟩:=(show cj P w H h a (.dT kvs) from zJ ok e);refine ⟨z,y,xs,r,o,es,ep,h1,h2,h3,h4,fun x hx=>?_,h5⟩;have all:∀{l:List (List Key×V)} {m:List (List Key×Addr×Value)},KT H l m->∀x∈m,(tupleKind (bF P w)).is h x.1 x.2.1:=by
  intro l m q
  induction q with
  | nil=>intro x hx;exact nomatch hx
  | @cons p q ps qs hq t ih=>
   intro x hx;rcases List.mem_cons.mp hx with e | hx
   ·subst e;exact jB ok (by rw [←hq.1];exact hq.2.1)
   ·exact ih x hx
 exact all r x hx
theorem DC (ok:HOk P w H h) (e:H a=some (.dT kvs)):kvs.length≤sizeLine∧(a==sysModules)=false∧
  ∃xs,KT H kvs xs∧h.DictOfH (tupleKind (bF P w)) a xs:=xH ok (.inl e)
def kC (H:Hp) (a:Addr) (y:V) (r:Option V):Prop:=
 (∃kvs k,Rd H a (.dK kvs)∧y=kV k∧r=gV kvs k)∨∃kvs k b,Rd H a (.dT kvs)∧y=.ref b∧H b=some (.tup (k.map kV))∧r=gV kvs k
def zG (H:Hp) (a:Addr) (y v:V) (H':Hp):Prop:=
 (∃kvs k,H a=some (.dK kvs)∧y=kV k∧kvs.length < sizeLine∧H'=upd H a (.dK (putK kvs k v)))∨
 ∃kvs k b,H a=some (.dT kvs)∧y=.ref b∧H b=some (.tup (k.map kV))∧kvs.length < sizeLine∧H'=upd H a (.dT (putK kvs k v))
theorem kC.k {H:Hp} {a:Addr} {kvs:List (Key×V)} {k:Key} (e:H a=some (.dK kvs)):kC H a (kV k) (gV kvs k):=.inl ⟨kvs,k,.inl e,rfl,rfl⟩
theorem zG.k {H:Hp} {a:Addr} {kvs:List (Key×V)} {k:Key} {v:V} (e:H a=some (.dK kvs)) (hl:kvs.length < sizeLine):zG H a (kV k) v (upd H a (.dK (putK kvs k v))):=.inl ⟨kvs,k,e,rfl,hl,rfl⟩
theorem Inv.big (I:Inv X pins σ H s):sysModules < s.heap.objs.size:=by
 have h:mainGlobals < s.heap.objs.size:=(I.mod.glob.keeps I.bk).lt;exact Nat.lt_trans (by decide) h
theorem vt (hu:A.units+1 < cLine) (I:Inv X pins σ H s) (g:kC H a y (some v)) (ry:RelV y u) (h:∀w' s',Inv X pins σ H s'->RelV v w'->Q w' s'):
  wpAny (model X.prog X.w) A (getItem (.ref a) u) Q E s:=by
 rcases g with ⟨kvs,k,e,ey,l⟩ | ⟨kvs,k,b,e,ey,eb,l⟩
 ·subst ey;obtain ⟨z,hd,vs,rel,dd⟩:=lF I.hok e;obtain ⟨w',hw,rw'⟩:=lj.some_of (v:=v) (o:=valueAt vs k) (by rw [l];exact rel.val k);exact wpAny_getItem_of (lD ry) dd.mapOf hw (h w' _ (I.tok _) rw')
 ·walk_at "ak";obtain ⟨w',hw,rw'⟩:=lj.some_of (v:=v) (o:=(atKey xs k).map (·.2)) (by rw [l];exact rel.val k);obtain ⟨p,hp,hp2⟩:=Option.map_eq_some_iff.mp hw;refine wpAny_getItem_heap (tupleKind_room_in1 hu) (jB I.hok eb) dd hp ?_;rw [hp2];exact h w' _ (I.tok _) rw'
theorem EE (hu:A.units+1 < cLine) (I:Inv X pins σ H s) (g:kC H a y o) (ry:RelV y u) (h:∀s',Inv X pins σ H s'->Q (.bool o.isSome) s'):
  wpAny (model X.prog X.w) A (compareOp .In u (.ref a)) Q E s:=by
 rcases g with ⟨kvs,k,e,ey,l⟩ | ⟨kvs,k,b,e,ey,eb,l⟩
 ·subst ey;obtain ⟨z,hd,vs,rel,dd⟩:=lF I.hok e;refine wpAny_in_of (lD ry) hd dd.mapOf ?_;rw [←(rel.val k).fV,←l];exact h _ (I.tok _)
 ·walk_at "ak";refine wpAny_in_heap (tupleKind_room_in1 hu) (jB I.hok eb) hd dd ?_;have q:=(rel.val k).fV;rw [Option.isSome_map] at q;rw [←q,←l];exact h _ (I.tok _)
theorem zu (hu:A.units+1 < cLine) (I:Inv X pins σ H s) (g:kC H a y o) (ry:RelV y u) (h:∀s',Inv X pins σ H s'->Q (.bool (!o.isSome)) s'):
  wpAny (model X.prog X.w) A (compareOp .NotIn u (.ref a)) Q E s:=by
 rcases g with ⟨kvs,k,e,ey,l⟩ | ⟨kvs,k,b,e,ey,eb,l⟩
 ·subst ey;obtain ⟨z,hd,vs,rel,dd⟩:=lF I.hok e;refine wpAny_notIn_of (lD ry) hd dd.mapOf ?_;rw [←(rel.val k).fV,←l];exact h _ (I.tok _)
 ·walk_at "ak";refine wpAny_notIn_heap (tupleKind_room_in1 hu) (jB I.hok eb) hd dd ?_;have q:=(rel.val k).fV;rw [Option.isSome_map] at q;rw [←q,←l];exact h _ (I.tok _)
theorem qB (I:Inv X pins σ H s) (mu:Mut (H a)) (hs:Heap.SameBut a s.heap h') (he:∃q,h'.get? a=some q) (new:cj X.prog X.w (upd H a ob) h' a ob):
  Inv X pins σ (upd H a ob) {s with heap:=h',toks:=t'}:=
 I.write (x:=a) (e:=a) mu (.inl rfl) (fun b q hb z=>(hs.2 b hb).trans z) he new
theorem xI (z:kvs.length≤sizeLine) (hd:(a==sysModules)=false) (rel:KV kvs vs) (dd:h'.DictOf (bF P w) a vs):
  cj P w H' h' a (.dK kvs):=⟨z,hd,vs,rel,dd⟩
theorem vq (hu:A.units+1 < cLine) (I:Inv X pins σ H s) (g:zG H a y v H') (ry:RelV y u) (rv:RelV v r) (h:∀s',Inv X pins σ H' s'->Q () s'):
  wpAny (model X.prog X.w) A (setItem (.ref a) u r) Q E s:=by
 rcases g with ⟨kvs,k,e,ey,l,eH⟩ | ⟨kvs,k,b,e,ey,eb,l,eH⟩
 ·subst ey eH;obtain ⟨z,hd,vs,rel,dd⟩:=uv I.hok e;have hz:vs.length≤sizeLine:=by rw [←rel.length];exact z
  have hl:(putK kvs k v).length≤sizeLine:=by have:=iC kvs k v;lia
  refine wpAny_setItem_pairs (hsz:=hz) (lD ry) dd fun h' dd' hs=>h _ ?_;have he:∃q,h'.get? a=some q:=let ⟨q,_,_,hq,_⟩:=dd';⟨q,hq⟩;exact qB I (by rw [e];exact True.intro) hs he (xI hl hd (rel.put k rv) dd')
 ·subst ey eH;cases (show u=Value.ref b from ry);obtain ⟨z,hd,xs,rel,dd⟩:=DC I.hok e;have hz:xs.length≤sizeLine:=by rw [←Paired.length rel];exact z
  have hl:(putK kvs k v).length≤sizeLine:=by have:=iC kvs k v;lia
  refine wpAny_setItem_heap (hsz:=hz) (tupleKind_room_in1 hu) (jB I.hok eb) dd fun h' dd' hs=>h _ ?_;obtain ⟨q,es,ep,hq,h2,h3,h4,_,h5⟩:=dd';refine qB I (by rw [e];exact True.intro) hs ⟨q,hq⟩ ⟨hl,hd,_,(rel.put k eb rv).keeps fun c ys ec=>?_,q,es,ep,hq,h2,h3,h4,h5⟩;rw [aJ (Dn ec e (fun z=>nomatch z))];exact ec
theorem DD (I:Inv X pins σ H s) (e:Rd H a (.dK kvs)) (h:∀t s',Inv X pins σ H s'->Q (.int kvs.length t) s'):wpAny (model X.prog X.w) A (call (.builtin "len") [.ref a]) Q E s:=by
 obtain ⟨z,hd,vs,rel,dd⟩:=lF I.hok e;refine call_len_dict hd dd (by rw [←rel.length];rw [sizeLine_eq] at z;lia) ?_;rw [←rel.length];exact h _ _ (I.tok _)
def zF (i:Expr):Prop:=∀ov iv,subscripted i false ov iv=operate [ov,iv] (getItem ov iv)
theorem yi {prog:Program} {w:World} {A:Around} {E:Value->Shared->Prop} {s:Shared} {env:Env} {value slice:Expr} {pos:Pos} {T id:String} {Q:Value->Shared->Prop}
  (hl:typeLookup (.type T) "__getitem__"=pure (some (.builtin id))) (hs:zF slice)
  (h:wpAny (model prog w) A (eval value env) (fun o s₁=>wpAny (model prog w) A (eval slice env) (fun i s₂=>s₂.TypeIs o T∧wpAny (model prog w) A (getItem o i) Q E s₂) E s₁) E s):
  wpAny (model prog w) A (eval (.Subscript value slice pos) env) Q E s:=by
 refine Subscript_ (wpAny_mono h (fun o s₁ h₁=>wpAny_mono h₁ (fun i s₂ h₂=>?_) fun _ _ x=>x) fun _ _ x=>x);obtain ⟨hT,h₂⟩:=h₂;unfold subscriptTail;refine wpAny_bind ?_;rw [getitemInPython_of_ne hT.not_modules];refine wpAny_bind (wpAny_specialOf hT hl ?_);have fin:wpAny (model prog w) A (subscripted slice false o i) (fun r s₃=>wpAny (model prog w) A (letTemporaryGo value o r >>=fun _=>pure r) Q E s₃) E s₂:=by
  rw [hs o i];exact wpAny_operating (wpAny_mono h₂ (fun r s₃ h₃=>wpAny_bind (wpAny_letTemporaryGo (wpAny_pure h₃))) fun _ _ x=>x)
 first
  | exact wpAny_pure (wpAny_bind fin)
  | exact wpAny_bind (wpAny_pure (wpAny_bind fin))
  | exact wpAny_bind fin
theorem sg (I:Inv X pins σ H s) (g:kC H a y o):s.TypeIs (.ref a) "dict":=by
 rcases g with ⟨kvs,k,e,_,_⟩ | ⟨kvs,k,b,e,_,_,_⟩
 ·obtain ⟨_,_,vs,_,dd⟩:=lF I.hok e;exact dd.typeIs
 ·obtain ⟨_,_,xs,_,dd⟩:=xH I.hok e;exact dd.typeIs
theorem sf (h:Heap) (hb:sysModules < h.objs.size):cj P w H (h.push {cls:=.type "dict",data:=.dict #[]}) h.objs.size (.dK []):=
 ⟨Nat.zero_le _,beq_eq_false_iff_ne.mpr (Ne.symm (Nat.ne_of_lt hb)),[],.nil,Heap.DictOf.new h⟩
def z3:TE:=fun _ H Q=>∀p,H p=none->Q (.ref p) (upd H p (.dK []))
theorem wX:PE X (.Dict [] [] pos) z3:=fun pins s σ H Q I h=>
 wpAny_Dict_empty ⟨.ref s.heap.objs.size,_,I.laid (a:=s.heap.objs.size) (o:=.dK []) (t':=s.toks) (fun _ _ q=>Heap.get?_push_of_some _ q) (Nat.le_refl _) (sf s.heap I.big),rfl,h _ (I.hok.fresh (Nat.le_refl _))⟩
def pH:List (TE×TE)->St->Hp->(List (V×V)->Hp->Prop)->Prop
 | [],_,H,Q=>Q [] H
 | (tk,tv)::r,σ,H,Q=>tk σ H fun x H1=>tv σ H1 fun y H2=>pH r σ H2 fun ps H3=>Q ((x,y)::ps) H3
abbrev VV:List (V×V)->List (Value×Value)->Prop:=Paired fun p q=>RelV p.1 q.1∧RelV p.2 q.2
def PPs (X:Cx) (pos:Pos) (keys:List (Option Expr)) (values:List Expr) (trs:List (TE×TE)):Prop:=
 ∀(pins:List (Addr×Obj)) (s:Shared) (σ:St) (H:Hp) (Q:List (V×V)->Hp->Prop),Inv X pins σ H s->pH trs σ H Q->
  wpAny (model X.prog X.w) X.A (evalPairs (pairTrees keys values X.env pos)) (fun vs s'=>∃ps H',Inv X pins σ H' s'∧VV ps vs∧Q ps H') X.xe s
theorem yN:PPs X pos [] [] []:=fun pins s σ H Q I h=>pairTrees_nil_walk ⟨[],H,I,.nil,h⟩
theorem wO (hk:PE X k tk) (hv:PE X v tv) (hr:PPs X pos ks vs trs):
  PPs X pos (some k::ks) (v::vs) ((tk,tv)::trs):=fun pins s σ H Q I h=>
 pairTrees_cons_walk (thn (hk pins s σ H _ I h) fun u s1 ⟨x,H1,I1,rx,q1⟩=>thn (hv pins s1 σ H1 _ I1 q1) fun w2 s2 ⟨y,H2,I2,ry,q2⟩=>
  thn (hr pins s2 σ H2 _ I2 q2) fun ws s3 ⟨ps,H3,I3,rel,q3⟩=>⟨(x,y)::ps,H3,I3,.cons ⟨rx,ry⟩ rel,q3⟩)
noncomputable def ff (kvs more:List (Key×V)):List (Key×V):=more.foldl (fun acc kv=>putK acc kv.1 kv.2) kvs
theorem KV.merge:∀{more:List (Key×V)} {rs:List (Key×Value)} {kvs:List (Key×V)} {vs:List (Key×Value)},KV more rs->KV kvs vs->KV (ff kvs more) (merged vs rs):=by
 intro more rs kvs vs r;unfold KV at r
 induction r generalizing kvs vs with
 | nil=>intro q;exact q
 | @cons p q ps qs h t ih=>
  intro r0;have e:KV (putK kvs p.1 p.2) (stored vs q.1 q.2):=by
   have:=r0.put p.1 h.2;rw [←h.1];exact this
  exact ih e
theorem iX:∀(more kvs:List (Key×V)),(ff kvs more).length≤kvs.length+more.length
 | [],kvs=>by show kvs.length≤kvs.length+0;lia
 | p::r,kvs=>by
  have h1:=iX r (putK kvs p.1 p.2);have h2:=iC kvs p.1 p.2;show (ff (putK kvs p.1 p.2) r).length≤_;rw [List.length_cons];lia
theorem nM:∀{kvs:List (Key×V)} {ws:List (Value×Value)},VV (kvs.map fun kv=>(kV kv.1,kv.2)) ws->∃rs,Carries (bF P w) ws rs∧KV kvs rs
 | [],_,r=>by rw [List.map_nil] at r;cases r;exact ⟨[],True.intro,.nil⟩
 | p::kvs,_,r=>by
  rw [List.map_cons] at r;cases r with
  | @cons a b as bs h t=>
   obtain ⟨rs,c,q⟩:=nM (P:=P) (w:=w) t;obtain ⟨b1,b2⟩:=b;exact ⟨(p.1,b2)::rs,⟨lD h.1,rfl,c⟩,.cons ⟨rfl,h.2⟩ q⟩
def vQ (trs:List (TE×TE)):TE:=fun σ H Q=>∀p,H p=none->pH trs σ (upd H p (.dK [])) fun ps H2=>H2 p=some (.dK [])∧∃kvs:List (Key×V),ps=kvs.map (fun kv=>(kV kv.1,kv.2))∧kvs.length≤15∧Q (.ref p) (upd H2 p (.dK (ff [] kvs)))
theorem uc (h:PPs X pos keys values trs) (hall:keys.all (·.isSome)=true) (hl:keys.length=values.length) (h0:keys≠[]) (h15:keys.length≤15):PE X (.Dict keys values pos) (vQ trs):=by
 intro pins s σ H Q I q;have hn:=I.hok.fresh (Nat.le_refl s.heap.objs.size);have I1:=I.laid (a:=s.heap.objs.size) (o:=.dK []) (h':=s.heap.push {cls:=.type "dict",data:=.dict #[]}) (t':=s.toks) (fun _ _ q=>Heap.get?_push_of_some _ q) (Nat.le_refl _) (sf s.heap I.big);refine wpAny_Dict_walk (knd:=bF X.prog X.w) hall hl h0 h15 (thn (h pins _ σ _ _ I1 (q _ hn)) fun ws s2 ⟨ps,H2,I2,rel,e,kvs,ep,lk,q2⟩=>?_);subst ep;obtain ⟨rs,c,rk⟩:=nM (P:=X.prog) (w:=X.w) rel;obtain ⟨z,hd,vs0,r0,dd⟩:=uv I2.hok e;cases r0;refine ⟨rs,c,dd,fun h' dd' hs=>⟨.ref s.heap.objs.size,_,?_,rfl,q2⟩⟩;have hz:(ff [] kvs).length≤sizeLine:=by
  have h1:=iX kvs [];rw [List.length_nil] at h1;rw [sizeLine_eq];lia
 have he:∃q,h'.get? s.heap.objs.size=some q:=let ⟨q,_,_,hq,_⟩:=dd';⟨q,hq⟩;exact qB I2 (by rw [e];exact True.intro) hs he (xI hz hd (rk.merge .nil) dd')
theorem BS (hu:A.units+1 < cLine) (I:Inv X pins σ H s) (g:kC H a y o) (ry:RelV y u) (h:∀w' s',Inv X pins σ H s'->RelV (o.getD .non) w'->Q w' s'):
  wpAny (model X.prog X.w) A (call (.builtin "dict.get") [.ref a,u]) Q E s:=by
 rcases g with ⟨kvs,k,e,ey,l⟩ | ⟨kvs,k,b,e,ey,eb,l⟩
 ·subst ey;obtain ⟨z,hd,vs,rel,dd⟩:=lF I.hok e;refine call_meetsIn PySem.F.slot_dict_get dd.typeIs PySem.F.entry_dict_get (PySem.F.args_dict_get_2 _ _) (meets_dict_get (bF X.prog X.w) a (lD ry) hd) ⟨_,dd.mapOf,h _ _ (I.tok _) ?_⟩;rw [l];exact (rel.val k).getD rfl
 ·walk_at "ak";refine call_meetsIn PySem.F.slot_dict_get dd.typeIs PySem.F.entry_dict_get (PySem.F.args_dict_get_2 _ _) (meetsH_dict_get (tupleKind (bF X.prog X.w)) a b hd) ⟨tupleKind_room_in1 hu,k,xs,jB I.hok eb,dd,h _ _ (I.tok _) ?_⟩;rw [l];exact (rel.val k).getD rfl
theorem BR (hu:A.units+1 < cLine) (I:Inv X pins σ H s) (g:kC H a y o) (ry:RelV y u) (rd:RelV d r) (h:∀w' s',Inv X pins σ H s'->RelV (o.getD d) w'->Q w' s'):
  wpAny (model X.prog X.w) A (call (.builtin "dict.get") [.ref a,u,r]) Q E s:=by
 rcases g with ⟨kvs,k,e,ey,l⟩ | ⟨kvs,k,b,e,ey,eb,l⟩
 ·subst ey;obtain ⟨z,hd,vs,rel,dd⟩:=lF I.hok e;refine call_meetsIn PySem.F.slot_dict_get dd.typeIs PySem.F.entry_dict_get (PySem.F.args_dict_get_3 _ _ _) (meets_dict_get_default (bF X.prog X.w) a (lD ry) hd r) ⟨_,dd.mapOf,h _ _ (I.tok _) ?_⟩;rw [l];exact (rel.val k).getD rd
 ·walk_at "ak";refine call_meetsIn PySem.F.slot_dict_get dd.typeIs PySem.F.entry_dict_get (PySem.F.args_dict_get_3 _ _ _) (meetsH_dict_get_default (tupleKind (bF X.prog X.w)) a b hd r) ⟨tupleKind_room_in1 hu,k,xs,jB I.hok eb,dd,h _ _ (I.tok _) ?_⟩;rw [l];exact (rel.val k).getD rd
end L2
namespace Att
open PySem PySem.W PySem.Calls PyProof.Rows
theorem lT:∀(ns:List Int) (vs:List Value),WellAll P h vs (ns.map WData.int)->IntsAre vs ns:=by
 intro ns
 induction ns with
 | nil=>
  intro vs w;rw [List.map_nil] at w;cases w;exact .nil
 | cons n ns ih=>
  intro vs w;rw [List.map_cons] at w;cases w with
  | cons a b=>
   cases a;exact .cons _ _ (ih _ b)
theorem uQ {l:OpenLaw} {n:Nat} (hn:l.most=some n) {P:Params} {h:Heap} {args:List WData} {vals:List Value}
  (hpre:l.row.toRowW.claim.pre args=true) (hwl:WellAll P h vals args):
  ∃a vs ns,vals=[Value.ref a]∧args=[WData.list (ns.map WData.int)]∧h.get? a=some {cls:=.type "list",data:=.seq vs.toArray}∧IntsAre vs ns∧ns.length≤n:=by
 have hsh:WShape.hasAll [] args [.list .int]=true:=(pre_splitW hpre).1;have hc:l.pre.holds [] {args:=args}=true:=(pre_splitW hpre).2;obtain ⟨d,r,rfl,h1,h2⟩:=hasAllW_cons hsh;obtain rfl:=hasAllW_nil h2;obtain ⟨xs,rfl,h3⟩:=hasW_list h1;obtain ⟨ns,rfl⟩:=items_int h3;have hlen:ns.length≤n:=by
  unfold OpenLaw.pre at hc;have h4:(WTm.not (.lt (.lit (.int (n:Int))) (.len (.arg 0)))).holds [] {args:=[.list (ns.map .int)]}=true:=by
   have h4:=(holds_andW hc).1;rw [hn] at h4;exact h4
  have h5:=condW_of h4 (w_not (w_lt w_lit (w_len_list (w_arg rfl))));rw [List.length_map] at h5;refine Nat.le_of_not_lt fun q=>?_;have q':(n:Int) < ((ns.length:Nat):Int):=by lia
  first
   | (rw [decide_eq_true q'] at h5;exact absurd h5 (by decide))
   | (simp at h5;lia)
 cases hwl with
 | cons w1 w2=>
  cases w2;cases w1 with
  | list ho hall=>exact ⟨_,_,ns,rfl,rfl,ho,lT ns _ hall,hlen⟩
theorem uT (l:OpenLaw) (args:List WData):l.row.toRowW.claim.post args (.bool true) args=true:=
 postW_of (r:=l.row.toRowW) (X:=(true==true))
  (show WShape.has [] (.bool true) .bool=true by first | rfl | decide | simp [WShape.has,WShape.arms,WShape.armsAll])
  (show (WTm.eq .res (.lit (.bool true))).value [] {args:=args,res:=some (.bool true),after:=args}=some (.bool (true==true)) from w_eq_bool (w_res rfl) w_lit) rfl
theorem sr {l:OpenLaw} {n:Nat} {q:Program} {loose:List Str} {XP:(Str->Option Value)->Heap->Prop} {YP:World->Heap->Prop} {d:DefRec}
  (hn:l.most=some n) (hdf:d.params.defaults=[])
  (call:∀(w:World) (s₀ s₁:Shared) (mg mb:Str->Option Value) (fa:Addr) (o:Obj) (pm cd doc:Value) (a:Addr) (vs:List Value) (ns:List Int),
   Ground q loose [] XP w s₀ mg mb s₁.heap->YP w s₁.heap->
   s₁.heap.get? fa=some o->o.data=.func (docDef d.name d.params d.body d.scope pm cd doc)->s₁.heap.CodeRec cd d.name->mg d.name=some (.ref fa)->
   s₁.heap.get? a=some {cls:=.type "list",data:=.seq vs.toArray}->IntsAre vs ns->ns.length≤n->s₁.gens=#[]->
   codeAny (model l.prog w) callerA (.call (.ref fa) ⟨[.ref a],[]⟩) (fun r s'=>r=.ok (.ret (.bool true))∧OldK s₁.heap s'.heap∧s'.os=s₁.os∧AllBare s'.gens) s₁):
  WalkO q loose XP YP l.row.toRowW d [] (fun f vs=>PySem.call f vs):=by
 intro w s₀ s₁ mg mb G Y fa o pm cd doc dV kV ho hd hcd hD hmg hg args vals as hpre hlay hrd hwl hlo;obtain rfl:dV=.none:=Dflts.none hD hdf;obtain rfl:kV=.none:=Dflts.noKw hD;obtain ⟨a,vs,ns,rfl,rfl,hobj,hints,hlen⟩:=uQ hn hpre hwl;refine enter_call (codeAny_mono (call w s₀ s₁ mg mb fa o pm cd doc a vs ns G Y ho (fd_plain hd) hcd hmg hobj hints hlen hg) fun r s' hq=>?_);obtain ⟨rfl,h2,h3,h4⟩:=hq;exact ⟨.inl ⟨.bool true,.bool true,[],rfl,fun _=>rfl,.bool true,uT l _,fun _=>⟨List.Pairwise.nil,fun _ hm=>(nomatch hm)⟩⟩,h2,h3,h4⟩
section
variable {prog:Program} {w:World} {A:Around} {E:Value->Shared->Prop} {s:Shared} {K:Frag}
end
end Att
namespace L2
open PySem PySem.Spec PyProof.Rows
theorem iF:∀{vs:List Value} {ns:List Int},IntsAre vs ns->Vals (ns.map V.int) vs
 | _,_,.nil=>.nil
 | _,_,.cons n t h=>.cons ⟨t,rfl⟩ (iF h)
def DH (H:Hp):Prop:=∀b,H b=none∨∃o xs,H b=some (.frz o (.lst xs))
theorem xo {P:Program} {w:World} {K:FR} {mg mb:Str->Option Value} {CX:CXT} {k:Nat} {fa a:Addr} {fd:FuncData} {x:Str} {sp:Sp} {s₁:Shared} {vs:List Value} {ns:List Int}
  (KX:K.In s₁.heap) (hns:s₁.heap.Ns mainGlobals mg) (hb:s₁.heap.Ns builtinsNs mb) (hbb:∀x:Str,x≠"__name__"->mb x=bootBuiltins x) (hlim:s₁.heap.NoLimit) (hg:s₁.gens=#[])
  (ha:s₁.heap.get? a=some {cls:=.type "list",data:=.seq vs.toArray}) (hi:IntsAre vs ns) (hl:ns.length≤sizeLine) (hr:Room k callerA)
  (F:∀base:Heap,K.In base->base.Ns mainGlobals mg->FnOk P w K mg base CX k fa fd [x] sp) (hbind:∀(s:Shared) (u:Value),BindsTo s fd ⟨[u],[]⟩ [(x,u)])
  (hsp:∀H:Hp,DH H->SqL K H a (ns.map V.int)->sp [.ref a] H (fun v _=>v=.bl true) fun _ _ _=>False)
  (hCX:∀H e s',CX [] H s₁ (fun _ _ _=>False) e s'->False):
  codeAny (model P w) callerA (.call (.ref fa) ⟨[.ref a],[]⟩) (fun r s'=>r=.ok (.ret (.bool true))∧OldK s₁.heap s'.heap∧s'.os=s₁.os∧AllBare s'.gens) s₁:=by
 have rv:=iF hi;have lenV:=hi.length;have core:∀H:Hp,DH H->SqL K H a (ns.map V.int)->HOk P w H s₁.heap->(∀b,H b≠none->b=a)->(H a≠none->K.lookup a=none)->
   codeAny (model P w) callerA (.call (.ref fa) ⟨[.ref a],[]⟩) (fun r s'=>r=.ok (.ret (.bool true))∧OldK s₁.heap s'.heap∧s'.os=s₁.os∧AllBare s'.gens) s₁:=by
  intro H hO hS hok hA hK;have base_of:∀{b:Addr} {o:Obj},s₁.heap.get? b=some o->H b=none->(qu s₁.heap H).get? b=some o:=fun e n=>xq e n;have noA:∀{b:Addr} {o:Obj} {es:Array DictEntry} {ep:Nat},s₁.heap.get? b=some o->o.data=.dict es ep->H b=none:=fun {b o es ep} e d=>by
   cases q:H b with
   | none=>rfl
   | some u=>
    have e':b=a:=hA b (by rw [q];simp);subst e';rw [ha] at e;cases e;have d':Data.seq vs.toArray _=Data.dict es ep:=d;cases d'
  have nsK:∀{b:Addr} {m:Str->Option Value},s₁.heap.Ns b m->(qu s₁.heap H).Ns b m:=fun {b m} ⟨o,es,ep,e,d,r⟩=>⟨o,es,ep,base_of e (noA e d),d,r⟩;have hKb:K.In (qu s₁.heap H):=fun b o e=>base_of (KX b o e) (by
   cases q:H b with
   | none=>rfl
   | some u=>
    have e':b=a:=hA b (by rw [q];simp);subst e';rw [hK (by rw [q];simp)] at e;cases e)
  have hM:Mod K mg (qu s₁.heap H):=⟨hKb,nsK hns,⟨mb,nsK hb,hbb⟩,let ⟨mc,h1,h2⟩:=hlim;⟨mc,nsK h1,h2⟩⟩;have e0:Env0 P w K mg (qu s₁.heap H) callerA [] s₁ H:=⟨rfl,hM,fun b o e=>y8 e,Nat.le_of_eq (vh _ _),trivial,fun b hb=>absurd (show b∈([]:List Addr) from hb) (by simp),hok,.of_eq hg⟩;refine codeAny_mono ((F _ hKb (nsK hns)).run callerA [] s₁ H ⟨[.ref a],[]⟩ [.ref a] [.ref a] _ _ hr e0 (hbind s₁ (.ref a)) (.cons rfl .nil) (hsp H hO hS)) fun r s' h=>?_;cases r with
  | error e=>exact (hCX H e s' h).elim
  | ok fl=>
   cases fl with
   | next=>exact False.elim h
   | brk=>exact False.elim h
   | cont=>exact False.elim h
   | ret u=>
    obtain ⟨v,H',os,bare,un,hok',r',q⟩:=h;have q':v=.bl true:=q;subst q';obtain rfl:u=Value.bool true:=r';refine ⟨rfl,OldK.of_keep fun b o e=>?_,os,bare⟩;cases q:H b with
    | none=>exact un.keep b o e q (by intro z;exact absurd (show b∈([]:List Addr) from z) (by simp)) (by simp)
    | some u=>
     rcases hO b with z | ⟨ob,xs,z⟩
     ·rw [q] at z;cases z
     ·have z2:=un.frzs b ob _ z;obtain ⟨e1,_⟩:=hok b _ z;obtain ⟨e2,_⟩:=hok' b _ z2;rw [e] at e1;cases e1;exact e2
 cases hk:K.lookup a with
 | some o=>
  have e:=KX a o hk;rw [ha] at e;cases e;refine core (fun _=>none) (fun _=>.inl rfl) (.inr ⟨_,vs.toArray,_,hk,rfl,rfl,rfl,by rw [List.size_toArray,lenV];exact hl,by simpa using rv⟩) (fun b u z=>by have z':(none:Option HO)=some u:=z;cases z') (fun b z=>absurd rfl z) fun z=>absurd rfl z
 | none=>
  refine core (fun b=>if b=a then some (.frz {cls:=.type "list",data:=.seq vs.toArray} (.lst (ns.map V.int))) else none) (fun b=>?_) (.inl (.inr ⟨{cls:=.type "list",data:=.seq vs.toArray},if_pos rfl⟩)) (fun b u z=>?_) (fun b z=>?_) fun _=>hk
  ·by_cases hb:b=a
   ·exact .inr ⟨_,_,if_pos hb⟩
   ·exact .inl (if_neg hb)
  ·by_cases hb:b=a
   ·have z':=(if_pos hb).symm.trans z;cases z';subst hb;exact ⟨ha,by rw [List.length_map];exact hl,vs,_,rv,ha⟩
   ·have z':=(if_neg hb).symm.trans z;cases z'
  ·by_cases hb:b=a
   ·exact hb
   ·exact absurd (if_neg hb) z
noncomputable def ke (s:Stmt):Arguments:=match s with
 | .FunctionDef _ a _ _ _ _ _ _ _ _=>a
 | _=>{posonlyargs:=[],args:=[],vararg:=none,kwonlyargs:=[],kw_defaults:=[],kwarg:=none,defaults:=[]}
noncomputable def gH (s:Stmt):List Stmt:=match s with
 | .FunctionDef _ _ b _ _ _ _ _ _ _=>b
 | _=>[]
noncomputable def ay (s:Stmt):Scope:=match s with
 | .FunctionDef _ _ _ _ _ _ sc _ _ _=>sc
 | _=>{kind:=.function,names:=[],isGenerator:=false,isCoroutine:=false}
abbrev CX0:CXT:=fun _ _ _ _ _ _=>False
abbrev E0:XK:=fun _ _ _=>False
theorem Dc:Passes CX0 X E0:=fun _ _ _ _ _ _ _ h=>h.elim
structure Fun (K:FR) (x qual:Str) (st:Stmt) (f:Addr) (fd:FuncData):Prop where
 ex:∃(oc:Value) (od:Option Addr) (kV doc pm:Value) (an:Option Addr) (cdv ct:Value) (osl:Array (Option Value)),
  fd=PySem.W.fnOf x qual (ke st) (gH st) (ay st) .none kV doc pm an cdv ct∧K.lookup f=some ⟨oc,od,.func fd,osl⟩∧PySem.W.codeIn K cdv qual=true
 kp:PySem.W.keepIn K (.ref f)=true
section
variable {P:Program} {w:World} {K:FR} {mg:Str->Option Value} {base:Heap}
theorem Fun.ok {x qual:Str} {st:Stmt} {f:Addr} {fd:FuncData} {N ps:List Str} {k:Nat} {sp:Sp} (F:Fun K x qual st f fd) (S:FnScope N ps (ay st)) (len:∀vs H Q E,sp vs H Q E->vs.length=ps.length)
  (hbody:∀(cdv:Value) (A:Around) (outer:List Env) (s:Shared) (H:Hp) (vs:List V) (Q:VK) (E:XK),Room k (A.deeper (envOfC qual (ay st) s.heap.objs.size f cdv))->sp vs H Q E->
   ∃t,PSs (tK CX0 P w K mg base N qual (ay st) f cdv A outer s H E).nox (gH st) t∧t {nx:=fun _ H'=>Q .non H',rt:=Q} (start N vs) H):FnOk P w K mg base CX0 (k+1) f fd ps sp:=by
 obtain ⟨oc,od,kV,doc,pm,an,cdv,ct,osl,rfl,lk,hcd⟩:=F.ex;refine Dz lk hcd S len fun A outer s H vs Q E hr hsp=>?_;obtain ⟨t,h,q⟩:=hbody cdv A outer s H vs Q E hr hsp;exact ⟨t,h.nox,q⟩
theorem Fun.binds {x qual:Str} {st:Stmt} {f:Addr} {fd:FuncData} {ps:List Str} (F:Fun K x qual st f fd)
  (h:∀(kV doc pm:Value) (an:Option Addr) (cdv ct:Value) (us:List Value),us.length=ps.length->bindArgs (PySem.W.fnOf x qual (ke st) (gH st) (ay st) .none kV doc pm an cdv ct) ⟨us,[]⟩=pure (ps.zip us)):Binds K fd ps []:=by
 obtain ⟨oc,od,kV,doc,pm,an,cdv,ct,osl,rfl,lk,hcd⟩:=F.ex;exact .all (h kV doc pm an cdv ct)
end
theorem Du (hr:Room k A):A.units+1 < cLine:=Nat.lt_of_le_of_lt (Nat.add_le_add_left (by decide:1≤64) _) hr.units
theorem vA:eB X (.builtin "len") (fun xs H Q=>∃a kvs,xs=[V.ref a]∧H a=some (.dK kvs)∧Q (.int kvs.length) H):=by
 intro pins s σ H xs us Q I r h;obtain ⟨a,kvs,rfl,ha,q⟩:=h;obtain ⟨u,rfl,ru⟩:=vals1 r;cases ru;exact DD I (.inl ha) fun t s' I'=>⟨.int kvs.length,H,I',⟨t,rfl⟩,q⟩
theorem Dq {A B:Prop} (h:B):if false=true then A else B:=by
 rw [if_neg Bool.false_ne_true];exact h
theorem Dp {A B:Prop} (h:A):if true=true then A else B:=by
 rw [if_pos rfl];exact h
section
variable {κ:Type} [DecidableEq κ]
end
theorem HOk.off (ok:HOk P w H h) (hC:H C=none) (k:∀b u,b≠C->h.get? b=some u->h'.get? b=some u):HOk P w H h':=by
 intro a o e;have ne:a≠C:=by rintro rfl;rw [hC] at e;cases e
 refine (ok a o e).qY (fun b u hb q=>k b u ?_ q) (fun _ x=>x) (fun _ _ x=>x);rcases hb with rfl | hb
 ·exact ne
 ·rintro rfl;rw [hC] at hb;cases hb
noncomputable def fY (env:Env):List (Str×NameKind)->List (Str×Addr)->List (Str×Addr)
 | [],acc=>acc
 | (n,k)::r,acc=>if (k==NameKind.free)=true then fY env r ((n,(env.cells.lookup n).getD 0)::acc) else fY env r acc
theorem nF (h:∀y∈scope.names,y.2=.free->∃c,env.cells.lookup y.1=some c):closureFor scope env=pure (fY env scope.names []):=by
 have key:∀(names:List (Str×NameKind)) (acc:List (Str×Addr)),(∀y∈names,y.2=.free->∃c,env.cells.lookup y.1=some c)->
   (forIn names acc (fun (x:Str×NameKind) (r:List (Str×Addr))=>match x with
    | (name,kind)=>if (kind==NameKind.free)=true then do let a←cellOf env name;pure (ForInStep.yield ((name,a)::r)) else pure (ForInStep.yield r)):Sem (List (Str×Addr)))=pure (fY env names acc):=by
  intro names
  induction names with
  | nil=>intro acc _;rfl
  | cons y r ih=>
   intro acc hy;obtain ⟨n,k⟩:=y;have hr:=fun a=>ih a fun z hz=>hy z (List.mem_cons_of_mem _ hz);rw [List.forIn_cons];unfold fY
   by_cases hk:(k==NameKind.free)=true
   ·have hk':k=.free:=by simpa using hk
    obtain ⟨c,hc⟩:=hy (n,k) List.mem_cons_self hk';have e:cellOf env n=pure c:=by unfold cellOf;rw [hc]
    simp only [hk,if_true,e,hc,Option.getD_some];exact hr _
   ·simp only [hk,if_false];exact hr _
 have k:=key scope.names [] h;unfold closureFor;dsimp only;rw [k];rfl
theorem k8:∀(names:List (Str×NameKind)) (acc:List (Str×Addr)),(∀y∈names,y.2=.free->∃c,env.cells.lookup y.1=some c)->
  (∀d,acc.lookup x=some d->env.cells.lookup x=some d)->(fY env names acc).lookup x=some c->env.cells.lookup x=some c
 | [],acc,_,ha,h=>ha c h
 | (n,k)::r,acc,hy,ha,h=>by
  unfold fY at h;have hr:=fun z hz=>hy z (List.mem_cons_of_mem _ hz)
  by_cases hk:(k==NameKind.free)=true
  ·rw [if_pos hk] at h;refine k8 r _ hr (fun d hd=>?_) h;have hk':k=.free:=by simpa using hk
   obtain ⟨c',hc⟩:=hy (n,k) List.mem_cons_self hk';rw [List.lookup_cons] at hd;cases hx:x==n with
   | true=>
    rw [hx] at hd;have e:x=n:=by simpa using hx
    rw [e,hc];rw [hc] at hd;exact hd
   | false=>
    rw [hx] at hd;exact ha d hd
  ·rw [if_neg hk] at h;exact k8 r _ hr ha h
theorem nI:∀(names:List (Str×NameKind)) (acc:List (Str×Addr)),(∃c,acc.lookup x=some c)->∃c,(fY env names acc).lookup x=some c
 | [],_,h=>h
 | (n,k)::r,acc,h=>by
  unfold fY
  by_cases hk:(k==NameKind.free)=true
  ·rw [if_pos hk];refine nI r _ ?_;rw [List.lookup_cons];cases hx:x==n with
   | true=>exact ⟨_,rfl⟩
   | false=>exact h
  ·rw [if_neg hk];exact nI r _ h
theorem kj:∀(names:List (Str×NameKind)) (acc:List (Str×Addr)),(x,NameKind.free)∈names->∃c,(fY env names acc).lookup x=some c
 | [],_,h=>by cases h
 | (n,k)::r,acc,h=>by
  unfold fY;rcases List.mem_cons.mp h with e | h'
  ·injection e with e1 e2
   subst e1 e2;rw [if_pos (by rfl)];refine nI r _ ⟨(env.cells.lookup x).getD 0,?_⟩;rw [List.lookup_cons,beq_self_eq_true]
  ·by_cases hk:(k==NameKind.free)=true
   ·rw [if_pos hk];exact kj r _ h'
   ·rw [if_neg hk];exact kj r _ h'
theorem gu {env:Env}:∀{names:List (Str×NameKind)} {x:Str} {j:NameKind},
  (names.map fun (n,k)=>if (k==NameKind.free&&env.scope.kind==.function&&env.kindOf n==some .cell) then (n,NameKind.cell) else (n,k)).lookup x=some j->
  ∃k,names.lookup x=some k∧(j=k∨(k=.free∧j=.cell))
 | [],_,_,h=>by simp at h
 | (n,k)::r,x,j,h=>by
  have h':List.lookup x ((if (k==NameKind.free&&env.scope.kind==.function&&env.kindOf n==some .cell)=true then (n,NameKind.cell) else (n,k))::_)=some j:=h;rw [List.lookup_cons];cases hx:x==n with
  | true=>
   refine ⟨k,rfl,?_⟩
   by_cases hc:(k==NameKind.free&&env.scope.kind==.function&&env.kindOf n==some .cell)=true
   ·rw [if_pos hc,List.lookup_cons,hx] at h';simp only [Bool.and_eq_true,beq_iff_eq] at hc;exact .inr ⟨hc.1.1,(Option.some.inj h').symm⟩
   ·rw [if_neg hc,List.lookup_cons,hx] at h';exact .inl (Option.some.inj h').symm
  | false=>
   by_cases hc:(k==NameKind.free&&env.scope.kind==.function&&env.kindOf n==some .cell)=true
   ·rw [if_pos hc,List.lookup_cons,hx] at h';exact gu h'
   ·rw [if_neg hc,List.lookup_cons,hx] at h';exact gu h'
theorem gv {env:Env}:∀{names:List (Str×NameKind)} {x:Str},names.lookup x=some .free->
  (names.map fun (n,k)=>if (k==NameKind.free&&env.scope.kind==.function&&env.kindOf n==some .cell) then (n,NameKind.cell) else (n,k)).lookup x=some .cell∨
  (names.map fun (n,k)=>if (k==NameKind.free&&env.scope.kind==.function&&env.kindOf n==some .cell) then (n,NameKind.cell) else (n,k)).lookup x=some .free
 | [],_,h=>by simp at h
 | (n,k)::r,x,h=>by
  rw [List.map_cons];show List.lookup x ((if (k==NameKind.free&&env.scope.kind==.function&&env.kindOf n==some .cell)=true then (n,NameKind.cell) else (n,k))::_)=_∨List.lookup x ((if (k==NameKind.free&&env.scope.kind==.function&&env.kindOf n==some .cell)=true then (n,NameKind.cell) else (n,k))::_)=_;rw [List.lookup_cons] at h;cases hx:x==n with
  | true=>
   rw [hx] at h;have hk:k=.free:=Option.some.inj h
   by_cases hc:(k==NameKind.free&&env.scope.kind==.function&&env.kindOf n==some .cell)=true
   ·rw [if_pos hc,List.lookup_cons,hx];exact .inl rfl
   ·rw [if_neg hc,List.lookup_cons,hx,hk];exact .inr rfl
  | false=>
   rw [hx] at h
   by_cases hc:(k==NameKind.free&&env.scope.kind==.function&&env.kindOf n==some .cell)=true
   ·rw [if_pos hc,List.lookup_cons,hx];exact gv h
   ·rw [if_neg hc,List.lookup_cons,hx];exact gv h
abbrev blk (X:Cx) (N':List Str) (scope:Scope) (C:Addr) (s₃:Shared) (H₃:Hp) (fp:List Addr) (pl:List (Addr×Obj)):Cx:=
 {X with N:=N',s₀:=s₃,H₀:=H₃,env:=compEnvC scope (fY X.env scope.names []) C X.env,outer:=X.stack,ex:=fp,fn:=fun _=>false,calm:=true,pn:=X.pn++pl,xe:=fun _ _=>False}
structure CompScope (X:Cx) (N':List Str) (caps:List (Option Nat)) (scope:Scope):Prop where
 kind:scope.kind=.function
 nocell:∀y∈scope.names,y.2≠.cell
 names:∀y∈scope.names,y.2=.local->scope.names.lookup y.1=some .local
 caught:∀y∈scope.names,y.2=.free->X.env.kindOf y.1=some .cell∨X.env.kindOf y.1=some .free
 len:caps.length=N'.length
 cap:∀(j i:Nat) (x:Str),caps[j]?=some (some i)->N'[j]?=some x->X.N[i]?=some x∧scope.names.lookup x=some .free
 nd:N'.Nodup
noncomputable def ow (caps:List (Option Nat)) (σ:St):St:=caps.map fun o=>o.bind fun i=>(σ[i]?).join
theorem CompScope.has (S:CompScope X N' caps scope) (ok:X.Ok):∀y∈scope.names,y.2=.free->∃c,X.env.cells.lookup y.1=some c:=fun y hy e=>ok.has y.1 (S.caught y hy e)
theorem CompScope.look (S:CompScope X N' caps scope) (ok:X.Ok) (h:(fY X.env scope.names []).lookup x=some c):X.env.cells.lookup x=some c:=
 k8 scope.names [] (S.has ok) (fun _ z=>by simp at z) h
theorem Inv.block (S:CompScope X N' caps scope) (I:Inv X pins σ H s₃) (hc:X.calm=true) (hf:∀b∈fp,iT X pins H b) (hlt:∀b∈fp,b < s₃.heap.objs.size) {h₄:Heap} {t₄:Nat} {m₄:Str->Option Value}
  (hn:h₄.Ns s₃.heap.objs.size m₄) (hk:∀b o,s₃.heap.get? b=some o->h₄.get? b=some o):
  Inv (blk X N' scope s₃.heap.objs.size s₃ H fp pins) [] (ow caps σ) H {s₃ with heap:=h₄,toks:=t₄}:=by
 have ok:=I.ok;have fresh:∀b o,s₃.heap.get? b=some o->b≠s₃.heap.objs.size:=fun b o e=>Nat.ne_of_lt (Heap.lt_size e);have cellOk:∀x c,(fY X.env scope.names []).lookup x=some c->∃v,s₃.heap.IsCell c v:=fun x c e=>I.cell x c (S.look ok e);refine ⟨⟨ok.mod,?_,ok.glob,ok.blt,Nat.le_refl _,?_,?_,?_,fun _=>ok.hd hc,ok.frames,.inl rfl,?_,I.bs,?_,?_,?_,I.stack,I.tY⟩,rfl,I.bare,Un.kept hk,?_,?_,I.hok.fresh (Nat.le_refl _),?_,?_,I.hok.kept hk,?_⟩
 ·show (relabel scope X.env).kind=.function;exact S.kind
 ·intro x y c h1 h2;exact ok.inj x y c (S.look ok h1) (S.look ok h2)
 ·intro x hx;have hx':(relabel scope X.env).names.lookup x=some .cell∨(relabel scope X.env).names.lookup x=some .free:=hx;have key:∀j,(relabel scope X.env).names.lookup x=some j->j=.cell∨j=.free->∃c,(fY X.env scope.names []).lookup x=some c:=by
   intro j hj hjk;obtain ⟨k,hk1,hk2⟩:=gu hj;have hm:=PySem.mem_of_lookup hk1;have hkf:k=.free:=by
    rcases hk2 with rfl | ⟨e,_⟩
    ·rcases hjk with rfl | e
     ·exact absurd rfl (S.nocell _ hm)
     ·exact e
    ·exact e
   subst hkf;exact kj scope.names [] hm
  rcases hx' with h | h
  ·exact key _ h (.inl rfl)
  ·exact key _ h (.inr rfl)
 ·intro x c h _;exact absurd (show false=true from h) (by decide)
 ·intro b hb;refine ⟨Nat.ne_of_lt (hlt b hb),fun x c h=>(hf b hb).2.2.2.2.1 x c (S.look ok h)⟩
 ·exact Nat.le_trans ok.bsz I.sz
 ·intro b o e hb;rcases (hf b hb).2.2.2.1 with z | z
  ·exact ok.noex b o e z
  ·exact absurd (Nat.lt_of_lt_of_le (Heap.lt_size e) ok.bsz) (Nat.not_lt.mpr z)
 ·intro b hb z;rcases List.mem_cons.mp (I.mC b z) with e | e
  ·exact (hf b hb).2.1 e
  ·exact (hf b hb).2.2.1 e
 ·refine ⟨m₄,hn,fun j x v e1 e2 e3=>?_⟩;have e2':(caps.map fun o=>o.bind fun i=>(σ[i]?).join)[j]?=some (some v):=e2;rw [List.getElem?_map] at e2';cases hcj:caps[j]? with
  | none=>rw [hcj] at e2';cases e2'
  | some oi=>
   rw [hcj] at e2';have e2'':(oi.bind fun i=>(σ[i]?).join)=some v:=Option.some.inj e2';cases oi with
   | none=>cases e2''
   | some i=>
    have hσ:(σ[i]?).join=some v:=e2'';have hσ':σ[i]?=some (some v):=by
     cases hs:σ[i]? with
     | none=>rw [hs] at hσ;cases hσ
     | some w=>rw [hs] at hσ;rw [show w=some v from hσ]
    obtain ⟨hX,hfr⟩:=S.cap j i x hcj e1;obtain ⟨m,_,hl⟩:=I.loc;have hcgt:=S.caught _ (PySem.mem_of_lookup hfr) rfl;have hvis:Vis X.env.scope x:=by
     rcases hcgt with z | z
     ·exact .inr (.inl z)
     ·exact .inr (.inr z)
    obtain ⟨u,ru,lk⟩:=hl i x v hX hσ' hvis;refine ⟨u,ru,.inr ⟨?_,?_⟩⟩
    ·exact gv hfr
    ·obtain ⟨c,hcc⟩:=kj (env:=X.env) scope.names [] (PySem.mem_of_lookup hfr);refine ⟨c,hcc,?_⟩;rcases lk with ⟨z,_⟩ | ⟨_,c',hc',hcell⟩
     ·have z':X.env.kindOf x=some .local:=z;rcases hcgt with q | q
      ·rw [z'] at q;cases q
      ·rw [z'] at q;cases q
     ·have:=S.look I.ok hcc;rw [this] at hc';cases hc';obtain ⟨o,ho,hd⟩:=hcell;exact ⟨o,hk _ _ ho,hd⟩
 ·intro x c h;obtain ⟨v,o,ho,hd⟩:=cellOk x c h;exact ⟨v,o,hk _ _ ho,hd⟩
 ·intro x c h;exact I.freeC x c (S.look ok h)
 ·intro p hp;have hp':p∈X.pn++pins:=by
   rcases List.mem_append.mp hp with z | z
   ·exact z
   ·cases z
  obtain ⟨e,n,ne,nf,d⟩:=I.pin p hp';refine ⟨hk _ _ e,n,fresh _ _ e,fun z=>?_,d⟩;rcases List.mem_cons.mp (I.mC p.1 z) with q | q
  ·exact ne q
  ·exact nf q
 ·show (caps.map _).length=N'.length;rw [List.length_map];exact S.len
theorem Inv.tU (S:CompScope X N' caps scope) (I:Inv X pins σ H s₃) (hf:∀b∈fp,iT X pins H b) (J:Inv (blk X N' scope s₃.heap.objs.size s₃ H fp pins) [] τ H' s') (hs:∀b u,b≠s₃.heap.objs.size->s'.heap.get? b=some u->h''.get? b=some u):Inv X pins σ H' {s' with heap:=h''}:=by
 have hC:H' s₃.heap.objs.size=none:=J.free;have u:Un (frs X.stack) fp H H' s₃.heap h'':=by
  have b:=J.base;have ne:∀x o,s₃.heap.get? x=some o->x≠s₃.heap.objs.size:=fun x o e=>Nat.ne_of_lt (Heap.lt_size e);refine ⟨fun x o e n hx hb=>hs _ _ (ne x o e) (b.keep x o e n hx hb),fun x o e n hx hb=>?_,b.free,fun x o e hb=>?_,b.tups,b.frzs,b.tbls⟩
  ·obtain ⟨sl,q⟩:=b.slot x o e n hx hb;exact ⟨sl,hs _ _ (ne x o e) q⟩
  ·obtain ⟨o',q⟩:=b.there x o e hb;exact ⟨o',hs _ _ (ne x o e) q⟩
 exact I.call' (s':={s' with heap:=h''}) (ch:=fp) J.os u (J.hok.off hC hs) J.bare fun b hb=>⟨(hf b hb).2.2.2.1,(hf b hb).2.1,(hf b hb).2.2.2.2.1,(hf b hb).2.2.2.2.2⟩
def PIf (X:Cx) (ifs:List Expr) (t:TT):Prop:=
 ∀(pins:List (Addr×Obj)) (s:Shared) (σ:St) (H:Hp) (Q:Bool->Hp->Prop),Inv X pins σ H s->t σ H Q->
  wpAny (model X.prog X.w) X.A (forIn ifs true fun c r=>if r=true then do let ok←isTrue c X.env (eval c X.env);pure (ForInStep.yield ok) else pure (ForInStep.yield r)) (TP X pins σ Q) X.xe s
def cN:TT:=fun _ H Q=>Q true H
theorem yR:PIf X [] cN:=fun pins s σ H Q I h=>wpAny_tests_nil ⟨H,I,h⟩
theorem yQ (h:PT X c t):PIf X [c] t:=fun pins s σ H Q I q=>wpAny_tests_one (h pins s σ H Q I q)
def DI (J:It) (g:TG) (tc:TT) (te:TE) (l:Addr) (Q:VK) (τ0:St) (H0:Hp):Prop:=
 ∃W:Nat->Nat->St->Hp->Prop,(∃m,W 0 m τ0 H0)∧∀i m τ H2,W i m τ H2->
  (J.stop i H2∧Q (.ref l) H2)∨(J.go i H2∧∃N:St->Hp->Prop,(∀τ' H',N τ' H'->∃m',m' < m∧W (i+1) m' τ' H')∧∀x H',J.yld i H2 x H'->g x τ H' fun τ2 H3=>
   tc τ2 H3 fun b H4=>if b=true then te τ2 H4 fun y H5=>∃xs,H5 l=some (.lst xs)∧xs.length < sizeLine∧N τ2 (upd H5 l (.lst (xs++[y]))) else N τ2 H4)
def vR (caps:List (Option Nat)) (wi:TI) (g:TG) (tc:TT) (te:TE):TE:=fun σ H Q=>wi σ H fun J H1=>∀l,H1 l=none->DI J g tc te l Q (ow caps σ) (upd H1 l (.lst []))
theorem upE (h:wpAny M A t Q (fun _ _=>False) s):wpAny M A t Q E s:=wpAny_mono h (fun _ _ q=>q) fun _ _ f=>f.elim
theorem vv (S:CompScope X N' caps scope) (hc:X.calm=true) (hg:∀C s₃ H₃ fp pl,PG (blk X N' scope C s₃ H₃ fp pl) tg g) (hif:∀C s₃ H₃ fp pl,PIf (blk X N' scope C s₃ H₃ fp pl) ifs tc)
  (he:∀C s₃ H₃ fp pl,PE (blk X N' scope C s₃ H₃ fp pl) elt te) {pins:List (Addr×Obj)} {σ:St} {H3:Hp} {s3:Shared} {h₁:Heap} {t₁:Nat} {m₁:Str->Option Value} {it l:Addr} {fp:List Addr} {tn:Nat->Heap->Prop} {J:It}
  (I3:Inv X pins σ H3 s3) (T:Turn X.prog X.w X.K tg J fp it tn) (st3:tn 0 h₁) (hf3:∀b∈fp,iT X pins H3 b) (hlt3:∀b∈fp,b < s3.heap.objs.size) (hns₁:h₁.Ns s3.heap.objs.size m₁) (keep3:∀b o,s3.heap.get? b=some o->h₁.get? b=some o)
  {Q:VK} {RR:Value->Addr->Result->Shared->Prop} {W:Nat->Nat->St->Hp->Prop} {m0:Nat} (w0:W 0 m0 (ow caps σ) H3) (turn:∀i m τ H2,W i m τ H2->
   (J.stop i H2∧Q (.ref l) H2)∨(J.go i H2∧∃N:St->Hp->Prop,(∀τ' H',N τ' H'->∃m',m' < m∧W (i+1) m' τ' H')∧∀x H',J.yld i H2 x H'->g x τ H' fun τ2 H3=>
    tc τ2 H3 fun b H4=>if b=true then te τ2 H4 fun y H5=>∃xs,H5 l=some (.lst xs)∧xs.length < sizeLine∧N τ2 (upd H5 l (.lst (xs++[y]))) else N τ2 H4))
  (hRR:∀(l C:Addr) (H':Hp) (s':Shared),H' C=none->C≠X.env.locals->X.s₀.heap.objs.size≤C->(∀x c,X.env.cells.lookup x=some c->c≠C)->(∀p∈X.pn++pins,p.1≠C)->(∃m,s'.heap.Ns C m)->Inv X pins σ H' s'->
   (∀h'':Heap,(∀b u,b≠C->s'.heap.get? b=some u->h''.get? b=some u)->Inv X pins σ H' {s' with heap:=h''})->Q (.ref l) H'->RR (.ref l) C (.ok .next) s'):
  codeAny (model X.prog X.w) X.A (.compStart (.ListComp elt [⟨tg,iter,ifs,0⟩] scope pos) 0 (.ref it) (.ref l) (compEnvC scope (fY X.env scope.names []) s3.heap.objs.size X.env))
   (RR (.ref l) s3.heap.objs.size) {s3 with heap:=h₁,toks:=t₁}:=by
 have J0:Inv (blk X N' scope s3.heap.objs.size s3 H3 fp pins) [] (ow caps σ) H3 {s3 with heap:=h₁,toks:=t₁}:=Inv.block S I3 hc hf3 hlt3 hns₁ keep3;have fpB:∀{H':Hp},(∀b∈fp,H' b=none)->∀b∈fp,iT (blk X N' scope s3.heap.objs.size s3 H3 fp pins) [] H' b:=fun {H'} hn b hb=>by
  obtain ⟨f0,f1,f2,f3,f4,f5⟩:=hf3 b hb;refine ⟨hn b hb,Nat.ne_of_lt (hlt3 b hb),fun z=>?_,.inl hb,fun x c e=>f4 x c (S.look I3.ok e),fun p hp=>?_⟩
  ·rcases List.mem_cons.mp (I3.mC b z) with q | q
   ·exact f1 q
   ·exact f2 q
  ·rcases List.mem_append.mp hp with q | q
   ·exact f5 p q
   ·cases q
 have fin:∀{τ:St} {H':Hp} {s':Shared},Inv (blk X N' scope s3.heap.objs.size s3 H3 fp pins) [] τ H' s'->Q (.ref l) H'->RR (.ref l) s3.heap.objs.size (.ok .next) s':=fun {τ H' s'} J q=>by
  refine hRR _ _ H' s' J.free ?_ ?_ ?_ ?_ ?_ ?_ ?_ q
  ·exact (Nat.ne_of_lt I3.lt).symm
  ·exact I3.sz
  ·intro x c e z;obtain ⟨v,o,ho,_⟩:=I3.cell x c e;exact Nat.ne_of_lt (Heap.lt_size ho) z
  ·intro p hp z;obtain ⟨e,_⟩:=I3.pin p hp;exact Nat.ne_of_lt (Heap.lt_size e) z
  ·obtain ⟨m,hm,_⟩:=J.loc;exact ⟨m,hm⟩
  ·have:=Inv.tU S I3 hf3 J (h'':=s'.heap) fun b u _ e=>e;exact this
  ·exact fun h'' hs=>Inv.tU S I3 hf3 J hs
 have loop:codeAny (model X.prog X.w) X.A (.compLoop (.ListComp elt [⟨tg,iter,ifs,0⟩] scope pos) 0 (.ref it) (.ref l) (compEnvC scope (fY X.env scope.names []) s3.heap.objs.size X.env))
   (RR (.ref l) s3.heap.objs.size) {s3 with heap:=h₁,toks:=t₁}:=by
  refine codeAny_loop rfl (fun n s'=>∃i τ H',Inv (blk X N' scope s3.heap.objs.size s3 H3 fp pins) [] τ H' s'∧tn i s'.heap∧(∀b∈fp,H' b=none)∧W i n τ H') ?_ m0 ⟨0,_,_,J0,st3,fun b hb=>(hf3 b hb).1,w0⟩;rintro n s4 ⟨i,τ,H4,J4,st4,fr4,w4⟩;show wpAny _ X.A ((compTurn (.ListComp elt [⟨tg,iter,ifs,0⟩] scope pos) 0 (.ref it) (.ref l) (compEnvC scope (fY X.env scope.names []) s3.heap.objs.size X.env)).onRaise (fun x=>do noteFrame x (compEnvC scope (fY X.env scope.names []) s3.heap.objs.size X.env);theTreesLotGoes x)) _ _ s4;refine wpAny_noted ?_;rw [compTurn_list];rcases turn i n τ H4 w4 with ⟨stop,qn⟩ | ⟨go,N,hN,step⟩
  ·refine wpAny_bind (wpAny_standAt (wpAny_bind (wpAny_mono (T.done (blk X N' scope s3.heap.objs.size s3 H3 fp pins) rfl rfl rfl rfl i [] s4 τ H4 _ J4 (fpB fr4) st4 stop) (fun r s5 h5=>?_) fun _ _ e=>e)));obtain ⟨hr,J5⟩:=h5;subst hr;exact wpAny_pure (fin J5 qn)
  ·refine wpAny_bind (wpAny_standAt (wpAny_bind (wpAny_mono (T.item (blk X N' scope s3.heap.objs.size s3 H3 fp pins) rfl rfl rfl rfl i [] s4 τ H4 _ J4 (fpB fr4) st4 go) (fun r s5 h5=>?_) fun _ _ e=>e)));obtain ⟨u,hr,h5⟩:=h5;subst hr;refine wpAny_bind (wpAny_mono h5 (fun _ s6 h6=>?_) fun _ _ e=>e);obtain ⟨x,H6,J6,r6,y6,st6,fr6⟩:=h6;have J6':=J6.pinned (fpB fr6) (T.obj _ _ st6);refine wpAny_bind (wpAny_mono (upE (hg _ _ _ _ _ _ s6 τ H6 x u _ J6' r6 (step x H6 y6))) (fun _ s7 h7=>?_) fun _ _ e=>e);obtain ⟨τ7,H7,J7,q7⟩:=h7;have again:∀{τ8:St} {H8:Hp} {s8:Shared},Inv (blk X N' scope s3.heap.objs.size s3 H3 fp pins) ([]++mS fp s6.heap) τ8 H8 s8->N τ8 H8->
     ∃m,m < n∧∃i τ' H',Inv (blk X N' scope s3.heap.objs.size s3 H3 fp pins) [] τ' H' s8∧tn i s8.heap∧(∀b∈fp,H' b=none)∧W i m τ' H':=fun {τ8 H8 s8} J8 n8=>by
    obtain ⟨m',hm,w8⟩:=hN τ8 H8 n8;refine ⟨m',hm,i+1,τ8,H8,J8.jK,T.keep _ _ _ st6 fun b hb o e=>(J8.pin (b,o) (List.mem_append_right _ (List.mem_append_right _ (gC hb e)))).1,fun b hb=>?_,w8⟩;obtain ⟨o,e,d⟩:=T.obj _ _ st6 b hb;exact (J8.pin (b,o) (List.mem_append_right _ (List.mem_append_right _ (gC hb e)))).2.1
   refine wpAny_bind (wpAny_mono (upE (hif _ _ _ _ _ _ s7 τ7 H7 _ J7 q7)) (fun ok s8 h8=>?_) fun _ _ e=>e);obtain ⟨H8,J8,q8⟩:=h8;cases ok with
   | false=>exact wpAny_pure ⟨rfl,again J8 (by simpa using q8)⟩
   | true=>
    have q8':te τ7 H8 fun y H5=>∃xs,H5 l=some (.lst xs)∧xs.length < sizeLine∧N τ7 (upd H5 l (.lst (xs++[y]))):=by simpa using q8
    refine wpAny_bind (wpAny_bind (wpAny_mono (upE (he _ _ _ _ _ _ s8 τ7 H8 _ J8 q8')) (fun y s9 h9=>?_) fun _ _ e=>e));obtain ⟨yv,H9,J9,r9,xs,hx,hz,n9⟩:=h9;refine wpAny_bind (wpAny_mono (upE (oQ (X:=blk X N' scope s3.heap.objs.size s3 H3 fp pins) _ s9 τ7 H9 (.ref l) [yv] (.ref l) [y] (fun _ H'=>N τ7 H') J9 rfl (.cons r9 .nil) ⟨_,xs,yv,rfl,rfl,hx,hz,n9⟩)) (fun _ s10 h10=>?_) fun _ _ e=>e);obtain ⟨_,H10,J10,_,n10⟩:=h10;exact wpAny_pure (wpAny_pure ⟨rfl,again J10 n10⟩)
 exact codeAny_compStart_list loop (T.self X.A 0 _ _ _ st3 loop)
theorem nE (S:CompScope X N' caps scope) (hc:X.calm=true) (hg:∀C s₃ H₃ fp pl,PG (blk X N' scope C s₃ H₃ fp pl) tg g) (hif:∀C s₃ H₃ fp pl,PIf (blk X N' scope C s₃ H₃ fp pl) ifs tc)
  (he:∀C s₃ H₃ fp pl,PE (blk X N' scope C s₃ H₃ fp pl) elt te) {pins:List (Addr×Obj)} {σ:St} {H:Hp} {s:Shared} {it:Addr} {fp:List Addr} {tn:Nat->Heap->Prop} {J:It}
  (I:Inv X pins σ H s) (T:Turn X.prog X.w X.K tg J fp it tn) (st:tn 0 s.heap) (hf:∀b∈fp,iT X pins H b) {Q:VK} {RR:Value->Addr->Result->Shared->Prop} {E:Value->Shared->Prop}
  (h:∀l,H l=none->∃W:Nat->Nat->St->Hp->Prop,(∃m,W 0 m (ow caps σ) (upd H l (.lst [])))∧∀i m τ H2,W i m τ H2->
   (J.stop i H2∧Q (.ref l) H2)∨(J.go i H2∧∃N:St->Hp->Prop,(∀τ' H',N τ' H'->∃m',m' < m∧W (i+1) m' τ' H')∧∀x H',J.yld i H2 x H'->g x τ H' fun τ2 H3=>
    tc τ2 H3 fun b H4=>if b=true then te τ2 H4 fun y H5=>∃xs,H5 l=some (.lst xs)∧xs.length < sizeLine∧N τ2 (upd H5 l (.lst (xs++[y]))) else N τ2 H4))
  (hRR:∀(l C:Addr) (H':Hp) (s':Shared),H' C=none->C≠X.env.locals->X.s₀.heap.objs.size≤C->(∀x c,X.env.cells.lookup x=some c->c≠C)->(∀p∈X.pn++pins,p.1≠C)->(∃m,s'.heap.Ns C m)->Inv X pins σ H' s'->
   (∀h'':Heap,(∀b u,b≠C->s'.heap.get? b=some u->h''.get? b=some u)->Inv X pins σ H' {s' with heap:=h''})->Q (.ref l) H'->RR (.ref l) C (.ok .next) s'):
  wpAny (model X.prog X.w) X.A (newList []) (fun acc s₃=>wpAny (model X.prog X.w) X.A (newFunctionEnv scope X.env.globals (fY X.env scope.names []) [] X.env.qual none .none (some X.env)) (fun cenv s₄=>
   codeAny (model X.prog X.w) X.A (.compStart (.ListComp elt [⟨tg,iter,ifs,0⟩] scope pos) 0 (.ref it) acc {cenv with scope:=relabel scope X.env}) (RR acc cenv.locals) s₄) E s₃) E s:=by
 obtain ⟨W,⟨m0,w0⟩,turn⟩:=h s.heap.objs.size I.fresh;refine wpAny_newObj_type (wpAny_newFunctionEnv S.nocell (by intro y hy;simp at hy) (fun h₁ hns₁ hsb₁=>?_) S.kind);have I3:Inv X pins σ (upd H s.heap.objs.size (.lst [])) {s with heap:=s.heap.push {cls:=.type "list",data:=.seq ([]:List Value).toArray}}:=I.By (t':=s.toks) (its:=[]) (ys:=[]) .nil (Nat.zero_le _);have hltf:∀b∈fp,b < s.heap.objs.size:=fun b hb=>by
  obtain ⟨o,e,_⟩:=T.obj 0 _ st b hb;exact Heap.lt_size e
 have hf3:∀b∈fp,iT X pins (upd H s.heap.objs.size (.lst [])) b:=fun b hb=>⟨by rw [aJ (Nat.ne_of_lt (hltf b hb))];exact (hf b hb).1,(hf b hb).2⟩;have keep3:∀b o,(s.heap.push {cls:=.type "list",data:=.seq ([]:List Value).toArray}).get? b=some o->h₁.get? b=some o:=fun b o e=>hsb₁.extBut b o (Nat.ne_of_lt (Heap.lt_size e)) (Heap.get?_push_of_some _ e);have st3:tn 0 h₁:=T.keep 0 _ _ st fun b hb o e=>keep3 b o (Heap.get?_push_of_some _ e);have hlt3:∀b∈fp,b < (s.heap.push {cls:=.type "list",data:=.seq ([]:List Value).toArray}).objs.size:=fun b hb=>by
  have:=hltf b hb;rw [Heap.size_push];exact Nat.lt_succ_of_lt this
 exact vv (s3:={s with heap:=s.heap.push {cls:=.type "list",data:=.seq ([]:List Value).toArray}}) S hc hg hif he I3 T st3 hf3 hlt3 hns₁ keep3 w0 turn hRR
theorem wV (S:CompScope X N' caps scope) (hc:X.calm=true) (hi:PI X tg iter wi) (hg:∀C s₃ H₃ fp pl,PG (blk X N' scope C s₃ H₃ fp pl) tg g) (hif:∀C s₃ H₃ fp pl,PIf (blk X N' scope C s₃ H₃ fp pl) ifs tc)
  (he:∀C s₃ H₃ fp pl,PE (blk X N' scope C s₃ H₃ fp pl) elt te) (hs:∀x,foldedSetIterable iter X.env x=pure x:=by intro _;rfl):PE X (.ListComp elt [⟨tg,iter,ifs,0⟩] scope pos) (vR caps wi g tc te):=by
 intro pins s σ H Q I h;rw [eval_ListComp];refine wpAny_comprehension_free (use:=none) rfl hs (nF (S.has I.ok)) S.kind S.names (thn (hi pins s σ H _ I h) fun v s1 h1=>thn h1 fun itv s2 h2=>?_);obtain ⟨it,fp,tn,J,H2,e,I2,T,st2,f2,hQ⟩:=h2;subst e;refine nE (RR:=fun acc C=>compPost (model X.prog X.w) X.A X.xe none (EP X pins σ Q) acc C) S hc hg hif he I2 T st2 f2 hQ ?_;intro l C H' s' _ _ _ _ _ hm _ hI q;obtain ⟨m,hm⟩:=hm;exact ⟨m,hm,fun h'' hs''=>⟨.ref l,H',hI h'' fun b u hb e=>hs''.extBut b u hb e,rfl,q⟩⟩
theorem wN (hN:X.N.Nodup) (hi':X.N[i]?=some y) (hy:X.env.scope.names.lookup y=some .local) (S:CompScope X N' caps scope) (hc:X.calm=true) (hi:PI X tg iter wi) (hg:∀C s₃ H₃ fp pl,PG (blk X N' scope C s₃ H₃ fp pl) tg g) (hif:∀C s₃ H₃ fp pl,PIf (blk X N' scope C s₃ H₃ fp pl) ifs tc) (he:∀C s₃ H₃ fp pl,PE (blk X N' scope C s₃ H₃ fp pl) elt te) (hsw:swapsWith (.ListComp elt [⟨tg,iter,ifs,0⟩] scope pos) (some (.Name y py)) spos.line X.env=pure true:=by rfl) (hs:∀x,foldedSetIterable iter X.env x=pure x:=by intro _;rfl):
  PS X (.Assign [.Name y py] (.ListComp elt [⟨tg,iter,ifs,0⟩] scope pos) spos) (yh (vR caps wi g tc te) (rX i)):=by
 intro pins s σ H D I h;rw [exec_Assign_Name_used _ _ _ _ hsw];refine wpAny_bind (wpAny_standAt (wpAny_bind ?_));show wpAny _ X.A (do let _←comprehension (.ListComp elt [⟨tg,iter,ifs,0⟩] scope pos) scope X.env _ (newList []) false (eval iter X.env) (some (assign (.Name y py) X.env))) _ _ s;refine wpAny_bind (wpAny_mono (wpAny_comprehension_free (use:=some (assign (.Name y py) X.env)) (Q:=fun _ s'=>SP X pins D .next s') rfl hs (nF (S.has I.ok)) S.kind S.names
  (thn (hi pins s σ H _ I h) fun v s1 h1=>thn h1 fun itv s2 h2=>?_)) (fun _ s' hq=>wpAny_pure (wpAny_pure hq)) fun _ _ e=>e)
 obtain ⟨it,fp,tn,J,H2,e,I2,T,st2,f2,hQ⟩:=h2;subst e;refine nE (Q:=fun x H1=>rX i x σ H1 D.nx) (RR:=fun acc C=>compPost (model X.prog X.w) X.A X.xe (some (assign (.Name y py) X.env)) (fun _ s'=>SP X pins D .next s') acc C) S hc hg hif he I2 T st2 f2 hQ ?_;intro l C H' s' hC hCL hC0 hCc hCp hm hI0 hI q;obtain ⟨m,hm⟩:=hm;show wpAny _ X.A (assign (.Name y py) X.env (.ref l)) _ _ s';refine wpAny_assign_Name (oF (v:=.ref l) hI0 hN hi' (.inl hy) rfl (fun s5 I5 hch=>?_) (.inr hy));obtain ⟨a,hsa,ha⟩:=hch;have hCa:C≠a:=by
  rcases ha with z | z
  ·rw [z];exact hCL
  ·exact (hCc _ _ z).symm
 refine ⟨m,hm.sameBut hsa hCa,fun h'' hs''=>?_⟩;have I6:=I5.turned (t':=s5.toks) (h':=h'') (it:=C) (fun b o hb e=>hs''.extBut b o hb e) hC hCL (.inr hC0) hCc hCp;exact ⟨_,H',I6,q⟩
def DJ (_ j:Int):Prop:=0 < j∧j≤10^40
theorem log2_small (h:n≤10^40):n.log2 < 9000:=by
 by_cases h0:n=0
 ·rw [h0];decide
 ·refine (Nat.log2_lt h0).mpr (Nat.lt_of_le_of_lt h ?_);exact Nat.lt_of_lt_of_le (show 10^40 < 2^200 by decide) (Nat.pow_le_pow_right (by decide) (by decide))
theorem xa:OpR X (binaryOp .FloorDiv) (rI DJ fun i j=>.int (i / j)):=opI fun i j _ _ _ _ _ hc q=>by
 have h1:(0:Int) < j:=hc.1;have h2:j≤10^40:=hc.2;exact floordiv_int (by lia) (by rw [Int.fdiv_eq_ediv_of_nonneg i (by lia)];exact q) (.inl (PyProof.noPylong_of_log2 (log2_small (by lia))))
mutual
inductive Rds (K:FR) (H:Hp):V->PyData->Prop where
 | non:Rds K H .non .none
 | bl (b:Bool):Rds K H (.bl b) (.bool b)
 | int (i:Int):Rds K H (.int i) (.int i)
 | str (x:Str):Rds K H (.str x) (.str x)
 | tup {a:Addr} {xs:List V} {ds:List PyData}:SqT K H a xs->RdsL K H xs ds->Rds K H (.ref a) (.tuple ds)
 | lst {a:Addr} {xs:List V} {ds:List PyData}:SqL K H a xs->RdsL K H xs ds->Rds K H (.ref a) (.list ds)
inductive RdsL (K:FR) (H:Hp):List V->List PyData->Prop where
 | nil:RdsL K H [] []
 | cons {x:V} {xs:List V} {d:PyData} {ds:List PyData}:Rds K H x d->RdsL K H xs ds->RdsL K H (x::xs) (d::ds)
end
mutual
theorem Rds.reads (I:Inv X pins σ H s):∀{x:V} {u:Value} {d:PyData},Rds X.K H x d->RelV x u->∃as,Reads s.heap u d as
 | _,_,_,.non,r=>by cases (show _=Value.none from r);exact ⟨_,.none⟩
 | _,_,_,.bl b,r=>by cases (show _=Value.bool b from r);exact ⟨_,.bool b⟩
 | _,_,_,.int i,r=>by obtain ⟨t,e⟩:=(show ∃t,_=Value.int i t from r);cases e;exact ⟨_,.int i t⟩
 | _,_,_,.str x,r=>by obtain ⟨t,e⟩:=(show ∃t,_=Value.str x t from r);cases e;exact ⟨_,.str x t⟩
 | _,_,_,.tup (a:=a) hq hl,r=>by
  cases (show _=Value.ref a from r);obtain ⟨its,rv,⟨o,h1,h2,n,h3⟩,_⟩:=I.tuple hq;obtain ⟨as,q⟩:=RdsL.reads I hl rv;exact ⟨_,.tuple h1 h2 h3 (by simpa using q)⟩
 | _,_,_,.lst (a:=a) hq hl,r=>by
  cases (show _=Value.ref a from r);obtain ⟨its,rv,pl,_⟩:=I.list hq;obtain ⟨o,h1,h2,n,h3⟩:=pl.isList;obtain ⟨as,q⟩:=RdsL.reads I hl rv;exact ⟨_,.list h1 h2 h3 (by simpa using q)⟩
theorem RdsL.reads (I:Inv X pins σ H s):∀{xs:List V} {us:List Value} {ds:List PyData},RdsL X.K H xs ds->Vals xs us->∃as,ReadsAll s.heap us ds as
 | _,_,_,.nil,.nil=>⟨_,.nil⟩
 | _,_,_,.cons h t,.cons r q=>by
  obtain ⟨as,p⟩:=Rds.reads I h r;obtain ⟨bs,p'⟩:=RdsL.reads I t q;exact ⟨_,.cons p p'⟩
end
def Ec:V->Option Int->Option Int->Hp->VK->Prop:=fun x lo hi H Q=>∃z,x=.str z∧z.length≤sizeLine∧Q (.str (Txt.slice z lo hi)) H
theorem z9:SlR X Ec:=by
 intro pins s σ H x v vl vu lo hi sl Q I rx hs pl pu h;obtain ⟨z,rfl,hz,q⟩:=h;obtain ⟨t,rfl⟩:=(show ∃t,v=Value.str z t from rx);refine ⟨"str",_,F.slot_str_getitem.lookup,typeIs_str _ _ _,?_⟩;obtain ⟨o,h1,h2,h3⟩:=hs;have fin:(Txt.slice z lo hi).length≤sizeLine∧∀t' k,EP X pins σ Q (.str (Txt.slice z lo hi) t') {s with toks:=k}:=⟨Nat.le_trans (Txt.slice_le z _ _) hz,fun t' k=>⟨.str _,H,I.tok k,⟨t',rfl⟩,q⟩⟩;cases pl with
 | none=>
  cases pu with
  | none=>exact wpAny_getItem_str_slice (l:=none) (u:=none) (st:=none) ⟨o,h1,h2,h3⟩ rfl (post_val_or_str fin)
  | int j uj=>exact wpAny_getItem_str_slice (l:=none) (u:=some (j,uj)) (st:=none) ⟨o,h1,h2,h3⟩ rfl (post_val_or_str fin)
 | int i ui=>
  cases pu with
  | none=>exact wpAny_getItem_str_slice (l:=some (i,ui)) (u:=none) (st:=none) ⟨o,h1,h2,h3⟩ rfl (post_val_or_str fin)
  | int j uj=>exact wpAny_getItem_str_slice (l:=some (i,ui)) (u:=some (j,uj)) (st:=none) ⟨o,h1,h2,h3⟩ rfl (post_val_or_str fin)
theorem xV:eB X (.builtin "isinstance") (fun xs H Q=>∃x n t b,xs=[x,.ty n]∧TyOf X.K H x t∧PySem.W.kitOne X.K t (.type n)=some b∧Q (.bl b) H):=by
 intro pins s σ H xs us Q I r h;obtain ⟨x,n,t,b,rfl,ty,e,q⟩:=h;obtain ⟨u,w',rfl,ru,rw'⟩:=vals2 r;cases (show w'=Value.type n from rw');exact vf I ru ty e fun tk=>⟨.bl b,H,I.tok tk,rfl,q⟩
noncomputable def rP (out:List (Str×NameKind)) (N N':List Str) (caps:List (Option Nat)) (scope:Scope):Bool:=
 decide (scope.kind=.function)&&scope.names.all (fun y=>decide (y.2≠.cell))&&scope.names.all (fun y=>!decide (y.2=.local)||decide (scope.names.lookup y.1=some .local))&&
 scope.names.all (fun y=>!decide (y.2=.free)||decide (out.lookup y.1=some .cell)||decide (out.lookup y.1=some .free))&&decide (caps.length=N'.length)&&
 (List.range caps.length).all (fun j=>match caps[j]?,N'[j]? with
  | some (some i),some x=>decide (N[i]?=some x)&&decide (scope.names.lookup x=some .free)
  | _,_=>true)&&decide N'.Nodup
theorem aY (h:rP X.env.scope.names X.N N' caps scope=true):CompScope X N' caps scope:=by
 unfold rP at h;simp only [Bool.and_eq_true,decide_eq_true_eq,List.all_eq_true,Bool.or_eq_true,Bool.not_eq_true',decide_eq_false_iff_not] at h;obtain ⟨⟨⟨⟨⟨⟨h1,h2⟩,h3⟩,h4⟩,h5⟩,h6⟩,h7⟩:=h;refine ⟨h1,h2,fun y hy e=>?_,fun y hy e=>?_,h5,fun j i x hj hx=>?_,h7⟩
 ·rcases h3 y hy with z | z
  ·exact absurd e z
  ·exact z
 ·rcases h4 y hy with (z | z) | z
  ·exact absurd e z
  ·exact .inl z
  ·exact .inr z
 ·have hlt:j < caps.length:=(List.getElem?_eq_some_iff.mp hj).1;have:=h6 j (List.mem_range.mpr hlt);rw [hj,hx] at this;simp only [Bool.and_eq_true,decide_eq_true_eq] at this;exact this
end L2
namespace L2
end L2
namespace L2
open PySem PySem.Spec PyProof.Rows
theorem iI:PyData.strOk x=true↔∀c∈x.cps,c < 0x110000:=by
 unfold PyData.strOk;rw [Array.all_eq_true_iff_forall_mem];simp
theorem fM (ha:PyData.strOk a=true) (hb:PyData.strOk b=true):PyData.strOk (a++b)=true:=by
 rw [iI] at*;intro c hc;have hc':c∈a.cps++b.cps:=hc;rcases Array.mem_append.mp hc' with z | z
 ·exact ha c z
 ·exact hb c z
theorem qX (l u:Option Int) (h:PyData.strOk x=true):PyData.strOk (Txt.slice x l u)=true:=by
 unfold Txt.slice
 split
 ·exact h
 ·rw [iI] at*;intro c hc;have hc':c∈(List.filterMap (x.cps[·]?) (Builtin.Str.strSliceIndices l u 1 x.length)).toArray:=hc;rw [List.mem_toArray] at hc';obtain ⟨i,_,e⟩:=List.mem_filterMap.mp hc';exact h c (Array.mem_of_getElem? e)
theorem uN (h:PyData.strOk z=true) (hc:atI z.cps.toList i=some c):PyData.strOk (⟨#[c]⟩:Str)=true:=by
 rw [iI] at*;intro d hd;have e:d=c:=by simpa using hd
 subst e;obtain ⟨j,_,hj,_⟩:=mn hc;exact h d (by have:=List.mem_of_getElem? hj;simpa using this)
theorem entry_all_loop:entryFor table "all.loop"=some Builtin.«all.loop»:=entryFor_of_tree (by kernel_rfl)
theorem plain_all_loop:plainId "all.loop"=true:=by decide+kernel
theorem yb {A:Around} {pins:List (Addr×Obj)} {σ:St} {H:Hp} {p it:Addr} {bs:List Bool} {R:Result->Shared->Prop} (hA:A.handled=none) (hp:SqL X.K H p (bs.map V.bl))
  (hit:it≠X.env.locals∧(it∈X.ex∨X.s₀.heap.objs.size≤it)∧(∀x c,X.env.cells.lookup x=some c->c≠it)∧∀q∈X.pn++pins,q.1≠it) (hin:H it=none)
  (h:∀s',Inv X pins σ H s'->R (.ok (.ret (.bool (bs.all id)))) s'):∀(n i:Nat) (s:Shared),bs.length-i=n->i≤bs.length->(bs.take i).all id=true->s.heap.IsListIter it p i->Inv X pins σ H s->
   codeAny (model X.prog X.w) A (.builtin "all.loop" ⟨[.ref it],[]⟩) R s:=by
 intro n
 induction n with
 | zero=>
  intro i s hn hi ht st I;have ei:i=bs.length:=by lia
  refine codeAny_builtin entry_all_loop ?_;rw [Around.under_plainId plain_all_loop _];obtain ⟨its,rv,pl,hz⟩:=I.list hp;have hl':=rv.length;rw [List.length_map] at hl';show wpAny _ _ (pyNext (.ref it) >>=_) _ _ s;refine wpAny_bind (wpAny_pyNext_list_end hA st pl.isList (by simp;lia) fun h' eb=>?_);have I':=I.turned (t':=s.toks) (h':=h') (it:=it) (fun b o hb e=>eb b o hb e) hin hit.1 hit.2.1 hit.2.2.1 hit.2.2.2;refine wpAny_bind (wpAny_rule (wpAny_pure ?_));rw [ei,List.take_length] at ht;have:=h _ I';rw [ht] at this;exact this
 | succ n ih=>
  intro i s hn hi ht st I;have hi':i < bs.length:=by lia
  refine codeAny_builtin entry_all_loop ?_;rw [Around.under_plainId plain_all_loop _];obtain ⟨its,rv,pl,hz⟩:=I.list hp;have hyi:(bs.map V.bl)[i]?=some (.bl bs[i]):=by rw [List.getElem?_map,List.getElem?_eq_getElem hi'];rfl
  obtain ⟨u,hu,ru⟩:=rv.get hyi;cases (show u=Value.bool bs[i] from ru);show wpAny _ _ (pyNext (.ref it) >>=_) _ _ s;refine wpAny_bind (wpAny_pyNext_list_item st pl.isList (x:=.bool bs[i]) (by simpa using hu) fun h' st' sb=>?_);have I':=I.turned (t':=s.toks) (h':=h') (it:=it) (fun b o hb e=>(sb.2 b hb).trans e) hin hit.1 hit.2.1 hit.2.2.1 hit.2.2.2;dsimp only;refine wpAny_bind (wpAny_holding (wpAny_truthy_bool ?_));refine wpAny_bind (wpAny_letGo ?_)
  by_cases hb:bs[i]=true
  ·rw [if_pos hb];refine wpAny_pure ⟨plainId_quiet plain_all_loop _,ih (i+1) _ (by lia) (by lia) ?_ st' I'⟩;rw [List.take_succ,List.getElem?_eq_getElem hi',List.all_append,ht,hb];rfl
  ·rw [if_neg hb];refine wpAny_bind (wpAny_rule (wpAny_pure ?_));have:=h _ I';have e:bs.all id=false:=by
    rw [List.all_eq_false];exact ⟨bs[i],List.getElem_mem hi',by simpa using hb⟩
   rw [e] at this;exact this
theorem xW (hc:X.calm=true):eB X (.builtin "all") (fun xs H Q=>∃(p:Addr) (bs:List Bool),xs=[.ref p]∧SqL X.K H p (bs.map V.bl)∧Q (.bl (bs.all id)) H):=by
 intro pins s σ H xs us Q I r h;obtain ⟨p,bs,rfl,hp,q⟩:=h;obtain ⟨u,rfl,ru⟩:=vals1 r;cases (show u=Value.ref p from ru);have hA:X.A.handled=none:=I.ok.hd hc;obtain ⟨its,rv,pl,hz⟩:=I.list hp;refine call_function_tree F.kind_all F.plain_all F.entry_all (F.args_all1 _) ?_;unfold Builtin.«all»;show wpAny _ _ (pyIter (.ref p) >>=_) _ _ s;refine wpAny_bind (wpAny_pyIter_list pl.isList ?_);have I3:Inv X pins σ H {s with heap:=s.heap.push {cls:=.type "list_iterator",data:=.fields #[.ref p,.int 0 0]}}:=I.kept (t':=s.toks) fun b o e=>Heap.get?_push_of_some _ e;obtain ⟨f0,f1,f2,f3,f4,f5⟩:=I.vj (b:=s.heap.objs.size) (H':=H) (Nat.le_refl _) (I.hok.fresh (Nat.le_refl _));refine wpAny_pure ⟨plainId_quiet plain_all_loop _,?_⟩;exact yb (X:=X) (σ:=σ) (H:=H) (by exact hA) hp ⟨f1,f3,f4,f5⟩ f0 (fun s' I'=>⟨.bl _,H,I',rfl,q⟩) bs.length 0 _ (by lia) (Nat.zero_le _) rfl ⟨_,Heap.get?_push_size _ rfl,rfl,rfl⟩ I3
end L2
namespace Sm
open PySem L2
inductive D where
 | non | bl (b:Bool) | int (i:Int) | str (x:Str) | ty (n:String)
 | tup (xs:List D) | lv (xs:List D) | ro (xs:List D) | dv (kvs:List (Key×D)) | ob (n:Nat)
inductive MO where
 | lst (xs:List D) | dct (kvs:List (Key×D))
abbrev MH:=List MO
abbrev DS:=List (Option D)
abbrev noH:Hp:=fun _=>none
structure Ad where
 ob:List Addr
 rs:List Addr
def Ad.has (ρ:Ad) (a:Addr):Prop:=a∈ρ.ob∨a∈ρ.rs
def TupAt (K:FR) (ρ:Ad) (H:Hp) (a:Addr) (vs:List V):Prop:=(Rd H a (.tup vs)∧¬ρ.has a)∨SqT K noH a vs
def Cb (K:FR) (ρ:Ad) (H:Hp) (a:Addr) (vs:List V):Prop:=(Rd H a (.lst vs)∧¬ρ.has a)∨SqL K noH a vs
mutual
inductive Rep (K:FR) (ρ:Ad) (H:Hp):V->D->Prop where
 | non:Rep K ρ H .non .non
 | bl (b:Bool):Rep K ρ H (.bl b) (.bl b)
 | int (i:Int):Rep K ρ H (.int i) (.int i)
 | str {x:Str} (h:PyData.strOk x=true):Rep K ρ H (.str x) (.str x)
 | ty (n:String):Rep K ρ H (.ty n) (.ty n)
 | tup {a:Addr} {vs:List V} {ds:List D}:TupAt K ρ H a vs->RepL K ρ H vs ds->Rep K ρ H (.ref a) (.tup ds)
 | lv {a:Addr} {vs:List V} {ds:List D}:H a=some (.lst vs)->¬ρ.has a->RepL K ρ H vs ds->Rep K ρ H (.ref a) (.lv ds)
 | ro {a:Addr} {vs:List V} {ds:List D}:Cb K ρ H a vs->RepL K ρ H vs ds->Rep K ρ H (.ref a) (.ro ds)
 | dv {a:Addr} {us:List (Key×V)} {kvs:List (Key×D)}:H a=some (.dK us)->¬ρ.has a->RepK K ρ H us kvs->Rep K ρ H (.ref a) (.dv kvs)
 | ob {a:Addr} {n:Nat}:ρ.ob[n]?=some a->Rep K ρ H (.ref a) (.ob n)
inductive RepL (K:FR) (ρ:Ad) (H:Hp):List V->List D->Prop where
 | nil:RepL K ρ H [] []
 | cons {v:V} {vs:List V} {d:D} {ds:List D}:Rep K ρ H v d->RepL K ρ H vs ds->RepL K ρ H (v::vs) (d::ds)
inductive RepK (K:FR) (ρ:Ad) (H:Hp):List (Key×V)->List (Key×D)->Prop where
 | nil:RepK K ρ H [] []
 | cons {k:Key} {v:V} {vs:List (Key×V)} {d:D} {ds:List (Key×D)}:Rep K ρ H v d->RepK K ρ H vs ds->RepK K ρ H ((k,v)::vs) ((k,d)::ds)
end
structure Ch (ρ:Ad) (H:Hp) (ρ':Ad) (H':Hp):Prop where
 pre:∀(n:Nat) a,ρ.ob[n]?=some a->ρ'.ob[n]?=some a
 old:∀b o,¬ρ.has b->H b=some o->¬ρ'.has b∧H' b=some o
theorem Ch.refl (ρ:Ad) (H:Hp):Ch ρ H ρ H:=⟨fun _ _ e=>e,fun _ _ n e=>⟨n,e⟩⟩
theorem Ch.trans (a:Ch ρ H ρ1 H1) (b:Ch ρ1 H1 ρ2 H2):Ch ρ H ρ2 H2:=
 ⟨fun n x e=>b.pre n x (a.pre n x e),fun x o n e=>let ⟨n',e'⟩:=a.old x o n e;b.old x o n' e'⟩
structure Stp (ρ:Ad) (H:Hp) (ρ':Ad) (H':Hp):Prop extends Ch ρ H ρ' H' where
 rs:ρ'.rs=ρ.rs
 res:∀b∈ρ.rs,H' b=H b
theorem Stp.refl (ρ:Ad) (H:Hp):Stp ρ H ρ H:=⟨.refl _ _,rfl,fun _ _=>rfl⟩
theorem Stp.trans (a:Stp ρ H ρ1 H1) (b:Stp ρ1 H1 ρ2 H2):Stp ρ H ρ2 H2:=
 ⟨a.toCh.trans b.toCh,b.rs.trans a.rs,fun x hx=>(b.res x (by rw [a.rs];exact hx)).trans (a.res x hx)⟩
instance {ρ ρ':Ad} {H H':Hp}:CoeOut (Stp ρ H ρ' H') (Ch ρ H ρ' H'):=⟨Stp.toCh⟩
theorem Ch.rd (S:Ch ρ H ρ' H') (h:Rd H a u) (n:¬ρ.has a):Rd H' a u∧¬ρ'.has a:=by
 rcases h with h | ⟨o,h⟩
 ·obtain ⟨q,e⟩:=S.old a _ n h;exact ⟨.inl e,q⟩
 ·obtain ⟨q,e⟩:=S.old a _ n h;exact ⟨.inr ⟨o,e⟩,q⟩
mutual
theorem Rep.mono (S:Ch ρ H ρ' H'):∀{v:V} {d:D},Rep K ρ H v d->Rep K ρ' H' v d
 | _,_,.non=>.non
 | _,_,.bl b=>.bl b
 | _,_,.int i=>.int i
 | _,_,.str x=>.str x
 | _,_,.ty n=>.ty n
 | _,_,.tup h l=>.tup (h.elim (fun ⟨a,n⟩=>.inl (S.rd a n)) .inr) (RepL.mono S l)
 | _,_,.lv h n l=>let ⟨n',h'⟩:=S.old _ _ n h;.lv h' n' (RepL.mono S l)
 | _,_,.ro h l=>.ro (h.elim (fun ⟨a,n⟩=>.inl (S.rd a n)) .inr) (RepL.mono S l)
 | _,_,.dv h n l=>let ⟨n',h'⟩:=S.old _ _ n h;.dv h' n' (RepK.mono S l)
 | _,_,.ob e=>.ob (S.pre _ _ e)
theorem RepL.mono (S:Ch ρ H ρ' H'):∀{vs:List V} {ds:List D},RepL K ρ H vs ds->RepL K ρ' H' vs ds
 | _,_,.nil=>.nil
 | _,_,.cons h t=>.cons (Rep.mono S h) (RepL.mono S t)
theorem RepK.mono (S:Ch ρ H ρ' H'):∀{vs:List (Key×V)} {ds:List (Key×D)},RepK K ρ H vs ds->RepK K ρ' H' vs ds
 | _,_,.nil=>.nil
 | _,_,.cons h t=>.cons (Rep.mono S h) (RepK.mono S t)
end
theorem RepL.length:∀{vs:List V} {ds:List D},RepL K ρ H vs ds->vs.length=ds.length
 | _,_,.nil=>rfl
 | _,_,.cons _ t=>by rw [List.length_cons,List.length_cons,RepL.length t]
theorem RepL.got:∀{vs:List V} {ds:List D} {i:Nat} {d:D},RepL K ρ H vs ds->ds[i]?=some d->∃v,vs[i]?=some v∧Rep K ρ H v d
 | _,_,_,_,.nil,e=>by simp at e
 | _,_,0,_,.cons r _,e=>by simp at e;subst e;exact ⟨_,rfl,r⟩
 | _,_,i+1,d,.cons _ t,e=>by
  obtain ⟨u,h1,h2⟩:=RepL.got (i:=i) (d:=d) t (by simpa using e);exact ⟨u,by simpa using h1,h2⟩
theorem RepL.append:∀{vs ws:List V} {ds es:List D},RepL K ρ H vs ds->RepL K ρ H ws es->RepL K ρ H (vs++ws) (ds++es)
 | _,_,_,_,.nil,s=>s
 | _,_,_,_,.cons r t,s=>.cons r (RepL.append t s)
theorem RepL.take:∀{vs:List V} {ds:List D} (n:Nat),RepL K ρ H vs ds->RepL K ρ H (vs.take n) (ds.take n)
 | _,_,0,_=>.nil
 | _,_,_+1,.nil=>.nil
 | _,_,n+1,.cons r t=>.cons r (RepL.take n t)
theorem RepL.drop:∀{vs:List V} {ds:List D} (n:Nat),RepL K ρ H vs ds->RepL K ρ H (vs.drop n) (ds.drop n)
 | _,_,0,r=>r
 | _,_,_+1,.nil=>.nil
 | _,_,n+1,.cons _ t=>RepL.drop n t
theorem RepL.set (r:Rep K ρ H v d):∀{vs:List V} {ds:List D} (i:Nat),RepL K ρ H vs ds->RepL K ρ H (vs.set i v) (ds.set i d)
 | _,_,_,.nil=>.nil
 | _,_,0,.cons _ t=>.cons r t
 | _,_,i+1,.cons q t=>.cons q (RepL.set r i t)
theorem RepL.snoc (t:RepL K ρ H vs ds) (r:Rep K ρ H v d):RepL K ρ H (vs++[v]) (ds++[d]):=t.append (.cons r .nil)
theorem RepL.dropLast:∀{vs:List V} {ds:List D},RepL K ρ H vs ds->RepL K ρ H vs.dropLast ds.dropLast
 | _,_,.nil=>.nil
 | _,_,.cons _ .nil=>.nil
 | _,_,.cons r (.cons q t)=>.cons r (RepL.dropLast (.cons q t))
theorem RepL.isEmpty (t:RepL K ρ H vs ds):vs.isEmpty=ds.isEmpty:=by cases t <;> rfl
theorem TupAt.sq (h:TupAt K ρ H a vs):SqT K H a vs:=by
 rcases h with ⟨h,_⟩ | h
 ·exact .inl h
 ·rcases h with (h | ⟨o,h⟩) | h
  ·cases h
  ·cases h
  ·exact .inr h
theorem Cb.sq (h:Cb K ρ H a vs):SqL K H a vs:=by
 rcases h with ⟨h,_⟩ | h
 ·exact .inl h
 ·rcases h with (h | ⟨o,h⟩) | h
  ·cases h
  ·cases h
  ·exact .inr h
def ObR (K:FR) (ρ:Ad) (H:Hp) (a:Addr):MO->Prop
 | .lst ds=>∃vs,H a=some (.lst vs)∧RepL K ρ H vs ds
 | .dct kvs=>∃us,H a=some (.dK us)∧RepK K ρ H us kvs
structure Sim (K:FR) (ρ:Ad) (h:MH) (H:Hp):Prop where
 len:ρ.ob.length=h.length
 nd:ρ.ob.Nodup
 at_:∀(n:Nat) a o,ρ.ob[n]?=some a->h[n]?=some o->ObR K ρ H a o
 rsv:∀b∈ρ.rs,(∃o,H b=some o)∧b∉ρ.ob
theorem ObR.has (x:ObR K ρ H a o):∃u,H a=some u:=by
 cases o with
 | lst ds=>obtain ⟨vs,e,_⟩:=x;exact ⟨_,e⟩
 | dct ds=>obtain ⟨vs,e,_⟩:=x;exact ⟨_,e⟩
theorem ObR.mono (x:ObR K ρ H a o) (T:Ch ρ H ρ' H') (e:H' a=H a):ObR K ρ' H' a o:=by
 cases o with
 | lst ds=>obtain ⟨vs,x,r⟩:=x;exact ⟨vs,e.trans x,r.mono T⟩
 | dct ds=>obtain ⟨vs,x,r⟩:=x;exact ⟨vs,e.trans x,r.mono T⟩
theorem Sim.mem (S:Sim K ρ h H) (ha:a∈ρ.ob):∃(n:Nat) (o:MO),ρ.ob[n]?=some a∧h[n]?=some o∧ObR K ρ H a o:=by
 obtain ⟨n,hn,e⟩:=List.mem_iff_getElem.mp ha;have hn':n < h.length:=by rw [←S.len];exact hn
 have e1:ρ.ob[n]?=some a:=by rw [List.getElem?_eq_getElem hn,e]
 exact ⟨n,h[n],e1,List.getElem?_eq_getElem hn',S.at_ n a _ e1 (List.getElem?_eq_getElem hn')⟩
theorem Sim.has (S:Sim K ρ h H) (ha:ρ.has a):∃u,H a=some u:=by
 rcases ha with ha | ha
 ·obtain ⟨_,_,_,_,x⟩:=S.mem ha;exact x.has
 ·exact (S.rsv a ha).1
theorem Sim.fresh (S:Sim K ρ h H) (hp:H p=none):¬ρ.has p:=fun m=>by
 obtain ⟨u,e⟩:=S.has m;rw [hp] at e;cases e
theorem Stp.laid (S:Sim K ρ h H) (hp:H p=none):Stp ρ H ρ (upd H p o):=
 ⟨⟨fun _ _ e=>e,fun b u n e=>⟨n,by rw [aJ (aU e hp)];exact e⟩⟩,rfl,fun b hb=>by
  obtain ⟨u,e⟩:=(S.rsv b hb).1;rw [aJ (aU e hp)]⟩
theorem Sim.same (S:Sim K ρ h H) (T:Stp ρ H ρ H') (k:∀a∈ρ.ob,H' a=H a):Sim K ρ h H':=
 ⟨S.len,S.nd,fun n a o e1 e2=>(S.at_ n a o e1 e2).mono T.toCh (k a (List.mem_of_getElem? e1)),fun b hb=>⟨by rw [T.res b hb];exact (S.rsv b hb).1,(S.rsv b hb).2⟩⟩
theorem Sim.laid (S:Sim K ρ h H) (hp:H p=none):Sim K ρ h (upd H p o):=
 S.same (Stp.laid S hp) fun a ha=>by
  obtain ⟨u,e⟩:=S.has (.inl ha);rw [aJ (aU e hp)]
abbrev Ad.more (ρ:Ad) (p:Addr):Ad:=⟨ρ.ob++[p],ρ.rs⟩
theorem Stp.made (S:Sim K ρ h H) (hp:H p=none):Stp ρ H (ρ.more p) (upd H p o):=by
 refine ⟨⟨fun n a e=>?_,fun b u n e=>?_⟩,rfl,(Stp.laid S hp).res⟩
 ·show (ρ.ob++[p])[n]?=_;rw [List.getElem?_append_left (List.getElem?_eq_some_iff.mp e).1];exact e
 ·refine ⟨fun m=>?_,by rw [aJ (aU e hp)];exact e⟩;rcases m with m | m
  ·rcases List.mem_append.mp m with m | m
   ·exact n (.inl m)
   ·exact aU e hp (List.mem_singleton.mp m)
  ·exact n (.inr m)
theorem Sim.made (S:Sim K ρ h H) (hp:H p=none) (ho:ObR K (ρ.more p) (upd H p u) p o):Sim K (ρ.more p) (h++[o]) (upd H p u):=by
 refine ⟨by simp [S.len],?_,fun n a x e1 e2=>?_,fun b hb=>?_⟩
 ·show (ρ.ob++[p]).Nodup;rw [List.nodup_append];refine ⟨S.nd,by simp,fun a ha b hb z=>?_⟩;rw [List.mem_singleton.mp hb] at z;exact S.fresh hp (.inl (z ▸ ha))
 ·by_cases hn:n < ρ.ob.length
  ·have e1:(ρ.ob++[p])[n]?=some a:=e1;rw [List.getElem?_append_left hn] at e1;rw [List.getElem?_append_left (by rw [←S.len];exact hn)] at e2;have q:=S.at_ n a x e1 e2;obtain ⟨w,ew⟩:=q.has;exact q.mono (Stp.made S hp).toCh (aJ (aU ew hp))
  ·have l1:=(List.getElem?_eq_some_iff.mp e1).1;simp at l1;have hn':n=ρ.ob.length:=by lia
   subst hn';have e1:(ρ.ob++[p])[ρ.ob.length]?=some a:=e1;rw [List.getElem?_append_right (Nat.le_refl _)] at e1;rw [List.getElem?_append_right (by rw [S.len];exact Nat.le_refl _)] at e2;simp at e1;rw [S.len] at e2;simp at e2;subst e1;subst e2;exact ho
 ·obtain ⟨⟨v,e⟩,n⟩:=S.rsv b hb;have z:=aU e hp;refine ⟨⟨v,by rw [aJ z];exact e⟩,fun m=>?_⟩;rcases List.mem_append.mp m with m | m
  ·exact n m
  ·exact z (List.mem_singleton.mp m)
theorem Stp.wrote (S:Sim K ρ h H) (ha:a∈ρ.ob):Stp ρ H ρ (upd H a o):=
 ⟨⟨fun _ _ e=>e,fun b u n e=>⟨n,by rw [aJ (fun (z:b=a)=>n (.inl (by rw [z];exact ha)))];exact e⟩⟩,rfl,fun b hb=>aJ fun (z:b=a)=>(S.rsv b hb).2 (by rw [z];exact ha)⟩
theorem Sim.wrote (S:Sim K ρ h H) (e:ρ.ob[n]?=some a) (ho:ObR K ρ (upd H a u) a o):Sim K ρ (h.set n o) (upd H a u):=by
 have ha:=List.mem_of_getElem? e;have T:Stp ρ H ρ (upd H a u):=Stp.wrote S ha;refine ⟨by rw [List.length_set];exact S.len,S.nd,fun m b x e1 e2=>?_,fun b hb=>⟨by rw [T.res b hb];exact (S.rsv b hb).1,(S.rsv b hb).2⟩⟩
 by_cases hm:n=m
 ·subst hm;have l2:n < h.length:=by rw [←S.len];exact (List.getElem?_eq_some_iff.mp e).1
  rw [e] at e1;cases e1;rw [List.getElem?_set_self l2] at e2;cases e2;exact ho
 ·rw [List.getElem?_set_ne hm] at e2;have q:=S.at_ m b x e1 e2;have hb:b≠a:=by
   intro z;subst z;exact hm ((List.getElem?_inj (List.getElem?_eq_some_iff.mp e).1 S.nd).mp (e.trans e1.symm))
  exact q.mono T.toCh (aJ hb)
abbrev Ad.keep (ρ:Ad) (l:Addr):Ad:=⟨ρ.ob,l::ρ.rs⟩
theorem Ch.keep (hl:H l=none):Ch ρ H (ρ.keep l) (upd H l o):=by
 refine ⟨fun n a e=>e,fun b u n e=>⟨fun m=>?_,by rw [aJ (aU e hl)];exact e⟩⟩;rcases m with m | m
 ·exact n (.inl m)
 ·rcases List.mem_cons.mp m with m | m
  ·exact aU e hl m
  ·exact n (.inr m)
theorem Sim.keep (S:Sim K ρ h H) (hl:H l=none):Sim K (ρ.keep l) h (upd H l o):=by
 refine ⟨S.len,S.nd,fun n a x e1 e2=>?_,fun b hb=>?_⟩
 ·have q:=S.at_ n a x e1 e2;obtain ⟨w,ew⟩:=q.has;exact q.mono (Ch.keep hl) (aJ (aU ew hl))
 ·rcases List.mem_cons.mp hb with rfl | hb
  ·exact ⟨⟨_,a9⟩,fun m=>S.fresh hl (.inl m)⟩
  ·obtain ⟨⟨v,e⟩,n⟩:=S.rsv b hb;exact ⟨⟨v,by rw [aJ (aU e hl)];exact e⟩,n⟩
theorem Ch.put (hl:l∈ρ.rs):Ch ρ H ρ (upd H l o):=⟨fun n a e=>e,fun b u n e=>⟨n,by rw [aJ (fun (z:b=l)=>n (.inr (by rw [z];exact hl)))];exact e⟩⟩
theorem Sim.put (S:Sim K ρ h H) (hl:l∈ρ.rs):Sim K ρ h (upd H l o):=by
 refine ⟨S.len,S.nd,fun n a x e1 e2=>(S.at_ n a x e1 e2).mono (Ch.put hl) (aJ fun (z:a=l)=>(S.rsv l hl).2 (by rw [←z];exact List.mem_of_getElem? e1)),fun b hb=>⟨?_,(S.rsv b hb).2⟩⟩
 by_cases z:b=l
 ·subst z;exact ⟨_,a9⟩
 ·rw [aJ z];exact (S.rsv b hb).1
theorem Ch.free {os rs rs':List Addr} {H:Hp} (hs:∀b∈rs',b∈rs):Ch ⟨os,rs⟩ H ⟨os,rs'⟩ H:=⟨fun n a e=>e,fun b u n e=>⟨fun m=>n (m.elim .inl fun m=>.inr (hs b m)),e⟩⟩
theorem Sim.free {os rs rs':List Addr} {H:Hp} (S:Sim K ⟨os,rs⟩ h H) (hs:∀b∈rs',b∈rs):Sim K ⟨os,rs'⟩ h H:=
 ⟨S.len,S.nd,fun n a x e1 e2=>(S.at_ n a x e1 e2).mono (Ch.free hs) rfl,fun b hb=>S.rsv b (hs b hb)⟩
structure RepS (K:FR) (ρ:Ad) (H:Hp) (σ:St) (δ:DS):Prop where
 len:σ.length=δ.length
 at_:∀(i:Nat) d,δ[i]?=some (some d)->∃v,σ[i]?=some (some v)∧Rep K ρ H v d
theorem RepS.mono (R:RepS K ρ H σ δ) (S:Ch ρ H ρ' H'):RepS K ρ' H' σ δ:=⟨R.len,fun i d e=>let ⟨v,a,b⟩:=R.at_ i d e;⟨v,a,b.mono S⟩⟩
theorem RepS.set (R:RepS K ρ H σ δ) (r:Rep K ρ H v d) (i:Nat):RepS K ρ H (σ.set i (some v)) (δ.set i (some d)):=by
 refine ⟨by rw [List.length_set,List.length_set];exact R.len,fun j e he=>?_⟩
 by_cases hij:i=j
 ·subst hij;have hl:i < δ.length:=by
   have:=(List.getElem?_eq_some_iff.mp he).1;rw [List.length_set] at this;exact this
  rw [List.getElem?_set_self hl] at he;cases he;exact ⟨v,by rw [List.getElem?_set_self (by rw [R.len];exact hl)],r⟩
 ·rw [List.getElem?_set_ne hij] at he ⊢;exact R.at_ j e he
abbrev EM:=DS->MH->Option (D×MH)
abbrev TM:=DS->MH->Option (Bool×MH)
abbrev AM:=DS->MH->Option (List D×MH)
inductive Fl where
 | nx | bk | ct | rt (d:D)
abbrev SM:=DS->MH->Option (Fl×DS×MH)
abbrev GM:=D->DS->MH->Option (DS×MH)
abbrev Fn:=List D->MH->Option (D×MH)
inductive PostI (K:FR) (ρ:Ad) (H:Hp) (h':MH) (d:D) (v:V) (H':Hp):Prop where
 | mk (ρ'):Stp ρ H ρ' H'->Sim K ρ' h' H'->Rep K ρ' H' v d->PostI K ρ H h' d v H'
noncomputable def dw (K:FR) (ρ:Ad) (H:Hp) (h':MH) (d:D):VK:=fun v H'=>PostI K ρ H h' d v H'
inductive TMi (K:FR) (m:EM) (σ:L2.St) (H:Hp) (Q:VK):Prop where
 | mk (ρ δ h d h'):RepS K ρ H σ δ->Sim K ρ h H->(m δ h=some (d,h'))->(∀v H',dw K ρ H h' d v H'->Q v H')->TMi K m σ H Q
def tM (K:FR) (m:EM):TE:=fun σ H Q=>TMi K m σ H Q
inductive TMTi (K:FR) (m:TM) (σ:L2.St) (H:Hp) (Q:Bool->Hp->Prop):Prop where
 | mk (ρ δ h b h'):RepS K ρ H σ δ->Sim K ρ h H->(m δ h=some (b,h'))->(∀ρ' H',Stp ρ H ρ' H'->Sim K ρ' h' H'->Q b H')->TMTi K m σ H Q
def tMT (K:FR) (m:TM):TT:=fun σ H Q=>TMTi K m σ H Q
inductive TMAi (K:FR) (m:AM) (σ:L2.St) (H:Hp) (Q:List V->Hp->Prop):Prop where
 | mk (ρ δ h ds h'):RepS K ρ H σ δ->Sim K ρ h H->(m δ h=some (ds,h'))->(∀vs ρ' H',Stp ρ H ρ' H'->Sim K ρ' h' H'->RepL K ρ' H' vs ds->Q vs H')->TMAi K m σ H Q
def tMA (K:FR) (m:AM):TA:=fun σ H Q=>TMAi K m σ H Q
inductive TMSi (K:FR) (m:SM) (E:Ends) (σ:L2.St) (H:Hp):Prop where
 | mk (ρ δ h fl δ' h'):RepS K ρ H σ δ->Sim K ρ h H->(m δ h=some (fl,δ',h'))->(∀ρ' H',Stp ρ H ρ' H'->Sim K ρ' h' H'->
 match fl with
 | .nx=>∀σ',RepS K ρ' H' σ' δ'->E.nx σ' H'
 | .bk=>∀σ',RepS K ρ' H' σ' δ'->E.bk σ' H'
 | .ct=>∀σ',RepS K ρ' H' σ' δ'->E.ct σ' H'
 | .rt d=>∀v,Rep K ρ' H' v d->E.rt v H')->TMSi K m E σ H
def tMS (K:FR) (m:SM):TS:=fun E σ H=>TMSi K m E σ H
inductive TMGi (K:FR) (m:GM) (v:V) (σ:L2.St) (H:Hp) (Q:L2.St->Hp->Prop):Prop where
 | mk (ρ δ h d δ' h'):RepS K ρ H σ δ->Sim K ρ h H->Rep K ρ H v d->(m d δ h=some (δ',h'))->(∀ρ' H' σ',Stp ρ H ρ' H'->Sim K ρ' h' H'->RepS K ρ' H' σ' δ'->Q σ' H')->TMGi K m v σ H Q
def tMG (K:FR) (m:GM):TG:=fun v σ H Q=>TMGi K m v σ H Q
def SE (X:Cx) (e:Expr) (m:EM):Prop:=PE X e (tM X.K m)
def ST (X:Cx) (e:Expr) (m:TM):Prop:=PT X e (tMT X.K m)
def SW (X:Cx) (e:Expr) (m:TM):Prop:=PW X e (tMT X.K m)
def SA (X:Cx) (es:List Expr) (m:AM):Prop:=PA X es (tMA X.K m)
def SS (X:Cx) (s:Stmt) (m:SM):Prop:=PS X s (tMS X.K m)
def SSs (X:Cx) (s:List Stmt) (m:SM):Prop:=PSs X s (tMS X.K m)
def SG (X:Cx) (e:Expr) (m:GM):Prop:=PG X e (tMG X.K m)
theorem _root_.L2.PE.imp (h:PE X e t) (i:∀σ H Q,t' σ H Q->t σ H Q):PE X e t':=fun pins s σ H Q I q=>h pins s σ H Q I (i σ H Q q)
theorem _root_.L2.PT.imp (h:PT X e t) (i:∀σ H Q,t' σ H Q->t σ H Q):PT X e t':=fun pins s σ H Q I q=>h pins s σ H Q I (i σ H Q q)
theorem _root_.L2.PW.imp (h:PW X e t) (i:∀σ H Q,t' σ H Q->t σ H Q):PW X e t':=fun wh pins s σ H Q I q=>h wh pins s σ H Q I (i σ H Q q)
theorem _root_.L2.PA.imp (h:PA X e t) (i:∀σ H Q,t' σ H Q->t σ H Q):PA X e t':=fun pos pins s σ H Q I q=>h pos pins s σ H Q I (i σ H Q q)
theorem _root_.L2.PS.imp (h:PS X e t) (i:∀E σ H,t' E σ H->t E σ H):PS X e t':=fun pins s σ H E I q=>h pins s σ H E I (i E σ H q)
theorem _root_.L2.PSs.imp (h:PSs X e t) (i:∀E σ H,t' E σ H->t E σ H):PSs X e t':=fun pins s σ H E I q=>h pins s σ H E I (i E σ H q)
theorem _root_.L2.PG.imp (h:PG X e t) (i:∀v σ H Q,t' v σ H Q->t v σ H Q):PG X e t':=fun pins s σ H v u Q I r q=>h pins s σ H v u Q I r (i v σ H Q q)
theorem bnd (h:o.bind f=some b):∃a,o=some a∧f a=some b:=Option.bind_eq_some_iff.mp h
theorem mpd (h:o.map f=some b):∃a,o=some a∧f a=b:=Option.map_eq_some_iff.mp h
theorem x5 {x:D} {α:Type} {g:Bool->Option α} {z:α} (e:(match x with | .bl c=>g c | _=>none)=some z):∃c,x=.bl c∧g c=some z:=by
 cases x <;> first | exact absurd e (by intro z;cases z) | exact ⟨_,rfl,e⟩
theorem dw.here (S:Sim K ρ h H) (r:Rep K ρ H v d):dw K ρ H h d v H:=⟨ρ,.refl _ _,S,r⟩
theorem dw.step (T:Stp ρ H ρ1 H1) (p:dw K ρ1 H1 h' d v H'):dw K ρ H h' d v H':=let ⟨ρ2,T2,S2,r2⟩:=p;⟨ρ2,T.trans T2,S2,r2⟩
theorem dw.tup (S:Sim K ρ h H) (r:RepL K ρ H vs ds) (hp:H p=none):dw K ρ H h (.tup ds) (.ref p) (upd H p (.tup vs)):=
 ⟨ρ,Stp.laid S hp,S.laid hp,.tup (.inl ⟨.inl a9,S.fresh hp⟩) (r.mono (Stp.laid S hp).toCh)⟩
theorem dw.lv (S:Sim K ρ h H) (r:RepL K ρ H vs ds) (hp:H p=none):dw K ρ H h (.lv ds) (.ref p) (upd H p (.lst vs)):=
 ⟨ρ,Stp.laid S hp,S.laid hp,.lv a9 (S.fresh hp) (r.mono (Stp.laid S hp).toCh)⟩
theorem dw.dv (S:Sim K ρ h H) (r:RepK K ρ H us ds) (hp:H p=none):dw K ρ H h (.dv ds) (.ref p) (upd H p (.dK us)):=
 ⟨ρ,Stp.laid S hp,S.laid hp,.dv a9 (S.fresh hp) (r.mono (Stp.laid S hp).toCh)⟩
noncomputable def ae (i:Nat):EM:=fun δ h=>(δ[i]?).join.map fun d=>(d,h)
noncomputable def eK (d:D):EM:=fun _ h=>some (d,h)
noncomputable def eOp (f:D->D->MH->Option (D×MH)) (a b:EM):EM:=fun δ h=>(a δ h).bind fun p=>(b δ p.2).bind fun q=>f p.1 q.1 q.2
noncomputable def eUn (f:D->MH->Option (D×MH)) (a:EM):EM:=fun δ h=>(a δ h).bind fun p=>f p.1 p.2
noncomputable def aj:AM:=fun _ h=>some ([],h)
noncomputable def ab (a:EM) (r:AM):AM:=fun δ h=>(a δ h).bind fun p=>(r δ p.2).bind fun q=>some (p.1::q.1,q.2)
noncomputable def eFn (f:Fn) (a:AM):EM:=fun δ h=>(a δ h).bind fun p=>f p.1 p.2
noncomputable def eIf (t:TM) (a b:EM):EM:=fun δ h=>(t δ h).bind fun p=>if p.1 then a δ p.2 else b δ p.2
noncomputable def aH (a:EM):TM:=fun δ h=>(a δ h).bind fun p=>match p.1 with
 | .bl b=>some (b,p.2)
 | _=>none
noncomputable def qV (t:TM):TM:=fun δ h=>(t δ h).map fun p=>(!p.1,p.2)
noncomputable def iQ (a b:TM):TM:=fun δ h=>(a δ h).bind fun p=>if p.1 then b δ p.2 else some (false,p.2)
noncomputable def tOr (a b:TM):TM:=fun δ h=>(a δ h).bind fun p=>if p.1 then some (true,p.2) else b δ p.2
noncomputable def BQ (a b:EM):EM:=fun δ h=>(a δ h).bind fun p=>match p.1 with
 | .bl c=>if c then b δ p.2 else some (.bl false,p.2)
 | _=>none
noncomputable def eOr (a b:EM):EM:=fun δ h=>(a δ h).bind fun p=>match p.1 with
 | .bl c=>if c then some (.bl true,p.2) else b δ p.2
 | _=>none
noncomputable def aW:Fn:=fun ds h=>some (.tup ds,h)
inductive RSi (K:FR) (f:D->D->MH->Option (D×MH)) (x y:V) (H:Hp) (Q:VK):Prop where
 | mk (ρ h d e z h'):Sim K ρ h H->Rep K ρ H x d->Rep K ρ H y e->(f d e h=some (z,h'))->(∀v H',dw K ρ H h' z v H'->Q v H')->RSi K f x y H Q
def rS (K:FR) (f:D->D->MH->Option (D×MH)):R2:=fun x y H Q=>RSi K f x y H Q
def OpS (X:Cx) (g:Value->Value->Sem Value) (f:D->D->MH->Option (D×MH)):Prop:=OpR X g (rS X.K f)
inductive RUi (K:FR) (f:D->MH->Option (D×MH)) (x:V) (H:Hp) (Q:VK):Prop where
 | mk (ρ h d z h'):Sim K ρ h H->Rep K ρ H x d->(f d h=some (z,h'))->(∀v H',dw K ρ H h' z v H'->Q v H')->RUi K f x H Q
def rU (K:FR) (f:D->MH->Option (D×MH)):V->Hp->VK->Prop:=fun x H Q=>RUi K f x H Q
inductive RFi (K:FR) (f:Fn) (vs:List V) (H:Hp) (Q:VK):Prop where
 | mk (ρ h ds z h'):Sim K ρ h H->RepL K ρ H vs ds->(f ds h=some (z,h'))->(∀v H',dw K ρ H h' z v H'->Q v H')->RFi K f vs H Q
def rF (K:FR) (f:Fn):List V->Hp->VK->Prop:=fun vs H Q=>RFi K f vs H Q
def eP (X:Cx) (g:Value) (f:Fn):Prop:=eB X g (rF X.K f)
section
variable {X:Cx} {a b c e:Expr} {es:List Expr} {pos:Pos} {ma mb mc:EM} {mt mu:TM} {m:AM} {f:D->D->MH->Option (D×MH)}
theorem Ab (hN:X.N[i]?=some x) (hv:Vis X.env.scope x) (hd:(x==("__debug__":Str))=false:=by kernel_rfl) (hcd:(x==("__classdict__":Str))=false:=by kernel_rfl):SE X (.Name x pos) (ae i):=
 (AL hN hv hd hcd).imp fun σ H Q ⟨ρ,δ,h,d,h',R,S,e,k⟩=>by
  obtain ⟨d',e1,e2⟩:=mpd e;cases e2;obtain ⟨v,ev,r⟩:=R.at_ i _ (Option.join_eq_some_iff.mp e1);exact ⟨v,ev,k v H (.here S r)⟩
theorem wm (hp:PE X e (tC v)) (hr:∀ρ H,Rep X.K ρ H v d):SE X e (eK d):=hp.imp fun σ H Q ⟨ρ,δ,h,d',h',R,S,ee,k⟩=>by
 cases ee;exact k v H (.here S (hr _ _))
theorem ah {i j}:SE X (.Constant (.int i) j pos) (eK (.int i)):=wm AW fun _ _=>.int i
theorem oG {b j}:SE X (.Constant (.bool b) j pos) (eK (.bl b)):=wm C8 fun _ _=>.bl b
theorem pO {j}:SE X (.Constant .none j pos) (eK .non):=wm AU fun _ _=>.non
theorem aq {x j} (h:PyData.strOk x=true:=by decide+kernel):SE X (.Constant (.str x) j pos) (eK (.str x)):=wm AQ fun _ _=>.str h
theorem CD (hg:Gl X x) (hm:X.mg x=none) (hv:bootBuiltins x=some (.type n)) (hn:x≠"__name__":=by decide) (hd:(x==("__debug__":Str))=false:=by kernel_rfl):SE X (.Name x pos) (eK (.ty n)):=
 wm (yY (v:=.ty n) hg hm hv rfl hn hd) fun _ _=>.ty n
theorem t7 (h:tM X.K (eOp f ma mb) σ H Q):tOp (rS X.K f) (tM X.K ma) (tM X.K mb) σ H Q:=by
 obtain ⟨ρ,δ,h,d,h',R,S,e,k⟩:=h;obtain ⟨⟨x,h1⟩,e1,e⟩:=bnd e;obtain ⟨⟨y,h2⟩,e2,e3⟩:=bnd e;refine ⟨ρ,δ,h,x,h1,R,S,e1,fun v H1 ⟨ρ1,T1,S1,r1⟩=>?_⟩;refine ⟨ρ1,δ,h1,y,h2,R.mono T1,S1,e2,fun u H2 ⟨ρ2,T2,S2,r2⟩=>?_⟩;exact ⟨ρ2,h2,x,y,d,h',S2,r1.mono T2,r2,e3,fun w H3 p=>k w H3 (p.step (T1.trans T2))⟩
theorem aA (ho:OpS X (binaryOp op) f) (ha:SE X a ma) (hb:SE X b mb):SE X (.BinOp a op b pos) (eOp f ma mb):=(zM ho ha hb).imp fun _ _ _=>t7
theorem g9 (ho:OpS X (compareOp op) f) (ha:SE X a ma) (hb:SE X b mb) (hm:behindInMarks op b=false):SE X (.Compare a [op] [b] pos) (eOp f ma mb):=(yW ho ha hb hm).imp fun _ _ _=>t7
theorem aF {op:CmpOp} (ho:OpS X (compareOp op) f) (ha:SE X a ma) (hb:SE X b mb) (hm:behindInMarks op b=false):ST X (.Compare a [op] [b] pos) (aH (eOp f ma mb)):=
 (yH ho ha hb hm).imp fun σ H Q ⟨ρ,δ,h,c,h',R,S,e,k⟩=>by
  walk_at "ad";obtain ⟨c',rfl,e2⟩:=x5 e2;cases e2;refine t7 ⟨ρ,δ,h,.bl c,h1,R,S,e1,fun v H' ⟨ρ',T,S',r⟩=>?_⟩;cases r;exact ⟨c,rfl,k ρ' H' T S'⟩
theorem gQ {op:UnaryOp} {f:D->MH->Option (D×MH)} (ho:UnR X (unaryOp op) (rU X.K f)) (ha:SE X a ma):SE X (.UnaryOp op a pos) (eUn f ma):=(C5 ho ha).imp fun σ H Q ⟨ρ,δ,h,d,h',R,S,e,k⟩=>by
 obtain ⟨⟨x,h1⟩,e1,e⟩:=bnd e;exact ⟨ρ,δ,h,x,h1,R,S,e1,fun v H1 ⟨ρ1,T1,S1,r1⟩=>⟨ρ1,h1,x,d,h',S1,r1,e,fun w H3 p=>k w H3 (p.step T1)⟩⟩
theorem af:SA X [] aj:=AZ.imp fun σ H Q ⟨ρ,δ,h,d,h',R,S,e,k⟩=>by
 cases e;exact k [] ρ H (.refl _ _) S .nil
theorem aa (ha:SE X e ma) (hr:SA X es m) (hs:starEach (e::es) X.env=(false,eval e X.env)::starEach es X.env:=by kernel_rfl):SA X (e::es) (ab ma m):=
 (yZ ha hr hs).imp fun σ H Q ⟨ρ,δ,h,d,h',R,S,e,k⟩=>by
  obtain ⟨⟨x,h1⟩,e1,e⟩:=bnd e;obtain ⟨⟨ys,h2⟩,e2,e3⟩:=bnd e;cases e3;refine ⟨ρ,δ,h,x,h1,R,S,e1,fun v H1 ⟨ρ1,T1,S1,r1⟩=>?_⟩;exact ⟨ρ1,δ,h1,ys,h2,R.mono T1,S1,e2,fun vs ρ2 H2 T2 S2 rs=>k _ ρ2 H2 (T1.trans T2) S2 (.cons (r1.mono T2) rs)⟩
def ll (m:AM) (n:Nat):Prop:=∀δ h ds h',m δ h=some (ds,h')->ds.length=n
theorem ak:ll aj 0:=fun δ h ds h' e=>by cases e;rfl
theorem ag (hr:ll m n):ll (ab ma m) (n+1):=fun δ h ds h' e=>by
 obtain ⟨⟨x,h1⟩,e1,e⟩:=bnd e;obtain ⟨⟨ys,h2⟩,e2,e3⟩:=bnd e;cases e3;rw [List.length_cons,hr _ _ _ _ e2]
theorem az {x1} (h:SA X es m) (hl:ll m n) (hn:n≤sizeLine:=by decide):SE X (.Tuple es x1 pos) (eFn aW m):=(AN h).imp fun σ H Q ⟨ρ,δ,h,d,h',R,S,e,k⟩=>by
 obtain ⟨⟨x,h1⟩,e1,e⟩:=bnd e;cases e;refine ⟨ρ,δ,h,x,h1,R,S,e1,fun vs ρ1 H1 T1 S1 r1=>⟨by rw [r1.length,hl _ _ _ _ e1];exact hn,fun p hp=>k _ _ (dw.step T1 (.tup S1 r1 hp))⟩⟩
inductive TFLi (K:FR) (m:AM) (σ:L2.St) (H:Hp) (Q:VK):Prop where
 | mk (ρ δ h ds h'):RepS K ρ H σ δ->Sim K ρ h H->(m δ h=some (ds,h'))->(∀ρ1 H1 p vs,Stp ρ H ρ1 H1->Sim K ρ1 h' H1->H1 p=none->RepL K ρ1 H1 vs ds->Q (.ref p) (upd H1 p (.lst vs)))->TFLi K m σ H Q
def tFL (K:FR) (m:AM):TE:=fun σ H Q=>TFLi K m σ H Q
def SFL (X:Cx) (e:Expr) (m:AM):Prop:=PE X e (tFL X.K m)
noncomputable def eLv (m:AM):EM:=fun δ h=>(m δ h).map fun p=>(.lv p.1,p.2)
noncomputable def eOb (m:AM):EM:=fun δ h=>(m δ h).map fun p=>(.ob p.2.length,p.2++[.lst p.1])
theorem dw.ob (S:Sim K ρ h H) (r:RepL K ρ H vs ds) (hp:H p=none):dw K ρ H (h++[.lst ds]) (.ob h.length) (.ref p) (upd H p (.lst vs)):=
 ⟨ρ.more p,Stp.made S hp,S.made hp ⟨vs,a9,r.mono (Stp.made S hp).toCh⟩,.ob (show (ρ.ob++[p])[h.length]?=_ by rw [←S.len,List.getElem?_append_right (Nat.le_refl _)];simp)⟩
theorem SFL.lv (h:SFL X e m):SE X e (eLv m):=h.imp fun σ H Q ⟨ρ,δ,h,d,h',R,S,e,k⟩=>by
 obtain ⟨⟨ds,h1⟩,e1,e2⟩:=mpd e;cases e2;exact ⟨ρ,δ,h,ds,h1,R,S,e1,fun ρ1 H1 p vs T S1 hp r=>k _ _ (dw.step T (.lv S1 r hp))⟩
theorem SFL.ob (h:SFL X e m):SE X e (eOb m):=h.imp fun σ H Q ⟨ρ,δ,h,d,h',R,S,e,k⟩=>by
 obtain ⟨⟨ds,h1⟩,e1,e2⟩:=mpd e;cases e2;exact ⟨ρ,δ,h,ds,h1,R,S,e1,fun ρ1 H1 p vs T S1 hp r=>k _ _ (dw.step T (.ob S1 r hp))⟩
theorem bc (h:SA X es m) (hl:ll m n) (hn:n≤sizeLine:=by decide):SFL X (.List es pos) m:=(AV h).imp fun σ H Q ⟨ρ,δ,h,ds,h',R,S,e,k⟩=>
 ⟨ρ,δ,h,ds,h',R,S,e,fun vs ρ1 H1 T1 S1 r1=>⟨by rw [r1.length,hl _ _ _ _ e];exact hn,fun p hp=>k ρ1 H1 p vs T1 S1 hp r1⟩⟩
noncomputable def eDv:EM:=fun _ h=>some (.dv [],h)
noncomputable def eDo:EM:=fun _ h=>some (.ob h.length,h++[.dct []])
theorem CI:SE X (.Dict [] [] pos) eDv:=wX.imp fun σ H Q ⟨ρ,δ,h,d,h',R,S,e,k⟩ p hp=>by
 cases e;exact k _ _ (.dv S .nil hp)
theorem yA {σ:St} {H:Hp} {Q:Bool->Hp->Prop} (h:tMT X.K (aH ma) σ H Q):tM X.K ma σ H fun x H1=>∃c,x=.bl c∧Q c H1:=by
 obtain ⟨ρ,δ,h,c,h',R,S,e,k⟩:=h;walk_at "ad";obtain ⟨c',rfl,e2⟩:=x5 e2;cases e2;refine ⟨ρ,δ,h,.bl c,h1,R,S,e1,fun v H' ⟨ρ',T,S',r⟩=>?_⟩;cases r;exact ⟨c,rfl,k ρ' H' T S'⟩
theorem pI (h:ST X a mt):ST X (.UnaryOp .Not a pos) (qV mt):=(AD h).imp fun σ H Q ⟨ρ,δ,h,c,h',R,S,e,k⟩=>by
 obtain ⟨⟨x,h1⟩,e1,e2⟩:=mpd e;cases e2;exact ⟨ρ,δ,h,x,h1,R,S,e1,fun ρ' H' T S'=>k ρ' H' T S'⟩
theorem fq (h:ST X a mt):SW X (.BoolOp .And [a] pos) mt:=yG h
theorem mz (h:ST X a mt):SW X (.BoolOp .Or [a] pos) mt:=AA h
theorem gd {rest:List Expr} (ha:ST X a mt) (hb:SW X (.BoolOp .And (b::rest) pos) mu):SW X (.BoolOp .And (a::b::rest) pos) (iQ mt mu):=(AB ha hb).imp fun σ H Q ⟨ρ,δ,h,c,h',R,S,e,k⟩=>by
 walk_at "ad";refine ⟨ρ,δ,h,x,h1,R,S,e1,fun ρ' H' T S'=>?_⟩;cases x with
 | true=>rw [if_pos rfl] at e2 ⊢;exact ⟨ρ',δ,h1,c,h',R.mono T,S',e2,fun ρ2 H2 T2 S2=>k ρ2 H2 (T.trans T2) S2⟩
 | false=>rw [if_neg (by simp)] at e2 ⊢;cases e2;exact k ρ' H' T S'
theorem qW {rest:List Expr} (ha:ST X a mt) (hb:SW X (.BoolOp .Or (b::rest) pos) mu):SW X (.BoolOp .Or (a::b::rest) pos) (tOr mt mu):=(CZ ha hb).imp fun σ H Q ⟨ρ,δ,h,c,h',R,S,e,k⟩=>by
 walk_at "ad";refine ⟨ρ,δ,h,x,h1,R,S,e1,fun ρ' H' T S'=>?_⟩;cases x with
 | false=>rw [if_neg (by simp)] at e2 ⊢;exact ⟨ρ',δ,h1,c,h',R.mono T,S',e2,fun ρ2 H2 T2 S2=>k ρ2 H2 (T.trans T2) S2⟩
 | true=>rw [if_pos rfl] at e2 ⊢;cases e2;exact k ρ' H' T S'
theorem SW.st (h:SW X a mt):ST X a mt:=PW.pt h
theorem we {op} (h:SE X a ma):SE X (.BoolOp op [a] pos) ma:=AS h
theorem Ag {rest:List Expr} (ha:SE X a ma) (hb:SE X (.BoolOp .And (b::rest) pos) mb):SE X (.BoolOp .And (a::b::rest) pos) (BQ ma mb):=(AY ha hb).imp fun σ H Q ⟨ρ,δ,h,d,h',R,S,e,k⟩=>by
 walk_at "ad";obtain ⟨c,rfl,e2⟩:=x5 e2;refine ⟨ρ,δ,h,.bl c,h1,R,S,e1,fun v H' ⟨ρ',T,S',r⟩=>?_⟩;cases r;refine ⟨c,rfl,?_⟩;cases c with
 | true=>rw [if_pos rfl] at e2 ⊢;exact ⟨ρ',δ,h1,d,h',R.mono T,S',e2,fun v H2 p=>k v H2 (p.step T)⟩
 | false=>rw [if_neg (by simp)] at e2 ⊢;cases e2;exact k _ _ ⟨ρ',T,S',.bl _⟩
noncomputable def ED (a:EM):EM:=fun δ h=>(a δ h).bind fun p=>match p.1 with
 | .bl c=>some (.bl (!c),p.2)
 | _=>none
theorem CH (hc:ST X c mt) (ha:SE X a ma) (hb:SE X b mb):SE X (.IfExp c a b pos) (eIf mt ma mb):=(wW hc ha hb).imp fun σ H Q ⟨ρ,δ,h,d,h',R,S,e,k⟩=>by
 walk_at "ad";refine ⟨ρ,δ,h,x,h1,R,S,e1,fun ρ' H' T S'=>?_⟩;cases x with
 | true=>rw [if_pos rfl] at e2 ⊢;exact ⟨ρ',δ,h1,d,h',R.mono T,S',e2,fun v H2 p=>k v H2 (p.step T)⟩
 | false=>rw [if_neg (by simp)] at e2 ⊢;exact ⟨ρ',δ,h1,d,h',R.mono T,S',e2,fun v H2 p=>k v H2 (p.step T)⟩
noncomputable def sD (d:D) (h:MH):Option Bool:=match d with
 | .non=>some false
 | .bl b=>some b
 | .int i=>some (i !=0)
 | .str x=>if x.length≤sizeLine then some ((x.length:Int) !=0) else none
 | .tup xs=>some (!xs.isEmpty)
 | .dv kvs=>some (!kvs.isEmpty)
 | .ob n=>match h[n]? with
  | some (.lst xs)=>some (!xs.isEmpty)
  | some (.dct kvs)=>some (!kvs.isEmpty)
  | none=>none
 | .lv xs=>some (!xs.isEmpty)
 | .ro xs=>some (!xs.isEmpty)
 | .ty _=>none
noncomputable def qU (a:EM):TM:=fun δ h=>(a δ h).bind fun p=>(sD p.1 p.2).map fun c=>(c,p.2)
theorem RepK.isEmpty (t:RepK K ρ H us ds):us.isEmpty=ds.isEmpty:=by cases t <;> rfl
theorem tW {K:FR} {ρ:Ad} {H:Hp} {h:MH} {v:V} {d:D} {c:Bool} (S:Sim K ρ h H) (r:Rep K ρ H v d) (e:sD d h=some c):zE K v H c:=by
 cases r with
 | non=>cases e;exact rfl
 | bl b=>cases e;exact rfl
 | int i=>cases e;exact rfl
 | str hs=>
  unfold sD at e
  by_cases z:‹Str›.length≤sizeLine
  ·simp only [if_pos z] at e;cases e;exact ⟨z,rfl⟩
  ·simp only [if_neg z] at e;cases e
 | ty n=>cases e
 | tup ht l=>cases e;exact .inr (.inl ⟨_,ht.sq,by rw [l.isEmpty]⟩)
 | lv ht n l=>cases e;exact .inl ⟨_,SqL.of ht,by rw [l.isEmpty]⟩
 | ro ht l=>cases e;exact .inl ⟨_,ht.sq,by rw [l.isEmpty]⟩
 | dv ht n l=>cases e;exact .inr (.inr ⟨_,ht,by rw [l.isEmpty]⟩)
 | ob hn=>
  unfold sD at e;rename_i a n;cases q:h[n]? with
  | none=>simp only [q] at e;cases e
  | some o=>
   have x:=S.at_ n a o hn q;cases o with
   | lst ds=>simp only [q] at e;cases e;obtain ⟨vs,e1,l⟩:=x;exact .inl ⟨_,SqL.of e1,by rw [l.isEmpty]⟩
   | dct ds=>simp only [q] at e;cases e;obtain ⟨vs,e1,l⟩:=x;exact .inr (.inr ⟨_,e1,by rw [l.isEmpty]⟩)
theorem kG (ha:SE X a ma) (he:∀whole,isTrue a X.env whole=(do let v←whole;standAt a.pos;holding [v] (truthy v)):=by intro _;kernel_rfl):ST X a (qU ma):=(wJ ha he).imp fun σ H Q ⟨ρ,δ,h,c,h',R,S,e,k⟩=>by
 walk_at "ad";obtain ⟨c',e3,e4⟩:=mpd e2;cases e4;exact ⟨ρ,δ,h,x,h1,R,S,e1,fun v H' ⟨ρ',T,S',r⟩=>⟨c,tW S' r e3,k ρ' H' T S'⟩⟩
end
mutual
noncomputable def fh:D->D->Bool
 | .non,.non=>true
 | .bl a,.bl b=>a==b
 | .int a,.int b=>a==b
 | .str a,.str b=>decide (a=b)
 | .ty a,.ty b=>a==b
 | .tup a,.tup b=>nN a b
 | .lv a,.lv b=>nN a b
 | .ro a,.ro b=>nN a b
 | .dv a,.dv b=>qN a b
 | .ob a,.ob b=>a==b
 | _,_=>false
noncomputable def nN:List D->List D->Bool
 | [],[]=>true
 | a::r,b::s=>fh a b&&nN r s
 | _,_=>false
noncomputable def qN:List (Key×D)->List (Key×D)->Bool
 | [],[]=>true
 | (k,a)::r,(j,b)::s=>decide (k=j)&&fh a b&&qN r s
 | _,_=>false
end
mutual
theorem uG:∀(a b:D),fh a b=true->a=b
 | .non,b,h=>by cases b <;> first | rfl | simp [fh] at h
 | .bl x,b,h=>by cases b <;> simp [fh] at h;rw [h]
 | .int x,b,h=>by cases b <;> simp [fh] at h;rw [h]
 | .str x,b,h=>by cases b <;> simp [fh] at h;rw [h]
 | .ty x,b,h=>by cases b <;> simp [fh] at h;rw [h]
 | .ob x,b,h=>by cases b <;> simp [fh] at h;rw [h]
 | .tup x,b,h=>by cases b <;> simp [fh] at h;rw [km _ _ h]
 | .lv x,b,h=>by cases b <;> simp [fh] at h;rw [km _ _ h]
 | .ro x,b,h=>by cases b <;> simp [fh] at h;rw [km _ _ h]
 | .dv x,b,h=>by cases b <;> simp [fh] at h;rw [qM _ _ h]
theorem km:∀(a b:List D),nN a b=true->a=b
 | [],b,h=>by cases b <;> first | rfl | simp [nN] at h
 | x::r,b,h=>by
  cases b with
  | nil=>simp [nN] at h
  | cons y s=>simp [nN] at h;rw [uG _ _ h.1,km _ _ h.2]
theorem qM:∀(a b:List (Key×D)),qN a b=true->a=b
 | [],b,h=>by cases b <;> first | rfl | simp [qN] at h
 | (k,x)::r,b,h=>by
  cases b with
  | nil=>simp [qN] at h
  | cons y s=>
   obtain ⟨j,y⟩:=y;simp [qN] at h;rw [h.1.1,uG _ _ h.1.2,qM _ _ h.2]
end
mutual
theorem pE:∀(a:D),fh a a=true
 | .non=>rfl
 | .bl x=>by simp [fh]
 | .int x=>by simp [fh]
 | .str x=>by simp [fh]
 | .ty x=>by simp [fh]
 | .ob x=>by simp [fh]
 | .tup x=>by simp [fh];exact f7 x
 | .lv x=>by simp [fh];exact f7 x
 | .ro x=>by simp [fh];exact f7 x
 | .dv x=>by simp [fh];exact k9 x
theorem f7:∀(a:List D),nN a a=true
 | []=>rfl
 | x::r=>by simp [nN];exact ⟨pE x,f7 r⟩
theorem k9:∀(a:List (Key×D)),qN a a=true
 | []=>rfl
 | (k,x)::r=>by simp [qN];exact ⟨pE x,k9 r⟩
end
noncomputable def vF:MO->MO->Bool
 | .lst a,.lst b=>nN a b
 | .dct a,.dct b=>qN a b
 | _,_=>false
theorem uE (h:vF a b=true):a=b:=by
 cases a <;> cases b <;> simp [vF] at h
 ·rw [km _ _ h]
 ·rw [qM _ _ h]
theorem vE (a:MO):vF a a=true:=by
 cases a with
 | lst x=>exact f7 x
 | dct x=>exact k9 x
noncomputable def qO:MH->MH->Bool
 | [],[]=>true
 | a::r,b::s=>vF a b&&qO r s
 | _,_=>false
theorem uF:∀{a b:MH},qO a b=true->a=b
 | [],b,h=>by cases b <;> first | rfl | simp [qO] at h
 | x::r,b,h=>by
  cases b with
  | nil=>simp [qO] at h
  | cons y s=>simp [qO] at h;rw [uE h.1,uF h.2]
noncomputable def cc:SM:=fun δ h=>some (.nx,δ,h)
noncomputable def DZ:SM:=fun δ h=>some (.bk,δ,h)
noncomputable def CK:SM:=fun δ h=>some (.ct,δ,h)
noncomputable def sL:SM:=fun _ _=>none
noncomputable def ax (a b:SM):SM:=fun δ h=>(a δ h).bind fun r=>match r.1 with
 | .nx=>b r.2.1 r.2.2
 | _=>some r
noncomputable def aT (i:Nat) (e:EM):SM:=fun δ h=>(e δ h).bind fun p=>some (.nx,δ.set i (some p.1),p.2)
noncomputable def fO (e:EM) (g:GM):SM:=fun δ h=>(e δ h).bind fun p=>(g p.1 δ p.2).bind fun q=>some (.nx,q.1,q.2)
noncomputable def fu (e:EM):SM:=fun δ h=>(e δ h).bind fun p=>some (.nx,δ,p.2)
noncomputable def bo (e:EM):SM:=fun δ h=>(e δ h).bind fun p=>some (.rt p.1,δ,p.2)
noncomputable def sIf (t:TM) (a b:SM):SM:=fun δ h=>(t δ h).bind fun p=>if p.1 then a δ p.2 else b δ p.2
noncomputable def gN (i:Nat):GM:=fun d δ h=>some (δ.set i (some d),h)
abbrev GMs:=List D->DS->MH->Option (DS×MH)
noncomputable def cg:GMs:=fun ds δ h=>match ds with
 | []=>some (δ,h)
 | _=>none
noncomputable def aD (g:GM) (u:GMs):GMs:=fun ds δ h=>match ds with
 | []=>none
 | d::r=>(g d δ h).bind fun p=>u r p.1 p.2
noncomputable def gT (n:Nat) (u:GMs):GM:=fun d δ h=>match d with
 | .tup xs=>if xs.length=n then u xs δ h else none
 | _=>none
abbrev W:=List (Nat×MO)
abbrev IM:=DS->MH->Option (List D×W×MH)
noncomputable def chk:W->MH->Bool
 | [],_=>true
 | (n,o)::r,h=>(match h[n]? with | some u=>vF u o | none=>false)&&chk r h
noncomputable def j9 (ws:W) (g:GM) (b:SM):List D->SM
 | [],δ,h=>if chk ws h then some (.nx,δ,h) else none
 | x::r,δ,h=>if chk ws h then (g x δ h).bind fun q=>(b q.1 q.2).bind fun z=>match z.1 with
  | .nx=>j9 ws g b r z.2.1 z.2.2
  | .ct=>j9 ws g b r z.2.1 z.2.2
  | .bk=>some (.nx,z.2.1,z.2.2)
  | .rt d=>some (.rt d,z.2.1,z.2.2)
  else none
noncomputable def gX (i:IM) (g:GM) (b:SM):SM:=fun δ h=>(i δ h).bind fun p=>j9 p.2.1 g b p.1 δ p.2.2
section
variable {X:Cx} {a b c e tg iter:Expr} {es:List Expr} {st:Stmt} {sts rest:List Stmt} {pos:Pos} {ma mb:EM} {mt:TM} {ms mu:SM} {m:AM} {g:GM} {gs:GMs}
theorem aP:SSs X [] cc:=yJ.imp fun E σ H ⟨ρ,δ,h,fl,δ',h',R,S,e,k⟩=>by
 cases e;exact k ρ H (.refl _ _) S σ R
theorem qZ:SS X st sL:=wM.imp fun E σ H ⟨ρ,δ,h,fl,δ',h',R,S,e,k⟩=>by cases e
theorem Ap (hh:tMS X.K (ax ms mu) E σ H):Cs (tMS X.K ms) (tMS X.K mu) E σ H:=by
 obtain ⟨ρ,δ,h,fl,δ',h',R,S,e,k⟩:=hh;obtain ⟨⟨f1,δ1,h1⟩,e1,e2⟩:=bnd e;cases f1 with
 | nx=>exact ⟨ρ,δ,h,.nx,δ1,h1,R,S,e1,fun ρ1 H1 T1 S1 σ' R'=>⟨ρ1,δ1,h1,fl,δ',h',R',S1,e2,fun ρ2 H2 T2 S2=>k ρ2 H2 (T1.trans T2) S2⟩⟩
 | bk=>cases e2;exact ⟨ρ,δ,h,.bk,_,_,R,S,e1,fun ρ1 H1 T1 S1=>k ρ1 H1 T1 S1⟩
 | ct=>cases e2;exact ⟨ρ,δ,h,.ct,_,_,R,S,e1,fun ρ1 H1 T1 S1=>k ρ1 H1 T1 S1⟩
 | rt d=>cases e2;exact ⟨ρ,δ,h,.rt d,_,_,R,S,e1,fun ρ1 H1 T1 S1=>k ρ1 H1 T1 S1⟩
theorem ai (h1:SS X st ms) (h2:SSs X rest mu):SSs X (st::rest) (ax ms mu):=(wL h1 h2).imp fun _ _ _=>Ap
theorem ar (h1:SS X st ms):SSs X [st] ms:=yI h1
theorem wq (hh:tMS X.K (aT i ma) E σ H):yh (tM X.K ma) (rX i) E σ H:=by
 obtain ⟨ρ,δ,h,fl,δ',h',R,S,e,k⟩:=hh;walk_at "ad";cases e2;exact ⟨ρ,δ,h,x,h1,R,S,e1,fun v H1 ⟨ρ1,T1,S1,r1⟩=>k ρ1 H1 T1 S1 _ ((R.mono T1).set r1 i)⟩
theorem z6 (hN:X.N.Nodup) (hi:X.N[i]?=some x) (hx:Loc X.env.scope x) (he:SE X e ma) (hs:swapsWith e (some (.Name x pos')) pos.line X.env=pure false:=by kernel_rfl) (hf:X.fn x=true∨X.env.scope.names.lookup x=some .local:=by first | exact .inl rfl | exact .inr rfl | assumption):SS X (.Assign [.Name x pos'] e pos) (aT i ma):=(AE hN hi hx he hs hf).imp fun _ _ _=>wq
theorem ym (hN:X.N.Nodup) (hi:X.N[i]?=some x) (hx:Loc X.env.scope x) (hf:X.fn x=true∨X.env.scope.names.lookup x=some .local:=by first | exact .inl rfl | exact .inr rfl | assumption):SG X (.Name x pos) (gN i):=
 (yV hN hi hx hf).imp fun v σ H Q ⟨ρ,δ,h,d,δ',h',R,S,r,e,k⟩=>by
  cases e;exact k ρ H _ (.refl _ _) S (R.set r i)
inductive TMGsi (K:FR) (m:GMs) (vs:List V) (σ:L2.St) (H:Hp) (Q:L2.St->Hp->Prop):Prop where
 | mk (ρ δ h ds δ' h'):RepS K ρ H σ δ->Sim K ρ h H->RepL K ρ H vs ds->(m ds δ h=some (δ',h'))->(∀ρ' H' σ',Stp ρ H ρ' H'->Sim K ρ' h' H'->RepS K ρ' H' σ' δ'->Q σ' H')->TMGsi K m vs σ H Q
noncomputable def DV (K:FR) (m:GMs):TGs:=fun vs σ H Q=>TMGsi K m vs σ H Q
def SGs (X:Cx) (es:List Expr) (m:GMs):Prop:=PGs X es (DV X.K m)
theorem _root_.L2.PGs.imp {X:Cx} {e:List Expr} {t t':TGs} (h:PGs X e t) (i:∀v σ H Q,t' v σ H Q->t v σ H Q):PGs X e t':=fun pins s σ H v u Q I r q=>h pins s σ H v u Q I r (i v σ H Q q)
theorem bj:SGs X [] cg:=yT.imp fun v σ H Q ⟨ρ,δ,h,d,δ',h',R,S,r,e,k⟩=>by
 cases r with
 | nil=>cases e;exact ⟨rfl,k ρ H σ (.refl _ _) S R⟩
 | cons _ _=>cases e
theorem au (h1:SG X e g) (h2:SGs X es gs) (hs:(assignEach (e::es) X.env).map (·.2)=assign e X.env::(assignEach es X.env).map (·.2):=by kernel_rfl):SGs X (e::es) (aD g gs):=(wR h1 h2 hs).imp fun v σ H Q ⟨ρ,δ,h,d,δ',h',R,S,r,e,k⟩=>by
 cases r with
 | nil=>cases e
 | cons r rs=>
  obtain ⟨⟨δ1,h1⟩,e1,e2⟩:=bnd e;exact ⟨_,_,rfl,ρ,δ,h,_,δ1,h1,R,S,r,e1,fun ρ1 H1 σ1 T1 S1 R1=>⟨ρ1,δ1,h1,_,δ',h',R1,S1,rs.mono T1,e2,fun ρ2 H2 σ2 T2 S2 R2=>k ρ2 H2 σ2 (T1.trans T2) S2 R2⟩⟩
theorem bQ (hc:X.calm=true) (h:SGs X es gs) (hn:(assignEach es X.env).length=n:=by kernel_rfl) (hst:(assignEach es X.env).findIdx? (·.1)=none:=by kernel_rfl):SG X (.Tuple es k0 pos) (gT n gs):=
 (AJ hc h hn hst).imp fun v σ H Q ⟨ρ,δ,h,d,δ',h',R,S,r,e,k⟩=>by
  cases r <;> first | (exact absurd e (by intro z;cases z)) | skip
  rename_i a vs ds ht l _;unfold gT at e;dsimp only at e
  by_cases z:ds.length=n
  ·rw [if_pos z] at e;exact ⟨a,vs,rfl,ht.sq,by rw [l.length];exact z,ρ,δ,h,ds,δ',h',R,S,l,e,k⟩
  ·rw [if_neg z] at e;cases e
theorem cD (he:SE X e ma) (hg:SG X tg g) (hs:swapsWithSole [tg] e pos.line X.env=pure false:=by kernel_rfl) (hw:swappedStores [tg] e X.env=pure none:=by kernel_rfl)
  (h1:(assignEach [tg] X.env).map (·.2)=[assign tg X.env]:=by kernel_rfl):SS X (.Assign [tg] e pos) (fO ma g):=(AH he hg hs hw h1).imp fun E σ H ⟨ρ,δ,h,fl,δ',h',R,S,e,k⟩=>by
 walk_at "ad";obtain ⟨⟨δ2,h2⟩,e4,e3⟩:=bnd e2;cases e3;exact ⟨ρ,δ,h,x,h1,R,S,e1,fun v H1 ⟨ρ1,T1,S1,r1⟩=>⟨ρ1,δ,h1,x,_,_,R.mono T1,S1,r1,e4,fun ρ2 H2 σ2 T2 S2 R2=>k ρ2 H2 (T1.trans T2) S2 σ2 R2⟩⟩
theorem cV (he:SE X e ma) (hs:swapsWith e none pos.line X.env=pure false:=by kernel_rfl):SS X (.Expr e pos) (fu ma):=(yL he hs).imp fun E σ H ⟨ρ,δ,h,fl,δ',h',R,S,e,k⟩=>by
 walk_at "ad";cases e2;exact ⟨ρ,δ,h,x,h1,R,S,e1,fun v H1 ⟨ρ1,T1,S1,r1⟩=>k ρ1 H1 T1 S1 σ (R.mono T1)⟩
theorem aE (he:SE X e ma):SS X (.Return (some e) pos) (bo ma):=(AF he).imp fun E σ H ⟨ρ,δ,h,fl,δ',h',R,S,e,k⟩=>by
 walk_at "ad";cases e2;exact ⟨ρ,δ,h,x,h1,R,S,e1,fun v H1 ⟨ρ1,T1,S1,r1⟩=>k ρ1 H1 T1 S1 v r1⟩
theorem ba (hc:ST X c mt) (ha:SSs X sa ms) (hb:SSs X sb mu):SS X (.If c sa sb pos) (sIf mt ms mu):=(C0 hc ha hb).imp fun E σ H ⟨ρ,δ,h,fl,δ',h',R,S,e,k⟩=>by
 walk_at "ad";refine ⟨ρ,δ,h,x,h1,R,S,e1,fun ρ1 H1 T1 S1=>?_⟩;cases x with
 | true=>rw [if_pos rfl] at e2 ⊢;exact ⟨ρ1,δ,h1,fl,δ',h',R.mono T1,S1,e2,fun ρ2 H2 T2 S2=>k ρ2 H2 (T1.trans T2) S2⟩
 | false=>rw [if_neg (by simp)] at e2 ⊢;exact ⟨ρ1,δ,h1,fl,δ',h',R.mono T1,S1,e2,fun ρ2 H2 T2 S2=>k ρ2 H2 (T1.trans T2) S2⟩
structure ItS (K:FR) (J:It) (ρ:Ad) (H:Hp) (ws:W) (xs:List D):Prop where
 run:∀ρ1 H1 h1,Ch ρ H ρ1 H1->Sim K ρ1 h1 H1->chk ws h1=true->∀i:Nat,(xs.length≤i->J.stop i H1)∧∀x,xs[i]?=some x->J.go i H1∧∀v H2,J.yld i H1 v H2->Stp ρ1 H1 ρ1 H2∧Sim K ρ1 h1 H2∧Rep K ρ1 H2 v x
inductive TMIi (K:FR) (m:IM) (σ:L2.St) (H:Hp) (R:It->Hp->Prop):Prop where
 | mk (ρ δ h xs ws h'):RepS K ρ H σ δ->Sim K ρ h H->(m δ h=some (xs,ws,h'))->(∀J ρ1 H1,Stp ρ H ρ1 H1->Sim K ρ1 h' H1->ItS K J ρ1 H1 ws xs->R J H1)->TMIi K m σ H R
def tMI (K:FR) (m:IM):TI:=fun σ H R=>TMIi K m σ H R
def SI (X:Cx) (tg iter:Expr) (m:IM):Prop:=PI X tg iter (tMI X.K m)
theorem _root_.L2.PI.imp (h:PI X tg e t) (i:∀σ H Q,t' σ H Q->t σ H Q):PI X tg e t':=fun pins s σ H R I q=>h pins s σ H R I (i σ H R q)
theorem Aq (hh:tMS X.K (gX mi g ms) E σ H):Cw (tMI X.K mi) (tMG X.K g) (tMS X.K ms) E σ H:=by
 obtain ⟨ρ,δ,h,fl,δ',h',R,S,e,k⟩:=hh;obtain ⟨⟨xs,ws,h1⟩,e1,e2⟩:=bnd e;refine ⟨ρ,δ,h,xs,ws,h1,R,S,e1,fun J ρ1 H1 T1 S1 It=>?_⟩;refine ⟨fun i m σ2 H2=>∃ρ2 δ2 h2,m=xs.length-i∧i≤xs.length∧Stp ρ1 H1 ρ2 H2∧RepS X.K ρ2 H2 σ2 δ2∧Sim X.K ρ2 h2 H2∧j9 ws g ms (xs.drop i) δ2 h2=some (fl,δ',h'),⟨_,ρ1,δ,h1,rfl,Nat.zero_le _,.refl _ _,R.mono T1,S1,e2⟩,?_⟩;rintro i m σ2 H2 ⟨ρ2,δ2,h2,rfl,hi,T2,R2,S2,e3⟩;cases q:xs.drop i with
 | nil=>
  rw [q] at e3;unfold j9 at e3
  by_cases hc:chk ws h2=true
  ·rw [if_pos hc] at e3;cases e3;have hl:xs.length≤i:=by have:=congrArg List.length q;rw [List.length_drop,List.length_nil] at this;lia
   exact .inl ⟨(It.run ρ2 H2 _ T2 S2 hc i).1 hl,k ρ2 H2 (T1.trans T2) S2 σ2 R2⟩
  ·rw [if_neg hc] at e3;cases e3
 | cons x r=>
  rw [q] at e3;unfold j9 at e3
  by_cases hc:chk ws h2=true
  ·rw [if_pos hc] at e3;have hx:xs[i]?=some x:=by
    have:=congrArg (fun l=>l[0]?) q
    simpa using this
   have hlt:i < xs.length:=(List.getElem?_eq_some_iff.mp hx).1;have hr:xs.drop (i+1)=r:=by
    have:=congrArg List.tail q
    simpa using this
   obtain ⟨⟨δ3,h3⟩,e4,e5⟩:=bnd e3;obtain ⟨⟨f4,δ4,h4⟩,e6,e7⟩:=bnd e5;obtain ⟨hgo,hy⟩:=(It.run ρ2 H2 h2 T2 S2 hc i).2 x hx;have NN:∀ρ5 H5 σ5,Stp ρ2 H2 ρ5 H5->Sim X.K ρ5 h4 H5->RepS X.K ρ5 H5 σ5 δ4->j9 ws g ms r δ4 h4=some (fl,δ',h')->
     ∃m',m' < xs.length-i∧(∃ρ2 δ2 h2,m'=xs.length-(i+1)∧i+1≤xs.length∧Stp ρ1 H1 ρ2 H5∧RepS X.K ρ2 H5 σ5 δ2∧Sim X.K ρ2 h2 H5∧j9 ws g ms (xs.drop (i+1)) δ2 h2=some (fl,δ',h')):=
    fun ρ5 H5 σ5 T5 S5 R5 e8=>⟨xs.length-(i+1),by lia,ρ5,δ4,h4,rfl,hlt,T2.trans T5,R5,S5,by rw [hr];exact e8⟩
   refine .inr ⟨hgo,fun σ5 H5=>∃ρ5,Stp ρ2 H2 ρ5 H5∧Sim X.K ρ5 h4 H5∧RepS X.K ρ5 H5 σ5 δ4∧j9 ws g ms r δ4 h4=some (fl,δ',h'),fun σ5 H5 ⟨ρ5,T5,S5,R5,e8⟩=>NN ρ5 H5 σ5 T5 S5 R5 e8,fun v H3 y3=>?_⟩;obtain ⟨T3,S3,r3⟩:=hy v H3 y3;refine ⟨ρ2,δ2,h2,x,δ3,h3,R2.mono T3,S3,r3,e4,fun ρ4 H4 σ4 T4 S4 R4=>?_⟩;refine ⟨ρ4,δ3,h3,f4,δ4,h4,R4,S4,e6,fun ρ5 H5 T5 S5=>?_⟩;have T25:Stp ρ2 H2 ρ5 H5:=T3.trans (T4.trans T5);cases f4 with
   | nx=>exact fun σ' R'=>⟨ρ5,T25,S5,R',e7⟩
   | ct=>exact fun σ' R'=>⟨ρ5,T25,S5,R',e7⟩
   | bk=>cases e7;exact fun σ' R'=>k ρ5 H5 (T1.trans (T2.trans T25)) S5 σ' R'
   | rt d=>cases e7;exact fun v r=>k ρ5 H5 (T1.trans (T2.trans T25)) S5 v r
  ·rw [if_neg hc] at e3;cases e3
theorem cY (hp:PassesOwn (model X.prog X.w) X.A X.env X.xe) (hc:X.calm=true) (hi:SI X tg iter mi) (hg:SG X tg g) (hb:SSs X body ms) (hs:∀x,foldedSetIterable iter X.env x=pure x:=by intro _;kernel_rfl):SS X (.For tg iter body [] pos) (gX mi g ms):=
 (AG hp hc hi hg hb hs).imp fun _ _ _=>Aq
end
end Sm
namespace L2
open PySem PySem.Spec PyProof.Rows
theorem AI (hl:PE X l tl):PI X tg l (fun σ H R=>tl σ H fun x H1=>∃a,x=.ref a∧(((∃xs,SqL X.K H1 a xs)∧R (Itl X.K a) H1)∨((∃xs,SqT X.K H1 a xs)∧R (Itt X.K a) H1))):=by
 intro pins s σ H R I h;refine thn (hl pins s σ H _ I h) fun v s1 ⟨x,H1,I1,r1,q1⟩=>?_;obtain ⟨a,e,q1⟩:=q1;subst e;cases r1;rcases q1 with ⟨⟨xs,hq⟩,q⟩ | ⟨⟨xs,hq⟩,q⟩
 ·obtain ⟨its,rv,p,hz⟩:=I1.list hq;refine wpAny_pyIter_list p.isList ?_;refine ⟨s1.heap.objs.size,[s1.heap.objs.size],_,_,H1,rfl,I1.kept (t':=s1.toks) fun b o e=>Heap.get?_push_of_some _ e,uJ a _,⟨_,Heap.get?_push_size _ rfl,rfl,rfl⟩,fun b hb=>?_,q⟩;have e:b=s1.heap.objs.size:=by simpa using hb
  subst e;exact I1.vj (Nat.le_refl _) (I1.hok.fresh (Nat.le_refl _))
 ·obtain ⟨its,rv,p,hz⟩:=I1.tuple hq;refine wpAny_pyIter_tuple (show s1.heap.IsTuple a its.toArray from p) ?_;refine ⟨s1.heap.objs.size,[s1.heap.objs.size],_,_,H1,rfl,I1.kept (t':=s1.toks) fun b o e=>Heap.get?_push_of_some _ e,sA a _,⟨_,Heap.get?_push_size _ rfl,rfl,rfl⟩,fun b hb=>?_,q⟩;have e:b=s1.heap.objs.size:=by simpa using hb
  subst e;exact I1.vj (Nat.le_refl _) (I1.hok.fresh (Nat.le_refl _))
end L2
namespace Sm
open PySem L2
noncomputable def cZ (d:D) (h:MH):Option (List D×W):=match d with
 | .lv xs=>some (xs,[])
 | .ro xs=>some (xs,[])
 | .tup xs=>some (xs,[])
 | .ob n=>match h[n]? with
  | some (.lst xs)=>some (xs,[(n,.lst xs)])
  | _=>none
 | _=>none
noncomputable def cU (e:EM):IM:=fun δ h=>(e δ h).bind fun p=>(cZ p.1 p.2).map fun q=>(q.1,q.2,p.2)
noncomputable def lU (m:AM):IM:=fun δ h=>(m δ h).bind fun p=>match p.1 with
 | [.int j]=>if -(2^62)≤j∧j < 2^62 then some ((List.range j.toNat).map fun (k:Nat)=>D.int (k:Int),[],p.2) else none
 | [.int i,.int j]=>if -(2^62)≤i∧i < 2^62∧-(2^62)≤j∧j < 2^62 then some ((List.range (j-i).toNat).map fun (k:Nat)=>D.int (i+(k:Int)),[],p.2) else none
 | _=>none
theorem tq (hl:∀ρ1 H1 h1,Ch ρ H ρ1 H1->Sim K ρ1 h1 H1->chk ws h1=true->∃vs,RepL K ρ1 H1 vs xs∧(∀i:Nat,vs.length≤i->J.stop i H1)∧∀(i:Nat) v,vs[i]?=some v->J.go i H1∧∀u H2,J.yld i H1 u H2->H2=H1∧u=v):ItS K J ρ H ws xs:=by
 refine ⟨fun ρ1 H1 h1 T S hc i=>?_⟩;obtain ⟨vs,l,s1,s2⟩:=hl ρ1 H1 h1 T S hc;refine ⟨fun hi=>s1 i (by rw [l.length];exact hi),fun x hx=>?_⟩;obtain ⟨v,hv,r⟩:=l.got hx;obtain ⟨g,y⟩:=s2 i v hv;refine ⟨g,fun u H2 yy=>?_⟩;obtain ⟨rfl,rfl⟩:=y u H2 yy;exact ⟨.refl _ _,S,r⟩
theorem BH (hl:∀ρ1 H1 h1,Ch ρ H ρ1 H1->Sim K ρ1 h1 H1->chk ws h1=true->∃vs,RepL K ρ1 H1 vs xs∧SqL K H1 a vs):ItS K (Itl K a) ρ H ws xs:=
 tq fun ρ1 H1 h1 T S hc=>by
  obtain ⟨vs,l,q⟩:=hl ρ1 H1 h1 T S hc;refine ⟨vs,l,fun i hi=>⟨vs,q,hi⟩,fun i v hv=>⟨⟨vs,v,q,hv⟩,fun u H2 ⟨e,y⟩=>⟨e,?_⟩⟩⟩;have:=y vs q;rw [hv] at this;exact (Option.some.inj this).symm
theorem BF (hl:∀ρ1 H1 h1,Ch ρ H ρ1 H1->Sim K ρ1 h1 H1->chk ws h1=true->∃vs,RepL K ρ1 H1 vs xs∧SqT K H1 a vs):ItS K (Itt K a) ρ H ws xs:=
 tq fun ρ1 H1 h1 T S hc=>by
  obtain ⟨vs,l,q⟩:=hl ρ1 H1 h1 T S hc;refine ⟨vs,l,fun i hi=>⟨vs,q,hi⟩,fun i v hv=>⟨⟨vs,v,q,hv⟩,fun u H2 ⟨e,y⟩=>⟨e,?_⟩⟩⟩;have:=y vs q;rw [hv] at this;exact (Option.some.inj this).symm
theorem zz (hc:chk [(n,o)] h=true):h[n]?=some o:=by
 unfold chk at hc;cases q:h[n]? with
 | none=>rw [q] at hc;cases hc
 | some u=>
  rw [q] at hc;simp [chk] at hc;rw [uE hc]
inductive SeqAt (K:FR) (H:Hp) (a:Addr) (vs:List V):Bool->Prop where
 | l:SqL K H a vs->SeqAt K H a vs true
 | t:SqT K H a vs->SeqAt K H a vs false
noncomputable def tu:D->Bool
 | .tup _=>false
 | _=>true
theorem mG (S:Sim K ρ h H) (r:Rep K ρ H v d) (e:cZ d h=some (xs,ws)):∃a,v=.ref a∧(∃vs,SeqAt K H a vs (tu d)∧RepL K ρ H vs xs)∧
  ∀ρ1 H1 h1,Ch ρ H ρ1 H1->Sim K ρ1 h1 H1->chk ws h1=true->∃vs,RepL K ρ1 H1 vs xs∧SeqAt K H1 a vs (tu d):=by
 cases r with
 | tup ht l=>
  cases e;refine ⟨_,rfl,⟨_,.t ht.sq,l⟩,fun ρ1 H1 h1 T S1 _=>?_⟩;cases (Rep.tup ht l).mono T with
  | tup h1 l1=>exact ⟨_,l1,.t h1.sq⟩
 | lv ht n l=>
  cases e;refine ⟨_,rfl,⟨_,.l (SqL.of ht),l⟩,fun ρ1 H1 h1 T S1 _=>?_⟩;cases (Rep.lv ht n l).mono T with
  | lv h1 _ l1=>exact ⟨_,l1,.l (SqL.of h1)⟩
 | ro ht l=>
  cases e;refine ⟨_,rfl,⟨_,.l ht.sq,l⟩,fun ρ1 H1 h1 T S1 _=>?_⟩;cases (Rep.ro ht l).mono T with
  | ro h1 l1=>exact ⟨_,l1,.l h1.sq⟩
 | @ob a n hn=>
  unfold cZ at e;dsimp only at e;cases q:h[n]? with
  | none=>rw [q] at e;cases e
  | some o=>
   rw [q] at e;cases o with
   | dct _=>cases e
   | lst ys=>
    cases e;obtain ⟨vs,e1,l⟩:=S.at_ n a _ hn q;refine ⟨a,rfl,⟨vs,.l (SqL.of e1),l⟩,fun ρ1 H1 h1 T S1 hc=>?_⟩;obtain ⟨us,e2,l2⟩:=S1.at_ n a _ (T.pre n a hn) (zz hc);exact ⟨us,l2,.l (SqL.of e2)⟩
 | non=>cases e
 | bl b=>cases e
 | int i=>cases e
 | str x=>cases e
 | ty x=>cases e
 | dv _ _ _=>cases e
section
variable {X:Cx} {a b c e tg iter:Expr} {es:List Expr} {pos:Pos} {ma mb:EM} {mt:TM} {ms mu:SM} {m:AM} {g:GM} {gs:GMs}
theorem cn (h:SE X e ma):SI X tg e (cU ma):=(AI h).imp fun σ H Q ⟨ρ,δ,h,xs,ws,h',R,S,e,k⟩=>by
 walk_at "ad";obtain ⟨⟨ys,w⟩,e3,e4⟩:=mpd e2;cases e4;refine ⟨ρ,δ,h,x,h1,R,S,e1,fun v H1 ⟨ρ1,T1,S1,r1⟩=>?_⟩;obtain ⟨a,rfl,⟨vs,q,l⟩,st⟩:=mG S1 r1 e3;refine ⟨a,rfl,?_⟩;generalize tu x=b at q st;cases q with
 | l q=>exact .inl ⟨⟨vs,q⟩,k _ ρ1 H1 T1 S1 (BH fun ρ2 H2 h2 T2 S2 hc=>by obtain ⟨us,l2,q2⟩:=st ρ2 H2 h2 T2 S2 hc;cases q2 with | l q2=>exact ⟨us,l2,q2⟩)⟩
 | t q=>exact .inr ⟨⟨vs,q⟩,k _ ρ1 H1 T1 S1 (BF fun ρ2 H2 h2 T2 S2 hc=>by obtain ⟨us,l2,q2⟩:=st ρ2 H2 h2 T2 S2 hc;cases q2 with | t q2=>exact ⟨us,l2,q2⟩)⟩
theorem kM:∀(ns:List Int),RepL K ρ H (ns.map V.int) (ns.map D.int)
 | []=>.nil
 | _::r=>.cons (.int _) (kM r)
theorem BG (lo:Int) (n:Nat):ItS K (Itr lo n) ρ H [] ((List.range n).map fun (k:Nat)=>D.int (lo+(k:Int))):=by
 refine tq fun ρ1 H1 h1 T S hc=>⟨(List.range n).map fun (k:Nat)=>V.int (lo+(k:Int)),?_,fun i hi=>?_,fun i v hv=>?_⟩
 ·have:=kM (K:=K) (ρ:=ρ1) (H:=H1) ((List.range n).map fun (k:Nat)=>lo+(k:Int));rw [List.map_map,List.map_map] at this;exact this
 ·rw [List.length_map,List.length_range] at hi;exact hi
 ·rw [List.getElem?_map] at hv;obtain ⟨j,e1,e2⟩:=mpd hv;obtain ⟨hlt,e3⟩:=List.getElem?_eq_some_iff.mp e1;rw [List.length_range] at hlt;rw [List.getElem_range] at e3;subst e3;subst e2;exact ⟨hlt,fun u H2 ⟨p,q⟩=>⟨p,q⟩⟩
theorem uS (l:RepL K ρ H vs [.int j]):vs=[.int j]:=by
 cases l with
 | cons r l=>cases l;cases r;rfl
theorem cy (hg:Gl X "range") (hm:X.mg "range"=none) (ha:SA X [a] m) (hs:starEach [a] X.env=[(false,eval a X.env)]:=by kernel_rfl) (hl:ll m 1):SI X tg (.Call (.Name "range" p) [a] [] pos) (lU m):=
 (uU hg hm ha hs).imp fun σ H Q ⟨ρ,δ,h,xs,ws,h',R,S,e,k⟩=>by
  walk_at "ad";refine ⟨ρ,δ,h,x,h1,R,S,e1,fun vs ρ1 H1 T1 S1 r1=>?_⟩
  match x,hl _ _ _ _ e1,e2,r1 with
  | [d],hl1,e2,r1=>
   cases d <;> first | exact absurd e2 (by intro z;cases z) | skip
   rename_i j;dsimp only at e2
   by_cases z:-(2^62)≤j∧j < 2^62
   ·rw [if_pos z] at e2;cases e2;refine ⟨j,uS r1,z.1,z.2,k _ ρ1 H1 T1 S1 ?_⟩;have:=BG (K:=X.K) (ρ:=ρ1) (H:=H1) 0 j.toNat
    simpa using this
   ·rw [if_neg z] at e2;cases e2
noncomputable def kl (caps:List (Option Nat)) (δ:DS):DS:=caps.map fun o=>o.bind fun i=>(δ[i]?).join
noncomputable def cN:TM:=fun _ h=>some (true,h)
noncomputable def bG (ws:W) (g:GM) (c:TM) (e:EM):List D->DS->MH->Option (List D×MH)
 | [],_,h=>if chk ws h then some ([],h) else none
 | x::r,δ,h=>if chk ws h then (g x δ h).bind fun q=>(c q.1 q.2).bind fun t=>if t.1 then (e q.1 t.2).bind fun y=>(bG ws g c e r q.1 y.2).map fun z=>(y.1::z.1,z.2) else bG ws g c e r q.1 t.2 else none
noncomputable def bC (caps:List (Option Nat)) (i:IM) (g:GM) (c:TM) (e:EM):AM:=fun δ h=>(i δ h).bind fun p=>(bG p.2.1 g c e p.1 (kl caps δ) p.2.2).bind fun q=>if q.1.length≤sizeLine then some q else none
theorem RepS.ow (R:RepS K ρ H σ δ) (caps:List (Option Nat)):RepS K ρ H (ow caps σ) (kl caps δ):=by
 refine ⟨by simp [L2.ow,kl],fun i d hd=>?_⟩;unfold kl at hd;rw [List.getElem?_map] at hd;obtain ⟨o,e1,e2⟩:=mpd hd;cases o with
 | none=>cases e2
 | some j=>
  have e3:δ[j]?=some (some d):=Option.join_eq_some_iff.mp e2;obtain ⟨v,ev,r⟩:=R.at_ j d e3;refine ⟨v,?_,r⟩;unfold L2.ow;rw [List.getElem?_map,e1];simp [ev]
def SIf (X:Cx) (ifs:List Expr) (m:TM):Prop:=PIf X ifs (tMT X.K m)
theorem cF:SIf X [] cN:=fun pins s σ H Q I hh=>by
 obtain ⟨ρ,δ,h,b,h',R,S,e,k⟩:=hh;cases e;exact yR pins s σ H Q I (k ρ H (.refl _ _) S)
theorem jN (h:ST X c mt):SIf X [c] mt:=yQ h
theorem t8 (hh:tM X.K (eLv (bC caps mi g mt ma)) σ H Q):vR caps (tMI X.K mi) (tMG X.K g) (tMT X.K mt) (tM X.K ma) σ H Q:=by
 obtain ⟨ρ,δ,h,d,h',R,S,ee,k⟩:=hh;obtain ⟨⟨out,h0⟩,ea,e0⟩:=mpd ee;cases e0;obtain ⟨⟨xs,ws,h1⟩,e1,eb⟩:=bnd ea;obtain ⟨⟨ys,h2⟩,e2,e3⟩:=bnd eb;dsimp only at e2 e3
 by_cases hz:ys.length≤sizeLine
 ·rw [if_pos hz] at e3;cases e3;refine ⟨ρ,δ,h,xs,ws,h1,R,S,e1,fun J ρ1 H1 T1 S1 It l hl=>?_⟩;have nl:¬ρ1.has l:=S1.fresh hl;have Tl:Ch ρ1 H1 (ρ1.keep l) (upd H1 l (.lst [])):=Ch.keep hl;refine ⟨fun i m τ2 H2=>∃(ob2:List Addr) (δ2:DS) (h2:MH) (vs:List V) (as bs:List D),m=xs.length-i∧i≤xs.length∧Ch ρ1 H1 ⟨ob2,l::ρ1.rs⟩ H2∧(∀b∈ρ1.rs,H2 b=H1 b)∧RepS X.K ⟨ob2,l::ρ1.rs⟩ H2 τ2 δ2∧Sim X.K ⟨ob2,l::ρ1.rs⟩ h2 H2∧
    H2 l=some (.lst vs)∧RepL X.K ⟨ob2,l::ρ1.rs⟩ H2 vs as∧out=as++bs∧bG ws g mt ma (xs.drop i) δ2 h2=some (bs,h0),
   ⟨_,ρ1.ob,kl caps δ,h1,[],[],out,rfl,Nat.zero_le _,Tl,fun b hb=>aJ fun z=>nl (.inr (z ▸ hb)),((R.mono T1).ow caps).mono Tl,S1.keep hl,a9,.nil,rfl,e2⟩,?_⟩
  rintro i m τ2 H2 ⟨ob2,δ2,h2,vs,as,bs,rfl,hi,T2,rs2,R2,S2,hl2,l2,eo,e3⟩;have hsub:∀b∈ρ1.rs,b∈l::ρ1.rs:=fun b hb=>List.mem_cons_of_mem _ hb;have C2:Ch ⟨ob2,l::ρ1.rs⟩ H2 ⟨ob2,ρ1.rs⟩ H2:=Ch.free hsub;have T2':Stp ρ1 H1 ⟨ob2,ρ1.rs⟩ H2:=⟨T2.trans C2,rfl,rs2⟩;have S2':Sim X.K ⟨ob2,ρ1.rs⟩ h2 H2:=S2.free hsub;cases q:xs.drop i with
  | nil=>
   rw [q] at e3;unfold bG at e3
   by_cases hc:chk ws h2=true
   ·rw [if_pos hc] at e3;cases e3;rw [List.append_nil] at eo;subst eo;have hle:xs.length≤i:=by have:=congrArg List.length q;rw [List.length_drop,List.length_nil] at this;lia
    refine .inl ⟨(It.run _ H2 _ T2 S2 hc i).1 hle,k _ _ ⟨_,T1.trans T2',S2',.lv hl2 (fun z=>?_) (l2.mono C2)⟩⟩;rcases z with z | z
    ·exact (S2.rsv l List.mem_cons_self).2 z
    ·exact nl (.inr z)
   ·rw [if_neg hc] at e3;cases e3
  | cons x r=>
   rw [q] at e3;unfold bG at e3
   by_cases hc:chk ws h2=true
   ·rw [if_pos hc] at e3;have hx:xs[i]?=some x:=by
     have:=congrArg (fun l=>l[0]?) q
     simpa using this
    have hlt:i < xs.length:=(List.getElem?_eq_some_iff.mp hx).1;have hr:xs.drop (i+1)=r:=by
     have:=congrArg List.tail q
     simpa using this
    obtain ⟨⟨δ3,h3⟩,e4,e5⟩:=bnd e3;obtain ⟨⟨t,h4⟩,e6,e7⟩:=bnd e5;dsimp only at e4 e5 e6 e7;obtain ⟨hgo,hy⟩:=(It.run _ H2 h2 T2 S2 hc i).2 x hx;refine .inr ⟨hgo,fun τ5 H5=>∃(ob5:List Addr) (h5:MH) (vs:List V) (as bs:List D),Ch ρ1 H1 ⟨ob5,l::ρ1.rs⟩ H5∧(∀b∈ρ1.rs,H5 b=H1 b)∧RepS X.K ⟨ob5,l::ρ1.rs⟩ H5 τ5 δ3∧Sim X.K ⟨ob5,l::ρ1.rs⟩ h5 H5∧
     H5 l=some (.lst vs)∧RepL X.K ⟨ob5,l::ρ1.rs⟩ H5 vs as∧out=as++bs∧bG ws g mt ma r δ3 h5=some (bs,h0),?_,?_⟩
    ·rintro τ5 H5 ⟨ob5,h5,vs5,as5,bs5,T5,rs5,R5,S5,hl5,l5,eo5,e5⟩;exact ⟨xs.length-(i+1),by lia,ob5,δ3,h5,vs5,as5,bs5,rfl,hlt,T5,rs5,R5,S5,hl5,l5,eo5,by rw [hr];exact e5⟩
    ·intro v H3 y3;obtain ⟨T3,S3,r3⟩:=hy v H3 y3;refine ⟨⟨ob2,l::ρ1.rs⟩,δ2,h2,x,δ3,h3,R2.mono T3,S3,r3,e4,fun ρ4 H4 τ4 T4 S4 R4=>?_⟩;refine ⟨ρ4,δ3,h3,t,h4,R4,S4,e6,fun ρ5 H5 T5 S5=>?_⟩;have T25:Stp ⟨ob2,l::ρ1.rs⟩ H2 ρ5 H5:=T3.trans (T4.trans T5);obtain ⟨ob5,rs5⟩:=ρ5;have ers:rs5=l::ρ1.rs:=T25.rs;subst ers;cases t with
     | false=>
      rw [if_neg (by simp)] at e7;refine Dq ?_;exact ⟨ob5,h4,vs,as,bs,T2.trans T25.toCh,fun b hb=>(T25.res b (hsub b hb)).trans (rs2 b hb),R4.mono T5,S5,(T25.res l List.mem_cons_self).trans hl2,l2.mono T25.toCh,eo,e7⟩
     | true=>
      rw [if_pos rfl] at e7;refine Dp ?_;obtain ⟨⟨y,h6⟩,e8,e9⟩:=bnd e7;obtain ⟨⟨zs,h7⟩,e10,e11⟩:=mpd e9;cases e11;refine ⟨⟨ob5,l::ρ1.rs⟩,δ3,h4,y,h6,R4.mono T5,S5,e8,fun u H6 ⟨ρ6,T6,S6,r6⟩=>?_⟩;have T26:Stp ⟨ob2,l::ρ1.rs⟩ H2 ρ6 H6:=T25.trans T6;obtain ⟨ob6,rs6⟩:=ρ6;have ers:rs6=l::ρ1.rs:=T26.rs;subst ers;have hl6:H6 l=some (.lst vs):=(T26.res l List.mem_cons_self).trans hl2;have hml:l∈(⟨ob6,l::ρ1.rs⟩:Ad).rs:=List.mem_cons_self;have hlen:vs.length < sizeLine:=by
       have h1:=l2.length;have h2:=congrArg List.length eo;rw [List.length_append,List.length_cons] at h2
       lia
      have Cp:Ch ⟨ob6,l::ρ1.rs⟩ H6 ⟨ob6,l::ρ1.rs⟩ (upd H6 l (.lst (vs++[u]))):=Ch.put hml;refine ⟨vs,hl6,hlen,ob6,h6,vs++[u],as++[y],zs,(T2.trans T26.toCh).trans Cp,fun b hb=>?_,((R4.mono T5.toCh).mono T6.toCh).mono Cp,S6.put hml,a9,((l2.mono T26.toCh).snoc r6).mono Cp,by rw [eo];simp,e10⟩;rw [aJ (fun (z:b=l)=>nl (.inr (z ▸ hb)))];exact (T26.res b (hsub b hb)).trans (rs2 b hb)
   ·rw [if_neg hc] at e3;cases e3
 ·rw [if_neg hz] at e3;cases e3
end
end Sm
namespace Sm
open PySem L2 PySem.Spec PyProof.Rows
section
variable {X:Cx} {a b c e tg iter elt:Expr} {es:List Expr} {pos:Pos} {ma mb:EM} {mt:TM} {ms mu:SM} {m:AM} {g:GM} {gs:GMs}
theorem dg (C:CompScope X N' caps scope) (hc:X.calm=true) (hi:SI X tg iter mi) (hg:∀C s₃ H₃ fp pl,SG (blk X N' scope C s₃ H₃ fp pl) tg g) (hif:∀C s₃ H₃ fp pl,SIf (blk X N' scope C s₃ H₃ fp pl) ifs mt) (he:∀C s₃ H₃ fp pl,SE (blk X N' scope C s₃ H₃ fp pl) elt ma) (hs:∀x,foldedSetIterable iter X.env x=pure x:=by intro _;kernel_rfl):
  SE X (.ListComp elt [⟨tg,iter,ifs,0⟩] scope pos) (eLv (bC caps mi g mt ma)):=(wV (g:=tMG X.K g) (tc:=tMT X.K mt) (te:=tM X.K ma) C hc hi hg hif he hs).imp fun _ _ _=>t8
theorem ft (hN:X.N.Nodup) (hi':X.N[i]?=some y) (hy:X.env.scope.names.lookup y=some .local) (C:CompScope X N' caps scope) (hc:X.calm=true) (hi:SI X tg iter mi) (hg:∀C s₃ H₃ fp pl,SG (blk X N' scope C s₃ H₃ fp pl) tg g) (hif:∀C s₃ H₃ fp pl,SIf (blk X N' scope C s₃ H₃ fp pl) ifs mt) (he:∀C s₃ H₃ fp pl,SE (blk X N' scope C s₃ H₃ fp pl) elt ma) (hsw:swapsWith (.ListComp elt [⟨tg,iter,ifs,0⟩] scope pos) (some (.Name y py)) spos.line X.env=pure true:=by kernel_rfl) (hs:∀x,foldedSetIterable iter X.env x=pure x:=by intro _;kernel_rfl):
  SS X (.Assign [.Name y py] (.ListComp elt [⟨tg,iter,ifs,0⟩] scope pos) spos) (aT i (eLv (bC caps mi g mt ma))):=
 (wN (g:=tMG X.K g) (tc:=tMT X.K mt) (te:=tM X.K ma) hN hi' hy C hc hi hg hif he hsw hs).imp fun E σ H hh=>by
  have q:=wq hh;exact t8 q
end
inductive SPFi (K:FR) (n:Nat) (F:Fn) (vs:List V) (H:Hp) (Q:VK):Prop where
 | mk (ρ h ds d h'):Sim K ρ h H->RepL K ρ H vs ds->(ds.length=n)->(F ds h=some (d,h'))->(∀v H',dw K ρ H h' d v H'->Q v H')->SPFi K n F vs H Q
def spF (K:FR) (n:Nat) (F:Fn):Sp:=fun vs H Q _=>SPFi K n F vs H Q
theorem yq (G:FnOk X.prog X.w X.K X.mg X.base CX0 k f fd ps (spF X.K n F)) (hr:Room k X.A) (hg:Gl X x) (hm:X.mg x=some (.ref f)) (hk:PySem.W.keepIn X.K (.ref f)=true) (hb:Binds X.K fd ps [])
  (ha:SA X (e::es) m) (hl:ll m n) (hdb:(x==("__debug__":Str))=false:=by kernel_rfl) (he:starEach (e::es) X.env=(false,eval e X.env)::starEach es X.env:=by kernel_rfl) (hpl:(backTo pos (starEach es X.env)).any (·.1)=false:=by kernel_rfl):
  SE X (.Call (.Name x p) (e::es) [] pos) (eFn F m):=(yX (E:=E0) G hr hg hm hk hb .nil Dc ha hdb he hpl).imp fun σ H Q ⟨ρ,δ,h,d,h',R,S,e,q⟩=>by
 walk_at "al";show spF X.K n F (vs++[]) H1 Q E0;rw [List.append_nil];exact ⟨ρ1,h1,ds,d,h',S1,r1,hl _ _ _ _ e1,e2,fun v H' P=>q v H' (P.step T1)⟩
noncomputable def yw (r:Fl×DS×MH):Option (D×MH):=match r.1 with
 | .rt d=>some (d,r.2.2)
 | .nx=>some (.non,r.2.2)
 | _=>none
noncomputable def entry (len:Nat) (ds:List D):DS:=ds.map some++List.replicate (len-ds.length) none
noncomputable def mkF (len:Nat) (body:SM):Fn:=fun ds h=>(body (entry len ds) h).bind yw
theorem RepS.entry {K:FR} {ρ:Ad} {H:Hp} {vs:List V} {ds:List D} (N:List Str) (l:RepL K ρ H vs ds):RepS K ρ H (L2.start N vs) (Sm.entry N.length ds):=by
 refine ⟨by simp [L2.start,Sm.entry,l.length],fun i d hd=>?_⟩;unfold Sm.entry at hd;unfold L2.start
 by_cases hi:i < ds.length
 ·rw [List.getElem?_append_left (by simpa using hi),List.getElem?_map] at hd;obtain ⟨d',e1,e2⟩:=mpd hd;cases e2;obtain ⟨v,ev,r⟩:=l.got e1;refine ⟨v,?_,r⟩;rw [List.getElem?_append_left (by rw [List.length_map,l.length];exact hi),List.getElem?_map,ev];rfl
 ·rw [List.getElem?_append_right (by simpa using hi),List.getElem?_replicate] at hd
  split at hd <;> cases hd
section
variable {P:Program} {w:World} {K:FR} {mg:Str->Option Value} {base:Heap} {x qual:Str} {st:Stmt} {f:Addr} {fd:FuncData} {N ps:List Str} {k:Nat}
theorem a8 (F:Fun K x qual st f fd) (Sc:FnScope N ps (ay st)) (hb:∀(cdv:Value) (A:Around) (outer:List Env) (s:Shared) (H:Hp) (E:XK),Room k (A.deeper (envOfC qual (ay st) s.heap.objs.size f cdv))->SSs (tK CX0 P w K mg base N qual (ay st) f cdv A outer s H E).nox (gH st) body):
  FnOk P w K mg base CX0 (k+1) f fd ps (spF K ps.length (mkF N.length body)):=by
 refine F.ok Sc (fun vs H Q E h=>?_) (fun cdv A outer s H vs Q E hr h=>?_)
 ·obtain ⟨ρ,h,ds,d,h',S,r,hl,_⟩:=h;rw [r.length];exact hl
 ·obtain ⟨ρ,h,ds,d,h',S,r,hl,e,q⟩:=h;refine ⟨_,hb cdv A outer s H E hr,?_⟩;obtain ⟨⟨fl,δ1,h1⟩,e1,e2⟩:=bnd e;refine ⟨ρ,entry N.length ds,h,fl,δ1,h1,RepS.entry N r,S,e1,fun ρ1 H1 T1 S1=>?_⟩;cases fl with
  | nx=>cases e2;exact fun σ' R'=>q _ _ ⟨ρ1,T1,S1,.non⟩
  | rt d=>cases e2;exact fun v r=>q _ _ ⟨ρ1,T1,S1,r⟩
  | bk=>cases e2
  | ct=>cases e2
end
mutual
noncomputable def clD (n:Nat):D->Bool
 | .tup xs=>clL n xs
 | .lv xs=>clL n xs
 | .ro xs=>clL n xs
 | .dv kvs=>clK n kvs
 | .ob m=>decide (m < n)
 | _=>true
noncomputable def clL (n:Nat):List D->Bool
 | []=>true
 | x::r=>clD n x&&clL n r
noncomputable def clK (n:Nat):List (Key×D)->Bool
 | []=>true
 | (_,x)::r=>clD n x&&clK n r
end
noncomputable def clO (n:Nat):MO->Bool
 | .lst xs=>clL n xs
 | .dct kvs=>clK n kvs
abbrev Ad.cut (ρ:Ad) (n:Nat):Ad:=⟨ρ.ob.take n,ρ.rs⟩
theorem Ad.kg {ρ:Ad} {n:Nat} {a:Addr} (h:(ρ.cut n).has a):ρ.has a:=h.elim (fun m=>.inl (List.mem_of_mem_take m)) .inr
mutual
theorem Rep.cut {K:FR} {ρ:Ad} {H:Hp} {n:Nat}:∀{v:V} {d:D},Rep K ρ H v d->clD n d=true->Rep K (ρ.cut n) H v d
 | _,_,.non,_=>.non
 | _,_,.bl b,_=>.bl b
 | _,_,.int i,_=>.int i
 | _,_,.str x,_=>.str x
 | _,_,.ty n,_=>.ty n
 | _,_,.tup h l,c=>.tup (h.elim (fun ⟨a,n⟩=>.inl ⟨a,fun m=>n (Ad.kg m)⟩) .inr) (RepL.cut l (by simpa [clD] using c))
 | _,_,.lv h n l,c=>.lv h (fun m=>n (Ad.kg m)) (RepL.cut l (by simpa [clD] using c))
 | _,_,.ro h l,c=>.ro (h.elim (fun ⟨a,n⟩=>.inl ⟨a,fun m=>n (Ad.kg m)⟩) .inr) (RepL.cut l (by simpa [clD] using c))
 | _,_,.dv h n l,c=>.dv h (fun m=>n (Ad.kg m)) (RepK.cut l (by simpa [clD] using c))
 | _,_,.ob (n:=m) e,c=>.ob (by
   have hm:m < n:=by simpa [clD] using c
   show (ρ.ob.take n)[m]?=_;rw [List.getElem?_take_of_lt hm];exact e)
theorem RepL.cut {K:FR} {ρ:Ad} {H:Hp} {n:Nat}:∀{v:List V} {d:List D},RepL K ρ H v d->clL n d=true->RepL K (ρ.cut n) H v d
 | _,_,.nil,_=>.nil
 | _,_,.cons r l,c=>by
  simp only [clL,Bool.and_eq_true] at c;exact .cons (Rep.cut r c.1) (RepL.cut l c.2)
theorem RepK.cut {K:FR} {ρ:Ad} {H:Hp} {n:Nat}:∀{v:List (Key×V)} {d:List (Key×D)},RepK K ρ H v d->clK n d=true->RepK K (ρ.cut n) H v d
 | _,_,.nil,_=>.nil
 | _,_,.cons r l,c=>by
  simp only [clK,Bool.and_eq_true] at c;exact .cons (Rep.cut r c.1) (RepK.cut l c.2)
end
mutual
theorem Rep.clean {K:FR} {ρ:Ad} {H:Hp}:∀{v:V} {d:D},Rep K ρ H v d->clD ρ.ob.length d=true
 | _,_,.non=>rfl
 | _,_,.bl b=>rfl
 | _,_,.int i=>rfl
 | _,_,.str x=>rfl
 | _,_,.ty n=>rfl
 | _,_,.tup h l=>by simp [clD];exact RepL.clean l
 | _,_,.lv h n l=>by simp [clD];exact RepL.clean l
 | _,_,.ro h l=>by simp [clD];exact RepL.clean l
 | _,_,.dv h n l=>by simp [clD];exact RepK.clean l
 | _,_,.ob e=>by simp [clD];exact (List.getElem?_eq_some_iff.mp e).1
theorem RepL.clean {K:FR} {ρ:Ad} {H:Hp}:∀{v:List V} {d:List D},RepL K ρ H v d->clL ρ.ob.length d=true
 | _,_,.nil=>rfl
 | _,_,.cons r l=>by simp [clL];exact ⟨Rep.clean r,RepL.clean l⟩
theorem RepK.clean {K:FR} {ρ:Ad} {H:Hp}:∀{v:List (Key×V)} {d:List (Key×D)},RepK K ρ H v d->clK ρ.ob.length d=true
 | _,_,.nil=>rfl
 | _,_,.cons r l=>by simp [clK];exact ⟨Rep.clean r,RepK.clean l⟩
end
theorem ObR.cut {K:FR} {ρ:Ad} {H:Hp} {n:Nat} {a:Addr} {o:MO} (x:ObR K ρ H a o) (c:clO n o=true):ObR K (ρ.cut n) H a o:=by
 cases o with
 | lst ds=>obtain ⟨vs,e,l⟩:=x;exact ⟨vs,e,l.cut c⟩
 | dct ds=>obtain ⟨vs,e,l⟩:=x;exact ⟨vs,e,l.cut c⟩
theorem ObR.clean {K:FR} {ρ:Ad} {H:Hp} {a:Addr} {o:MO} (x:ObR K ρ H a o):clO ρ.ob.length o=true:=by
 cases o with
 | lst ds=>obtain ⟨vs,e,l⟩:=x;exact l.clean
 | dct ds=>obtain ⟨vs,e,l⟩:=x;exact l.clean
noncomputable def sE (n:Nat) (h:MH) (d:D):D:=match d with
 | .ob m=>if m < n then .ob m else match h[m]? with
  | some (.lst xs)=>.lv xs
  | some (.dct kvs)=>.dv kvs
  | none=>.ob m
 | d=>d
noncomputable def leave (h:MH) (d:D) (h':MH):Option (D×MH):=
 if clD h.length (sE h.length h' d)&&(qO (h'.take h.length) h||(h'.take h.length).all (clO h.length)) then some (sE h.length h' d,h'.take h.length) else none
noncomputable def mkL (len:Nat) (body:SM):Fn:=fun ds h=>((body (entry len ds) h).bind yw).bind fun p=>leave h p.1 p.2
theorem dw.leave {K:FR} {ρ:Ad} {H H':Hp} {h h1 h':MH} {d d':D} {v:V} (S:Sim K ρ h H) (p:dw K ρ H h1 d v H') (e:Sm.leave h d h1=some (d',h')):dw K ρ H h' d' v H':=by
 obtain ⟨ρ1,T,S1,r⟩:=p;unfold Sm.leave at e
 by_cases hc:(clD h.length (sE h.length h1 d)&&(qO (h1.take h.length) h||(h1.take h.length).all (clO h.length)))=true
 ·rw [if_pos hc] at e;cases e;rw [Bool.and_eq_true] at hc;obtain ⟨c1,c2⟩:=hc;have hle:h.length≤h1.length:=by
   rw [←S.len,←S1.len];refine Nat.le_of_not_lt fun hlt=>?_;have e1:ρ.ob[ρ1.ob.length]?=some ρ.ob[ρ1.ob.length]:=List.getElem?_eq_getElem hlt;have:=(List.getElem?_eq_some_iff.mp (T.pre _ _ e1)).1
   lia
  have hall:∀(m:Nat) o,m < h.length->h1[m]?=some o->clO h.length o=true:=by
   intro m o hm ho;rw [Bool.or_eq_true] at c2;rcases c2 with c2 | c2
   ·have e1:=uF c2;have e2:h[m]?=some o:=by rw [←e1,List.getElem?_take_of_lt hm];exact ho
    have hm':m < ρ.ob.length:=by rw [S.len];exact hm
    have:=(S.at_ m _ o (List.getElem?_eq_getElem hm') e2).clean;rw [S.len] at this;exact this
   ·rw [List.all_eq_true] at c2;exact c2 o (List.mem_of_getElem? (show (h1.take h.length)[m]?=some o by rw [List.getElem?_take_of_lt hm];exact ho))
  have Sc:Sim K (ρ1.cut h.length) (h1.take h.length) H':=by
   refine ⟨by simp [S1.len],S1.nd.sublist (List.take_sublist _ _),fun n a o e1 e2=>?_,fun b hb=>⟨(S1.rsv b hb).1,fun m=>(S1.rsv b hb).2 (List.mem_of_mem_take m)⟩⟩;have hn:n < h.length:=by
    have:=(List.getElem?_eq_some_iff.mp e2).1;rw [List.length_take] at this
    lia
   have e1:(ρ1.ob.take h.length)[n]?=some a:=e1;rw [List.getElem?_take_of_lt hn] at e1 e2;exact (S1.at_ n a o e1 e2).cut (hall n o hn e2)
  refine ⟨ρ1.cut h.length,⟨⟨fun n a e=>?_,fun b o n e=>?_⟩,T.rs,T.res⟩,Sc,?_⟩
  ·have hn:n < h.length:=by rw [←S.len];exact (List.getElem?_eq_some_iff.mp e).1
   show (ρ1.ob.take h.length)[n]?=some a;rw [List.getElem?_take_of_lt hn];exact T.pre n a e
  ·obtain ⟨n1,e1⟩:=T.old b o n e;exact ⟨fun m=>n1 (Ad.kg m),e1⟩
  ·cases d with
   | ob m=>
    unfold sE at c1 ⊢;dsimp only at c1 ⊢
    by_cases hm:m < h.length
    ·rw [if_pos hm] at c1 ⊢;exact r.cut c1
    ·rw [if_neg hm] at c1 ⊢;cases r with
     | ob hn=>
      rename_i a;have na:¬(ρ1.cut h.length).has a:=by
       intro z;rcases z with z | z
       ·obtain ⟨j,hj⟩:=List.getElem?_of_mem z;have hj1:j < h.length:=by
         have:=(List.getElem?_eq_some_iff.mp hj).1;rw [List.length_take] at this
         lia
        rw [List.getElem?_take_of_lt hj1] at hj;have:=(List.getElem?_inj (List.getElem?_eq_some_iff.mp hj).1 S1.nd).mp (hj.trans hn.symm)
        lia
       ·exact (S1.rsv a z).2 (List.mem_of_getElem? hn)
      cases q:h1[m]? with
      | none=>rw [q] at c1;exact absurd c1 (by simp [clD];lia)
      | some o=>
       have x:=S1.at_ m a o hn q;cases o with
       | lst xs=>
        rw [q] at c1;obtain ⟨vs,e1,l⟩:=x;exact .lv e1 na (l.cut (by simpa [clD] using c1))
       | dct xs=>
        rw [q] at c1;obtain ⟨vs,e1,l⟩:=x;exact .dv e1 na (l.cut (by simpa [clD] using c1))
   | _=>exact r.cut c1
 ·rw [if_neg hc] at e;cases e
section
variable {P:Program} {w:World} {K:FR} {mg:Str->Option Value} {base:Heap} {x qual:Str} {st:Stmt} {f:Addr} {fd:FuncData} {N ps:List Str} {k:Nat}
theorem dr (G:FnOk P w K mg base CX0 k f fd ps (spF K ps.length (mkF N.length body))):FnOk P w K mg base CX0 k f fd ps (spF K ps.length (mkL N.length body)):=by
 refine G.imp fun vs H Q E hh=>?_;obtain ⟨ρ,h,ds,d,h',S,r,hl,e,q⟩:=hh;obtain ⟨⟨d1,h1⟩,e1,e2⟩:=bnd e;exact ⟨ρ,h,ds,d1,h1,S,r,hl,e1,fun v H' p=>q v H' (p.leave S e2)⟩
end
def spT (K:FR):Sp:=fun vs H Q _=>∃(a:Addr) (ns:List Int),vs=[.ref a]∧SqL K H a (ns.map V.int)∧ns.length≤63∧∀H',Q (.bl true) H'
theorem zg {P:Program} {w:World} {K:FR} {mg:Str->Option Value} {base:Heap} {k:Nat} {f:Addr} {fd:FuncData} {ps:List Str} {F:Fn} (G:FnOk P w K mg base CX0 k f fd ps (spF K 1 F))
  (hF:∀ns:List Int,ns.length≤63->∃h',F [.ro (ns.map D.int)] []=some (.bl true,h')):FnOk P w K mg base CX0 k f fd ps (spT K):=by
 refine G.imp fun vs H Q E hh=>?_;obtain ⟨a,ns,rfl,ha,hl,q⟩:=hh;obtain ⟨h',e⟩:=hF ns hl;refine ⟨⟨[],[]⟩,[],[.ro (ns.map D.int)],.bl true,h',⟨rfl,List.nodup_nil,fun n a o e=>by simp at e,fun b hb=>absurd hb (by simp)⟩,.cons (.ro ?_ (kM ns)) .nil,rfl,e,fun v H' ⟨ρ',T,S,r⟩=>?_⟩
 ·rcases ha with ha | ha
  ·exact .inl ⟨ha,fun z=>z.elim (fun z=>absurd z (by simp)) fun z=>absurd z (by simp)⟩
  ·exact .inr (.inr ha)
 ·cases r;exact q H'
mutual
noncomputable def pyD:D->Option PyData
 | .non=>some .none
 | .bl b=>some (.bool b)
 | .int i=>some (.int i)
 | .str x=>some (.str x)
 | .tup xs=>(pyL xs).map .tuple
 | .lv xs=>(pyL xs).map .list
 | .ro xs=>(pyL xs).map .list
 | _=>none
noncomputable def pyL:List D->Option (List PyData)
 | []=>some []
 | x::r=>(pyD x).bind fun a=>(pyL r).map fun b=>a::b
end
noncomputable def rdD (h:MH) (d:D):Option PyData:=match d with
 | .ob n=>match h[n]? with
  | some (.lst xs)=>(pyL xs).map .list
  | _=>none
 | d=>pyD d
mutual
theorem Rep.rds {K:FR} {ρ:Ad} {H:Hp}:∀{v:V} {d:D} {p:PyData},Rep K ρ H v d->pyD d=some p->Rds K H v p∧p.canLay0=true
 | _,_,_,.non,e=>by cases e;exact ⟨.non,rfl⟩
 | _,_,_,.bl b,e=>by cases e;exact ⟨.bl b,rfl⟩
 | _,_,_,.int i,e=>by cases e;exact ⟨.int i,rfl⟩
 | _,_,_,.str hs,e=>by cases e;exact ⟨.str _,by simpa [PyData.canLay0] using hs⟩
 | _,_,_,.ty n,e=>by cases e
 | _,_,_,.tup h l,e=>by
  simp only [pyD] at e;obtain ⟨q,e1,e2⟩:=mpd e;subst e2;obtain ⟨a,b⟩:=RepL.rds l e1;exact ⟨.tup h.sq a,by simpa [PyData.canLay0] using b⟩
 | _,_,_,.lv h n l,e=>by
  simp only [pyD] at e;obtain ⟨q,e1,e2⟩:=mpd e;subst e2;obtain ⟨a,b⟩:=RepL.rds l e1;exact ⟨.lst (SqL.of h) a,by simpa [PyData.canLay0] using b⟩
 | _,_,_,.ro h l,e=>by
  simp only [pyD] at e;obtain ⟨q,e1,e2⟩:=mpd e;subst e2;obtain ⟨a,b⟩:=RepL.rds l e1;exact ⟨.lst h.sq a,by simpa [PyData.canLay0] using b⟩
 | _,_,_,.dv h n l,e=>by simp [pyD] at e
 | _,_,_,.ob h,e=>by simp [pyD] at e
theorem RepL.rds {K:FR} {ρ:Ad} {H:Hp}:∀{v:List V} {d:List D} {p:List PyData},RepL K ρ H v d->pyL d=some p->RdsL K H v p∧PyData.canLayAll0 p=true
 | _,_,_,.nil,e=>by cases e;exact ⟨.nil,rfl⟩
 | _,_,_,.cons r l,e=>by
  simp only [pyL] at e;obtain ⟨a,e1,e2⟩:=bnd e;obtain ⟨b,e3,e4⟩:=mpd e2;subst e4;obtain ⟨a1,a2⟩:=Rep.rds r e1;obtain ⟨b1,b2⟩:=RepL.rds l e3;exact ⟨.cons a1 b1,by simp [PyData.canLayAll0,a2,b2]⟩
end
section
variable {K:FR} {ρ:Ad} {H:Hp} {h:MH} {v:V} {d:D}
theorem p0 (S:Sim K ρ h H) (r:Rep K ρ H v d) (e:rdD h d=some p):Rds K H v p∧p.canLay0=true:=by
 cases r with
 | @ob a n hn=>
  unfold rdD at e;dsimp only at e;cases q:h[n]? with
  | none=>rw [q] at e;cases e
  | some o=>
   rw [q] at e;cases o with
   | dct _=>cases e
   | lst xs=>
    obtain ⟨vs,e1,l⟩:=S.at_ n a _ hn q;obtain ⟨b,e3,e4⟩:=mpd e;subst e4;obtain ⟨b1,b2⟩:=l.rds e3;exact ⟨.lst (SqL.of e1) b1,by simpa [PyData.canLay0] using b2⟩
 | non=>exact Rep.rds (Rep.non (ρ:=ρ)) e
 | bl b=>exact Rep.rds (Rep.bl (ρ:=ρ) b) e
 | int i=>exact Rep.rds (Rep.int (ρ:=ρ) i) e
 | str x=>exact Rep.rds (Rep.str (ρ:=ρ) x) e
 | ty n=>exact Rep.rds (Rep.ty (ρ:=ρ) n) e
 | tup h l=>exact Rep.rds (.tup h l) e
 | lv h n l=>exact Rep.rds (.lv h n l) e
 | ro h l=>exact Rep.rds (.ro h l) e
 | dv h n l=>exact Rep.rds (.dv h n l) e
noncomputable def dB (d:D) (h:MH):Option (List D):=match d with
 | .lv xs=>some xs
 | .ob n=>match h[n]? with
  | some (.lst xs)=>some xs
  | _=>none
 | _=>none
theorem dq (S:Sim K ρ h H) (r:Rep K ρ H v d) (e:dB d h=some xs):∃a vs,v=.ref a∧H a=some (.lst vs)∧RepL K ρ H vs xs:=by
 cases r with
 | @ob a n hn=>
  unfold dB at e;dsimp only at e;cases q:h[n]? with
  | none=>rw [q] at e;cases e
  | some o=>
   rw [q] at e;cases o with
   | dct _=>cases e
   | lst ys=>
    cases e;obtain ⟨vs,e1,l⟩:=S.at_ n a _ hn q;exact ⟨a,vs,rfl,e1,l⟩
 | lv h n l=>cases e;exact ⟨_,_,rfl,h,l⟩
 | _=>cases e
noncomputable def c9 (d:D) (h:MH):Option (List (Key×D)):=match d with
 | .dv kvs=>some kvs
 | .ob n=>match h[n]? with
  | some (.dct kvs)=>some kvs
  | _=>none
 | _=>none
theorem gI (S:Sim K ρ h H) (r:Rep K ρ H v d) (e:c9 d h=some xs):∃a vs,v=.ref a∧H a=some (.dK vs)∧RepK K ρ H vs xs:=by
 cases r with
 | @ob a n hn=>
  unfold c9 at e;dsimp only at e;cases q:h[n]? with
  | none=>rw [q] at e;cases e
  | some o=>
   rw [q] at e;cases o with
   | lst _=>cases e
   | dct ys=>
    cases e;obtain ⟨vs,e1,l⟩:=S.at_ n a _ hn q;exact ⟨a,vs,rfl,e1,l⟩
 | dv h n l=>cases e;exact ⟨_,_,rfl,h,l⟩
 | _=>cases e
theorem jP (S:Sim K ρ h H) (r:Rep K ρ H v d) (e:cZ d h=some (xs,ws)):∃a vs,v=.ref a∧(SqL K H a vs∨SqT K H a vs)∧RepL K ρ H vs xs:=by
 obtain ⟨a,e1,⟨vs,q,l⟩,_⟩:=mG S r e;refine ⟨a,vs,e1,?_,l⟩;generalize tu d=b at q;cases q with
 | l q=>exact .inl q
 | t q=>exact .inr q
noncomputable def rR:D->Option Key
 | .int i=>some (.inl i)
 | .str x=>some (.inr x)
 | _=>none
noncomputable def mx (kvs:List (Key×D)) (k:Key):Option D:=(kvs.find? fun kv=>decide (kv.1=k)).map (·.2)
noncomputable def putD (kvs:List (Key×D)) (k:Key) (v:D):List (Key×D):=
 if (kvs.any fun kv=>decide (kv.1=k))=true then kvs.map (fun kv=>if kv.1=k then (kv.1,v) else kv) else kvs++[(k,v)]
theorem iN (r:Rep K ρ H v d) (e:rR d=some k):v=kV k:=by
 cases r with
 | int i=>cases e;rfl
 | str x=>cases e;rfl
 | _=>cases e
theorem RepK.val:∀{us:List (Key×V)} {kvs:List (Key×D)} (k:Key),RepK K ρ H us kvs->(mx kvs k=none∧gV us k=none)∨∃d v,mx kvs k=some d∧gV us k=some v∧Rep K ρ H v d
 | _,_,k,.nil=>.inl ⟨rfl,rfl⟩
 | _,_,k,.cons (k:=j) (v:=v) (vs:=vs) (d:=d) (ds:=ds) r l=>by
  by_cases z:j=k
  ·exact .inr ⟨d,v,by simp [mx,z],by simp [gV,z],r⟩
  ·have h1:mx ((j,d)::ds) k=mx ds k:=by simp only [mx,List.find?_cons,z,decide_false]
   have h2:gV ((j,v)::vs) k=gV vs k:=jJ z;rw [h1,h2];exact RepK.val k l
theorem RepK.length:∀{us:List (Key×V)} {kvs:List (Key×D)},RepK K ρ H us kvs->us.length=kvs.length
 | _,_,.nil=>rfl
 | _,_,.cons _ l=>by rw [List.length_cons,List.length_cons,RepK.length l]
theorem RepK.any (k:Key):∀{us:List (Key×V)} {kvs:List (Key×D)},RepK K ρ H us kvs->(us.any fun kv=>decide (kv.1=k))=(kvs.any fun kv=>decide (kv.1=k))
 | _,_,.nil=>rfl
 | _,_,.cons _ l=>by rw [List.any_cons,List.any_cons,RepK.any k l]
theorem RepK.map (r:Rep K ρ H v d):∀{us:List (Key×V)} {kvs:List (Key×D)},RepK K ρ H us kvs->RepK K ρ H (us.map fun kv=>if kv.1=k then (kv.1,v) else kv) (kvs.map fun kv=>if kv.1=k then (kv.1,d) else kv)
 | _,_,.nil=>.nil
 | _,_,.cons (k:=j) q l=>by
  rw [List.map_cons,List.map_cons]
  by_cases z:j=k
  ·rw [if_pos z,if_pos z];exact .cons r (RepK.map r l)
  ·rw [if_neg z,if_neg z];exact .cons q (RepK.map r l)
theorem RepK.append:∀{us vs:List (Key×V)} {ks ls:List (Key×D)},RepK K ρ H us ks->RepK K ρ H vs ls->RepK K ρ H (us++vs) (ks++ls)
 | _,_,_,_,.nil,t=>t
 | _,_,_,_,.cons r l,t=>.cons r (RepK.append l t)
theorem RepK.put (l:RepK K ρ H us kvs) (r:Rep K ρ H v d):RepK K ρ H (putK us k v) (putD kvs k d):=by
 unfold putK putD;rw [l.any k]
 by_cases z:(kvs.any fun kv=>decide (kv.1=k))=true
 ·rw [if_pos z,if_pos z];exact l.map r
 ·rw [if_neg z,if_neg z];exact l.append (.cons r .nil)
end
noncomputable def qy (d e:D) (h:MH):Option (D×MH):=match d,e with
 | .int i,.int j=>some (.int (i+j),h)
 | .str a,.str b=>if a.length+b.length≤sizeLine then some (.str (a++b),h) else none
 | .tup [],.tup _=>none
 | .tup (x::xs),.tup ys=>if xs.length+1+ys.length≤sizeLine then some (.tup (x::xs++ys),h) else none
 | d,e=>(dB d h).bind fun xs=>(dB e h).bind fun ys=>if xs.length+ys.length≤sizeLine then some (.lv (xs++ys),h) else none
noncomputable def tx (d e:D) (h:MH):Option (D×MH):=match d,e with
 | .int i,.int j=>some (.int (i-j),h)
 | _,_=>none
noncomputable def j5 (i j:Int):Bool:=(decide (-(2^64) < i)&&decide (i < 2^64))||(decide (-(2^64) < j)&&decide (j < 2^64))
noncomputable def BM (d e:D) (h:MH):Option (D×MH):=match d,e with
 | .int i,.int j=>if j5 i j then some (.int (i*j),h) else none
 | _,_=>none
noncomputable def nu (d e:D) (h:MH):Option (D×MH):=match d,e with
 | .int i,.int j=>if 0 < j then some (.int (i % j),h) else none
 | _,_=>none
noncomputable def xB (d e:D) (h:MH):Option (D×MH):=match d,e with
 | .int i,.int j=>if 0 < j∧j≤10^40 then some (.int (i / j),h) else none
 | _,_=>none
noncomputable def zm (d e:D) (h:MH):Option (D×MH):=match d,e with
 | .int i,.int j=>if 0≤j∧j≤1000000∧i.natAbs < 2^64 then some (.int (i^j.toNat),h) else none
 | _,_=>none
noncomputable def xP (f:Int->Int->Bool) (d e:D) (h:MH):Option (D×MH):=match d,e with
 | .int i,.int j=>some (.bl (f i j),h)
 | _,_=>none
noncomputable def fLt:=xP fun i j=>decide (i < j)
noncomputable def fLe:=xP fun i j=>decide (i≤j)
noncomputable def fGt:=xP fun i j=>decide (j < i)
noncomputable def fGe:=xP fun i j=>decide (j≤i)
noncomputable def eqD (d e:D) (h:MH):Option Bool:=(rdD h d).bind fun a=>(rdD h e).bind fun b=>if a.depth≤64∧b.depth≤64 then some (PyData.eqv a b) else none
noncomputable def isN:D->Bool
 | .non=>true
 | _=>false
noncomputable def DB (d e:D) (h:MH):Option (D×MH):=match e with
 | .non=>some (.bl (isN d),h)
 | _=>none
noncomputable def jL (d:D) (h:MH):Option (D×MH):=match d with
 | .int i=>some (.int (-i),h)
 | _=>none
noncomputable def inD (d e:D) (h:MH):Option Bool:=match c9 e h with
 | some kvs=>(rR d).map fun k=>(mx kvs k).isSome
 | none=>match d,e with
  | .str x,.str y=>some (!(Builtin.Str.occurrences y x 0 y.length 1).isEmpty)
  | d,e=>(cZ e h).bind fun p=>(rdD h d).bind fun a=>(pyL p.1).bind fun bs=>if a.depth≤60∧PyData.depthAll bs≤60 then some (bs.any fun b=>PyData.eqv b a) else none
noncomputable def fIn (d e:D) (h:MH):Option (D×MH):=(inD d e h).map fun c=>(.bl c,h)
noncomputable def fJ (d e:D) (h:MH):Option (D×MH):=(inD d e h).map fun c=>(.bl (!c),h)
noncomputable def fIx (d e:D) (h:MH):Option (D×MH):=match c9 d h with
 | some kvs=>(rR e).bind fun k=>(mx kvs k).map fun z=>(z,h)
 | none=>match d,e with
  | .str z,.int i=>if z.length≤sizeLine then (atI z.cps.toList i).map fun c=>(.str ⟨#[c]⟩,h) else none
  | d,.int i=>(cZ d h).bind fun p=>(atI p.1 i).map fun z=>(z,h)
  | _,_=>none
theorem qa (ho:OpR X g (rI C q)) (hf:∀d e h z h',f d e h=some (z,h')->∃i j,d=.int i∧e=.int j∧C i j∧h'=h∧∀ρ H,Rep X.K ρ H (q i j) z):OpS X g f:=by
 walk_at "ab";obtain ⟨i,j,rfl,rfl,c,rfl,rz⟩:=hf _ _ _ _ _ ee;cases rd;cases re;exact ho pins s σ H _ _ v u Q I rx ry ⟨i,j,rfl,rfl,c,k _ _ (.here S (rz _ _))⟩
theorem j2 (ho:OpR X g (rI0 q)) (hf:∀d e h z h',f d e h=some (z,h')->∃i j,d=.int i∧e=.int j∧h'=h∧∀ρ H,Rep X.K ρ H (q i j) z):OpS X g f:=by
 walk_at "ab";obtain ⟨i,j,rfl,rfl,rfl,rz⟩:=hf _ _ _ _ _ ee;cases rd;cases re;exact ho pins s σ H _ _ v u Q I rx ry ⟨i,j,rfl,rfl,k _ _ (.here S (rz _ _))⟩
theorem mT:OpS X (binaryOp .Sub) tx:=j2 Bg fun d e h z h' ee=>by
 cases d <;> first | (cases ee;done) | skip
 cases e <;> first | (cases ee;done) | skip
 cases ee;exact ⟨_,_,rfl,rfl,rfl,fun _ _=>.int _⟩
theorem Bb:OpS X (binaryOp .Mult) BM:=qa Bj fun d e h z h' ee=>by
 cases d <;> first | (cases ee;done) | skip
 cases e <;> first | (cases ee;done) | skip
 rename_i i j;unfold BM at ee;dsimp only at ee
 by_cases c:j5 i j=true
 ·rw [if_pos c] at ee;cases ee;refine ⟨i,j,rfl,rfl,?_,rfl,fun _ _=>.int _⟩;unfold j5 at c;simp only [Bool.or_eq_true,Bool.and_eq_true,decide_eq_true_eq] at c;exact c
 ·rw [if_neg c] at ee;cases ee
theorem jw:OpS X (binaryOp .Mod) nu:=qa Bk fun d e h z h' ee=>by
 cases d <;> first | (cases ee;done) | skip
 cases e <;> first | (cases ee;done) | skip
 rename_i i j;unfold nu at ee;dsimp only at ee
 by_cases c:0 < j
 ·rw [if_pos c] at ee;cases ee;exact ⟨i,j,rfl,rfl,c,rfl,fun _ _=>.int _⟩
 ·rw [if_neg c] at ee;cases ee
theorem Bd:OpS X (binaryOp .FloorDiv) xB:=qa xa fun d e h z h' ee=>by
 cases d <;> first | (cases ee;done) | skip
 cases e <;> first | (cases ee;done) | skip
 rename_i i j;unfold xB at ee;dsimp only at ee
 by_cases c:0 < j∧j≤10^40
 ·rw [if_pos c] at ee;cases ee;exact ⟨i,j,rfl,rfl,c,rfl,fun _ _=>.int _⟩
 ·rw [if_neg c] at ee;cases ee
theorem wZ:OpS X (binaryOp .Pow) zm:=qa Bi fun d e h z h' ee=>by
 cases d <;> first | (cases ee;done) | skip
 cases e <;> first | (cases ee;done) | skip
 rename_i i j;unfold zm at ee;dsimp only at ee
 by_cases c:0≤j∧j≤1000000∧i.natAbs < 2^64
 ·rw [if_pos c] at ee;cases ee;exact ⟨i,j,rfl,rfl,c,rfl,fun _ _=>.int _⟩
 ·rw [if_neg c] at ee;cases ee
theorem uy (ee:xP f d e h=some (z,h')):∃i j,d=.int i∧e=.int j∧h'=h∧z=.bl (f i j):=by
 cases d <;> first | (cases ee;done) | skip
 cases e <;> first | (cases ee;done) | skip
 cases ee;exact ⟨_,_,rfl,rfl,rfl,rfl⟩
theorem jZ:OpS X (compareOp .Lt) fLt:=j2 Dg fun d e h z h' ee=>by
 obtain ⟨i,j,rfl,rfl,rfl,rfl⟩:=uy ee;exact ⟨i,j,rfl,rfl,rfl,fun _ _=>.bl _⟩
theorem Dd:OpS X (compareOp .LtE) fLe:=j2 Dh fun d e h z h' ee=>by
 obtain ⟨i,j,rfl,rfl,rfl,rfl⟩:=uy ee;exact ⟨i,j,rfl,rfl,rfl,fun _ _=>.bl _⟩
theorem iA:OpS X (compareOp .Gt) fGt:=j2 Di fun d e h z h' ee=>by
 obtain ⟨i,j,rfl,rfl,rfl,rfl⟩:=uy ee;exact ⟨i,j,rfl,rfl,rfl,fun _ _=>.bl _⟩
theorem w9:OpS X (compareOp .GtE) fGe:=j2 Dj fun d e h z h' ee=>by
 obtain ⟨i,j,rfl,rfl,rfl,rfl⟩:=uy ee;exact ⟨i,j,rfl,rfl,rfl,fun _ _=>.bl _⟩
theorem eC:UnR X (unaryOp .USub) (rU X.K jL):=by
 intro pins s σ H x v Q I rx hh;obtain ⟨ρ,h,d,z,h',S,rd,ee,k⟩:=hh;cases rd <;> first | (cases ee;done) | skip
 cases ee;exact zW pins s σ H _ v Q I rx ⟨_,rfl,k _ _ (.here S (.int _))⟩
theorem Be:OpS X (binaryOp .Add) qy:=by
 walk_at "ab";have lists:((dB d h).bind fun xs=>(dB e h).bind fun ys=>if xs.length+ys.length≤sizeLine then some (D.lv (xs++ys),h) else none)=some (z,h')->wpAny (model X.prog X.w) X.A (binaryOp .Add v u) (EP X pins σ Q) X.xe s:=by
  intro ee;obtain ⟨xs,e1,e4⟩:=bnd ee;obtain ⟨ys,e2,e3⟩:=bnd e4
  by_cases c:xs.length+ys.length≤sizeLine
  ·rw [if_pos c] at e3;cases e3;obtain ⟨a,vs,rfl,ha,la⟩:=dq S rd e1;obtain ⟨b,us,rfl,hb,lb⟩:=dq S re e2;exact xc pins s σ H _ _ v u Q I rx ry ⟨a,b,vs,us,rfl,rfl,ha,hb,by rw [la.length,lb.length];exact c,fun p hp=>k _ _ (.lv S (la.append lb) hp)⟩
  ·rw [if_neg c] at e3;cases e3
 cases d with
 | int i=>
  cases e <;> first | (cases ee;done) | skip
  cases ee;cases rd;cases re;exact Bm pins s σ H _ _ v u Q I rx ry ⟨_,_,rfl,rfl,k _ _ (.here S (.int _))⟩
 | str a=>
  cases e <;> first | (cases ee;done) | skip
  rename_i b;unfold qy at ee;dsimp only at ee
  by_cases c:a.length+b.length≤sizeLine
  ·rw [if_pos c] at ee;cases ee;cases rd with | str h1=>cases re with | str h2=>
   exact sR pins s σ H _ _ v u Q I rx ry ⟨a,b,rfl,rfl,c,k _ _ (.here S (.str (fM h1 h2)))⟩
  ·rw [if_neg c] at ee;cases ee
 | tup xs=>
  cases xs with
  | nil=>cases e <;> cases ee
  | cons x0 xs=>
   cases e <;> first | (cases ee;done) | skip
   rename_i ys;unfold qy at ee;dsimp only at ee
   by_cases c:xs.length+1+ys.length≤sizeLine
   ·rw [if_pos c] at ee;cases ee;cases rd with | tup h1 l1=>cases re with | tup h2 l2=>
    rename_i a vs b us;refine y4 pins s σ H _ _ v u Q I rx ry ⟨a,b,vs,us,rfl,rfl,h1.sq,h2.sq,?_,?_,fun z=>?_,fun _ p hp=>k _ _ (.tup S (l1.append l2) hp)⟩
    ·intro z;rw [z] at l1;cases l1
    ·rw [l1.length,l2.length];exact c
    ·rw [z] at l2;cases l2;rw [List.append_nil] at k;exact k _ _ (.here S (.tup h1 l1))
   ·rw [if_neg c] at ee;cases ee
 | lv xs=>exact lists (by cases e <;> exact ee)
 | ob n=>exact lists (by cases e <;> exact ee)
 | non=>exact lists (by cases e <;> exact ee)
 | bl b=>exact lists (by cases e <;> exact ee)
 | ty b=>exact lists (by cases e <;> exact ee)
 | ro b=>exact lists (by cases e <;> exact ee)
 | dv b=>exact lists (by cases e <;> exact ee)
theorem iP (h1:p.canLay0=true) (h2:p.depth≤64):SeqAt.shaped p=true:=by
 unfold PySem.SeqAt.shaped;rw [h1,decide_eq_true h2];rfl
theorem yx {K:FR} {ρ:Ad} {H:Hp} {v:V} {d:D} (r:Rep K ρ H v d):decide (v=V.non)=isN d:=by
 cases r <;> rfl
theorem Bc:OpS X (compareOp .Is) DB:=by
 walk_at "ab";cases e <;> first | (cases ee;done) | skip
 cases ee;cases re;refine Bl pins s σ H _ _ v u Q I rx ry ⟨rfl,?_⟩;rw [yx rd];exact k _ _ (.here S (.bl _))
theorem pF:∀{us:List Value} {ds:List PyData} {as:List Addr},ReadsAll h us ds as->(∀u d as,u∈us->Reads h u d as->d∈ds->f u=PyData.eqv d p)->us.any f=ds.any fun b=>PyData.eqv b p
 | _,_,_,.nil,_=>rfl
 | _,_,_,.cons r l,hf=>by
  rw [List.any_cons,List.any_cons,hf _ _ _ List.mem_cons_self r List.mem_cons_self,pF l fun u d as hu hr hd=>hf u d as (List.mem_cons_of_mem _ hu) hr (List.mem_cons_of_mem _ hd)]
open Classical in
noncomputable def eqF (h:Heap) (p:PyData) (u:Value):Bool:=if q:∃d as,Reads h u d as∧d.canLay0=true then PyData.eqv q.choose p else false
theorem xD (r:Reads h u d as) (c:d.canLay0=true):eqF h p u=PyData.eqv d p:=by
 have q:∃d as,Reads h u d as∧d.canLay0=true:=⟨d,as,r,c⟩;unfold eqF;rw [dif_pos q];obtain ⟨as',r',c'⟩:=q.choose_spec;rw [PySem.SeqAt.Reads.unique _ _ _ _ _ c' r' r]
theorem gJ:∀{ds:List PyData} {d:PyData},PyData.canLayAll0 ds=true->d∈ds->d.canLay0=true
 | x::r,d,c,m=>by
  simp only [PyData.canLayAll0,Bool.and_eq_true] at c;rcases List.mem_cons.mp m with rfl | m
  ·exact c.1
  ·exact gJ c.2 m
theorem pf:∀{ds:List PyData} {d:PyData},d∈ds->d.depth≤PyData.depthAll ds
 | x::r,d,m=>by
  simp only [PyData.depthAll];rcases List.mem_cons.mp m with rfl | m
  ·lia
  ·have:=pf m;lia
theorem oI:∀{us:List Value} {ds:List PyData} {as:List Addr},ReadsAll h us ds as->∀y∈us,∃d as,Reads h y d as∧d∈ds
 | _,_,_,.nil,y,hy=>by cases hy
 | _,_,_,.cons r l,y,hy=>by
  rcases List.mem_cons.mp hy with rfl | hy
  ·exact ⟨_,_,r,List.mem_cons_self⟩
  ·obtain ⟨d,as,a1,a2⟩:=oI l y hy;exact ⟨d,as,a1,List.mem_cons_of_mem _ a2⟩
theorem in_of (hu:X.A.units+64 < cLine) (I:L2.Inv X pins σ H s) (rx:L2.RelV x v) (ry:L2.RelV y u) (S:Sim X.K ρ h H) (rd:Rep X.K ρ H x d) (re:Rep X.K ρ H y e) {c:Bool} (ee:inD d e h=some c) {Q:Bool->Shared->Prop} (hq:∀s',L2.Inv X pins σ H s'->Q c s'):
  wpAny (model X.prog X.w) X.A (compareOp .In v u) (fun r s'=>∃c,r=.bool c∧Q c s') X.xe s∧wpAny (model X.prog X.w) X.A (compareOp .NotIn v u) (fun r s'=>∃c,r=.bool (!c)∧Q c s') X.xe s:=by
 unfold inD at ee;cases qd:c9 e h with
 | some kvs=>
  rw [qd] at ee;obtain ⟨k,e1,e2⟩:=mpd ee;obtain ⟨a,us,rfl,ha,l⟩:=gI S re qd;obtain rfl:u=Value.ref a:=ry;have ek:=iN rd e1;subst ek;have g:kC H a (kV k) (gV us k):=kC.k ha;have ec:(gV us k).isSome=c:=by
   rw [←e2];rcases l.val k with ⟨h1,h2⟩ | ⟨d,v,h1,h2,_⟩
   ·rw [h1,h2];rfl
   ·rw [h1,h2];rfl
  refine ⟨EE (by lia) I g rx fun s' I'=>⟨c,by rw [ec],hq s' I'⟩,zu (by lia) I g rx fun s' I'=>⟨c,by rw [ec],hq s' I'⟩⟩
 | none=>
  rw [qd] at ee;dsimp only at ee;have seqs:((cZ e h).bind fun p=>(rdD h d).bind fun a=>(pyL p.1).bind fun bs=>if a.depth≤60∧PyData.depthAll bs≤60 then some (bs.any fun b=>PyData.eqv b a) else none)=some c->
    wpAny (model X.prog X.w) X.A (compareOp .In v u) (fun r s'=>∃c,r=.bool c∧Q c s') X.xe s∧wpAny (model X.prog X.w) X.A (compareOp .NotIn v u) (fun r s'=>∃c,r=.bool (!c)∧Q c s') X.xe s:=by
   intro ee;obtain ⟨⟨xs,ws⟩,e1,e2⟩:=bnd ee;obtain ⟨p,e3,e4⟩:=bnd e2;obtain ⟨bs,e5,e6⟩:=bnd e4
   by_cases w:p.depth≤60∧PyData.depthAll bs≤60
   ·rw [if_pos w] at e6;cases e6;obtain ⟨a,vs,rfl,hq',l⟩:=jP S re e1;obtain rfl:u=Value.ref a:=ry;obtain ⟨r1,c1⟩:=p0 S rd e3;obtain ⟨r2,c2⟩:=l.rds e5;obtain ⟨as,ra⟩:=r1.reads I rx;have key:∀its:List Value,Vals vs its->(∀y,y∈its->PySem.SeqAt.EqAt X.A.in1 s y v (eqF s.heap p y))∧its.any (eqF s.heap p)=bs.any fun b=>PyData.eqv b p:=by
     intro its rv;obtain ⟨bs',rb⟩:=r2.reads I rv;refine ⟨fun y hy=>?_,pF rb fun u d as _ hr hd=>xD hr (gJ c2 hd)⟩;obtain ⟨d,as',hr,hd⟩:=oI rb y hy;rw [xD hr (gJ c2 hd)];refine PySem.SeqAt.eqAt_reads d p _ s y v as' as hr ra (gJ c2 hd) c1 ?_;have h1:=pf hd;have h2:min d.depth p.depth≤d.depth:=Nat.min_le_left _ _;show X.A.units+1+min d.depth p.depth < cLine;have h3:=w.2
     lia
    rcases hq' with hq' | hq'
    ·obtain ⟨its,rv,pl,_⟩:=I.list hq';obtain ⟨k1,k2⟩:=key its rv;have k1':∀y,y∈its.toArray->PySem.SeqAt.EqAt X.A.in1 s y v (eqF s.heap p y):=fun y hy=>k1 y (by simpa using hy);have k2':its.toArray.any (eqF s.heap p)=bs.any fun b=>PyData.eqv b p:=by rw [←k2];simp
     exact ⟨PySem.SeqAt.in_listAt _ pl.isList k1' ⟨_,rfl,by rw [k2'];exact hq s I⟩,PySem.SeqAt.notIn_listAt _ pl.isList k1' ⟨_,rfl,by rw [k2'];exact hq s I⟩⟩
    ·obtain ⟨its,rv,pl,_⟩:=I.tuple hq';obtain ⟨k1,k2⟩:=key its rv;have k1':∀y,y∈its.toArray->PySem.SeqAt.EqAt X.A.in1 s y v (eqF s.heap p y):=fun y hy=>k1 y (by simpa using hy);have k2':its.toArray.any (eqF s.heap p)=bs.any fun b=>PyData.eqv b p:=by rw [←k2];simp
     exact ⟨PySem.SeqAt.in_tupleAt _ pl k1' ⟨_,rfl,by rw [k2'];exact hq s I⟩,PySem.SeqAt.notIn_tupleAt _ pl k1' ⟨_,rfl,by rw [k2'];exact hq s I⟩⟩
   ·rw [if_neg w] at e6;cases e6
  by_cases hs:(∃a,d=.str a)∧∃b,e=.str b
  ·obtain ⟨⟨a,rfl⟩,b,rfl⟩:=hs;cases ee;cases rd;cases re;obtain ⟨t,rfl⟩:=rx;obtain ⟨t',rfl⟩:=ry;exact ⟨in_str ⟨_,rfl,hq s I⟩,notIn_str ⟨_,rfl,hq s I⟩⟩
  ·refine seqs ?_;cases d <;> first | exact ee | skip
   cases e <;> first | exact ee | skip
   exact absurd ⟨⟨_,rfl⟩,_,rfl⟩ hs
theorem w5 (hu:X.A.units+64 < cLine):OpS X (compareOp .In) fIn:=by
 walk_at "ab";obtain ⟨c,e1,e2⟩:=mpd ee;cases e2;refine thn (in_of hu I rx ry S rd re e1 (Q:=fun c' s'=>c'=c∧L2.Inv X pins σ H s') fun s' I'=>⟨rfl,I'⟩).1 fun r s' ⟨c',hr,hc,I'⟩=>?_;subst hr;subst hc;exact ⟨.bl _,H,I',rfl,k _ _ (.here S (.bl _))⟩
theorem mU (hu:X.A.units+64 < cLine):OpS X (compareOp .NotIn) fJ:=by
 walk_at "ab";obtain ⟨c,e1,e2⟩:=mpd ee;cases e2;refine thn (in_of hu I rx ry S rd re e1 (Q:=fun c' s'=>c'=c∧L2.Inv X pins σ H s') fun s' I'=>⟨rfl,I'⟩).2 fun r s' ⟨c',hr,hc,I'⟩=>?_;subst hr;subst hc;exact ⟨.bl _,H,I',rfl,k _ _ (.here S (.bl _))⟩
theorem zD {K:FR} {ρ:Ad} {H:Hp} {vs:List V} {ds:List D} {i:Int} {d:D} (l:RepL K ρ H vs ds) (e:atI ds i=some d):∃v,atI vs i=some v∧Rep K ρ H v d:=by
 unfold atI at e;obtain ⟨j,e1,e2⟩:=bnd e;obtain ⟨v,e3,r⟩:=l.got e2;exact ⟨v,by unfold atI;rw [l.length,e1];exact e3,r⟩
theorem Dr (hu:X.A.units+64 < cLine):IxR X (rS X.K fIx):=by
 intro value slice pins s σ H x y v u Q I rx ry hh hs;obtain ⟨ρ,h,d,e,z,h',S,rd,re,ee,k⟩:=hh;unfold fIx at ee;cases qd:c9 d h with
 | some kvs=>
  rw [qd] at ee;obtain ⟨ky,e1,e2⟩:=bnd ee;obtain ⟨z',e3,e4⟩:=mpd e2;cases e4;obtain ⟨a,us,rfl,ha,l⟩:=gI S rd qd;obtain rfl:v=Value.ref a:=rx;have ek:=iN re e1;subst ek;rcases l.val ky with ⟨h1,h2⟩ | ⟨d',w,h1,h2,r⟩
  ·rw [h1] at e3;cases e3
  ·rw [h1] at e3;cases e3;have g:kC H a (kV ky) (some w):=by rw [←h2];exact kC.k ha
   exact tail_any (sg I g) PySem.F.slot_dict_getitem.lookup (vt (by lia) I g ry fun w' s3 I3 rw'=>⟨w,H,I3,rw',k _ _ (.here S r)⟩) hs
 | none=>
  rw [qd] at ee;dsimp only at ee;cases e <;> first | (cases d <;> (cases ee;done)) | skip
  rename_i i;have seqs:((cZ d h).bind fun p=>(atI p.1 i).map fun z=>(z,h))=some (z,h')->wpAny (model X.prog X.w) X.A (subscriptTail value slice v u) (EP X pins σ Q) X.xe s:=by
   intro ee;obtain ⟨⟨xs,ws⟩,e1,e2⟩:=bnd ee;obtain ⟨z',e3,e4⟩:=mpd e2;cases e4;obtain ⟨a,vs,rfl,hq',l⟩:=jP S rd e1;obtain ⟨w,e5,r⟩:=zD l e3;cases re;rcases hq' with hq' | hq'
   ·exact zi value slice pins s σ H _ _ v u Q I rx ry ⟨a,vs,i,w,rfl,rfl,hq',e5,k _ _ (.here S r)⟩ hs
   ·exact BD value slice pins s σ H _ _ v u Q I rx ry ⟨a,vs,i,w,rfl,rfl,hq',e5,k _ _ (.here S r)⟩ hs
  cases d with
  | str x0=>
   dsimp only at ee
   by_cases c:x0.length≤sizeLine
   ·rw [if_pos c] at ee;obtain ⟨ch,e3,e4⟩:=mpd ee;cases e4;cases rd with | str hs0=>
    cases re;exact BE value slice pins s σ H _ _ v u Q I rx ry ⟨x0,i,ch,rfl,rfl,c,e3,k _ _ (.here S (.str (uN hs0 e3)))⟩ hs
   ·rw [if_neg c] at ee;cases ee
  | _=>exact seqs ee
theorem CG (hu:X.A.units+64 < cLine) (ha:SE X a ma) (hb:SE X b mb) (hs:kB b:=by unfold kB;intro _ _;kernel_rfl):SE X (.Subscript a b pos) (eOp fIx ma mb):=(C6 (Dr hu) ha hb hs).imp fun _ _ _=>t7
abbrev PM:=DS->MH->Option (Option Int×MH)
noncomputable def pNo:PM:=fun _ h=>some (none,h)
noncomputable def pAt (e:EM):PM:=fun δ h=>(e δ h).bind fun p=>match p.1 with
 | .int i=>some (some i,p.2)
 | _=>none
inductive TMOi (K:FR) (m:PM) (σ:L2.St) (H:Hp) (Q:Option Int->Hp->Prop):Prop where
 | mk (ρ δ h b h'):RepS K ρ H σ δ->Sim K ρ h H->(m δ h=some (b,h'))->(∀ρ' H',Stp ρ H ρ' H'->Sim K ρ' h' H'->Q b H')->TMOi K m σ H Q
noncomputable def tMO (K:FR) (m:PM):TO:=fun σ H Q=>TMOi K m σ H Q
def SP' (X:Cx) (e:Option Expr) (m:PM):Prop:=PO X e (tMO X.K m)
theorem gh:SP' X none pNo:=fun pins s σ H Q I hh=>by
 obtain ⟨ρ,δ,h,b,h',R,S,e,k⟩:=hh;cases e;exact yP pins s σ H Q I (k ρ H (.refl _ _) S)
theorem gg (he:SE X e ma):SP' X (some e) (pAt ma):=fun pins s σ H Q I hh=>by
 obtain ⟨ρ,δ,h,b,h',R,S,e,k⟩:=hh;walk_at "ad";cases x <;> first | (cases e2;done) | skip
 cases e2;refine yO he pins s σ H Q I ⟨ρ,δ,h,_,_,R,S,e1,fun v H' ⟨ρ',T,S',r⟩=>?_⟩;cases r;exact ⟨_,rfl,k ρ' H' T S'⟩
noncomputable def cutD (xs:List D) (lo hi:Option Int):List D:=(xs.drop (HT.sIx xs.length 0 lo)).take (HT.sIx xs.length xs.length hi-HT.sIx xs.length 0 lo)
noncomputable def fSl (d:D) (lo hi:Option Int) (h:MH):Option (D×MH):=match d with
 | .str z=>if z.length≤sizeLine then some (.str (Txt.slice z lo hi),h) else none
 | .tup xs=>if HT.sIx xs.length 0 lo=0∧HT.sIx xs.length xs.length hi=xs.length then none else some (.tup (cutD xs lo hi),h)
 | d=>(cZ d h).map fun p=>(.lv (cutD p.1 lo hi),h)
noncomputable def eSl (a:EM) (l u:PM):EM:=fun δ h=>(a δ h).bind fun p=>(l δ p.2).bind fun q=>(u δ q.2).bind fun r=>fSl p.1 q.1 r.1 r.2
inductive RSLi (K:FR) (x:V) (lo hi:Option Int) (H:Hp) (Q:VK):Prop where
 | mk (ρ h d z h'):Sim K ρ h H->Rep K ρ H x d->(fSl d lo hi h=some (z,h'))->(∀v H',dw K ρ H h' z v H'->Q v H')->RSLi K x lo hi H Q
def rSl (K:FR):V->Option Int->Option Int->Hp->VK->Prop:=fun x lo hi H Q=>RSLi K x lo hi H Q
theorem RepL.nD {K:FR} {ρ:Ad} {H:Hp} {vs:List V} {ds:List D} (l:RepL K ρ H vs ds) (lo hi:Option Int):RepL K ρ H (L2.nD vs lo hi) (cutD ds lo hi):=by
 unfold L2.nD cutD;rw [l.length];exact (l.drop _).take _
theorem zI:SlR X (rSl X.K):=by
 intro pins s σ H x v vl vu lo hi sl Q I rx hs pl pu hh;obtain ⟨ρ,h,d,z,h',S,rd,ee,k⟩:=hh;have lists:tu d=true->((cZ d h).map fun p=>(D.lv (cutD p.1 lo hi),h))=some (z,h')->∃T id,typeLookup (.type T) "__getitem__"=pure (some (.builtin id))∧s.TypeIs v T∧wpAny (model X.prog X.w) X.A (getItem v (.ref sl)) (EP X pins σ Q) X.xe s:=by
  intro nt e2;obtain ⟨⟨xs,ws⟩,e1,e2⟩:=mpd e2;cases e2;obtain ⟨a,rfl,⟨vs,q,l⟩,_⟩:=mG S rd e1;rw [nt] at q;cases q with
  | l q=>exact yk pins s σ H _ v vl vu lo hi sl Q I rx hs pl pu ⟨a,vs,rfl,q,fun p hp=>k _ _ (.lv S (l.nD lo hi) hp)⟩
 cases d with
 | str x0=>
  unfold fSl at ee;dsimp only at ee
  by_cases c:x0.length≤sizeLine
  ·rw [if_pos c] at ee;cases ee;cases rd with | str hs0=>
   exact z9 pins s σ H _ v vl vu lo hi sl Q I rx hs pl pu ⟨x0,rfl,c,k _ _ (.here S (.str (qX _ _ hs0)))⟩
  ·rw [if_neg c] at ee;cases ee
 | tup xs=>
  unfold fSl at ee;dsimp only at ee
  by_cases c:HT.sIx xs.length 0 lo=0∧HT.sIx xs.length xs.length hi=xs.length
  ·rw [if_pos c] at ee;cases ee
  ·rw [if_neg c] at ee;cases ee;cases rd with | tup h0 l0=>
   exact z8 pins s σ H _ v vl vu lo hi sl Q I rx hs pl pu ⟨_,_,rfl,h0.sq,by rw [l0.length];exact c,fun p hp=>k _ _ (.tup S (l0.nD lo hi) hp)⟩
 | _=>exact lists rfl ee
theorem wk {x:Str} {id:String} {p pos:Pos} {e:Expr} {es:List Expr} {f:Fn} {m:AM} (hc:eP X (.builtin id) f) (hg:Gl X x) (hm:X.mg x=none) (hv:bootBuiltins x=some (.builtin id)) (ha:SA X (e::es) m) (hn:x≠"__name__":=by decide) (hdb:(x==("__debug__":Str))=false:=by kernel_rfl)
  (he:starEach (e::es) X.env=(false,eval e X.env)::starEach es X.env:=by kernel_rfl) (hpl:(backTo pos (starEach es X.env)).any (·.1)=false:=by kernel_rfl):SE X (.Call (.Name x p) (e::es) [] pos) (eFn f m):=
 (wY hc hg hm hv ha hn hdb he hpl).imp fun σ H Q ⟨ρ,δ,h,d,h',R,S,e,k⟩=>by
  obtain ⟨⟨ds,h1⟩,e1,e2⟩:=bnd e;exact ⟨ρ,δ,h,ds,h1,R,S,e1,fun vs ρ1 H1 T1 S1 r1=>⟨ρ1,h1,ds,d,h',S1,r1,e2,fun v H' P=>k v H' (P.step T1)⟩⟩
theorem wj {x:Str} {id:String} {p pos:Pos} {e:Expr} {es:List Expr} {f:Fn} {m:AM} (hc:eP X (.type id) f) (hg:Gl X x) (hm:X.mg x=none) (hv:bootBuiltins x=some (.type id)) (ha:SA X (e::es) m) (hn:x≠"__name__":=by decide) (hdb:(x==("__debug__":Str))=false:=by kernel_rfl)
  (he:starEach (e::es) X.env=(false,eval e X.env)::starEach es X.env:=by kernel_rfl) (hpl:(backTo pos (starEach es X.env)).any (·.1)=false:=by kernel_rfl):SE X (.Call (.Name x p) (e::es) [] pos) (eFn f m):=
 (oN hc hg hm hv ha hn hdb he hpl).imp fun σ H Q ⟨ρ,δ,h,d,h',R,S,e,k⟩=>by
  obtain ⟨⟨ds,h1⟩,e1,e2⟩:=bnd e;exact ⟨ρ,δ,h,ds,h1,R,S,e1,fun vs ρ1 H1 T1 S1 r1=>⟨ρ1,h1,ds,d,h',S1,r1,e2,fun v H' P=>k v H' (P.step T1)⟩⟩
noncomputable def c5:Fn:=fun ds h=>match ds with
 | [.str z]=>if z.length≤sizeLine then some (.int z.length,h) else none
 | [d]=>match c9 d h with
  | some kvs=>some (.int kvs.length,h)
  | none=>(cZ d h).map fun p=>(.int p.1.length,h)
 | _=>none
noncomputable def BO:Fn:=fun ds h=>match ds with
 | [.int i]=>some (.int (if i < 0 then -i else i),h)
 | _=>none
noncomputable def tyD (d:D) (h:MH):Option String:=match d with
 | .non=>some "NoneType"
 | .bl _=>some "bool"
 | .int _=>some "int"
 | .str _=>some "str"
 | .tup _=>some "tuple"
 | .lv _=>some "list"
 | .dv _=>some "dict"
 | .ob n=>match h[n]? with
  | some (.lst _)=>some "list"
  | some (.dct _)=>some "dict"
  | none=>none
 | _=>none
noncomputable def vT (t n:String):Bool:=t==n||(t=="bool"&&n=="int")
noncomputable def zq:Fn:=fun ds h=>match ds with
 | [d,.ty n]=>if n∈["int","str","bool","tuple","list","dict"] then (tyD d h).map fun t=>(.bl (vT t n),h) else none
 | _=>none
noncomputable def eJ:Fn:=fun ds h=>match ds with
 | [d]=>(cZ d h).map fun p=>(.tup p.1,h)
 | _=>none
noncomputable def vD:List D->Option (List Bool)
 | []=>some []
 | .bl b::r=>(vD r).map fun bs=>b::bs
 | _=>none
noncomputable def BN:Fn:=fun ds h=>match ds with
 | [d]=>(dB d h).bind fun xs=>(vD xs).map fun bs=>(.bl (bs.all id),h)
 | _=>none
theorem rep1 {K:FR} {ρ:Ad} {H:Hp} {vs:List V} {d:D} (l:RepL K ρ H vs [d]):∃v,vs=[v]∧Rep K ρ H v d:=by
 cases l with
 | cons r l=>cases l;exact ⟨_,rfl,r⟩
theorem rep2 {K:FR} {ρ:Ad} {H:Hp} {vs:List V} {d e:D} (l:RepL K ρ H vs [d,e]):∃v u,vs=[v,u]∧Rep K ρ H v d∧Rep K ρ H u e:=by
 cases l with
 | cons r l=>cases l with
  | cons r' l=>cases l;exact ⟨_,_,rfl,r,r'⟩
theorem cu:eP X (.builtin "len") c5:=by
 walk_at "ac"
 match ds,l,ee with
 | [],_,ee=>cases ee
 | _::_::_,_,ee=>exact absurd ee (by unfold c5;split <;> simp_all)
 | [d],l,ee=>
  obtain ⟨v,rfl,rd⟩:=rep1 l;have oth:(match c9 d h with | some kvs=>some (D.int kvs.length,h) | none=>(cZ d h).map fun p=>(D.int p.1.length,h))=some (z,h')->wpAny (model X.prog X.w) X.A (call (.builtin "len") us) (EP X pins σ Q) X.xe s:=by
   intro ee;cases q:c9 d h with
   | some kvs=>
    rw [q] at ee;cases ee;obtain ⟨a,ws,rfl,ha,lk⟩:=gI S rd q;refine vA pins s σ H _ us Q I r ⟨a,ws,rfl,ha,k _ _ ?_⟩;rw [lk.length];exact .here S (.int _)
   | none=>
    rw [q] at ee;obtain ⟨⟨ys,w⟩,e1,e2⟩:=mpd ee;cases e2;obtain ⟨a,vs,rfl,hq,l2⟩:=jP S rd e1;refine qJ pins s σ H _ us Q I r ⟨a,vs,rfl,hq,k _ _ ?_⟩;rw [l2.length];exact .here S (.int _)
  cases d with
  | str x0=>
   unfold c5 at ee;dsimp only at ee
   by_cases c:x0.length≤sizeLine
   ·rw [if_pos c] at ee;cases ee;cases rd;exact qI pins s σ H _ us Q I r ⟨x0,rfl,c,k _ _ (.here S (.int _))⟩
   ·rw [if_neg c] at ee;cases ee
  | _=>exact oth ee
theorem xO:eP X (.builtin "abs") BO:=by
 walk_at "ac"
 match ds,l,ee with
 | [],_,ee=>cases ee
 | d::_::_,_,ee=>cases d <;> cases ee
 | [d],l,ee=>
  obtain ⟨v,rfl,rd⟩:=rep1 l;cases rd <;> first | (cases ee;done) | skip
  cases ee;exact xX pins s σ H _ us Q I r ⟨_,rfl,k _ _ (.here S (.int _))⟩
theorem eg:eP X (.type "tuple") eJ:=by
 walk_at "ac"
 match ds,l,ee with
 | [],_,ee=>cases ee
 | _::_::_,_,ee=>cases ee
 | [d],l,ee=>
  obtain ⟨v,rfl,rd⟩:=rep1 l;obtain ⟨⟨ys,w⟩,e1,e2⟩:=mpd ee;cases e2;obtain ⟨a,rfl,⟨vs,q,l2⟩,_⟩:=mG S rd e1;refine ox pins s σ H _ us Q I r ⟨a,vs,rfl,?_⟩;generalize hb:tu d=b at q;cases q with
  | l q=>exact .inl ⟨q,fun p hp=>k _ _ (.tup S l2 hp)⟩
  | t q=>
   refine .inr ⟨q,k _ _ ?_⟩;cases rd <;> first | (cases hb;done) | skip
   cases e1;exact .here S (.tup ‹_› ‹_›)
theorem x4 {K:FR} {ρ:Ad} {H:Hp}:∀{vs:List V} {xs:List D} {bs:List Bool},RepL K ρ H vs xs->vD xs=some bs->vs=bs.map V.bl
 | _,_,_,.nil,e=>by cases e;rfl
 | _,_,_,.cons r l,e=>by
  cases r <;> first | (cases e;done) | skip
  obtain ⟨bs',e1,e2⟩:=mpd e;cases e2;rw [x4 l e1];rfl
theorem BX (hc:X.calm=true):eP X (.builtin "all") BN:=by
 walk_at "ac"
 match ds,l,ee with
 | [],_,ee=>cases ee
 | _::_::_,_,ee=>cases ee
 | [d],l,ee=>
  obtain ⟨v,rfl,rd⟩:=rep1 l;obtain ⟨ys,e1,e2⟩:=bnd ee;obtain ⟨bs,e3,e4⟩:=mpd e2;cases e4;obtain ⟨a,vs,rfl,ha,l2⟩:=dq S rd e1;rw [x4 l2 e3] at ha;exact xW hc pins s σ H _ us Q I r ⟨a,bs,rfl,SqL.of ha,k _ _ (.here S (.bl _))⟩
theorem uh {K:FR} {t n:String} (ht:t∈["NoneType","bool","int","str","tuple","list","dict"]) (hn:n∈["int","str","bool","tuple","list","dict"]):PySem.W.kitOne K (.type t) (.type n)=some (vT t n):=by
 simp only [List.mem_cons,List.mem_nil_iff,or_false] at ht hn;rcases ht with rfl | rfl | rfl | rfl | rfl | rfl | rfl <;> rcases hn with rfl | rfl | rfl | rfl | rfl | rfl <;> rfl
theorem BW:eP X (.builtin "isinstance") zq:=by
 walk_at "ac"
 match ds,l,ee with
 | [],_,ee=>cases ee
 | [_],_,ee=>cases ee
 | _::d::_::_,_,ee=>cases d <;> cases ee
 | [d,c],l,ee=>
  cases c <;> first | (cases ee;done) | skip
  rename_i n;unfold zq at ee;dsimp only at ee
  by_cases hn:n∈["int","str","bool","tuple","list","dict"]
  ·rw [if_pos hn] at ee;obtain ⟨t,e1,e2⟩:=mpd ee;cases e2;obtain ⟨v,u,rfl,rd,ru⟩:=rep2 l;cases ru;have fin:=k (.bl (vT t n)) H (.here S (.bl _));have go:∀ty,TyOf X.K H v (.type ty)->t=ty->ty∈["NoneType","bool","int","str","tuple","list","dict"]->wpAny (model X.prog X.w) X.A (call (.builtin "isinstance") us) (EP X pins σ Q) X.xe s:=fun ty hty e hm=>by
    subst e;exact xV pins s σ H _ us Q I r ⟨v,n,_,_,rfl,hty,uh hm hn,fin⟩
   cases rd with
   | non=>cases e1;exact go _ .non rfl (by decide)
   | bl b=>cases e1;exact go _ (.bl b) rfl (by decide)
   | int i=>cases e1;exact go _ (.int i) rfl (by decide)
   | str h0=>cases e1;exact go _ (.str _) rfl (by decide)
   | ty _=>cases e1
   | ro _ _=>cases e1
   | lv h0 _ _=>cases e1;exact go _ (.lst h0) rfl (by decide)
   | dv h0 _ _=>cases e1;exact go _ (.dK h0) rfl (by decide)
   | @ob a m hm=>
    unfold tyD at e1;dsimp only at e1;cases q:h[m]? with
    | none=>rw [q] at e1;cases e1
    | some o=>
     rw [q] at e1;have x:=S.at_ m a o hm q;cases o with
     | lst _=>cases e1;obtain ⟨vs,e3,_⟩:=x;exact go _ (.lst e3) rfl (by decide)
     | dct _=>cases e1;obtain ⟨vs,e3,_⟩:=x;exact go _ (.dK e3) rfl (by decide)
   | @tup a vs ds h0 l0=>
    cases e1;obtain ⟨u1,u2,rfl,r1,r2⟩:=Vals.two r;obtain rfl:u1=Value.ref a:=r1;obtain rfl:u2=Value.type n:=r2;obtain ⟨its,_,⟨o,h1,h2,_⟩,_⟩:=I.tuple h0.sq;exact PySem.W.kia_one PySem.W.kitx_tuple I.kIn ⟨o,h1,h2⟩ (uh (t:="tuple") (by decide) hn) (fun z=>nomatch z) fun tk=>⟨.bl _,H,I.tok tk,rfl,fin⟩
  ·rw [if_neg hn] at ee;cases ee
noncomputable def yc (m:AM):AM:=fun δ h=>(m δ h).bind fun p=>match p.1 with
 | [d]=>(cZ d p.2).map fun q=>(q.1,p.2)
 | _=>none
theorem yn (hg:Gl X x) (hm:X.mg x=none) (hv:bootBuiltins x=some (.type "list")) (ha:SA X [e] m) (hl:ll m 1) (hn:x≠"__name__":=by decide) (hdb:(x==("__debug__":Str))=false:=by kernel_rfl) (he:starEach [e] X.env=(false,eval e X.env)::starEach [] X.env:=by kernel_rfl) (hpl:(backTo pos (starEach [] X.env)).any (·.1)=false:=by kernel_rfl):SFL X (.Call (.Name x p) [e] [] pos) (yc m):=
 (oN qH hg hm hv ha hn hdb he hpl).imp fun σ H Q ⟨ρ,δ,h,d,h',R,S,e,k⟩=>by
  walk_at "al"
  match ds,hl _ _ _ _ e1,e2,r1 with
  | [d],_,e2,r1=>
   obtain ⟨⟨ys,w⟩,e3,e4⟩:=mpd e2;cases e4;obtain ⟨v,rfl,rd⟩:=rep1 r1;obtain ⟨a,ws,rfl,hq,l2⟩:=jP S1 rd e3;exact ⟨a,ws,rfl,hq,fun l hl=>k ρ1 H1 l ws T1 S1 hl l2⟩
noncomputable def ot (o i v:D) (h:MH):Option MH:=match o with
 | .ob n=>match h[n]? with
  | some (.lst xs)=>match i with
   | .int j=>(ixN xs.length j).map fun p=>h.set n (.lst (xs.set p v))
   | _=>none
  | some (.dct kvs)=>(rR i).bind fun k=>if kvs.length < sizeLine then some (h.set n (.dct (putD kvs k v))) else none
  | none=>none
 | _=>none
noncomputable def lV (o i:EM):GM:=fun v δ h=>(o δ h).bind fun p=>(i δ p.2).bind fun q=>(ot p.1 q.1 v q.2).map fun h'=>(δ,h')
inductive RSETi (K:FR) (o i v:V) (H:Hp) (Q:Hp->Prop):Prop where
 | mk (ρ h a b c h'):Sim K ρ h H->Rep K ρ H o a->Rep K ρ H i b->Rep K ρ H v c->(ot a b c h=some h')->(∀ρ' H',Stp ρ H ρ' H'->Sim K ρ' h' H'->Q H')->RSETi K o i v H Q
def Ef (K:FR):V->V->V->Hp->(Hp->Prop)->Prop:=fun o i v H Q=>RSETi K o i v H Q
theorem yK (hu:X.A.units+64 < cLine):Cc X (Ef X.K):=by
 intro pins s σ H o i v ov iv u Q I ro ri rv hh;obtain ⟨ρ,h,a,b,c,h',S,ra,rb,rc,ee,k⟩:=hh;cases ra <;> first | (cases ee;done) | skip
 rename_i a n hn;unfold ot at ee;dsimp only at ee;cases q:h[n]? with
 | none=>rw [q] at ee;cases ee
 | some w=>
  rw [q] at ee;have x:=S.at_ n a w hn q;have ma:=List.mem_of_getElem? hn;cases w with
  | lst xs=>
   dsimp only at ee;cases rb <;> first | (cases ee;done) | skip
   rename_i j;obtain ⟨p,e1,e2⟩:=mpd ee;cases e2;obtain ⟨vs,e3,l⟩:=x;have T:Stp ρ H ρ (upd H a (.lst (vs.set p v))):=Stp.wrote S ma;exact set_list pins s σ H _ _ v ov iv u Q I ro ri rv ⟨a,vs,j,p,rfl,rfl,e3,by rw [l.length];exact e1,k ρ _ T (S.wrote hn ⟨_,a9,(l.set rc p).mono T.toCh⟩)⟩
  | dct kvs=>
   dsimp only at ee;obtain ⟨ky,e1,e2⟩:=bnd ee
   by_cases z:kvs.length < sizeLine
   ·rw [if_pos z] at e2;cases e2;obtain ⟨us,e3,l⟩:=x;have ek:=iN rb e1;subst ek;obtain rfl:ov=Value.ref a:=ro;have T:Stp ρ H ρ (upd H a (.dK (putK us ky v))):=Stp.wrote S ma;exact vq (by lia) I (zG.k e3 (by rw [l.length];exact z)) ri rv fun s' I'=>⟨_,I',k ρ _ T (S.wrote hn ⟨_,a9,(l.put rc).mono T.toCh⟩)⟩
   ·rw [if_neg z] at e2;cases e2
theorem gZ (hu:X.A.units+64 < cLine) (ho:SE X o mo) (hi:SE X i mi) (ha:∀v,assign (.Subscript o i pos) X.env v=(do
   let ov←holding [v] (eval o X.env);let iv←holding [v,ov] (eval i X.env)
   standAt pos
   holding [v,ov,iv] (setItem ov iv v)
   release [v,ov,iv] []):=by intro _;kernel_rfl):SG X (.Subscript o i pos) (lV mo mi):=
 (AK ho hi (yK hu) ha).imp fun v σ H Q ⟨ρ,δ,h,d,δ',h',R,S,r,e,k⟩=>by
  obtain ⟨⟨x,h1⟩,e1,e2⟩:=bnd e;obtain ⟨⟨y,h2⟩,e3,e4⟩:=bnd e2;obtain ⟨h3,e5,e6⟩:=mpd e4;cases e6;exact ⟨ρ,δ,h,x,h1,R,S,e1,fun ov H1 ⟨ρ1,T1,S1,r1⟩=>⟨ρ1,δ,h1,y,h2,R.mono T1,S1,e3,fun iv H2 ⟨ρ2,T2,S2,r2⟩=>
   ⟨ρ2,h2,x,y,d,_,S2,r1.mono T2,r2,r.mono (T1.trans T2).toCh,e5,fun ρ3 H3 T3 S3=>k ρ3 H3 σ (T1.trans (T2.trans T3)) S3 (R.mono (T1.trans (T2.trans T3)).toCh)⟩⟩⟩
abbrev MFn:=D->List D->MH->Option (D×MH)
inductive RMi (K:FR) (f:MFn) (x:V) (vs:List V) (H:Hp) (Q:VK):Prop where
 | mk (ρ h d ds z h'):Sim K ρ h H->Rep K ρ H x d->RepL K ρ H vs ds->(f d ds h=some (z,h'))->(∀v H',dw K ρ H h' z v H'->Q v H')->RMi K f x vs H Q
def rM (K:FR) (f:MFn):V->List V->Hp->VK->Prop:=fun x vs H Q=>RMi K f x vs H Q
noncomputable def eM (isT:D->MH->Bool) (f:MFn) (o:EM) (m:AM):EM:=fun δ h=>(o δ h).bind fun p=>if isT p.1 p.2 then (m δ p.2).bind fun q=>f p.1 q.1 q.2 else none
noncomputable def cw (d:D) (h:MH):Bool:=(dB d h).isSome
noncomputable def xp (d:D) (h:MH):Bool:=(c9 d h).isSome
noncomputable def cW:MFn:=fun d ds h=>match d,ds with
 | .ob n,[y]=>match h[n]? with
  | some (.lst xs)=>if xs.length < sizeLine then some (.non,h.set n (.lst (xs++[y]))) else none
  | _=>none
 | _,_=>none
noncomputable def iM:MFn:=fun d ds h=>match d,ds with
 | .ob n,[y]=>match h[n]? with
  | some (.lst xs)=>(dB y h).bind fun zs=>if xs.length+zs.length≤sizeLine then some (.non,h.set n (.lst (xs++zs))) else none
  | _=>none
 | _,_=>none
noncomputable def zc:MFn:=fun d ds h=>match d,ds with
 | .ob n,[]=>match h[n]? with
  | some (.lst xs)=>(xs[xs.length-1]?).map fun y=>(y,h.set n (.lst xs.dropLast))
  | _=>none
 | _,_=>none
theorem eV {K:FR} {ρ:Ad} {H:Hp} {h:MH} {v:V} {d:D} (S:Sim K ρ h H) (r:Rep K ρ H v d) (e:cw d h=true):tyV K "list" v H:=by
 obtain ⟨xs,e1⟩:=Option.isSome_iff_exists.mp e;obtain ⟨a,vs,rfl,ha,_⟩:=dq S r e1;exact .inl ⟨rfl,vs,SqL.of ha⟩
theorem zX {K:FR} {ρ:Ad} {H:Hp} {h:MH} {v:V} {d:D} (S:Sim K ρ h H) (r:Rep K ρ H v d) (e:xp d h=true):tyV K "dict" v H:=by
 obtain ⟨xs,e1⟩:=Option.isSome_iff_exists.mp e;obtain ⟨a,vs,rfl,ha,_⟩:=gI S r e1;exact .inr (.inr (.inl ⟨rfl,.inl ⟨vs,ha⟩⟩))
theorem g0 {T id:String} {name:Str} {o e:Expr} {es:List Expr} {apos cpos:Pos} {f:MFn} {mo:EM} {m:AM} {isT:D->MH->Bool} (hT:∀{K:FR} {ρ:Ad} {H:Hp} {h:MH} {v:V} {d:D},Sim K ρ h H->Rep K ρ H v d->isT d h=true->tyV K T v H)
  (pa:PlainAttrs T) (slot:Slot T name id) (hty:typeOf (.builtin id)=pure (.type "method_descriptor")) (hm:MtR X id (rM X.K f)) (ho:SE X o mo) (ha:SA X (e::es) m)
  (hbase:attributeBase o name X.env (eval o X.env)=eval o X.env:=by kernel_rfl)
  (hfew:((backTo cpos (starEach (e::es) X.env)).all (fun x=>!x.1)&&(backToKw cpos (keywordEach [] X.env)).all (fun x=>x.1.isSome)
   &&decide ((e::es).length+([]:List Keyword).length+(if ([]:List Keyword).isEmpty then 0 else 1) < 30))=true:=by kernel_rfl)
  (hline:(apos.endLine==cpos.line)=true:=by kernel_rfl) (hs:starEach (e::es) X.env=(false,eval e X.env)::starEach es X.env:=by kernel_rfl) (hplain:(backTo cpos (starEach es X.env)).any (·.1)=false:=by kernel_rfl):
  SE X (.Call (.Attribute o name apos) (e::es) [] cpos) (eM isT f mo m):=(C7 pa slot hty hm ho ha hbase hfew hline hs hplain).imp fun σ H Q ⟨ρ,δ,h,d,h',R,S,e,k⟩=>by
 walk_at "ad";dsimp only at e2
 by_cases c:isT x h1=true
 ·rw [if_pos c] at e2;obtain ⟨⟨ds,h2⟩,e3,e4⟩:=bnd e2;exact ⟨ρ,δ,h,x,h1,R,S,e1,fun v H1 ⟨ρ1,T1,S1,r1⟩=>⟨hT S1 r1 c,ρ1,δ,h1,ds,h2,R.mono T1,S1,e3,fun vs ρ2 H2 T2 S2 r2=>⟨ρ2,h2,x,ds,d,h',S2,r1.mono T2,r2,e4,fun w H3 p=>k w H3 (p.step (T1.trans T2))⟩⟩⟩
 ·rw [if_neg c] at e2;cases e2
theorem CF {T id:String} {name:Str} {o:Expr} {apos cpos:Pos} {f:MFn} {mo:EM} {isT:D->MH->Bool} (hT:∀{K:FR} {ρ:Ad} {H:Hp} {h:MH} {v:V} {d:D},Sim K ρ h H->Rep K ρ H v d->isT d h=true->tyV K T v H)
  (pa:PlainAttrs T) (slot:Slot T name id) (hty:typeOf (.builtin id)=pure (.type "method_descriptor")) (hm:MtR X id (rM X.K f)) (ho:SE X o mo)
  (hbase:attributeBase o name X.env (eval o X.env)=eval o X.env:=by kernel_rfl) (hline:(apos.endLine==cpos.line)=true:=by kernel_rfl):
  SE X (.Call (.Attribute o name apos) [] [] cpos) (eM isT f mo aj):=(AX pa slot hty hm ho hbase hline).imp fun σ H Q ⟨ρ,δ,h,d,h',R,S,e,k⟩=>by
 walk_at "ad";dsimp only at e2
 by_cases c:isT x h1=true
 ·rw [if_pos c] at e2;exact ⟨ρ,δ,h,x,h1,R,S,e1,fun v H1 ⟨ρ1,T1,S1,r1⟩=>⟨hT S1 r1 c,ρ1,h1,x,[],d,h',S1,r1,.nil,e2,fun w H3 p=>k w H3 (p.step T1)⟩⟩
 ·rw [if_neg c] at e2;cases e2
theorem sV {K:FR} {ρ:Ad} {H:Hp} {h:MH} {n:Nat} {xs:List D} {v:V} (S:Sim K ρ h H) (r:Rep K ρ H v (.ob n)) (q:h[n]?=some (.lst xs)):∃a vs,v=.ref a∧ρ.ob[n]?=some a∧H a=some (.lst vs)∧RepL K ρ H vs xs:=by
 cases r with
 | ob hn=>obtain ⟨vs,e,l⟩:=S.at_ n _ _ hn q;exact ⟨_,vs,rfl,hn,e,l⟩
theorem c6:MtR X "list.append" (rM X.K cW):=by
 walk_at "ai";cases d <;> first | (cases ee;done) | skip
 rename_i n
 match ds,l,ee with
 | [],_,ee=>cases ee
 | _::_::_,_,ee=>cases ee
 | [y],l,ee=>
  unfold cW at ee;dsimp only at ee;cases q:h[n]? with
  | none=>rw [q] at ee;cases ee
  | some w=>
   rw [q] at ee;cases w with
   | dct _=>cases ee
   | lst ys=>
    dsimp only at ee
    by_cases c:ys.length < sizeLine
    ·rw [if_pos c] at ee;cases ee;obtain ⟨a,vs,rfl,hn,e1,l1⟩:=sV S rd q;obtain ⟨u,rfl,ru⟩:=rep1 l;have T:Stp ρ H ρ (upd H a (.lst (vs++[u]))):=Stp.wrote S (List.mem_of_getElem? hn);exact oQ pins s σ H _ _ v us Q I rx rs ⟨a,vs,u,rfl,rfl,e1,by rw [l1.length];exact c,k _ _ ⟨ρ,T,S.wrote hn ⟨_,a9,(l1.snoc ru).mono T.toCh⟩,.non⟩⟩
    ·rw [if_neg c] at ee;cases ee
theorem oR:MtR X "list.extend" (rM X.K iM):=by
 walk_at "ai";cases d <;> first | (cases ee;done) | skip
 rename_i n
 match ds,l,ee with
 | [],_,ee=>cases ee
 | _::_::_,_,ee=>cases ee
 | [y],l,ee=>
  unfold iM at ee;dsimp only at ee;cases q:h[n]? with
  | none=>rw [q] at ee;cases ee
  | some w=>
   rw [q] at ee;cases w with
   | dct _=>cases ee
   | lst ys=>
    dsimp only at ee;obtain ⟨zs,e2,e3⟩:=bnd ee
    by_cases c:ys.length+zs.length≤sizeLine
    ·rw [if_pos c] at e3;cases e3;obtain ⟨a,vs,rfl,hn,e1,l1⟩:=sV S rd q;obtain ⟨u,rfl,ru⟩:=rep1 l;obtain ⟨b,ws,rfl,eb,l2⟩:=dq S ru e2;have T:Stp ρ H ρ (upd H a (.lst (vs++ws))):=Stp.wrote S (List.mem_of_getElem? hn);exact uY pins s σ H _ _ v us Q I rx rs ⟨a,b,vs,ws,rfl,rfl,e1,eb,by rw [l1.length,l2.length];exact c,k _ _ ⟨ρ,T,S.wrote hn ⟨_,a9,(l1.append l2).mono T.toCh⟩,.non⟩⟩
    ·rw [if_neg c] at e3;cases e3
theorem Br:MtR X "list.pop" (rM X.K zc):=by
 walk_at "ai";cases d <;> first | (cases ee;done) | skip
 rename_i n
 match ds,l,ee with
 | _::_,_,ee=>cases ee
 | [],l,ee=>
  unfold zc at ee;dsimp only at ee;cases q:h[n]? with
  | none=>rw [q] at ee;cases ee
  | some w=>
   rw [q] at ee;cases w with
   | dct _=>cases ee
   | lst ys=>
    dsimp only at ee;obtain ⟨y,e2,e3⟩:=mpd ee;cases e3;obtain ⟨a,vs,rfl,hn,e1,l1⟩:=sV S rd q;cases l;obtain ⟨u,e4,r4⟩:=l1.got e2;have T:Stp ρ H ρ (upd H a (.lst vs.dropLast)):=Stp.wrote S (List.mem_of_getElem? hn);exact Bp pins s σ H _ _ v us Q I rx rs ⟨a,vs,u,rfl,rfl,e1,by rw [l1.length];exact e4,k _ _ ⟨ρ,T,S.wrote hn ⟨_,a9,l1.dropLast.mono T.toCh⟩,r4.mono T.toCh⟩⟩
end Sm
namespace Sb
open PySem L2 PySem.Spec PyProof.Rows
open Builtin.SmallTypes (nextOf ownedTupleIsFree ownedTupleHandOut)
noncomputable def kn:Bool->String
 | true=>"list_iterator"
 | false=>"tuple_iterator"
def At (b:Bool) (h:Heap) (j l:Addr) (i:Nat):Prop:=∃o,h.get? j=some o∧o.cls=.type (kn b)∧o.data=.fields #[.ref l,.int i 0]
def Of (b:Bool) (h:Heap) (l:Addr) (items:Array Value):Prop:=match b with
 | true=>h.IsList l items
 | false=>h.IsTuple l items
theorem At.up (x:At b h j l i) (k:∀o,h.get? j=some o->h'.get? j=some o):At b h' j l i:=let ⟨o,e,r⟩:=x;⟨o,k o e,r⟩
theorem At.lt (x:At b h j l i):j < h.objs.size:=let ⟨_,e,_⟩:=x;Heap.lt_size e
theorem Dl (hj:At b s.heap j l i) (hl:Of b s.heap l items) (hx:items[i]?=some x) (k:∀h',At b h' j l (i+1)->Heap.SameBut j s.heap h'->Q x {s with heap:=h'}):wpAny (model P w) A (nextOf (.ref j)) Q E s:=by
 cases b with
 | true=>exact wpAny_nextOf_list_item (show s.heap.IsListIter j l i from hj) (show s.heap.IsList l items from hl) hx k
 | false=>
  have hj':s.heap.IsTupleIter j l i:=hj;obtain ⟨o,eo,ec,ed⟩:=hj';obtain ⟨ol,el,_,nl,edl⟩:=(show s.heap.IsTuple l items from hl);unfold nextOf;refine wpAny_bind (wpAny_callSpecial?_slot (name:=Str.ofString "__next__") (show s.TypeIs (.ref j) "tuple_iterator" from ⟨o,eo,ec⟩) F.slot_tuple_iterator_next
   (wpAny_call_entry F.slot_tuple_iterator_next (show s.TypeIs (.ref j) "tuple_iterator" from ⟨o,eo,ec⟩) F.entry_tuple_iterator_next ?_ (F.args_tuple_iterator_next_1 _)))
  show wpAny _ _ (field (.ref j) 0 >>=_) _ _ s;refine wpAny_bind (wpAny_field eo ed (x:=.ref l) rfl ?_);show wpAny _ _ (if (Value.ref l==Value.none)=true then _ else _) _ _ s;rw [if_neg (show ¬((Value.ref l==Value.none)=true) by exact Bool.false_ne_true)];show wpAny _ _ (field (.ref j) 1 >>=_) _ _ s;refine wpAny_bind (wpAny_field eo ed (x:=.int i 0) rfl ?_);show wpAny _ _ (seqItems? (.ref l) >>=_) _ _ s;refine wpAny_bind (wpAny_seqItems el edl ?_);simp only [Int.toNat_natCast,hx];refine wpAny_bind (wpAny_setField eo ed (by simp) (wpAny_pure ⟨x,rfl,wpAny_pure (k _ ?_ (Heap.SameBut.update ..))⟩));exact ⟨_,Heap.get?_update_self _ eo (Obj.isFreed_of_fields (Obj.data_mapFields ed _)),(Obj.cls_mapFields ..).trans ec,by rw [Obj.data_mapFields ed];simp [rawInt]⟩
theorem Dm (hh:A.handled=none) (hj:At b s.heap j l i) (hl:Of b s.heap l items) (hx:items[i]?=none) (k:∀h' e,Heap.ExtBut j s.heap h'->(∃o,h'.get? e=some o∧o.cls=.type "StopIteration")->E (.ref e) {s with heap:=h'}):wpAny (model P w) A (nextOf (.ref j)) Q E s:=by
 cases b with
 | true=>exact wpAny_nextOf_list_end hh (show s.heap.IsListIter j l i from hj) (show s.heap.IsList l items from hl) hx k
 | false=>
  have hj':s.heap.IsTupleIter j l i:=hj;obtain ⟨o,eo,ec,ed⟩:=hj';obtain ⟨ol,el,_,nl,edl⟩:=(show s.heap.IsTuple l items from hl);unfold nextOf;refine wpAny_bind (wpAny_callSpecial?_slot (name:=Str.ofString "__next__") (show s.TypeIs (.ref j) "tuple_iterator" from ⟨o,eo,ec⟩) F.slot_tuple_iterator_next
   (wpAny_call_entry F.slot_tuple_iterator_next (show s.TypeIs (.ref j) "tuple_iterator" from ⟨o,eo,ec⟩) F.entry_tuple_iterator_next ?_ (F.args_tuple_iterator_next_1 _)))
  show wpAny _ _ (field (.ref j) 0 >>=_) _ _ s;refine wpAny_bind (wpAny_field eo ed (x:=.ref l) rfl ?_);show wpAny _ _ (if (Value.ref l==Value.none)=true then _ else _) _ _ s;rw [if_neg (show ¬((Value.ref l==Value.none)=true) by exact Bool.false_ne_true)];show wpAny _ _ (field (.ref j) 1 >>=_) _ _ s;refine wpAny_bind (wpAny_field eo ed (x:=.int i 0) rfl ?_);show wpAny _ _ (seqItems? (.ref l) >>=_) _ _ s;refine wpAny_bind (wpAny_seqItems el edl ?_);simp only [Int.toNat_natCast,hx];refine wpAny_bind (wpAny_rule (wpAny_bind (wpAny_setField eo ed (by simp) ?_)));show wpAny _ _ (newExc (.type "StopIteration") [] >>=_) _ _ _;refine wpAny_bind ?_;simp only [newExc,newTuple];refine wpAny_bind (wpAny_newObj_type ?_ (by size_fits));refine wpAny_bind (m:=firstArgMember _ _) (wpAny_of_eq (a:=Value.none) (by first | (simp only [firstArgMember];rfl) | rfl) ?_);refine wpAny_newObj_type ?_ (by size_fits);simp only [raiseNew];refine wpAny_bind (wpAny_handled ?_)
  first | rw [hh] | rw [show A.in1.handled=none from hh]
  refine wpAny_bind (wpAny_pure (wpAny_throw (k _ _ (((Heap.SameBut.update ..).extBut.push _).push _) ⟨_,Heap.get?_push_size _ rfl,rfl⟩)))
open Builtin.SmallTypes (nextOf ownedTupleIsFree ownedTupleHandOut)
variable {P:Program} {w:World} {A:Around} {E:Value->Shared->Prop} {s:Shared} {b c:Bool}
theorem vp {e j l:Addr} {i:Nat} {items:Array Value} {x old:Value} {Q:Option Value->Shared->Prop} (hE:IsEnum s.heap e j i old) (hj:At b s.heap j l i) (hl:Of b s.heap l items) (hx:items[i]?=some x) (ne:e≠j)
  (k:∀h',IsEnumOut h' e j ((i:Int)+1) x s.heap.objs.size->At b h' j l (i+1)->h'.get? s.heap.objs.size=some {cls:=.type "tuple",data:=.seq #[.int i s.toks,x]}->h'.objs.size=s.heap.objs.size+1->
   (∀a o,a≠e->a≠j->s.heap.get? a=some o->h'.get? a=some o)->Q (some (.ref s.heap.objs.size)) {s with heap:=h',toks:=s.toks+1}):wpAny (model P w) A (pyNext (.ref e)) Q E s:=by
 have hT:s.TypeIs (.ref e) "enumerate":=⟨_,hE,rfl⟩;unfold pyNext;refine wpAny_bind (wpAny_attempt (wpAny_callSpecial?_slot (name:=Str.ofString "__next__") hT F.slot_enumerate_next (wpAny_call_entry F.slot_enumerate_next hT F.entry_enumerate_next ?_ (F.args_enumerate_next_1 _))));obtain ⟨hp,g,d,tk,os⟩:=s;show wpAny _ _ (field (.ref e) 2 >>=_) _ _ _;refine wpAny_bind (wpAny_field hE rfl (x:=.ref j) rfl (wpAny_bind (Dl hj hl hx fun k₁ j₁ t₁=>?_)));replace t₁:Heap.SameBut j hp k₁:=t₁;have E₁:IsEnum k₁ e j i old:=(t₁.2 e ne).trans hE;show wpAny _ _ (field (.ref e) 3 >>=_) _ _ ⟨k₁,g,d,tk,os⟩;refine wpAny_bind (wpAny_field E₁ rfl (x:=rawInt i) rfl ?_);show wpAny _ _ (field (.ref e) 4 >>=_) _ _ ⟨k₁,g,d,tk,os⟩;refine wpAny_bind (wpAny_field E₁ rfl (x:=.none) rfl ?_);show wpAny _ _ (mkInt i >>=_) _ _ ⟨k₁,g,d,tk,os⟩;refine wpAny_bind (wpAny_mkInt ?_);show wpAny _ _ (setField (.ref e) 3 (rawInt ((i:Int)+1)) >>=_) _ _ ⟨k₁,g,d,tk+1,os⟩;refine wpAny_bind (wpAny_setField_rec E₁ (by simp) fun k₂ E₂ t₂=>?_);replace t₂:Heap.SameBut e k₁ k₂:=t₂;replace E₂:IsEnum k₂ e j ((i:Int)+1) old:=E₂;show wpAny _ _ (setField (.ref e) 4 .none >>=_) _ _ ⟨k₂,g,d,tk+1,os⟩;refine wpAny_bind (wpAny_setField_rec E₂ (by simp) fun k₃ E₃ t₃=>?_);replace t₃:Heap.SameBut e k₂ k₃:=t₃;replace E₃:IsEnum k₃ e j ((i:Int)+1) old:=E₃;show wpAny _ _ (newTuple [.int i tk,x] >>=_) _ _ ⟨k₃,g,d,tk+1,os⟩;refine wpAny_bind (wpAny_newTuple ?_);have E₄:IsEnum (k₃.push {cls:=.type "tuple",data:=.seq #[.int i tk,x]}) e j ((i:Int)+1) old:=Heap.get?_push_of_some _ E₃;generalize eq₄:k₃.push {cls:=.type "tuple",data:=.seq #[.int i tk,x]}=k₄ at E₄;have sz:k₃.objs.size=hp.objs.size:=by rw [t₃.1,t₂.1,t₁.1]
 have lte:e < hp.objs.size:=Heap.lt_size hE;have tp:k₄.get? hp.objs.size=some {cls:=.type "tuple",data:=.seq #[.int i tk,x]}:=by rw [←eq₄,←sz];exact Heap.get?_push_size _ rfl
 have sz₄:k₄.objs.size=hp.objs.size+1:=by rw [←eq₄,Heap.size_push,sz]
 have up₄:∀a o,a≠e->a≠j->hp.get? a=some o->k₄.get? a=some o:=fun a o z1 z2 q=>by
  rw [←eq₄];exact Heap.get?_push_of_some _ (t₃.extBut a o z1 (t₂.extBut a o z1 (t₁.extBut a o z2 q)))
 have j₄:At b k₄ j l (i+1):=j₁.up fun o q=>by rw [←eq₄];exact Heap.get?_push_of_some _ (t₃.extBut j o (Ne.symm ne) (t₂.extBut j o (Ne.symm ne) q))
 show wpAny _ _ (ownedTupleIsFree (.ref e) >>=_) _ _ ⟨k₄,g,d,tk+1,os⟩;rw [sz];clear eq₄ E₃ t₃ E₂ t₂ E₁ t₁ j₁ sz k₃ k₂ k₁;refine wpAny_bind ?_;unfold ownedTupleIsFree;refine wpAny_bind (wpAny_field E₄ rfl (x:=.none) rfl (wpAny_pure ?_));simp only [if_true];refine wpAny_bind (wpAny_rule (wpAny_bind (wpAny_field E₄ rfl (x:=old) rfl (wpAny_bind (wpAny_setField_rec E₄ (by simp) fun k₅ E₅ t₅=>?_)))));replace t₅:Heap.SameBut e k₄ k₅:=t₅;replace E₅:IsEnum k₅ e j ((i:Int)+1) x:=E₅;show wpAny _ _ (ownedTupleHandOut (.ref e) (.ref hp.objs.size) >>=_) _ _ ⟨k₅,g,d,tk+1,os⟩;refine wpAny_bind ?_;unfold ownedTupleHandOut;refine wpAny_bind (wpAny_setField_rec E₅ (by simp) fun k₆ E₆ t₆=>?_);replace t₆:Heap.SameBut e k₅ k₆:=t₆;replace E₆:IsEnumOut k₆ e j ((i:Int)+1) x hp.objs.size:=E₆;refine wpAny_setField_rec E₆ (by simp) fun k₇ E₇ t₇=>?_;replace t₇:Heap.SameBut e k₆ k₇:=t₇;replace E₇:IsEnumOut k₇ e j ((i:Int)+1) x hp.objs.size:=E₇;have up:∀a o,a≠e->k₄.get? a=some o->k₇.get? a=some o:=fun a o z q=>t₇.extBut a o z (t₆.extBut a o z (t₅.extBut a o z q));refine wpAny_bind (wpAny_letGo (wpAny_pure ⟨_,rfl,wpAny_pure (k k₇ E₇ (j₄.up fun o q=>up j o (Ne.symm ne) q) (up _ _ (Nat.ne_of_gt lte) tp) ?_ fun a o z1 z2 q=>up a o z1 (up₄ a o z1 z2 q))⟩));rw [t₇.1,t₆.1,t₅.1,sz₄]
theorem xF {e j l:Addr} {i:Nat} {items:Array Value} {old:Value} {Q:Option Value->Shared->Prop} (hh:A.handled=none) (hE:IsEnum s.heap e j i old) (hj:At b s.heap j l i) (hl:Of b s.heap l items) (hx:items[i]?=none)
  (k:∀h',Heap.ExtBut j s.heap h'->Q none {s with heap:=h'}):wpAny (model P w) A (pyNext (.ref e)) Q E s:=by
 have hT:s.TypeIs (.ref e) "enumerate":=⟨_,hE,rfl⟩;unfold pyNext;refine wpAny_bind (wpAny_attempt (wpAny_callSpecial?_slot (name:=Str.ofString "__next__") hT F.slot_enumerate_next (wpAny_call_entry F.slot_enumerate_next hT F.entry_enumerate_next ?_ (F.args_enumerate_next_1 _))));show wpAny _ _ (field (.ref e) 2 >>=_) _ _ _;refine wpAny_bind (wpAny_field hE rfl (x:=.ref j) rfl (wpAny_bind (Dm hh hj hl hx fun h' y he' ⟨o,ho,hc⟩=>?_)));exact wpAny_bind (wpAny_isInstance (T:="StopIteration") (b:=true) ⟨o,ho,hc⟩ isSubtype_stop (wpAny_pure (k _ he')))
theorem vo (x:Of b s.heap l items) (k:∀h',IsEnum h' (s.heap.objs.size+1) s.heap.objs.size 0 .none->At b h' s.heap.objs.size l 0->h'.objs.size=s.heap.objs.size+2->(∀a o,s.heap.get? a=some o->h'.get? a=some o)->Q (.ref (s.heap.objs.size+1)) {s with heap:=h'}):
  wpAny (model P w) A (call (.type "enumerate") [.ref l]) Q E s:=by
 cases b with
 | true=>exact call_enumerate_list (show s.heap.IsList l items from x) k
 | false=>
  have mt:PySem.Meets (Builtin.«enumerate.__new__» ⟨[.type "enumerate",.ref l],[]⟩) (fun _ R s=>s.heap.IsTuple l items∧
    R (.ok (.ret (.ref (s.heap.push {cls:=.type "tuple_iterator",data:=.fields #[.ref l,.int 0 0]}).objs.size)))
     {s with heap:=(s.heap.push {cls:=.type "tuple_iterator",data:=.fields #[.ref l,.int 0 0]}).push {cls:=.type "enumerate",data:=.fields #[.none,.bool false,.ref s.heap.objs.size,rawInt 0,.none,.none]}}):=
   .of_wp fun prog w A R s h=>by
    obtain ⟨hp,g,d,tk,os⟩:=s;obtain ⟨hl,h⟩:=h;have sub:=sub_enumerate;have hL:Heap.IsTuple (Shared.heap ⟨hp,g,d,tk,os⟩) l items:=hl;obtain ⟨o0,e0,c0,n0,d0⟩:=id hL
    wp_walk
    refine wpAny_stack_any fun st=>wpAny_pure ?_
    split
    ·rename_i c _ _ _ _ _;cases (c==Value.type "enumerate")
     ·wp_walk using wpAny_pyIter_tuple hL
      exact ⟨_,rfl,h⟩
     ·wp_walk using wpAny_pyIter_tuple hL
      exact ⟨_,rfl,h⟩
    ·wp_walk using wpAny_pyIter_tuple hL
     exact ⟨_,rfl,h⟩
  refine callType_new F.called_enumerate (by decide) (F.typeCall_enumerate_1 _) (F.newCall_enumerate_1 _) (fun obj=>F.args_object_init_2 obj _) F.entry_enumerate_new mt ⟨x,?_⟩;have z1:(s.heap.push {cls:=.type "tuple_iterator",data:=.fields #[.ref l,.int 0 0]}).objs.size=s.heap.objs.size+1:=Heap.size_push ..;show _∧_;rw [z1];have eE:IsEnum ((s.heap.push {cls:=.type "tuple_iterator",data:=.fields #[.ref l,.int 0 0]}).push
    {cls:=.type "enumerate",data:=.fields #[.none,.bool false,.ref s.heap.objs.size,rawInt 0,.none,.none]}) (s.heap.objs.size+1) s.heap.objs.size 0 .none:=by
   have q:=Heap.get?_push_size (s.heap.push {cls:=.type "tuple_iterator",data:=.fields #[.ref l,.int 0 0]}) (o:={cls:=.type "enumerate",data:=.fields #[.none,.bool false,.ref s.heap.objs.size,rawInt 0,.none,.none]}) rfl;rw [z1] at q;exact q
  refine ⟨⟨_,eE,rfl⟩,k _ eE ⟨_,Heap.get?_push_of_some _ (Heap.get?_push_size _ rfl),rfl,rfl⟩ (by rw [Heap.size_push,z1]) fun a o q=>Heap.get?_push_of_some _ (Heap.get?_push_of_some _ q)⟩
end Sb
namespace Sb
open PySem L2 PySem.Spec PyProof.Rows
open Builtin.SmallTypes (nextOf ownedTupleIsFree ownedTupleHandOut)
section
variable {X:Cx} {pins:List (Addr×Obj)} {σ:L2.St} {H:Hp} {s:Shared} {h':Heap} {fp:List Addr}
theorem tV (I:L2.Inv X pins σ H s) (k:∀b o,b∉fp->s.heap.get? b=some o->h'.get? b=some o) (hf:∀b∈fp,iT X pins H b):L2.Inv X pins σ H {s with heap:=h',toks:=t'}:=by
 have nit:∀b u,H b=some u->b∉fp:=fun b u e z=>by rw [(hf b z).1] at e;cases e
 have nL:X.env.locals∉fp:=fun z=>(hf _ z).2.1 rfl;refine I.step (g':=s.gens) (d':=s.drawn) (ch:=fp) (fun b hb=>?_) (fun b o _ _ hc e _=>k b o hc e) (fun b o _ _ hc e _=>⟨o.slots,k b o hc e⟩) (fun _ _ _ _ n=>n)
  (fun b o hc e=>⟨o,k b o hc e⟩) (fun _ _ e=>e) (fun _ _ _ e=>e) (fun b ps e=>⟨#[],by rw [e];simp⟩) (fun m hm=>?_) (fun b u e=>?_) I.bare
 ·obtain ⟨f0,f1,f2,f3,f4,f5⟩:=hf b hb;exact ⟨f3,f1,f4,f5⟩
 ·obtain ⟨o,es,ep,ho,r⟩:=hm;exact ⟨o,es,ep,k _ o nL ho,r⟩
 ·refine (I.hok b u e).qY (fun c v hc q=>k c v ?_ q) (fun _ q=>q) fun _ _ q=>q;rcases hc with z | z
  ·rw [z];exact nit b u e
  ·exact nit c _ z
theorem yf (I:L2.Inv X pins σ H s) (k:∀b o,b∉fp->s.heap.get? b=some o->h'.get? b=some o) (hf:∀b∈fp,iT X pins H b) (hlt:∀b∈fp,b < s.heap.objs.size) (ht:h'.get? s.heap.objs.size=some {cls:=.type "tuple",data:=.seq us.toArray n}) (r:Vals vs us) (hz:vs.length≤sizeLine):L2.Inv X pins σ (upd H s.heap.objs.size (.tup vs)) {s with heap:=h',toks:=t'}:=by
 have nit:∀b u,H b=some u->b∉fp:=fun b u e z=>by rw [(hf b z).1] at e;cases e
 have nL:X.env.locals∉fp:=fun z=>(hf _ z).2.1 rfl;have hp:H s.heap.objs.size=none:=I.hok.fresh (Nat.le_refl _);have np:∀b o,s.heap.get? b=some o->b≠s.heap.objs.size:=fun b o e=>Nat.ne_of_lt (Heap.lt_size e);have nH:∀b u,H b=some u->b≠s.heap.objs.size:=fun b u e=>aU e hp;refine I.step (g':=s.gens) (d':=s.drawn) (ch:=fp) (fun b hb=>?_) (fun b o _ _ hc e _=>k b o hc e) (fun b o _ _ hc e _=>⟨o.slots,k b o hc e⟩) (fun b o _ e n=>by rw [aJ (np b o e)];exact n)
  (fun b o hc e=>⟨o,k b o hc e⟩) (fun b _ e=>by rw [aJ (nH b _ e)];exact e) (fun b _ _ e=>by rw [aJ (nH b _ e)];exact e) (fun b ps e=>⟨#[],by rw [aJ (nH b _ e),e];simp⟩) (fun m hm=>?_) (fun b u e=>?_) I.bare
 ·obtain ⟨f0,f1,f2,f3,f4,f5⟩:=hf b hb;exact ⟨f3,f1,f4,f5⟩
 ·obtain ⟨o,es,ep,ho,q⟩:=hm;exact ⟨o,es,ep,k _ o nL ho,q⟩
 ·by_cases z:b=s.heap.objs.size
  ·subst z;rw [a9] at e;cases e;exact ⟨hz,us,r,⟨_,ht,rfl,⟨n,rfl⟩,rfl⟩⟩
  ·rw [aJ z] at e;refine (I.hok b u e).qY (fun c v hc q=>k c v ?_ q) (fun c q=>?_) fun c u q=>?_
   ·rcases hc with y | y
    ·rw [y];exact nit b u e
    ·exact nit c _ y
   ·rw [aJ (nH _ _ q)];exact q
   ·rw [aJ (nH _ _ q)];exact q
end
def SqB (b:Bool) (K:FR) (H:Hp) (l:Addr) (xs:List V):Prop:=match b with
 | true=>SqL K H l xs
 | false=>SqT K H l xs
theorem SqB.of (I:L2.Inv X pins σ H s) (q:SqB b X.K H l xs):∃its:List Value,Vals xs its∧Of b s.heap l its.toArray:=by
 cases b with
 | true=>obtain ⟨its,r,p,_⟩:=I.list (show SqL X.K H l xs from q);exact ⟨its,r,p.isList⟩
 | false=>obtain ⟨its,r,p,_⟩:=I.tuple (show SqT X.K H l xs from q);exact ⟨its,r,p⟩
theorem SqB.inj (I:L2.Inv X pins σ H s) (q:SqB b X.K H l xs) (q':SqB b X.K H l ys):xs=ys:=by
 cases b with
 | true=>exact I.rQ q q'
 | false=>exact I.oC q q'
noncomputable def Ite (b:Bool) (K:FR) (l:Addr):It:=
 ⟨fun i H=>∃xs x,SqB b K H l xs∧xs[i]?=some x,fun i H x H'=>∃p y,H p=none∧x=.ref p∧H'=upd H p (.tup [.int (i:Int),y])∧∀xs,SqB b K H l xs->xs[i]?=some y,fun i H=>∃xs,SqB b K H l xs∧xs.length≤i⟩
theorem uK {P:Program} {w:World} {K:FR} {es:List Expr} {k0:Nat} {pos:Pos} (b:Bool) (l e j:Addr) (ne:e≠j):Turn P w K (.Tuple es k0 pos) (Ite b K l) [e,j] e (fun i h=>(∃old,IsEnum h e j i old)∧At b h j l i) where
 mem:=by simp
 obj:=fun i h st a ha=>by
  obtain ⟨⟨old,h1⟩,o,h2,_,d2⟩:=st;simp at ha;rcases ha with rfl | rfl
  ·exact ⟨_,h1,fun v z=>by cases z⟩
  ·exact ⟨o,h2,fun v z=>by rw [d2] at z;cases z⟩
 keep:=fun i h h' ⟨⟨old,h1⟩,h2⟩ k=>⟨⟨old,k e (by simp) _ h1⟩,h2.up fun o q=>k j (by simp) o q⟩
 item:=by
  walk_at "aj";obtain ⟨xs,x,hq,hx⟩:=hg;obtain ⟨⟨old,h1⟩,h2⟩:=st;obtain ⟨its,rv,hO⟩:=hq.of I;obtain ⟨u,hu,ru⟩:=rv.get hx;have hlt:∀a∈[e,j],a < s.heap.objs.size:=fun a ha=>by
   simp at ha;rcases ha with rfl | rfl
   ·exact Heap.lt_size h1
   ·exact h2.lt
  refine vp h1 h2 hO (x:=u) (by simpa using hu) ne fun h' a1 a2 a3 a4 a5=>⟨_,rfl,wpAny_letOwnedTupleGo_enum a1 fun h'' b1 b2=>?_⟩;have hp:H s.heap.objs.size=none:=I.hok.fresh (Nat.le_refl _);have I1:=yf (t':=s.toks+1) (vs:=[.int (i:Int),x]) (us:=[.int i s.toks,u]) (n:=0) I (fun a o ha q=>a5 a o (fun z=>ha (by simp [z])) (fun z=>ha (by simp [z])) q) hf hlt a3 (.cons ⟨_,rfl⟩ (.cons ru .nil)) (show 2≤sizeLine by decide);have hf1:∀a∈[e,j],iT X pins (upd H s.heap.objs.size (.tup [.int (i:Int),x])) a:=fun a ha=>by
   obtain ⟨f0,f⟩:=hf a ha;exact ⟨by rw [aJ (Nat.ne_of_lt (hlt a ha))];exact f0,f⟩
  have I2:=tV (t':=s.toks+1) I1 (h':=h'') (fun a o ha q=>b2.extBut a o (fun z=>ha (by simp [z])) q) hf1;exact ⟨.ref s.heap.objs.size,_,I2,rfl,⟨_,x,hp,rfl,rfl,fun ys hy=>by rw [hy.inj I hq];exact hx⟩,⟨⟨_,by simpa using b1⟩,a2.up fun o q=>b2.extBut j o (Ne.symm ne) q⟩,fun a ha=>(hf1 a ha).1⟩
 done:=by
  walk_at "aj";obtain ⟨xs,hq,hx⟩:=hg;obtain ⟨⟨old,h1⟩,h2⟩:=st;obtain ⟨its,rv,hO⟩:=hq.of I;have hl:=rv.length;exact xF (I.ok.hd hc) h1 h2 hO (by simp;lia) fun h' eb=>⟨rfl,tV (t':=s.toks) I (fun a o ha q=>eb a o (fun z=>ha (by simp [z])) q) hf⟩
 self:=fun A i s Q E ⟨⟨old,h1⟩,_⟩ q=>by
  have hT:s.TypeIs (.ref e) "enumerate":=⟨_,h1,rfl⟩;refine wpAny_pyIter_slot hT F.slot_enumerate_iter (wpAny_call_entry F.slot_enumerate_iter hT F.entry_enumerate_iter ?_ (F.args_enumerate_iter_1 _));show wpAny _ _ (ret (.ref e)) _ _ s;exact wpAny_pure ⟨_,rfl,"enumerate",_,hT,F.slot_enumerate_next.lookup,q⟩
theorem vC:bootBuiltins "enumerate"=some (.type "enumerate"):=by decide+kernel
theorem yS (hg:Gl X "enumerate") (hm:X.mg "enumerate"=none) (ha:PA X [a] ta) (hs:starEach [a] X.env=[(false,eval a X.env)]:=by kernel_rfl):
  PI X (.Tuple es k0 tpos) (.Call (.Name "enumerate" p) [a] [] pos) (fun σ H R=>ta σ H fun vs H1=>∃l b,vs=[.ref l]∧(∃xs,SqB b X.K H1 l xs)∧R (Ite b X.K l) H1):=by
 intro pins s σ H R I h;refine Call_ (jA I hg hm vC (PyProof.Rows.callWith_type1 (thn (ha pos pins s σ H _ I h) fun us s1 ⟨vs,H1,I1,r1,q1⟩=>?_) hs rfl));obtain ⟨l,b,e,⟨xs,hq⟩,q⟩:=q1;subst e;obtain ⟨u,rfl,ru⟩:=Vals.one r1;obtain rfl:u=Value.ref l:=ru;obtain ⟨its,rv,hO⟩:=hq.of I1;refine vo hO fun h' a1 a2 a3 a4=>?_;have I2:L2.Inv X pins σ H1 {s1 with heap:=h'}:=I1.kept (t':=s1.toks) a4;have hf:∀c∈[s1.heap.objs.size+1,s1.heap.objs.size],iT X pins H1 c:=fun c hc=>by
  simp at hc;rcases hc with rfl | rfl
  ·exact I1.vj (Nat.le_succ _) (I1.hok.fresh (Nat.le_succ _))
  ·exact I1.vj (Nat.le_refl _) (I1.hok.fresh (Nat.le_refl _))
 have T:=uK (P:=X.prog) (w:=X.w) (K:=X.K) (es:=es) (k0:=k0) (pos:=tpos) b l (s1.heap.objs.size+1) s1.heap.objs.size (Nat.succ_ne_self _);refine T.self X.A 0 {s1 with heap:=h'} _ X.xe ⟨⟨_,a1⟩,a2⟩ ?_;exact ⟨_,[s1.heap.objs.size+1,s1.heap.objs.size],_,_,H1,rfl,I2,T,⟨⟨_,a1⟩,a2⟩,hf,q⟩
end Sb
namespace Sm
open PySem L2 PySem.Spec PyProof.Rows
noncomputable def iY:Nat->List D->List D
 | _,[]=>[]
 | k,x::r=>.tup [.int (k:Int),x]::iY (k+1) r
theorem k6:∀(xs:List D) (k i:Nat),(iY k xs)[i]?=(xs[i]?).map fun x=>.tup [.int ((k+i:Nat):Int),x]
 | [],k,i=>by simp [iY]
 | x::r,k,0=>by simp [iY]
 | x::r,k,i+1=>by
  show (iY (k+1) r)[i]?=_;rw [k6 r (k+1) i];simp only [List.getElem?_cons_succ];congr 1
  funext y
  rw [show k+1+i=k+(i+1) by lia]
theorem cq:∀(xs:List D) (k:Nat),(iY k xs).length=xs.length
 | [],_=>rfl
 | _::r,k=>by simp [iY,cq r (k+1)]
theorem SeqAt.sqB {K:FR} {H:Hp} {a:Addr} {vs:List V} {b:Bool} (q:SeqAt K H a vs b):Sb.SqB b K H a vs:=by
 cases q with
 | l q=>exact q
 | t q=>exact q
noncomputable def ni (m:AM):IM:=fun δ h=>(m δ h).bind fun p=>match p.1 with
 | [d]=>(cZ d p.2).map fun q=>(iY 0 q.1,q.2,p.2)
 | _=>none
theorem jO (hg:Gl X "enumerate") (hm:X.mg "enumerate"=none) (ha:SA X [a] m) (hl:ll m 1) (hs:starEach [a] X.env=[(false,eval a X.env)]:=by kernel_rfl):SI X (.Tuple es k0 tpos) (.Call (.Name "enumerate" p) [a] [] pos) (ni m):=
 (Sb.yS hg hm ha hs).imp fun σ H Q ⟨ρ,δ,h,xs,ws,h',R,S,e,k⟩=>by
  walk_at "al"
  match ds,hl _ _ _ _ e1,e2,r1 with
  | [d],_,e2,r1=>
   obtain ⟨⟨ys,w⟩,e3,e4⟩:=mpd e2;cases e4;obtain ⟨v,rfl,rd⟩:=rep1 r1;obtain ⟨a,rfl,⟨us,q,l⟩,st⟩:=mG S1 rd e3;refine ⟨a,tu d,rfl,⟨us,q.sqB⟩,k _ ρ1 H1 T1 S1 ⟨fun ρ2 H2 h2 T2 S2 hc i=>?_⟩⟩;obtain ⟨ws,l2,q2⟩:=st ρ2 H2 h2 T2 S2 hc;refine ⟨fun hi=>⟨ws,q2.sqB,by rw [l2.length];rw [cq] at hi;exact hi⟩,fun x hx=>?_⟩;rw [k6] at hx;obtain ⟨y,ey,hx⟩:=mpd hx;subst hx;obtain ⟨v,ev,rv⟩:=l2.got ey;refine ⟨⟨ws,v,q2.sqB,ev⟩,fun u H3 ⟨p,y',hp,hu,hH,hy⟩=>?_⟩;subst hu;subst hH;have hy':y'=v:=by have:=hy ws q2.sqB;rw [ev] at this;exact (Option.some.inj this).symm
   subst hy';refine ⟨Stp.laid S2 hp,S2.laid hp,.tup (.inl ⟨.inl a9,S2.fresh hp⟩) (.cons ?_ (.cons (rv.mono (Stp.laid S2 hp).toCh) .nil))⟩;rw [Nat.zero_add];exact .int _
noncomputable def qz (ls:List (Key×D)):List (Key×D)->Option Bool
 | []=>some true
 | (k,v)::r=>match mx ls k with
  | none=>some false
  | some u=>(pyD v).bind fun a=>(pyD u).bind fun b=>if a.depth≤60∧b.depth≤60 then (qz ls r).map fun c=>PyData.eqv a b&&c else none
noncomputable def xJ (ks ls:List (Key×D)):Option Bool:=if ks.length=ls.length then qz ls ks else some false
noncomputable def eqA (d e:D) (h:MH):Option Bool:=match c9 d h,c9 e h with
 | some ks,some ls=>xJ ks ls
 | _,_=>eqD d e h
noncomputable def cx (d e:D) (h:MH):Option (D×MH):=(eqA d e h).map fun c=>(.bl c,h)
noncomputable def iS (d e:D) (h:MH):Option (D×MH):=(eqA d e h).map fun c=>(.bl (!c),h)
theorem ur (hu:X.A.units+64 < cLine) (I:L2.Inv X pins σ H s) (lb:RepK X.K ρ H vs ls) (rb:KV vs kb):
  ∀{us:List (Key×V)} {ks:List (Key×D)} {ka:List (Key×Value)} {c:Bool},RepK X.K ρ H us ks->KV us ka->qz ls ks=some c->PySem.W.KeqHits X.A.in1 s kb ka c
 | _,_,_,c,.nil,ra,e=>by
  cases ra;cases e;exact .nil
 | _,_,_,c,.cons (k:=k) (v:=v) (d:=d) r l,ra,e=>by
  cases ra with
  | cons ra rr=>
   rename_i p ka;obtain ⟨k',y⟩:=p;obtain ⟨ek,ry⟩:=ra;dsimp only at ek ry;subst ek;simp only [qz] at e;have rel:=rb.val k;rcases lb.val k with ⟨h1,h2⟩ | ⟨d',v',h1,h2,r'⟩
   ·rw [h1] at e;cases e;rw [h2] at rel;refine .miss ?_;cases q:valueAt kb k with
    | none=>rfl
    | some _=>rw [q] at rel;exact rel.elim
   ·rw [h1] at e;obtain ⟨a,e1,e⟩:=bnd e;obtain ⟨b,e2,e⟩:=bnd e
    by_cases z:a.depth≤60∧b.depth≤60
    ·rw [if_pos z] at e;obtain ⟨c',e3,e4⟩:=mpd e;subst e4;rw [h2] at rel;cases q:valueAt kb k with
     | none=>rw [q] at rel;exact rel.elim
     | some y'=>
      rw [q] at rel;obtain ⟨r1,c1⟩:=r.rds e1;obtain ⟨r2,c2⟩:=r'.rds e2;obtain ⟨as,ra1⟩:=r1.reads I ry;obtain ⟨bs,ra2⟩:=r2.reads I rel;refine .hit q (PySem.SeqAt.eqAt_reads a b _ s y y' as bs ra1 ra2 c1 c2 ?_) (ur hu I lb rb l rr e3);have:min a.depth b.depth≤a.depth:=Nat.min_le_left _ _;show X.A.units+1+min a.depth b.depth < cLine
      lia
    ·rw [if_neg z] at e;cases e
theorem xE (hu:X.A.units+64 < cLine) (I:L2.Inv X pins σ H s) (rx:L2.RelV x v) (ry:L2.RelV y u) (S:Sim X.K ρ h H) (rd:Rep X.K ρ H x d) (re:Rep X.K ρ H y e) (ee:eqA d e h=some c):
  (∀Q:Value->Shared->Prop,Q (.bool c) s->wpAny (model X.prog X.w) X.A (compareOp .Eq v u) Q X.xe s)∧∀Q:Value->Shared->Prop,Q (.bool (!c)) s->wpAny (model X.prog X.w) X.A (compareOp .NotEq v u) Q X.xe s:=by
 have data:eqD d e h=some c->(∀Q:Value->Shared->Prop,Q (.bool c) s->wpAny (model X.prog X.w) X.A (compareOp .Eq v u) Q X.xe s)∧∀Q:Value->Shared->Prop,Q (.bool (!c)) s->wpAny (model X.prog X.w) X.A (compareOp .NotEq v u) Q X.xe s:=by
  intro ee;obtain ⟨a,e3,e4⟩:=bnd ee;obtain ⟨b,e5,e6⟩:=bnd e4
  by_cases w:a.depth≤64∧b.depth≤64
  ·rw [if_pos w] at e6;cases e6;obtain ⟨r1,c1⟩:=p0 S rd e3;obtain ⟨r2,c2⟩:=p0 S re e5;obtain ⟨as,ra⟩:=r1.reads I rx;obtain ⟨bs,rb⟩:=r2.reads I ry;exact ⟨fun Q q=>eq_dataH ra rb (iP c1 w.1) (iP c2 w.2) hu q,fun Q q=>ne_dataH ra rb (iP c1 w.1) (iP c2 w.2) hu q⟩
  ·rw [if_neg w] at e6;cases e6
 unfold eqA at ee;cases q1:c9 d h with
 | none=>rw [q1] at ee;exact data ee
 | some ks=>
  cases q2:c9 e h with
  | none=>rw [q1,q2] at ee;exact data ee
  | some ls=>
   rw [q1,q2] at ee;obtain ⟨a,us,rfl,ha,la⟩:=gI S rd q1;obtain ⟨b,ws,rfl,hb,lb⟩:=gI S re q2;obtain rfl:v=Value.ref a:=rx;obtain rfl:u=Value.ref b:=ry;obtain ⟨_,na,ka,ra,da⟩:=uv I.hok ha;obtain ⟨_,nb,kb,rb,db⟩:=uv I.hok hb;have l1:ka.length=ks.length:=by rw [←la.length];exact (Paired.length ra).symm
   have l2:kb.length=ls.length:=by rw [←lb.length];exact (Paired.length rb).symm
   dsimp only [xJ] at ee
   by_cases z:ks.length=ls.length
   ·rw [if_pos z] at ee;have hits:=ur hu I lb rb la ra ee;have ez:(ka.length==kb.length&&c)=c:=by rw [l1,l2,z,beq_self_eq_true,Bool.true_and]
    exact ⟨fun Q q=>PySem.W.keq_eq na nb da db (by lia) (fun _=>hits) (by rw [ez];exact q),fun Q q=>PySem.W.keq_ne na nb da db (by lia) (fun _=>hits) (by rw [ez];exact q)⟩
   ·rw [if_neg z] at ee;cases ee;have ez:(ka.length==kb.length&&false)=false:=Bool.and_false _;have nh:ka.length=kb.length->PySem.W.KeqHits X.A.in1 s kb ka false:=fun q=>absurd (by rw [←l1,←l2];exact q) z;exact ⟨fun Q q=>PySem.W.keq_eq na nb da db (by lia) nh (by rw [ez];exact q),fun Q q=>PySem.W.keq_ne na nb da db (by lia) nh (by rw [ez];exact q)⟩
theorem bg (hu:X.A.units+64 < cLine):OpS X (compareOp .Eq) cx:=by
 walk_at "ab";obtain ⟨c,e1,e2⟩:=mpd ee;cases e2;exact (xE hu I rx ry S rd re e1).1 _ ⟨.bl _,H,I,rfl,k _ _ (.here S (.bl _))⟩
theorem mV (hu:X.A.units+64 < cLine):OpS X (compareOp .NotEq) iS:=by
 walk_at "ab";obtain ⟨c,e1,e2⟩:=mpd ee;cases e2;exact (xE hu I rx ry S rd re e1).2 _ ⟨.bl _,H,I,rfl,k _ _ (.here S (.bl _))⟩
noncomputable def sW (acc:List (Key×D)) (ps:List (Key×D)):List (Key×D):=ps.foldl (fun a p=>putD a p.1 p.2) acc
theorem RepK.merge {K:FR} {ρ:Ad} {H:Hp}:∀{kvs:List (Key×V)} {ps:List (Key×D)} {acc:List (Key×V)} {ac:List (Key×D)},RepK K ρ H acc ac->RepK K ρ H kvs ps->RepK K ρ H (ff acc kvs) (sW ac ps)
 | _,_,_,_,a,.nil=>a
 | _,_,acc,ac,a,.cons (k:=k) (v:=v) (d:=d) r l=>RepK.merge (acc:=putK acc k v) (ac:=putD ac k d) (a.put r) l
theorem uC:bootBuiltins "list"=some (.type "list"):=by decide+kernel
theorem en:bootBuiltins "tuple"=some (.type "tuple"):=by decide+kernel
theorem jH:bootBuiltins "int"=some (.type "int"):=by decide+kernel
theorem xZ:bootBuiltins "str"=some (.type "str"):=by decide+kernel
theorem cv:bootBuiltins "len"=some (.builtin "len"):=by decide+kernel
theorem x3:bootBuiltins "abs"=some (.builtin "abs"):=by decide+kernel
theorem oy:bootBuiltins "isinstance"=some (.builtin "isinstance"):=by decide+kernel
theorem B5:bootBuiltins "all"=some (.builtin "all"):=by decide+kernel
noncomputable def zV (sc:Scope) (x:Str):Bool:=match sc.names.lookup x with
 | some .local=>true
 | some .cell=>true
 | some .free=>true
 | _=>false
noncomputable def ze (sc:Scope) (x:Str):Bool:=match sc.names.lookup x with
 | some .local=>true
 | some .cell=>true
 | _=>false
noncomputable def fnB (X:Cx) (x:Str):Bool:=X.fn x||(match X.env.scope.names.lookup x with
 | some .local=>true
 | _=>false)
theorem zU (h:zV sc x=true):Vis sc x:=by
 unfold zV at h
 split at h <;> first | (cases h;done) | skip
 ·exact .inl ‹_›
 ·exact .inr (.inl ‹_›)
 ·exact .inr (.inr ‹_›)
theorem xk (h:ze sc x=true):Loc sc x:=by
 unfold ze at h
 split at h <;> first | (cases h;done) | skip
 ·exact .inl ‹_›
 ·exact .inr ‹_›
theorem xu (h:fnB X x=true):X.fn x=true∨X.env.scope.names.lookup x=some .local:=by
 unfold fnB at h;rw [Bool.or_eq_true] at h;rcases h with h | h
 ·exact .inl h
 ·split at h
  ·exact .inr ‹_›
  ·cases h
theorem sv (i:Nat) (hN:X.N[i]?=some x:=by kernel_rfl) (hv:zV X.env.scope x=true:=by kernel_rfl) (hd:(x==("__debug__":Str))=false:=by kernel_rfl) (hcd:(x==("__classdict__":Str))=false:=by kernel_rfl):SE X (.Name x pos) (ae i):=Ab hN (zU hv) hd hcd
theorem sset (i:Nat) (hN:X.N.Nodup) (he:SE X e ma) (hi:X.N[i]?=some x:=by kernel_rfl) (hx:ze X.env.scope x=true:=by kernel_rfl) (hs:swapsWith e (some (.Name x pos')) pos.line X.env=pure false:=by kernel_rfl) (hf:fnB X x=true:=by kernel_rfl):SS X (.Assign [.Name x pos'] e pos) (aT i ma):=z6 hN hi (xk hx) he hs (xu hf)
theorem sgn (i:Nat) (hN:X.N.Nodup) (hi:X.N[i]?=some x:=by kernel_rfl) (hx:ze X.env.scope x=true:=by kernel_rfl) (hf:fnB X x=true:=by kernel_rfl):SG X (.Name x pos) (gN i):=ym hN hi (xk hx) (xu hf)
noncomputable def pS (i j:Nat) (m:AM):SM:=fun δ h=>(m δ h).bind fun p=>match p.1 with
 | [a,b]=>some (.nx,(δ.set i (some a)).set j (some b),p.2)
 | _=>none
theorem sG (i j:Nat) {kt k2 pt2} (hN:X.N.Nodup) (hl:ll m 2) (hc:X.calm=true) (hij:i≠j) (P:PS X (.Assign [.Tuple [.Name x px,.Name y py] kt pt] (.Tuple [a,b] k2 pt2) pos) (Cu i j (tMA X.K m))):
  SS X (.Assign [.Tuple [.Name x px,.Name y py] kt pt] (.Tuple [a,b] k2 pt2) pos) (pS i j m):=P.imp fun E σ H ⟨ρ,δ,h,fl,δ',h',R,S,e,k⟩=>by
 walk_at "al"
 match ds,hl _ _ _ _ e1,e2,r1 with
 | [d,d'],_,e2,r1=>
  cases e2;obtain ⟨v,u,rfl,rd,rd'⟩:=rep2 r1;exact ⟨v,u,rfl,k ρ1 H1 T1 S1 _ (((R.mono T1.toCh).set rd i).set rd' j)⟩
structure Df (P:Program) (w:World) (K:FR) (mg:Str->Option Value) (base:Heap) (nm:Str) (k:Nat) (ps:List Str) (n:Nat) (F:Fn):Prop where
 ex:∃(f:Addr) (fd:FuncData),FnOk P w K mg base CX0 k f fd ps (spF K n F)∧PySem.W.keepIn K (.ref f)=true∧Binds K fd ps []∧mg nm=some (.ref f)
theorem CJ (d:Df X.prog X.w X.K X.mg X.base nm k ps n F) (hr:Room k' X.A) (hk:k≤k') (ha:SA X (e::es) m) (hl:ll m n) (hg:Gl X nm:=by unfold Gl;kernel_rfl) (hdb:(nm==("__debug__":Str))=false:=by kernel_rfl) (he:starEach (e::es) X.env=(false,eval e X.env)::starEach es X.env:=by kernel_rfl) (hpl:(backTo pos (starEach es X.env)).any (·.1)=false:=by kernel_rfl):SE X (.Call (.Name nm p) (e::es) [] pos) (eFn F m):=by
 obtain ⟨f,fd,G,kf,bf,mf⟩:=d.ex;exact yq G (hr.mono hk) hg mf kf bf ha hl hdb he hpl
theorem iJ {P:Program} {w:World} {K:FR} {mg:Str->Option Value} {base:Heap} {k n:Nat} {f:Addr} {fd:FuncData} {ps:List Str}:FnOk P w K mg base CX0 k f fd ps (spF K n fun _ _=>none):=
 ⟨fun vs H Q E hh=>(by obtain ⟨_,_,_,_,_,_,_,_,e,_⟩:=hh;cases e),fun A outer s H args us vs Q E _ _ _ _ hh=>(by obtain ⟨_,_,_,_,_,_,_,_,e,_⟩:=hh;cases e)⟩
end Sm
namespace L2
open PySem PySem.Spec PyProof.Rows
section
variable {X:Cx} {N':List Str} {caps:List (Option Nat)} {scope:Scope} {e tg iter:Expr} {ifs:List Expr} {p:Pos} {wi:TI} {g:TG} {tc:TT} {tm:Addr->TK} {o:Addr->HO} {na:Sem Value} {act:Addr->Env->Sem Unit}
end
end L2
namespace Sm
open PySem L2 PySem.Spec PyProof.Rows
structure Ac (α:Type) where
 at_:FR->Ad->Hp->Addr->α->Prop
 mono:∀{K:FR} {ρ ρ':Ad} {H H':Hp} {l:Addr} {a:α},at_ K ρ H l a->Ch ρ H ρ' H'->H' l=H l->at_ K ρ' H' l a
abbrev MK (α:Type):=DS->MH->α->Option (DS×MH×α)
section
variable {α:Type} {K:FR} {A:Ac α} {l:Addr} {g:GM} {mt:TM} {m:MK α}
end
section
variable {α:Type} {X:Cx} {A:Ac α} {g:GM} {mt:TM} {m:MK α} {mi:IM} {e tg iter:Expr} {ifs:List Expr} {d:Nat} {p:Pos} {act:Addr->Env->Sem Unit}
end
end Sm
namespace L2
open PySem PySem.Spec PyProof.Rows
section
variable {P:Program} {w:World} {A:Around} {E:Value->Shared->Prop} {s:Shared} {a:Addr} {ks:List Str}
end
noncomputable def leT (a b:Str):Bool:=!ltCps b.cps.toList a.cps.toList
theorem gF:leT a b=true↔strKind.kle a.cps.toList b.cps.toList:=by
 unfold leT KeyOrd.kle;rw [ltCps_eq];simp
theorem oW (a b c:Str) (h1:leT a b=true) (h2:leT b c=true):leT a c=true:=gF.mpr (KeyOrd.kle_trans (gF.mp h1) (gF.mp h2))
theorem vc (a b:Str):(leT a b||leT b a)=true:=by
 rw [Bool.or_eq_true]
 by_cases z:strKind.klt b.cps.toList a.cps.toList
 ·exact .inr (gF.mpr (KeyOrd.kle_of_klt z))
 ·exact .inl (gF.mpr (KeyOrd.kle_of_not_klt z))
theorem xn (a b:Str) (h1:leT a b=true) (h2:leT b a=true):a=b:=by
 have:=KeyOrd.kle_antisymm (gF.mp h1) (gF.mp h2);cases a;cases b;congr 1;exact Array.toList_inj.mp this
noncomputable def gP (ks:List Str):List Str:=ks.mergeSort leT
theorem eW (ks:List Str):(gP ks).Perm ks:=List.mergeSort_perm _ _
theorem pK (ks:List Str):(gP ks).Pairwise fun a b=>leT a b=true:=List.pairwise_mergeSort oW vc ks
theorem oK:∀(l:List Str) (p:Str),risingS p l=true->(p::l).Pairwise fun a b=>leT a b=true
 | [],p,_=>by simp
 | x::r,p,h=>by
  have h':(!ltCps x.cps.toList p.cps.toList&&risingS x r)=true:=h;rw [Bool.and_eq_true] at h';have ih:=oK r x h'.2;refine List.pairwise_cons.mpr ⟨fun y hy=>?_,ih⟩;rcases List.mem_cons.mp hy with rfl | hy
  ·exact h'.1
  ·exact oW _ _ _ h'.1 ((List.pairwise_cons.mp ih).1 y hy)
theorem v9 (hp:ss.Perm ks) (h:sortedS ss=true):ss=gP ks:=by
 refine List.Perm.eq_of_pairwise (fun a b _ _=>xn a b) ?_ (pK ks) (hp.trans (eW ks).symm)
 match ss,h with
 | [],_=>exact .nil
 | x::r,h=>exact oK r x h
end L2
namespace Sm
open PySem L2 PySem.Spec PyProof.Rows
theorem RepK.len {K:FR} {ρ:Ad} {H:Hp}:∀{us:List (Key×V)} {ks:List (Key×D)},RepK K ρ H us ks->us.length=ks.length
 | _,_,.nil=>rfl
 | _,_,.cons _ r=>by rw [List.length_cons,List.length_cons,r.len]
end Sm
namespace L2
open PySem PySem.Spec PyProof.Rows
theorem oA:∀{us:List Value} {ss:List Str},StrsAre us ss->Vals (ss.map V.str) us
 | _,_,.nil=>.nil
 | _,_,.cons x t r=>.cons ⟨t,rfl⟩ (oA r)
end L2
namespace Sm
open PySem L2 PySem.Spec PyProof.Rows
section
variable {α:Type} {K:FR} {A:Ac α} {g:GM} {mt:TM} {m:MK α}
end
section
variable {X:Cx} {k v tg iter elt tg2 iter2:Expr} {pos:Pos} {mk mv me:EM} {mt mt2:TM} {g g2:GM} {N':List Str} {caps:List (Option Nat)} {scope:Scope} {ifs ifs2:List Expr} {mi mi2:IM}
theorem kK {K:FR} {ρ:Ad} {H:Hp}:∀(ss:List Str),(∀k∈ss,PyData.strOk k=true)->RepL K ρ H (ss.map V.str) (ss.map D.str)
 | [],_=>.nil
 | x::r,h=>.cons (.str (h x List.mem_cons_self)) (kK r fun k hk=>h k (List.mem_cons_of_mem _ hk))
end
end Sm
namespace L2
open PySem PySem.Spec PyProof.Rows
section
variable {X:Cx} {e st:Expr} {te ts:TE} {pos p2:Pos}
end
end L2
namespace Sm
open PySem L2 PySem.Spec PyProof.Rows
section
variable {X:Cx} {e st a b c:Expr} {ma ms mb mc:EM} {pos p2:Pos}
abbrev PrM:=DS->MH->Option (List (Key×D)×MH)
noncomputable def y1:PrM:=fun _ h=>some ([],h)
noncomputable def dD (k v:EM) (r:PrM):PrM:=fun δ h=>(k δ h).bind fun p=>(v δ p.2).bind fun q=>(rR p.1).bind fun kk=>(r δ q.2).map fun z=>((kk,q.1)::z.1,z.2)
inductive TPri (K:FR) (m:PrM) (σ:L2.St) (H:Hp) (Q:List (V×V)->Hp->Prop):Prop where
 | mk (ρ δ h kvs h'):RepS K ρ H σ δ->Sim K ρ h H->(m δ h=some (kvs,h'))->(∀us ρ' H',Stp ρ H ρ' H'->Sim K ρ' h' H'->RepK K ρ' H' us kvs->Q (us.map fun kv=>(kV kv.1,kv.2)) H')->TPri K m σ H Q
def tPr (K:FR) (m:PrM):L2.St->Hp->(List (V×V)->Hp->Prop)->Prop:=fun σ H Q=>TPri K m σ H Q
def SP (X:Cx) (pos:Pos) (keys:List (Option Expr)) (vals:List Expr) (m:PrM):Prop:=∃trs,PPs X pos keys vals trs∧∀σ H Q,tPr X.K m σ H Q->pH trs σ H Q
theorem vX:SP X pos [] [] y1:=⟨[],yN,fun σ H Q ⟨ρ,δ,h,kvs,h',R,S,e,k⟩=>by
 cases e;exact k [] ρ H (.refl _ _) S .nil⟩
theorem df (hk:SE X kx mk) (hv:SE X vx mv) (hr:SP X pos ks vs m):SP X pos (some kx::ks) (vx::vs) (dD mk mv m):=by
 obtain ⟨trs,h1,h2⟩:=hr;refine ⟨_,wO hk hv h1,fun σ H Q ⟨ρ,δ,h,kvs,h',R,S,ee,k⟩=>?_⟩;obtain ⟨⟨x,ha⟩,e1,e2⟩:=bnd ee;obtain ⟨⟨y,hb⟩,e3,e4⟩:=bnd e2;obtain ⟨kk,e5,e6⟩:=bnd e4;obtain ⟨⟨zs,hz⟩,e7,e8⟩:=mpd e6;cases e8;refine ⟨ρ,δ,h,x,ha,R,S,e1,fun v H1 ⟨ρ1,T1,S1,r1⟩=>⟨ρ1,δ,ha,y,hb,R.mono T1.toCh,S1,e3,fun u H2 ⟨ρ2,T2,S2,r2⟩=>?_⟩⟩;refine h2 σ H2 _ ⟨ρ2,δ,hb,zs,_,(R.mono T1.toCh).mono T2.toCh,S2,e7,fun us ρ3 H3 T3 S3 r3=>?_⟩;have ek:=iN r1 e5;subst ek;exact k ((kk,u)::us) ρ3 H3 ((T1.trans T2).trans T3) S3 (.cons (r2.mono T3.toCh) r3)
noncomputable def zP (m:PrM):EM:=fun δ h=>(m δ h).bind fun p=>if p.1.length≤15 then some (.dv (sW [] p.1),p.2) else none
theorem yp (h:SP X pos keys vals m) (hall:keys.all (·.isSome)=true) (hl:keys.length=vals.length) (h0:keys≠[]) (hp:∀trs,PPs X pos keys vals trs->PE X (.Dict keys vals pos) (vQ trs)):SE X (.Dict keys vals pos) (zP m):=by
 obtain ⟨trs,h1,h2⟩:=h;refine (hp trs h1).imp fun σ H Q ⟨ρ,δ,h,d,h',R,S,ee,k⟩ p hpn=>?_;obtain ⟨⟨kvs,ha⟩,e1,e2⟩:=bnd ee;dsimp only at e2
 by_cases z:kvs.length≤15
 ·rw [if_pos z] at e2;cases e2;have Tl:Ch ρ H (ρ.keep p) (upd H p (.dK [])):=Ch.keep hpn;have nl:¬ρ.has p:=S.fresh hpn;refine h2 σ _ _ ⟨ρ.keep p,δ,h,kvs,_,R.mono Tl,S.keep hpn,e1,fun us ρ2 H2 T2 S2 r2=>?_⟩;have hp2:H2 p=some (.dK []):=(T2.res p List.mem_cons_self).trans a9;refine ⟨hp2,us,rfl,by rw [r2.len];exact z,?_⟩;obtain ⟨ob2,rs2⟩:=ρ2;have ers:rs2=p::ρ.rs:=T2.rs;subst ers;have hml:p∈(⟨ob2,p::ρ.rs⟩:Ad).rs:=List.mem_cons_self;have hsub:∀b∈ρ.rs,b∈p::ρ.rs:=fun b hb=>List.mem_cons_of_mem _ hb;have hne:∀b∈ρ.rs,b≠p:=fun b hb z=>nl (.inr (z ▸ hb));have Cp:Ch ⟨ob2,p::ρ.rs⟩ H2 ⟨ob2,p::ρ.rs⟩ (upd H2 p (.dK (ff [] us))):=Ch.put hml;have C2:Ch ⟨ob2,p::ρ.rs⟩ (upd H2 p (.dK (ff [] us))) ⟨ob2,ρ.rs⟩ (upd H2 p (.dK (ff [] us))):=Ch.free hsub;refine k _ _ ⟨⟨ob2,ρ.rs⟩,⟨((Tl.trans T2.toCh).trans Cp).trans C2,rfl,fun b hb=>?_⟩,(S2.put hml).free hsub,.dv a9 (fun z=>?_) ((RepK.merge .nil r2).mono (Cp.trans C2))⟩
  ·show upd H2 p _ b=H b;rw [aJ (hne b hb),T2.res b (hsub b hb)];exact aJ (hne b hb)
  ·rcases z with z | z
   ·exact (S2.rsv p List.mem_cons_self).2 z
   ·exact nl (.inr z)
 ·rw [if_neg z] at e2;cases e2
end
end Sm
namespace L2
open PySem PySem.Spec PyProof.Rows
open HT in
theorem uL {t sl:Addr} {items:Array Value} {vl vu:Value} {lo hi:Option Int} {Q:Value->Shared->Prop} (ht:IsTup s.heap t items) (hs:s.heap.IsSliceOf sl vl vu .none) (pl:IsPart vl lo) (pu:IsPart vu hi)
  (hw:sIx items.size 0 lo=0∧sIx items.size items.size hi=items.size) (h:Q (.ref t) s):wpAny (model prog w) A (getItem (.ref t) (.ref sl)) Q E s:=by
 obtain ⟨os,hos,hcs,hds⟩:=id hs;have hTs:s.TypeIs (.ref sl) "slice":=⟨os,hos,hcs⟩;unfold getItem
 try with_reducible refine wpAny_holding ?_
 first | refine wpAny_bind (wpAny_pure ?_) | skip
 refine wpAny_bind (wpAny_sequenceKey ht.typeIs (by decide) ?_);refine wpAny_bind (wpAny_callSpecial?_slot (name:=Str.ofString "__getitem__") ht.typeIs PyProof.Rows.slot_tuple_getitem (wpAny_call_entry PyProof.Rows.slot_tuple_getitem ht.typeIs entry_tuple_getitem ?_ (args_tuple_getitem _ _)));show wpAny _ _ (Builtin.Tuple.tupleItemsOf (.ref t) >>=_) _ _ s;refine wpAny_bind (tupleItemsOf_ ht (wpAny_bind (wpAny_typeOf hTs ?_)));rw [if_pos (by decide)];refine wpAny_bind (fN hs pl pu ?_);show wpAny _ _ (if (((sIx items.size 0 lo:Nat):Int)==0&&(1:Int)==1&&(sIx items.size items.size hi-sIx items.size 0 lo)==items.size)=true then _ else _) _ _ s;rw [if_pos (by rw [hw.1,hw.2];simp)];unfold Builtin.Tuple.tupleIsExact;simp only [bind_assoc,pure_bind];refine wpAny_bind (wpAny_typeOf ht.typeIs ?_);rw [if_pos (by decide)]
 first
  | exact wpAny_bind (wpAny_rule (wpAny_pure ⟨_,rfl,wpAny_pure h⟩))
  | exact wpAny_bind (wpAny_rule (wpAny_bind (wpAny_pure (wpAny_pure ⟨_,rfl,wpAny_pure h⟩))))
def Ea (K:FR):V->Option Int->Option Int->Hp->VK->Prop:=fun x lo hi H Q=>∃a xs,x=.ref a∧SqT K H a xs∧(HT.sIx xs.length 0 lo=0∧HT.sIx xs.length xs.length hi=xs.length)∧Q (.ref a) H
theorem wa:SlR X (Ea X.K):=by
 intro pins s σ H x v vl vu lo hi sl Q I rx hs pl pu h;obtain ⟨a,xs,rfl,hx,hw,q⟩:=h;cases rx;obtain ⟨its,r,ht,hz⟩:=I.tuple hx;have hlen:its.toArray.size=xs.length:=by rw [List.size_toArray];exact r.length.symm
 exact ⟨"tuple",_,PyProof.Rows.slot_tuple_getitem.lookup,ht.typeIs,uL ht hs pl pu (by rw [hlen];exact hw) ⟨.ref a,H,I,rfl,q⟩⟩
end L2
namespace Sm
open PySem L2 PySem.Spec PyProof.Rows
section
variable {X:Cx}
noncomputable def r8 (d:D) (lo hi:Option Int) (h:MH):Option (D×MH):=match d with
 | .tup xs=>if HT.sIx xs.length 0 lo=0∧HT.sIx xs.length xs.length hi=xs.length then some (.tup xs,h) else some (.tup (cutD xs lo hi),h)
 | d=>fSl d lo hi h
noncomputable def ou (a:EM) (l u:PM):EM:=fun δ h=>(a δ h).bind fun p=>(l δ p.2).bind fun q=>(u δ q.2).bind fun r=>r8 p.1 q.1 r.1 r.2
inductive RSLAi (K:FR) (x:V) (lo hi:Option Int) (H:Hp) (Q:VK):Prop where
 | mk (ρ h d z h'):Sim K ρ h H->Rep K ρ H x d->(r8 d lo hi h=some (z,h'))->(∀v H',dw K ρ H h' z v H'->Q v H')->RSLAi K x lo hi H Q
def Ee (K:FR):V->Option Int->Option Int->Hp->VK->Prop:=fun x lo hi H Q=>RSLAi K x lo hi H Q
theorem z5:SlR X (Ee X.K):=by
 intro pins s σ H x v vl vu lo hi sl Q I rx hs pl pu hh;obtain ⟨ρ,h,d,z,h',S,rd,ee,k⟩:=hh;cases d with
 | tup xs=>
  unfold r8 at ee;dsimp only at ee
  by_cases c:HT.sIx xs.length 0 lo=0∧HT.sIx xs.length xs.length hi=xs.length
  ·rw [if_pos c] at ee;cases ee;have rd0:=rd;cases rd with | tup h0 l0=>
   exact wa pins s σ H _ v vl vu lo hi sl Q I rx hs pl pu ⟨_,_,rfl,h0.sq,by rw [l0.length];exact c,k _ _ (.here S rd0)⟩
  ·rw [if_neg c] at ee;exact zI pins s σ H x v vl vu lo hi sl Q I rx hs pl pu ⟨ρ,h,_,z,h',S,rd,by unfold fSl;dsimp only;rw [if_neg c];exact ee,k⟩
 | _=>exact zI pins s σ H x v vl vu lo hi sl Q I rx hs pl pu ⟨ρ,h,_,z,h',S,rd,ee,k⟩
theorem i5 {a:Expr} {lo hi:Option Expr} {pos p2:Pos} {ma:EM} {ml mu:PM} (ha:SE X a ma) (hl:SP' X lo ml) (hu:SP' X hi mu):SE X (.Subscript a (.Slice lo hi none p2) pos) (ou ma ml mu):=
 (wU z5 ha hl hu).imp fun σ H Q ⟨ρ,δ,h,d,h',R,S,e,k⟩=>by
  obtain ⟨⟨x,h1⟩,e1,e2⟩:=bnd e;obtain ⟨⟨l,h2⟩,e3,e4⟩:=bnd e2;obtain ⟨⟨u,h3⟩,e5,e6⟩:=bnd e4;exact ⟨ρ,δ,h,x,h1,R,S,e1,fun v H1 ⟨ρ1,T1,S1,r1⟩=>⟨ρ1,δ,h1,l,h2,R.mono T1.toCh,S1,e3,fun ρ2 H2 T2 S2=>⟨ρ2,δ,h2,u,h3,(R.mono T1.toCh).mono T2.toCh,S2,e5,fun ρ3 H3 T3 S3=>
   ⟨ρ3,h3,x,d,h',S3,r1.mono (T2.trans T3).toCh,e6,fun w H4 p=>k w H4 (p.step (T1.trans (T2.trans T3)))⟩⟩⟩⟩
noncomputable def k5:Fn:=fun ds h=>match ds with
 | [.bl b]=>some (.int (if b then 1 else 0),h)
 | _=>none
theorem k7:eP X (.type "int") k5:=by
 walk_at "ac"
 match ds,l,ee with
 | [],_,ee=>cases ee
 | _::_::_,_,ee=>exact absurd ee (by unfold k5;split <;> simp_all)
 | [d],l,ee=>
  obtain ⟨v,rfl,rd⟩:=rep1 l;cases rd <;> first | (cases ee;done) | skip
  cases ee;obtain ⟨u,rfl,ru⟩:=Vals.one r;cases ru;exact call_int_bool ⟨.int _,H,I.kept (t':=s.toks+1) (h':=s.heap) fun _ _ e=>e,⟨_,rfl⟩,k _ _ (.here S (.int _))⟩
noncomputable def fX (d e:D) (h:MH):Option (D×MH):=match d,e with
 | .str x,.int n=>if x.length≤1000∧0≤n∧n≤1000∧PyData.strOk (Txt.mul x n)=true then some (.str (Txt.mul x n),h) else none
 | d,e=>BM d e h
theorem fv:OpS X (binaryOp .Mult) fX:=by
 walk_at "ab";unfold fX at ee
 split at ee
 ·rename_i x0 n
  by_cases c:x0.length≤1000∧0≤n∧n≤1000∧PyData.strOk (Txt.mul x0 n)=true
  ·rw [if_pos c] at ee;cases ee;cases rd;cases re;obtain ⟨t1,rfl⟩:=rx;obtain ⟨t2,rfl⟩:=ry;obtain ⟨c1,c2,c3,c4⟩:=c;refine SB.mul ⟨?_,fun _ _=>?_,fun _ _=>?_⟩ fun t' k'=>⟨.str _,H,I.kept (t':=k') (h':=s.heap) fun _ _ e=>e,⟨t',rfl⟩,k _ _ (.here S (.str c4))⟩
   ·rw [decide_eq_false (by lia),decide_eq_false (by lia)];rfl
   ·have h1:(9007199254740991:Int)≤(2^63-1) / n:=by
     refine Int.le_ediv_of_mul_le (by lia) ?_;have:9007199254740991*n≤9007199254740991*1000:=Int.mul_le_mul_of_nonneg_left c3 (by decide)
     lia
    lia
   ·have h1:x0.length*n.toNat≤1000*1000:=Nat.mul_le_mul c1 (by lia);refine decide_eq_false ?_;have:=sizeLine_eq
    lia
  ·rw [if_neg c] at ee;cases ee
 ·exact Bb pins s σ H x y v u Q I rx ry ⟨ρ,h,_,_,z,h',S,rd,re,ee,k⟩
noncomputable def nA (f f':D->D->MH->Option (D×MH)) (ma mb mc:EM):EM:=fun δ h=>(ma δ h).bind fun p=>(mb δ p.2).bind fun q=>(f p.1 q.1 q.2).bind fun r=>match r.1 with
 | .bl true=>(mc δ r.2).bind fun u=>f' q.1 u.1 u.2
 | .bl false=>some (.bl false,r.2)
 | _=>none
theorem wt (hh:tM X.K (nA f f' ma mb mc) σ H Q):vS (rS X.K f) (rS X.K f') (tM X.K ma) (tM X.K mb) (tM X.K mc) σ H Q:=by
 obtain ⟨ρ,δ,h,d,h',R,S,ee,k⟩:=hh;obtain ⟨⟨x,h1⟩,e1,e2⟩:=bnd ee;obtain ⟨⟨y,h2⟩,e3,e4⟩:=bnd e2;obtain ⟨⟨z,h3⟩,e5,e6⟩:=bnd e4;dsimp only at e3 e5 e6;refine ⟨ρ,δ,h,x,h1,R,S,e1,fun v H1 ⟨ρ1,T1,S1,r1⟩=>⟨ρ1,δ,h1,y,h2,R.mono T1.toCh,S1,e3,fun u H2 ⟨ρ2,T2,S2,r2⟩=>⟨ρ2,h2,x,y,z,h3,S2,r1.mono T2.toCh,r2,e5,fun w H3 ⟨ρ3,T3,S3,r3⟩=>?_⟩⟩⟩;cases z with
 | bl b=>
  cases r3;refine ⟨b,rfl,?_⟩;cases b with
  | false=>
   cases e6;exact Dq (k _ _ (dw.step (T1.trans (T2.trans T3)) (.here S3 (.bl false))))
  | true=>
   obtain ⟨⟨u',h4⟩,e7,e8⟩:=bnd e6;have T:=T1.trans (T2.trans T3);exact Dp ⟨ρ3,δ,h3,u',h4,R.mono T.toCh,S3,e7,fun v' H4 ⟨ρ4,T4,S4,r4⟩=>⟨ρ4,h4,y,u',d,h',S4,r2.mono (T3.trans T4).toCh,r4,e8,fun w' H5 P=>k w' H5 (P.step (T.trans T4))⟩⟩
 | _=>cases e6
theorem vV (ho:OpS X (compareOp op) f) (ho':OpS X (compareOp op') f') (ha:SE X a ma) (hb:SE X b mb) (hc:SE X c mc) (hm:lastMarks [op,op'] [b,c]=false:=by with_unfolding_all rfl):
  ST X (.Compare a [op,op'] [b,c] pos) (aH (nA f f' ma mb mc)):=(wK ho ho' ha hb hc hm).imp fun σ H Q h=>wt (yA h)
end
end Sm
namespace L2
open PySem PySem.Spec PyProof.Rows
open HT in
section
variable {X:Cx} {e st:Expr} {te ts:TE} {pos p2:Pos}
end
end L2
namespace Sm
open PySem L2 PySem.Spec PyProof.Rows
section
variable {X:Cx} {e st:Expr} {ma ms:EM} {pos p2:Pos}
end
end Sm
namespace L2
open PySem PySem.Spec PyProof.Rows
open HT in
theorem xT {t b:Addr} {vs ws:List Value} {Q:Value->Shared->Prop} (ht:IsTup s.heap t vs.toArray) (hb:IsTup s.heap b ws.toArray) (hv:vs=[]) (h:Q (.ref b) s):wpAny (model prog w) A (binaryOp .Add (.ref t) (.ref b)) Q E s:=by
 obtain ⟨⟨cls,dd,data,sl⟩,ho,hc,n,hd⟩:=id ht;obtain ⟨⟨cls2,dd2,data2,sl2⟩,ho2,hc2,n2,hd2⟩:=id hb;simp only at hc hd hc2 hd2;subst hc hd hc2 hd2;exact concat_meets ⟨_,ho,rfl⟩ ⟨_,ho2,rfl⟩ noFill_tuple_add seq_tuple_add PySem.F.slot_tuple_add PySem.F.entry_tuple_add (PySem.F.args_tuple_add_2 _ _)
   (tuple_addW0 t b vs.toArray ws.toArray n n2 dd dd2 sl sl2 (by simp [hv])) ⟨ho,ho2,h⟩
theorem xb:OpR X (binaryOp .Add) (fun x y H Q=>∃a b ys,x=.ref a∧y=.ref b∧SqT X.K H a []∧SqT X.K H b ys∧Q (.ref b) H):=by
 intro pins s σ H x y v u Q I rx ry h;obtain ⟨a,b,ys,rfl,rfl,ha,hb,q⟩:=h;cases rx;cases ry;obtain ⟨its,r1,p1,_⟩:=I.tuple ha;obtain ⟨its2,r2,p2,_⟩:=I.tuple hb;exact xT p1 p2 (r1.mh.mpr rfl) ⟨.ref b,H,I,rfl,q⟩
end L2
namespace Sm
open PySem L2 PySem.Spec PyProof.Rows
noncomputable def aG (d e:D) (h:MH):Option (D×MH):=match d,e with
 | .tup [],.tup ys=>some (.tup ys,h)
 | d,e=>qy d e h
theorem aw:OpS X (binaryOp .Add) aG:=by
 walk_at "ab";unfold aG at ee
 split at ee
 ·cases ee;have re0:=re;cases rd with | tup h1 l1=>cases re with | tup h2 l2=>
  cases l1;exact xb pins s σ H _ _ v u Q I rx ry ⟨_,_,_,rfl,rfl,h1.sq,h2.sq,k _ _ (.here S re0)⟩
 ·exact Be pins s σ H _ _ v u Q I rx ry ⟨ρ,h,_,_,z,h',S,rd,re,ee,k⟩
noncomputable def xy:Fn:=fun ds h=>match ds with
 | [.int i,.int j]=>some (.int (if j < i then j else i),h)
 | _=>none
noncomputable def nv:Fn:=fun ds h=>match ds with
 | [.int i,.int j]=>some (.int (if j > i then j else i),h)
 | _=>none
theorem BV (hc:X.calm=true):eP X (.builtin "min") xy:=by
 walk_at "ac"
 match ds,l,ee with
 | [],_,ee=>cases ee
 | [_],_,ee=>exact absurd ee (by unfold xy;split <;> simp_all)
 | _::_::_::_,_,ee=>exact absurd ee (by unfold xy;split <;> simp_all)
 | [d,e],l,ee=>
  obtain ⟨v,w,rfl,rd,re⟩:=rep2 l;cases rd <;> first | (cases ee;done) | skip
  cases re <;> first | (cases ee;done) | skip
  cases ee;exact vy hc pins s σ H _ us Q I r ⟨_,_,rfl,k _ _ (.here S (.int _))⟩
theorem jF (hc:X.calm=true):eP X (.builtin "max") nv:=by
 walk_at "ac"
 match ds,l,ee with
 | [],_,ee=>cases ee
 | [_],_,ee=>exact absurd ee (by unfold nv;split <;> simp_all)
 | _::_::_::_,_,ee=>exact absurd ee (by unfold nv;split <;> simp_all)
 | [d,e],l,ee=>
  obtain ⟨v,w,rfl,rd,re⟩:=rep2 l;cases rd <;> first | (cases ee;done) | skip
  cases re <;> first | (cases ee;done) | skip
  cases ee;exact vz hc pins s σ H _ us Q I r ⟨_,_,rfl,k _ _ (.here S (.int _))⟩
noncomputable def Bu:MFn:=fun d ds h=>(c9 d h).bind fun kvs=>match ds with
 | [k]=>(rR k).map fun key=>((mx kvs key).getD .non,h)
 | [k,x]=>(rR k).map fun key=>((mx kvs key).getD x,h)
 | _=>none
theorem Bt (hu:X.A.units+1 < cLine):MtR X "dict.get" (rM X.K Bu):=by
 walk_at "ai";obtain ⟨kvs,e1,e2⟩:=bnd ee;obtain ⟨a,ws,rfl,ha,lk⟩:=gI S rd e1;obtain rfl:v=Value.ref a:=rx
 match ds,l,e2 with
 | [],_,e2=>cases e2
 | [y],l,e2=>
  obtain ⟨key,e3,e4⟩:=mpd e2;cases e4;obtain ⟨yv,rfl,ry⟩:=rep1 l;obtain ⟨u,rfl,ru⟩:=Vals.one rs;have hy:=iN ry e3;subst hy;refine BS hu I (kC.k ha) ru fun w' s' I' r'=>⟨_,H,I',r',k _ _ ?_⟩;rcases lk.val key with ⟨q1,q2⟩ | ⟨d',v',q1,q2,q3⟩
  ·rw [q1,q2];exact .here S .non
  ·rw [q1,q2];exact .here S q3
 | [y,x0],l,e2=>
  obtain ⟨key,e3,e4⟩:=mpd e2;cases e4;obtain ⟨yv,xv,rfl,ry,rx0⟩:=rep2 l;obtain ⟨u,u2,rfl,ru,ru2⟩:=Vals.two rs;have hy:=iN ry e3;subst hy;refine BR hu I (kC.k ha) ru ru2 fun w' s' I' r'=>⟨_,H,I',r',k _ _ ?_⟩;rcases lk.val key with ⟨q1,q2⟩ | ⟨d',v',q1,q2,q3⟩
  ·rw [q1,q2];exact .here S rx0
  ·rw [q1,q2];exact .here S q3
 | _::_::_::_,_,e2=>exact absurd e2 (by simp)
noncomputable def BP (a b:EM):EM:=fun δ h=>(a δ h).bind fun p=>(sD p.1 p.2).bind fun c=>if c=true then some p else b δ p.2
end Sm
namespace L2
open PySem PySem.Spec PyProof.Rows
section
variable {X:Cx} {a b:Expr} {rest:List Expr} {pos:Pos} {ta tb:TE}
theorem AR (ha:PE X a ta) (hb:PE X (.BoolOp .Or (b::rest) pos) tb):PE X (.BoolOp .Or (a::b::rest) pos) (fun σ H Q=>ta σ H fun x H1=>∃c,zE X.K x H1 c∧if c=true then Q x H1 else tb σ H1 Q):=by
 intro pins s σ H Q I h;refine BoolOp_or (thn (ha pins s σ H _ I h) fun v s1 ⟨x,H1,I1,r1,c,ht,q1⟩=>?_);refine thn (vO pins s1 σ H1 x v (fun c H2=>if c=true then Q x H2 else tb σ H2 Q) I1 r1 ⟨c,ht,q1⟩) fun c' s2 ⟨H2,I2,q2⟩=>?_;cases c' with
 | false=>exact hb pins s2 σ H2 Q I2 q2
 | true=>exact ⟨x,H2,I2,r1,q2⟩
end
end L2
namespace Sm
open PySem L2 PySem.Spec PyProof.Rows
section
variable {X:Cx} {a b:Expr} {pos:Pos} {ma mb:EM}
theorem Af {rest:List Expr} (ha:SE X a ma) (hb:SE X (.BoolOp .Or (b::rest) pos) mb):SE X (.BoolOp .Or (a::b::rest) pos) (BP ma mb):=(AR ha hb).imp fun σ H Q ⟨ρ,δ,h,d,h',R,S,e,k⟩=>by
 walk_at "ad";obtain ⟨c,e3,e4⟩:=bnd e2;refine ⟨ρ,δ,h,x,h1,R,S,e1,fun v H' ⟨ρ',T,S',r⟩=>⟨c,tW S' r e3,?_⟩⟩;cases c with
 | false=>rw [if_neg (by simp)] at e4 ⊢;exact ⟨ρ',δ,h1,d,h',R.mono T,S',e4,fun v H2 p=>k v H2 (p.step T)⟩
 | true=>rw [if_pos rfl] at e4 ⊢;cases e4;exact k _ _ ⟨ρ',T,S',r⟩
end
end Sm
namespace L2
open PySem PySem.Spec PyProof.Rows
end L2
namespace Sm
open PySem L2 PySem.Spec PyProof.Rows
theorem B4:bootBuiltins "min"=some (.builtin "min"):=by decide+kernel
theorem jG:bootBuiltins "max"=some (.builtin "max"):=by decide+kernel
section
variable {X:Cx} {g:GM} {mt:TM} {ma:EM}
end
end Sm
namespace L2
open PySem PySem.Spec PyProof.Rows
noncomputable def fR:List Int->Int
 | []=>0
 | i::r=>i+fR r
theorem mr:∀{ns:List Int} {us:List Value},Vals (ns.map V.int) us->∃xs:List (Int×Tok),us=xs.map (fun p=>Value.int p.1 p.2)∧xs.map (·.1)=ns
 | [],_,.nil=>⟨[],rfl,rfl⟩
 | n::r,_,.cons q l=>by
  obtain ⟨t,rfl⟩:=q;obtain ⟨xs,rfl,e⟩:=mr l;exact ⟨(n,t)::xs,rfl,by rw [List.map_cons,e]⟩
theorem ij (f:Nat->Int) (ns:List Int) (hf:∀i n,ns[i]?=some n->f i=n):∀k,k≤ns.length->preSum f k=fR (ns.take k)
 | 0,_=>by rw [List.take_zero];rfl
 | k+1,h=>by
  have hk:k < ns.length:=by lia
  have e:ns[k]?=some ns[k]:=List.getElem?_eq_getElem hk;show preSum f k+f k=_;rw [ij f ns hf k (by lia),hf k _ e,List.take_add_one,e];have app:∀(a b:List Int),fR (a++b)=fR a+fR b:=fun a b=>by
   induction a with
   | nil=>show fR b=0+fR b;lia
   | cons x r ih=>show x+fR (r++b)=x+fR r+fR b;rw [ih];lia
  rw [app];show _=_+(ns[k]+0)
  lia
theorem mR:∀(ns:List Int),(∀n∈ns,-(2^40)≤n∧n≤2^40)->-(2^40*(ns.length:Int))≤fR ns∧fR ns≤2^40*(ns.length:Int)
 | [],_=>by simp [fR]
 | n::r,h=>by
  have h1:=h n List.mem_cons_self;have h2:=mR r fun m hm=>h m (List.mem_cons_of_mem _ hm);show -(2^40*(((n::r).length:Nat):Int))≤n+fR r∧n+fR r≤2^40*(((n::r).length:Nat):Int);rw [List.length_cons]
  push_cast
  lia
theorem xU (hc:X.calm=true):eB X (.builtin "sum") (fun xs H Q=>∃a ns,xs=[.ref a]∧SqL X.K H a (ns.map V.int)∧ns.length≤1000∧(∀n∈ns,-(2^40)≤n∧n≤2^40)∧Q (.int (fR ns)) H):=by
 intro pins s σ H xs us Q I r h;obtain ⟨a,ns,rfl,ha,hl,hb,q⟩:=h;obtain ⟨u,rfl,ru⟩:=vals1 r;cases ru;obtain ⟨its,rv,p,hz⟩:=I.list ha;obtain ⟨ps,rfl,e⟩:=mr rv;have hlen:ps.length=ns.length:=by rw [←e,List.length_map]
 have hnum:∀(i:Nat) n,ns[i]?=some n->numAt ps.toArray i=n:=fun i n hi=>by
  unfold numAt;rw [←e,List.getElem?_map] at hi;rw [List.getElem?_toArray,hi];rfl
 have hI:s.heap.IsList a (intItems ps.toArray):=by
  have:intItems ps.toArray=(ps.map fun p=>Value.int p.1 p.2).toArray:=by unfold intItems;simp
  rw [this];exact p.isList
 refine sum_intList (xs:=ps.toArray) (I.ok.hd hc) hI (fun j hj=>?_) fun h' tk t' k=>⟨.int (fR ns),H,I.kept (t':=tk) k,⟨t',?_⟩,q⟩
 ·have hj:j < ns.length:=by rw [←hlen];simpa using hj
  rw [hnum j _ (List.getElem?_eq_getElem hj),ij _ ns hnum (j+1) (by lia)];have h1:=hb _ (List.getElem_mem hj);have h2:=mR (ns.take (j+1)) fun n hn=>hb n (List.mem_of_mem_take hn);have h3:((ns.take (j+1)).length:Int)≤1000:=by rw [List.length_take];lia
  refine ⟨⟨by lia,by lia⟩,?_,?_⟩ <;> lia
 ·rw [show ps.toArray.size=ns.length by simpa using hlen,ij _ ns hnum _ (Nat.le_refl _),List.take_length]
theorem iH:∀{ss:List Str} {us:List Value},Vals (ss.map V.str) us->StrsAre us ss
 | [],_,.nil=>.nil
 | x::r,_,.cons q l=>by obtain ⟨t,rfl⟩:=q;exact .cons x t (iH l)
theorem tO:eB X (.builtin "sorted") (fun xs H Q=>∃a ss,xs=[.ref a]∧SqL X.K H a (ss.map V.str)∧ss.length < 64∧∀l,H l=none->Q (.ref l) (upd H l (.lst ((gP ss).map V.str)))):=by
 intro pins s σ H xs us Q I r h;obtain ⟨a,ss,rfl,ha,h64,q⟩:=h;obtain ⟨u,rfl,ru⟩:=vals1 r;cases ru;obtain ⟨its,rv,p,hz⟩:=I.list ha;have hS:=iH rv;have hlen:its.length=ss.length:=by have:=rv.length;rw [List.length_map] at this;exact this.symm
 refine sorted_strs p.isList hS (by lia) fun out ss' h1 h2 h3=>?_;have:=v9 h2 h3;subst this;have hl:s.heap.objs.size≤s.heap.objs.size+1:=Nat.le_succ _;obtain ⟨e,ho⟩:=sortedAll_at s.heap its out;have hz':((gP ss).map V.str).length≤sizeLine:=by rw [List.length_map,(eW ss).length_eq,sizeLine_eq];lia
 refine ⟨.ref (s.heap.objs.size+1),_,I.laid (t':=s.toks) (o:=.lst ((gP ss).map V.str)) (fun b o q=>sortedAll_old q) hl ⟨hz',out.toList,e,oA h1,?_⟩,rfl,q _ (I.hok.fresh hl)⟩;rw [ho]
end L2
namespace Sm
open PySem L2 PySem.Spec PyProof.Rows
noncomputable def lE:List D->Option (List Int)
 | []=>some []
 | .int i::r=>(lE r).map fun is=>i::is
 | _=>none
theorem ng:∀{xs:List D} {ns:List Int},lE xs=some ns->xs=ns.map D.int
 | [],_,e=>by cases e;rfl
 | d::r,ns,e=>by
  cases d <;> first | (cases e;done) | skip
  obtain ⟨is,e1,e2⟩:=mpd (show (lE r).map _=some ns from e);cases e2;rw [ng e1];rfl
theorem oZ:∀(ns:List Int),lE (ns.map D.int)=some ns
 | []=>rfl
 | n::r=>by show (lE (r.map D.int)).map _=_;rw [oZ r];rfl
theorem jh {K:FR} {ρ:Ad} {H:Hp}:∀{vs:List V} {ns:List Int},RepL K ρ H vs (ns.map D.int)->vs=ns.map V.int
 | _,[],.nil=>rfl
 | _,n::r,.cons q l=>by cases q;rw [jh l];rfl
noncomputable def DA:Fn:=fun ds h=>match ds with
 | [d]=>(dB d h).bind fun xs=>(lE xs).bind fun ns=>if ns.length≤1000∧(ns.all fun n=>decide (-(2^40)≤n)&&decide (n≤2^40))=true then some (.int (fR ns),h) else none
 | _=>none
theorem BU (hc:X.calm=true):eP X (.builtin "sum") DA:=by
 walk_at "ac"
 match ds,l,ee with
 | [],_,ee=>cases ee
 | _::_::_,_,ee=>cases ee
 | [d],l,ee=>
  obtain ⟨v,rfl,rd⟩:=rep1 l;obtain ⟨ys,e1,e2⟩:=bnd ee;obtain ⟨ns,e3,e4⟩:=bnd e2
  by_cases c:ns.length≤1000∧(ns.all fun n=>decide (-(2^40)≤n)&&decide (n≤2^40))=true
  ·rw [if_pos c] at e4;cases e4;obtain ⟨a,vs,rfl,ha,la⟩:=dq S rd e1;have:=ng e3;subst this;have:=jh la;subst this;refine xU hc pins s σ H _ us Q I r ⟨a,ns,rfl,SqL.of ha,c.1,fun n hn=>?_,k _ _ (.here S (.int _))⟩;have:=List.all_eq_true.mp c.2 n hn
   simpa using this
  ·rw [if_neg c] at e4;cases e4
noncomputable def lp:List D->Option (List Str)
 | []=>some []
 | .str i::r=>(lp r).map fun is=>i::is
 | _=>none
theorem mB:∀{xs:List D} {ns:List Str},lp xs=some ns->xs=ns.map D.str
 | [],_,e=>by cases e;rfl
 | d::r,ns,e=>by
  cases d <;> first | (cases e;done) | skip
  obtain ⟨is,e1,e2⟩:=mpd (show (lp r).map _=some ns from e);cases e2;rw [mB e1];rfl
theorem kF:∀(ns:List Str),lp (ns.map D.str)=some ns
 | []=>rfl
 | n::r=>by show (lp (r.map D.str)).map _=_;rw [kF r];rfl
theorem jg {K:FR} {ρ:Ad} {H:Hp}:∀{vs:List V} {ns:List Str},RepL K ρ H vs (ns.map D.str)->vs=ns.map V.str∧∀k∈ns,PyData.strOk k=true
 | _,[],.nil=>⟨rfl,fun _ h=>(nomatch h)⟩
 | _,n::r,.cons q l=>by
  cases q with
  | str h=>
   obtain ⟨e,f⟩:=jg l;refine ⟨by rw [e];rfl,fun k hk=>?_⟩;rcases List.mem_cons.mp hk with rfl | hk
   ·exact h
   ·exact f k hk
noncomputable def xw:Fn:=fun ds h=>match ds with
 | [d]=>(dB d h).bind fun xs=>(lp xs).bind fun ns=>if ns.length < 64 then some (.lv ((gP ns).map D.str),h) else none
 | _=>none
theorem xM:eP X (.builtin "sorted") xw:=by
 walk_at "ac"
 match ds,l,ee with
 | [],_,ee=>cases ee
 | _::_::_,_,ee=>cases ee
 | [d],l,ee=>
  obtain ⟨v,rfl,rd⟩:=rep1 l;obtain ⟨ys,e1,e2⟩:=bnd ee;obtain ⟨ns,e3,e4⟩:=bnd e2
  by_cases c:ns.length < 64
  ·rw [if_pos c] at e4;cases e4;obtain ⟨a,vs,rfl,ha,la⟩:=dq S rd e1;have:=mB e3;subst this;obtain ⟨e5,f⟩:=jg la;subst e5;refine tO pins s σ H _ us Q I r ⟨a,ns,rfl,SqL.of ha,c,fun l hl=>k _ _ (.lv S (kK _ fun x hx=>f x ((eW ns).mem_iff.mp hx)) hl)⟩
  ·rw [if_neg c] at e4;cases e4
section
variable {α:Type} {K:FR} {A:Ac α} {l:Addr} {g:GM} {mt:TM} {m:MK α}
mutual
theorem Rep.calm (hs:∀a,ρ'.has a->ρ.has a):∀{v:V} {d:D},Rep K ρ H v d->clD 0 d=true->Rep K ρ' H v d
 | _,_,.non,_=>.non
 | _,_,.bl b,_=>.bl b
 | _,_,.int i,_=>.int i
 | _,_,.str h,_=>.str h
 | _,_,.ty n,_=>.ty n
 | _,_,.tup h l,c=>.tup (h.elim (fun ⟨a,n⟩=>.inl ⟨a,fun z=>n (hs _ z)⟩) .inr) (RepL.calm hs l (by simpa [clD] using c))
 | _,_,.lv h n l,c=>.lv h (fun z=>n (hs _ z)) (RepL.calm hs l (by simpa [clD] using c))
 | _,_,.ro h l,c=>.ro (h.elim (fun ⟨a,n⟩=>.inl ⟨a,fun z=>n (hs _ z)⟩) .inr) (RepL.calm hs l (by simpa [clD] using c))
 | _,_,.dv h n l,c=>.dv h (fun z=>n (hs _ z)) (RepK.calm hs l (by simpa [clD] using c))
 | _,_,.ob e,c=>by simp [clD] at c
theorem RepL.calm (hs:∀a,ρ'.has a->ρ.has a):∀{vs:List V} {ds:List D},RepL K ρ H vs ds->clL 0 ds=true->RepL K ρ' H vs ds
 | _,_,.nil,_=>.nil
 | _,_,.cons r l,c=>by
  simp [clL] at c;exact .cons (Rep.calm hs r c.1) (RepL.calm hs l c.2)
theorem RepK.calm (hs:∀a,ρ'.has a->ρ.has a):∀{vs:List (Key×V)} {ds:List (Key×D)},RepK K ρ H vs ds->clK 0 ds=true->RepK K ρ' H vs ds
 | _,_,.nil,_=>.nil
 | _,_,.cons r l,c=>by
  simp [clK] at c;exact .cons (Rep.calm hs r c.1) (RepK.calm hs l c.2)
end
end
section
variable {X:Cx} {k v tg iter:Expr} {pos:Pos} {mk mv:EM} {mt:TM} {g:GM} {N':List Str} {caps:List (Option Nat)} {scope:Scope} {ifs:List Expr} {mi:IM}
end
theorem B3:bootBuiltins "sum"=some (.builtin "sum"):=by decide+kernel
theorem pv:bootBuiltins "sorted"=some (.builtin "sorted"):=by decide+kernel
end Sm
namespace L2
open PySem PySem.Spec PyProof.Rows
end L2
namespace Sm
open PySem L2 PySem.Spec PyProof.Rows
end Sm
namespace L2
open PySem PySem.Spec PyProof.Rows
end L2
namespace Sm
open PySem L2 PySem.Spec PyProof.Rows
end Sm
namespace Hd
open PySem PySem.W PySem.Spec PyProof.Rows L2 Sm
noncomputable def zj (_:Obj):Bool:=true
noncomputable def kAt (h:Heap) (a:Addr):Option (Addr×Obj):=match h.get? a with
 | some o=>if zj o then some (a,o) else none
 | none=>none
noncomputable def bt (h:Heap):Frag:=(List.range h.objs.size).filterMap (kAt h)
theorem kX (h:Heap) (a:Addr):∀l:List Addr,(l.filterMap (kAt h)).lookup a=if a∈l then (kAt h a).map (·.2) else none
 | []=>rfl
 | b::r=>by
  have ih:=kX h a r
  by_cases hb:a=b
  ·subst hb;rw [if_pos List.mem_cons_self];rw [List.filterMap_cons];cases e:kAt h a with
   | none=>
    dsimp only;rw [ih,e]
    split <;> rfl
   | some p=>
    have hp:p.1=a:=by
     unfold kAt at e
     split at e
     ·split at e
      ·cases e;rfl
      ·cases e
     ·cases e
    obtain ⟨p1,p2⟩:=p;dsimp only at hp;subst hp;simp
  ·have hm:(a∈b::r)↔a∈r:=by simp [hb]
   rw [List.filterMap_cons];cases e:kAt h b with
   | none=>dsimp only;rw [ih];simp only [hm]
   | some p=>
    have hp:p.1=b:=by
     unfold kAt at e
     split at e
     ·split at e
      ·cases e;rfl
      ·cases e
     ·cases e
    obtain ⟨p1,p2⟩:=p;dsimp only at hp;subst hp;have hab:(a==p1)=false:=by simpa using hb
    rw [List.lookup_cons,hab];dsimp only;rw [ih];simp only [hm]
theorem iO (e:h.get? a=some o) (f:zj o=true):(bt h).lookup a=some o:=by
 unfold bt;rw [kX,if_pos]
 ·unfold kAt;rw [e];dsimp only;rw [if_pos f];rfl
 ·rw [List.mem_range];exact Heap.lt_size e
theorem zh (h:Heap):(bt h).In h:=fun a o e=>by
 unfold bt at e;rw [kX] at e
 split at e
 ·unfold kAt at e;cases g:h.get? a with
  | none=>rw [g] at e;cases e
  | some o'=>
   rw [g] at e;dsimp only at e
   split at e
   ·cases e;rfl
   ·cases e
 ·cases e
noncomputable def posOf (s:Stmt):Pos:=match s with
 | .FunctionDef _ _ _ _ _ _ _ _ _ p=>p
 | _=>⟨0,0,0,0⟩
noncomputable def oH (n:Str) (s:Stmt):DefRec:=⟨n,ke s,gH s,ay s,posOf s⟩
theorem zw (r:h.CodeRec cd q):codeIn (bt h) cd q=true:=by
 obtain ⟨c,o,vs,t,rfl,g,d,e⟩:=r;have f:zj o=true:=rfl;unfold codeIn;dsimp only;rw [iO g f];obtain ⟨oc,od,dt,sl⟩:=o;dsimp only at d;subst d;dsimp only;obtain ⟨l⟩:=vs
 match l,e with
 | x::.str n _::r,e=>cases e;simp
theorem pb {q:Program} {loose:List Str} {mean:ExcName->Option Value} {mg mb:Str->Option Value} {h:Heap} (T:Top q loose mean mg mb h) {n:Str} {st:Stmt} (e:(recsOf q).find? (fun e=>e.name==n)=some (oH n st)):
  ∃f fd,mg n=some (.ref f)∧Fun (bt h) n n st f fd:=by
 have hm:oH n st∈recsOf q:=List.mem_of_find?_eq_some e;obtain ⟨a,o,pm,code,doc,m,g,d,c⟩:=T.fn _ hm;have f:zj o=true:=rfl;have lk:=iO g f;have kp:keepIn (bt h) (.ref a)=true:=by
  unfold keepIn;dsimp only;rw [lk];obtain ⟨oc,od,dt,sl⟩:=o;dsimp only at d;subst d;rfl
 obtain ⟨oc,od,dt,sl⟩:=o;dsimp only at d;subst d;exact ⟨a,_,m,⟨oc,od,.none,doc,pm,_,code,_,sl,rfl,lk,zw c⟩,kp⟩
theorem _root_.L2.Fun.one {K:Frag} {x qual:Str} {st:Stmt} {f:Addr} {fd:FuncData} {p:Str} (F:Fun K x qual st f fd)
  (h:∀(kV doc pm:Value) (an:Option Addr) (cdv ct:Value) (u:Value),bindArgs (PySem.W.fnOf x qual (ke st) (gH st) (ay st) .none kV doc pm an cdv ct) ⟨[u],[]⟩=pure [(p,u)]) (s:Shared) (u:Value):BindsTo s fd ⟨[u],[]⟩ [(p,u)]:=by
 obtain ⟨oc,od,kV,doc,pm,an,cdv,ct,osl,rfl,lk,hcd⟩:=F.ex;exact .of_eq (h kV doc pm an cdv ct u)
theorem BJ {l:OpenLaw} {q:Program} {loose:List Str} {XP:(Str->Option Value)->Heap->Prop} {YP:World->Heap->Prop} {d:DefRec} {k:Nat} (hn:l.most=some 63) (hdf:d.params.defaults=[]) (hr:Room k callerA)
  (F:∀(w:World) (s₀:Shared) (mg mb:Str->Option Value) (h:Heap),Ground q loose [] XP w s₀ mg mb h->YP w h->∃(fa:Addr) (fd:FuncData),mg d.name=some (.ref fa)∧(∀(s:Shared) (u:Value),BindsTo s fd ⟨[u],[]⟩ [("_law_script",u)])∧
   ∀base:Heap,(bt h).In base->base.Ns mainGlobals mg->FnOk l.prog w (bt h) mg base CX0 k fa fd ["_law_script"] (spT (bt h))):
  WalkO q loose XP YP l.row.toRowW d [] (fun f vs=>PySem.call f vs):=by
 refine Att.sr hn hdf fun w s₀ s₁ mg mb fa o pm cd doc a vs ns G Y ho hd hcd hmg hobj hints hlen hg=>?_;obtain ⟨fa',fd,e,hb,hF⟩:=F w s₀ mg mb _ G Y;rw [e] at hmg;cases hmg;exact xo (zh _) G.T.g G.T.b G.T.builtins G.T.nolimit hg hobj hints (Nat.le_trans hlen (by decide)) hr hF hb (fun H hO hS=>⟨a,ns,rfl,hS,hlen,fun _=>rfl⟩) fun _ _ _ z=>z
noncomputable def freeOk (q:Program) (loose xs:List Str):Bool:=xs.all fun x=>!startupNames.contains x&&!(looseW q loose).contains x&&!((recsOf q).map (·.name)).contains x&&!((litsOf q).map (·.1)).contains x&&!((clssOf q (looseW q loose)).map (·.name)).contains x
theorem cG (T:Top q (looseW q loose) mean mg mb h) (e:freeOk q loose xs=true) (hx:x∈xs):mg x=none:=by
 have:=List.all_eq_true.mp e x hx;simp only [Bool.and_eq_true,Bool.not_eq_true',List.contains_eq_mem,decide_eq_false_iff_not] at this;exact T.free x this.1.1.1.1 this.1.1.1.2 this.1.1.2 this.1.2 this.2
end Hd
namespace Sm
open PySem L2
noncomputable def kDl (f:Expr->Option D):List Expr->Option (List D)
 | []=>some []
 | e::es=>(f e).bind fun d=>(kDl f es).bind fun ds=>some (d::ds)
noncomputable def kD:Nat->Expr->Option D
 | 0,_=>none
 | n+1,e=>match e with
  | .Constant .none _ _=>some .non
  | .Constant (.bool b) _ _=>some (.bl b)
  | .Constant (.int i) _ _=>some (.int i)
  | .Constant (.str x) _ _=>if PyData.strOk x then some (.str x) else none
  | .UnaryOp .USub (.Constant (.int i) _ _) _=>some (.int (-i))
  | .Tuple es _ _=>(kDl (kD n) es).bind fun ds=>if ds.length≤1000 then some (.tup ds) else none
  | .List es _=>(kDl (kD n) es).bind fun ds=>if ds.length≤1000 then some (.lv ds) else none
  | .Dict [] [] _=>some (.dv [])
  | _=>none
noncomputable def aK (ds:List D):AM:=fun _ h=>some (ds,h)
theorem DF (ds:List D):ll (aK ds) ds.length:=fun δ h xs h' e=>by cases e;rfl
section
variable {X:Cx}
theorem vU (h:kD n e=some d) (es:List Expr):starEach (e::es) X.env=(false,eval e X.env)::starEach es X.env:=by
 cases n with
 | zero=>cases h
 | succ n=>cases e <;> first | rfl | (exfalso;exact (nomatch h))
theorem pR (hf:∀{e:Expr} {d:D},f e=some d->SE X e (eK d)) (hs:∀{e:Expr} {d:D},f e=some d->∀es:List Expr,starEach (e::es) X.env=(false,eval e X.env)::starEach es X.env):
  ∀{es:List Expr} {ds:List D},kDl f es=some ds->SA X es (aK ds)
 | [],ds,h=>by cases h;exact af
 | e::es,ds,h=>by
  unfold kDl at h;obtain ⟨d,e1,h⟩:=bnd h;obtain ⟨r,e2,h⟩:=bnd h;cases h;exact (aa (hf e1) (pR hf hs e2) (hs e1 es):SA X _ (ab (eK d) (aK r)))
theorem cO:∀(n:Nat) {e:Expr} {d:D},kD n e=some d->SE X e (eK d)
 | 0,_,_,h=>by cases h
 | n+1,e,d,h=>by
  unfold kD at h
  split at h
  ·cases h;exact pO
  ·cases h;exact oG
  ·cases h;exact ah
  ·split at h
   ·rename_i hs;cases h;exact aq hs
   ·cases h
  ·cases h;exact (gQ eC ah:SE X _ (eUn jL (eK _)))
  ·obtain ⟨ds,e1,e2⟩:=bnd h
   split at e2
   ·rename_i hl;cases e2;exact (az (pR (cO n) vU e1) (DF ds) (Nat.le_trans hl (by decide)):SE X _ (eFn aW (aK ds)))
   ·cases e2
  ·obtain ⟨ds,e1,e2⟩:=bnd h
   split at e2
   ·rename_i hl;cases e2;exact (SFL.lv (bc (pR (cO n) vU e1) (DF ds) (Nat.le_trans hl (by decide))):SE X _ (eLv (aK ds)))
   ·cases e2
  ·cases h;exact CI
  ·cases h
end
end Sm
namespace L2
open PySem PySem.Spec PyProof.Rows
noncomputable def iU (ns:List Int):List Int:=ns.mergeSort fun a b=>decide (a≤b)
theorem gf (ns:List Int):(iU ns).Perm ns:=List.mergeSort_perm _ _
theorem pJ (ns:List Int):(iU ns).Pairwise (·≤·):=by
 have:=List.pairwise_mergeSort (le:=fun a b:Int=>decide (a≤b)) (fun a b c h1 h2=>by simp at h1 h2 ⊢;lia) (fun a b=>by simp;lia) ns;exact this.imp fun h=>by simpa using h
theorem vZ (hp:ss.Perm ns) (h:ss.Pairwise (·≤·)):ss=iU ns:=
 List.Perm.eq_of_pairwise (fun a b _ _ h1 h2=>Int.le_antisymm h1 h2) h (pJ ns) (hp.trans (gf ns).symm)
theorem tP:eB X (.builtin "sorted") (fun xs H Q=>∃a ss,xs=[.ref a]∧SqL X.K H a (ss.map V.int)∧ss.length < 64∧∀l,H l=none->Q (.ref l) (upd H l (.lst ((iU ss).map V.int)))):=by
 intro pins s σ H xs us Q I r h;obtain ⟨a,ss,rfl,ha,h64,q⟩:=h;obtain ⟨u,rfl,ru⟩:=vals1 r;cases ru;obtain ⟨its,rv,p,hz⟩:=I.list ha;have hS:=intsAre_of rv;have hlen:its.length=ss.length:=by have:=rv.length;rw [List.length_map] at this;exact this.symm
 refine sorted_ints p.isList hS (by lia) fun out ss' h1 h2 h3=>?_;have:=vZ h2 h3;subst this;have hl:s.heap.objs.size≤s.heap.objs.size+1:=Nat.le_succ _;obtain ⟨e,ho⟩:=sortedAll_at s.heap its out;have hz':((iU ss).map V.int).length≤sizeLine:=by rw [List.length_map,(gf ss).length_eq,sizeLine_eq];lia
 refine ⟨.ref (s.heap.objs.size+1),_,I.laid (t':=s.toks) (o:=.lst ((iU ss).map V.int)) (fun b o q=>sortedAll_old q) hl ⟨hz',out.toList,e,iF h1,?_⟩,rfl,q _ (I.hok.fresh hl)⟩;rw [ho]
end L2
namespace Sm
open PySem L2 PySem.Spec PyProof.Rows
noncomputable def xx:Fn:=fun ds h=>match ds with
 | [d]=>(dB d h).bind fun xs=>(lE xs).bind fun ns=>if ns.length < 64 then some (.lv ((iU ns).map D.int),h) else none
 | _=>none
theorem repL_ints' {K:FR} {ρ:Ad} {H:Hp}:∀(ns:List Int),RepL K ρ H (ns.map V.int) (ns.map D.int)
 | []=>.nil
 | n::r=>.cons (.int n) (repL_ints' r)
theorem xN:eP X (.builtin "sorted") xx:=by
 walk_at "ac"
 match ds,l,ee with
 | [],_,ee=>cases ee
 | _::_::_,_,ee=>cases ee
 | [d],l,ee=>
  obtain ⟨v,rfl,rd⟩:=rep1 l;obtain ⟨ys,e1,e2⟩:=bnd ee;obtain ⟨ns,e3,e4⟩:=bnd e2
  by_cases c:ns.length < 64
  ·rw [if_pos c] at e4;cases e4;obtain ⟨a,vs,rfl,ha,la⟩:=dq S rd e1;have:=ng e3;subst this;have:=jh la;subst this;exact tP pins s σ H _ us Q I r ⟨a,ns,rfl,SqL.of ha,c,fun l hl=>k _ _ (.lv S (repL_ints' _) hl)⟩
  ·rw [if_neg c] at e4;cases e4
noncomputable def tH (m:PrM):EM:=fun δ h=>(m δ h).bind fun p=>if p.1.length≤15 then some (.ob p.2.length,p.2++[.dct (sW [] p.1)]) else none
theorem wg (h:SP X pos keys vals m) (hall:keys.all (·.isSome)=true) (hl:keys.length=vals.length) (h0:keys≠[]) (hp:∀trs,PPs X pos keys vals trs->PE X (.Dict keys vals pos) (vQ trs)):SE X (.Dict keys vals pos) (tH m):=by
 obtain ⟨trs,h1,h2⟩:=h;refine (hp trs h1).imp fun σ H Q ⟨ρ,δ,h,d,h',R,S,ee,k⟩ p hpn=>?_;obtain ⟨⟨kvs,ha⟩,e1,e2⟩:=bnd ee;dsimp only at e2
 by_cases z:kvs.length≤15
 ·rw [if_pos z] at e2;cases e2;have Tl:Ch ρ H (ρ.keep p) (upd H p (.dK [])):=Ch.keep hpn;have nl:¬ρ.has p:=S.fresh hpn;refine h2 σ _ _ ⟨ρ.keep p,δ,h,kvs,_,R.mono Tl,S.keep hpn,e1,fun us ρ2 H2 T2 S2 r2=>?_⟩;have hp2:H2 p=some (.dK []):=(T2.res p List.mem_cons_self).trans a9;refine ⟨hp2,us,rfl,by rw [r2.len];exact z,?_⟩;obtain ⟨ob2,rs2⟩:=ρ2;have ers:rs2=p::ρ.rs:=T2.rs;subst ers;have hml:p∈(⟨ob2,p::ρ.rs⟩:Ad).rs:=List.mem_cons_self;have npo:p∉ob2:=(S2.rsv p hml).2;have hne:∀b∈ρ.rs,b≠p:=fun b hb z=>nl (.inr (z ▸ hb));generalize hH3:upd H2 p (.dK (ff [] us))=H3;have at3:∀b,b≠p->H3 b=H2 b:=fun b hb=>by rw [←hH3,aJ hb]
  have C23:Ch ⟨ob2,p::ρ.rs⟩ H2 ⟨ob2++[p],ρ.rs⟩ H3:=by
   refine ⟨fun n a e=>?_,fun b o nb eb=>⟨fun z=>?_,?_⟩⟩
   ·show (ob2++[p])[n]?=_;rw [List.getElem?_append_left (List.getElem?_eq_some_iff.mp e).1];exact e
   ·rcases z with z | z
    ·rcases List.mem_append.mp z with z | z
     ·exact nb (.inl z)
     ·exact nb (.inr (by rw [List.mem_singleton.mp z];exact List.mem_cons_self))
    ·exact nb (.inr (List.mem_cons_of_mem _ z))
   ·rw [at3 b (fun z=>nb (.inr (by rw [z];exact List.mem_cons_self)))];exact eb
  refine k _ _ ⟨⟨ob2++[p],ρ.rs⟩,⟨(Tl.trans T2.toCh).trans C23,rfl,fun b hb=>?_⟩,?_,.ob (by show (ob2++[p])[ha.length]?=_;rw [←S2.len];simp)⟩
  ·rw [at3 b (hne b hb),T2.res b (List.mem_cons_of_mem _ hb)];exact aJ (hne b hb)
  ·refine ⟨by show (ob2++[p]).length=_;simp;exact S2.len,?_,fun n a x e1 e2=>?_,fun b hb=>?_⟩
   ·show (ob2++[p]).Nodup;rw [List.nodup_append];exact ⟨S2.nd,by simp,fun a ha b hb z=>npo (by rw [←List.mem_singleton.mp hb,←z];exact ha)⟩
   ·have e1:(ob2++[p])[n]?=some a:=e1;have hlen:ob2.length=ha.length:=S2.len
    by_cases hn:n < ob2.length
    ·rw [List.getElem?_append_left hn] at e1;rw [List.getElem?_append_left (by lia)] at e2;exact (S2.at_ n a x e1 e2).mono C23 (at3 a fun z=>npo (z ▸ List.mem_of_getElem? e1))
    ·have l1:=(List.getElem?_eq_some_iff.mp e1).1;simp at l1;have hn':n=ob2.length:=by lia
     subst hn';rw [List.getElem?_append_right (Nat.le_refl _)] at e1;rw [List.getElem?_append_right (by lia),hlen] at e2;simp at e1 e2;subst e1;subst e2;exact ⟨ff [] us,by rw [←hH3];exact a9,(RepK.merge .nil r2).mono C23⟩
   ·obtain ⟨⟨o,eo⟩,nb⟩:=S2.rsv b (List.mem_cons_of_mem _ hb);refine ⟨⟨o,by rw [at3 b (hne b hb)];exact eo⟩,fun z=>?_⟩;rcases List.mem_append.mp z with z | z
    ·exact nb z
    ·exact hne b hb (List.mem_singleton.mp z)
 ·rw [if_neg z] at e2;cases e2
noncomputable def tD (d e:D) (h:MH):Option (D×MH):=match e with
 | .int n=>(dB d h).bind fun xs=>if 0≤n∧n≤1000∧xs.length≤1000 then some (.lv (List.replicate n.toNat xs).flatten,h) else none
 | _=>none
theorem RepL.rep {K:FR} {ρ:Ad} {H:Hp} {vs:List V} {ds:List D} (h:RepL K ρ H vs ds):∀k:Nat,RepL K ρ H (List.replicate k vs).flatten (List.replicate k ds).flatten
 | 0=>.nil
 | k+1=>by
  rw [List.replicate_succ,List.replicate_succ,List.flatten_cons,List.flatten_cons];exact h.append (RepL.rep h k)
theorem p9:OpS X (binaryOp .Mult) tD:=by
 walk_at "ab";cases e <;> first | (cases ee;done) | skip
 rename_i n;obtain ⟨xs,e1,e2⟩:=bnd (show (dB d h).bind _=_ from ee)
 by_cases c:0≤n∧n≤1000∧xs.length≤1000
 ·rw [if_pos c] at e2;cases e2;obtain ⟨a,vs,rfl,ha,la⟩:=dq S rd e1;cases re;have hb:xs.length*n.toNat≤1000*1000:=Nat.mul_le_mul c.2.2 (by lia);exact Bh pins s σ H _ _ v u Q I rx ry ⟨a,n,vs,rfl,rfl,ha,by lia,by lia,by rw [la.length,show sizeLine=16777216 from rfl];lia,fun l hl=>k _ _ (.lv S (la.rep _) hl)⟩
 ·rw [if_neg c] at e2;cases e2
end Sm
namespace L2
open PySem PySem.Spec PyProof.Rows
theorem oB:∀(us:List Value) (o:Nat),(∀(j:Nat) v,us[j]?=some v->∃t,v=.int ((o:Int)+j) t)->Vals ((List.range' o us.length).map fun (k:Nat)=>V.int k) us
 | [],_,_=>.nil
 | u::r,o,h=>by
  rw [List.length_cons,List.range'_succ,List.map_cons];obtain ⟨t,e⟩:=h 0 u rfl;refine .cons ⟨t,by rw [e];simp⟩ (oB r (o+1) fun j v hv=>?_);obtain ⟨t,e⟩:=h (j+1) v (by simpa using hv);exact ⟨t,by rw [e];congr 1;lia⟩
theorem uV (hc:X.calm=true) (hg1:Gl X "list") (hm1:X.mg "list"=none) (hg2:Gl X "range") (hm2:X.mg "range"=none) (hv:bootBuiltins "list"=some (.type "list")) (ha:PA X [a] ta) (hs:starEach [a] X.env=[(false,eval a X.env)]):
  PE X (.Call (.Name "list" p) [.Call (.Name "range" p2) [a] [] pos2] [] pos) (fun σ H Q=>ta σ H fun vs H1=>∃j:Int,vs=[.int j]∧0≤j∧j≤1000∧∀l,H1 l=none->Q (.ref l) (upd H1 l (.lst ((List.range j.toNat).map fun (k:Nat)=>V.int k)))):=by
 intro pins s σ H Q I h;refine wpAny_Call_Name_kw (jA I hg1 hm1 hv ?_);refine PyProof.Rows.callWith_type1 ?_ rfl rfl;show wpAny _ _ (spliced ((false,eval (.Call (.Name "range" p2) [a] [] pos2) X.env)::backTo pos (starEach [] X.env))) _ _ s;refine Calls.spliced_cons ?_;refine wpAny_Call_Name_kw (jA I hg2 hm2 boot_range (PyProof.Rows.callWith_type1 (thn (ha pos2 pins s σ H _ I h) fun us s1 ⟨vs,H1,I1,r1,q1⟩=>?_) hs rfl));obtain ⟨j,e,j0,j1,q⟩:=q1;subst e;cases r1 with
 | cons r rr=>
  cases rr;obtain ⟨t,rfl⟩:=r;refine call_range_1 ?_;have I2:Inv X pins σ H1 {s1 with heap:=s1.heap.push {cls:=.type "range",data:=.fields #[.int 0 s1.toks,.int j t,.int 1 (s1.toks+1)]},toks:=s1.toks+1+1}:=I1.kept fun b o e=>Heap.get?_push_of_some _ e;refine Calls.spliced_nil ?_;refine call_list_range (n:=j.toNat) (I1.ok.hd hc) (IsRange.new ..) (small_one (by lia) (by lia) (by lia) (by lia)) (by rw [rangeSize_one];split <;> lia) (by lia) fun h' tk acc' c' hk hS' hacc=>?_;have hlen:acc'.toList.length=j.toNat:=by rw [Array.length_toList];exact hacc.1
  have hv:Vals ((List.range j.toNat).map fun (k:Nat)=>V.int k) acc'.toList:=by
   have:=oB acc'.toList 0 fun i v hv=>by
    obtain ⟨t,e⟩:=hacc.2 i v (by simpa using hv);exact ⟨t,by rw [e];congr 1;simp⟩
   rw [hlen] at this;rw [List.range_eq_range'];exact this
  refine ⟨.ref _,_,I2.laid (t':=tk) (o:=.lst ((List.range j.toNat).map fun (k:Nat)=>V.int k)) hk (Nat.le_refl _) ⟨by rw [List.length_map,List.length_range,sizeLine_eq];lia,acc'.toList,c',hv,?_⟩,rfl,q _ (I2.hok.fresh (Nat.le_refl _))⟩;rw [hS']
end L2
namespace Sm
open PySem L2 PySem.Spec PyProof.Rows
noncomputable def B7 (m:AM):AM:=fun δ h=>(m δ h).bind fun p=>match p.1 with
 | [.int j]=>if 0≤j∧j≤1000 then some ((List.range j.toNat).map fun (k:Nat)=>D.int k,p.2) else none
 | _=>none
theorem mJ {K:FR} {ρ:Ad} {H:Hp}:∀l:List Nat,RepL K ρ H (l.map fun (k:Nat)=>V.int k) (l.map fun (k:Nat)=>D.int k)
 | []=>.nil
 | n::r=>.cons (.int n) (mJ r)
theorem uP (hc:X.calm=true) (hg1:Gl X "list") (hm1:X.mg "list"=none) (hg2:Gl X "range") (hm2:X.mg "range"=none) (hv:bootBuiltins "list"=some (.type "list")) (ha:SA X [a] m) (hs:starEach [a] X.env=[(false,eval a X.env)]:=by kernel_rfl):
  SFL X (.Call (.Name "list" p) [.Call (.Name "range" p2) [a] [] pos2] [] pos) (B7 m):=(uV hc hg1 hm1 hg2 hm2 hv ha hs).imp fun σ H Q ⟨ρ,δ,h,ds,h',R,S,e,k⟩=>by
 obtain ⟨⟨xs,h1⟩,e1,e2⟩:=bnd e;dsimp only at e2
 split at e2
 ·rename_i j
  split at e2
  ·rename_i c;cases e2;refine ⟨ρ,δ,h,_,_,R,S,e1,fun vs ρ1 H1 T1 S1 r1=>?_⟩;obtain ⟨v,rfl,rd⟩:=rep1 r1;cases rd;exact ⟨j,rfl,c.1,c.2,fun l hl=>k ρ1 H1 l _ T1 S1 hl (mJ _)⟩
  ·cases e2
 ·cases e2
noncomputable def vH (ma mb:EM):AM:=fun δ h=>(ma δ h).bind fun p=>(mb δ p.2).bind fun q=>(dB p.1 q.2).bind fun xs=>(dB q.1 q.2).bind fun ys=>if xs.length+ys.length≤sizeLine then some (xs++ys,q.2) else none
theorem pN (ha:SE X a ma) (hb:SE X b mb):SFL X (.BinOp a .Add b pos) (vH ma mb):=(zM xc ha hb).imp fun σ H Q ⟨ρ,δ,h,ds,h',R,S,e,k⟩=>by
 walk_at "ad";obtain ⟨⟨y,h2⟩,e3,e4⟩:=bnd e2;obtain ⟨xs,e5,e6⟩:=bnd e4;obtain ⟨ys,e7,e8⟩:=bnd e6;dsimp only at e3 e5 e7
 split at e8
 ·rename_i c;cases e8;refine ⟨ρ,δ,h,x,h1,R,S,e1,fun v H1 ⟨ρ1,T1,S1,r1⟩=>⟨ρ1,δ,h1,y,h2,R.mono T1.toCh,S1,e3,fun u H2 ⟨ρ2,T2,S2,r2⟩=>?_⟩⟩;obtain ⟨a,vs,rfl,hA,lA⟩:=dq S2 (r1.mono T2.toCh) e5;obtain ⟨b,us,rfl,hB,lB⟩:=dq S2 r2 e7;exact ⟨a,b,vs,us,rfl,rfl,hA,hB,by rw [lA.length,lB.length];exact c,fun p hp=>k ρ2 H2 p (vs++us) (T1.trans T2) S2 hp (lA.append lB)⟩
 ·cases e8
end Sm
namespace Sm
open PySem L2
theorem fQ:∀cs:List Int,pyL (cs.map D.int)=some (cs.map PyData.int)
 | []=>rfl
 | c::r=>by simp only [List.map_cons,pyL,pyD,fQ r,Option.bind_some,Option.map_some]
theorem jE:∀cs:List Int,PyData.depthAll (cs.map PyData.int)=0
 | []=>rfl
 | c::r=>by simp only [List.map_cons,PyData.depthAll,jE r,PyData.depth];rfl
theorem pd {h:MH} {c:Nat} {cs:List Int} (hc:h[c]?=some (.lst (cs.map D.int))):iS (.ob c) (.lv []) h=some (.bl (!cs.isEmpty),h):=by
 simp only [iS,eqA,c9,hc,eqD,rdD,fQ,pyD,pyL,Option.map_some,Option.bind_some,PyData.depth,jE];cases cs <;> rfl
theorem fK (hn:h[n]?=some (.lst xs)) (e:atI xs i=some d):fIx (.ob n) (.int i) h=some (d,h):=by
 simp only [fIx,c9,hn,cZ,Option.bind_some,e,Option.map_some]
theorem qx (hn:h[n]?=some (.lst xs)):c5 [.ob n] h=some (.int xs.length,h):=by
 simp only [c5,c9,hn,cZ,Option.map_some]
theorem kc (hn:h[n]?=some (.lst xs)) (e:ixN xs.length i=some p):ot (.ob n) (.int i) d h=some (h.set n (.lst (xs.set p d))):=by
 simp only [ot,hn,e,Option.map_some]
theorem x9 (cs:List Int) (i:Int) (h0:0≤i) (h1:i < cs.length):∃z,atI (cs.map D.int) i=some (.int z):=by
 have hlt:i.toNat < cs.length:=by lia
 refine ⟨cs[i.toNat]'hlt,?_⟩;have e:((i.toNat:Nat):Int)=i:=Int.toNat_of_nonneg h0;have q:atI (cs.map D.int) ((i.toNat:Nat):Int)=some (D.int (cs[i.toNat]'hlt)):=qP (by rw [List.getElem?_map,List.getElem?_eq_getElem hlt];rfl);rw [e] at q;exact q
theorem x6 (h0:0≤i) (h1:i < xs.length):∃v,atI xs i=some v∧v∈xs:=by
 have hlt:i.toNat < xs.length:=by lia
 have e:((i.toNat:Nat):Int)=i:=Int.toNat_of_nonneg h0;have q:atI xs ((i.toNat:Nat):Int)=some (xs[i.toNat]'hlt):=qP (List.getElem?_eq_getElem hlt);rw [e] at q;exact ⟨_,q,List.getElem_mem hlt⟩
end Sm
namespace Sm
open PySem
def Rn {α:Type} (o:Option α) (Q:α->Prop):Prop:=∃a,o=some a∧Q a
theorem rv (e:o=some a) (q:Q a):Rn o Q:=⟨a,e,q⟩
theorem Rn.imp (r:Rn o Q) (f:∀a,Q a->Q' a):Rn o Q':=let ⟨a,e,q⟩:=r;⟨a,e,f a q⟩
theorem aS (r:Rn o fun a=>Rn (f a) Q):Rn (o.bind f) Q:=by
 obtain ⟨a,e,b,e2,q⟩:=r;exact ⟨b,by rw [e];exact e2,q⟩
theorem yt (r:Rn o fun a=>Q (f a)):Rn (o.map f) Q:=by
 obtain ⟨a,e,q⟩:=r;exact ⟨f a,by rw [e];rfl,q⟩
theorem CL (e:δ[i]?=some (some d)) (q:Q (d,h)):Rn (ae i δ h) Q:=⟨(d,h),by unfold ae;rw [e];rfl,q⟩
theorem r_k (q:Q (d,h)):Rn (eK d δ h) Q:=⟨_,rfl,q⟩
theorem sO (r:Rn (a δ h) fun p=>Rn (b δ p.2) fun q=>Rn (f p.1 q.1 q.2) Q):Rn (eOp f a b δ h) Q:=aS (r.imp fun _ r=>aS r)
theorem D0 (r:Rn (a δ h) fun p=>Rn (f p.1 p.2) Q):Rn (eUn f a δ h) Q:=aS r
theorem t9 (q:Q ([],h)):Rn (aj δ h) Q:=⟨_,rfl,q⟩
theorem p6 (r:Rn (a δ h) fun p=>Rn (m δ p.2) fun q=>Q (p.1::q.1,q.2)):Rn (ab a m δ h) Q:=aS (r.imp fun _ r=>aS (r.imp fun _ q=>⟨_,rfl,q⟩))
theorem Aw (r:Rn (m δ h) fun p=>Rn (f p.1 p.2) Q):Rn (eFn f m δ h) Q:=aS r
theorem D5 (r:Rn (t δ h) fun p=>(p.1=true->Rn (a δ p.2) Q)∧(p.1=false->Rn (b δ p.2) Q)):Rn (eIf t a b δ h) Q:=aS (r.imp fun p ⟨q1,q2⟩=>by
 obtain ⟨c,h⟩:=p;cases c with
 | true=>exact q1 rfl
 | false=>exact q2 rfl)
theorem wH (r:Rn (a δ h) fun p=>∃c,p.1=.bl c∧Q (c,p.2)):Rn (aH a δ h) Q:=aS (r.imp fun p ⟨c,e,q⟩=>⟨(c,p.2),by rw [e],q⟩)
theorem wy (r:Rn (a δ h) fun p=>∃c,sD p.1 p.2=some c∧Q (c,p.2)):Rn (qU a δ h) Q:=aS (r.imp fun p ⟨c,e,q⟩=>⟨(c,p.2),by rw [e];rfl,q⟩)
theorem sN (r:Rn (t δ h) fun p=>Q (!p.1,p.2)):Rn (Sm.qV t δ h) Q:=yt r
theorem wz (r:Rn (a δ h) fun p=>(p.1=true->Rn (b δ p.2) Q)∧(p.1=false->Q (false,p.2))):Rn (Sm.iQ a b δ h) Q:=aS (r.imp fun p ⟨q1,q2⟩=>by
 obtain ⟨c,h⟩:=p;cases c with
 | true=>exact q1 rfl
 | false=>exact ⟨_,rfl,q2 rfl⟩)
theorem CM (r:Rn (a δ h) fun p=>(p.1=true->Q (true,p.2))∧(p.1=false->Rn (b δ p.2) Q)):Rn (Sm.tOr a b δ h) Q:=aS (r.imp fun p ⟨q1,q2⟩=>by
 obtain ⟨c,h⟩:=p;cases c with
 | true=>exact ⟨_,rfl,q1 rfl⟩
 | false=>exact q2 rfl)
theorem CV (r:Rn (a δ h) fun p=>∃c,p.1=.bl c∧(c=true->Rn (b δ p.2) Q)∧(c=false->Q (.bl false,p.2))):Rn (BQ a b δ h) Q:=aS (r.imp fun p ⟨c,e,q1,q2⟩=>by
 rw [e];cases c with
 | true=>exact q1 rfl
 | false=>exact ⟨_,rfl,q2 rfl⟩)
theorem D3 (r:Rn (a δ h) fun p=>∃c,p.1=.bl c∧(c=true->Q (.bl true,p.2))∧(c=false->Rn (b δ p.2) Q)):Rn (eOr a b δ h) Q:=aS (r.imp fun p ⟨c,e,q1,q2⟩=>by
 rw [e];cases c with
 | true=>exact ⟨_,rfl,q1 rfl⟩
 | false=>exact q2 rfl)
theorem CS (r:Rn (a δ h) fun p=>∃c,p.1=.bl c∧Q (.bl (!c),p.2)):Rn (ED a δ h) Q:=aS (r.imp fun p ⟨c,e,q⟩=>⟨_,by rw [e],q⟩)
theorem p5 (r:Rn (m δ h) fun p=>Q (.lv p.1,p.2)):Rn (eLv m δ h) Q:=yt r
theorem D4 (r:Rn (m δ h) fun p=>Q (.ob p.2.length,p.2++[.lst p.1])):Rn (eOb m δ h) Q:=yt r
theorem D8 (q:Q (.dv [],h)):Rn (eDv δ h) Q:=⟨_,rfl,q⟩
theorem D9 (q:Q (.ob h.length,h++[.dct []])):Rn (eDo δ h) Q:=⟨_,rfl,q⟩
theorem Au (r:Rn (m δ h) fun p=>∃d xs ws,p.1=[d]∧cZ d p.2=some (xs,ws)∧Q (xs,p.2)):Rn (yc m δ h) Q:=aS (r.imp fun p ⟨d,xs,ws,e,e2,q⟩=>⟨(xs,p.2),by rw [e];dsimp only;rw [e2];rfl,q⟩)
theorem CN (q:Q (none,h)):Rn (pNo δ h) Q:=⟨_,rfl,q⟩
theorem CO (r:Rn (a δ h) fun p=>∃i,p.1=.int i∧Q (some i,p.2)):Rn (pAt a δ h) Q:=aS (r.imp fun p ⟨c,e,q⟩=>⟨_,by rw [e],q⟩)
theorem D2 (r:Rn (a δ h) fun p=>Rn (l δ p.2) fun q=>Rn (u δ q.2) fun r=>Rn (fSl p.1 q.1 r.1 r.2) Q):Rn (eSl a l u δ h) Q:=aS (r.imp fun _ r=>aS (r.imp fun _ r=>aS r))
abbrev SQ:=Fl×DS×MH->Prop
theorem Ar (q:Q (.nx,δ,h)):Rn (cc δ h) Q:=⟨_,rfl,q⟩
theorem As (q:Q (.bk,δ,h)):Rn (DZ δ h) Q:=⟨_,rfl,q⟩
theorem yB (q:Q (.ct,δ,h)):Rn (CK δ h) Q:=⟨_,rfl,q⟩
def oD (b:SM) (Q:SQ):SQ:=fun r=>match r.1 with
 | .nx=>Rn (b r.2.1 r.2.2) Q
 | _=>Q r
theorem iV (r:Rn (a δ h) (oD b Q)):Rn (ax a b δ h) Q:=aS (r.imp fun p q=>by
 obtain ⟨f,δ',h'⟩:=p;cases f with
 | nx=>exact q
 | bk=>exact ⟨_,rfl,q⟩
 | ct=>exact ⟨_,rfl,q⟩
 | rt d=>exact ⟨_,rfl,q⟩)
theorem wB (r:Rn (e δ h) fun p=>Q (.nx,δ.set i (some p.1),p.2)):Rn (aT i e δ h) Q:=aS (r.imp fun _ q=>⟨_,rfl,q⟩)
theorem zL (r:Rn (e δ h) fun p=>Rn (g p.1 δ p.2) fun q=>Q (.nx,q.1,q.2)):Rn (fO e g δ h) Q:=aS (r.imp fun _ r=>aS (r.imp fun _ q=>⟨_,rfl,q⟩))
theorem Ax (r:Rn (e δ h) fun p=>Q (.nx,δ,p.2)):Rn (fu e δ h) Q:=aS (r.imp fun _ q=>⟨_,rfl,q⟩)
theorem wC (r:Rn (e δ h) fun p=>Q (.rt p.1,δ,p.2)):Rn (bo e δ h) Q:=aS (r.imp fun _ q=>⟨_,rfl,q⟩)
theorem wA (r:Rn (t δ h) fun p=>(p.1=true->Rn (a δ p.2) Q)∧(p.1=false->Rn (b δ p.2) Q)):Rn (sIf t a b δ h) Q:=aS (r.imp fun p ⟨q1,q2⟩=>by
 obtain ⟨c,h⟩:=p;cases c with
 | true=>exact q1 rfl
 | false=>exact q2 rfl)
theorem CP (r:Rn (m δ h) fun p=>∃a b,p.1=[a,b]∧Q (.nx,(δ.set i (some a)).set j (some b),p.2)):Rn (pS i j m δ h) Q:=aS (r.imp fun p ⟨a,b,e,q⟩=>⟨_,by rw [e],q⟩)
theorem D7 (q:Q (δ.set i (some d),h)):Rn (gN i d δ h) Q:=⟨_,rfl,q⟩
theorem Av (r:Rn (o δ h) fun p=>Rn (i δ p.2) fun q=>Rn (ot p.1 q.1 v q.2) fun h'=>Q (δ,h')):Rn (Sm.lV o i v δ h) Q:=aS (r.imp fun _ r=>aS (r.imp fun _ r=>yt r))
theorem D6 (hn:xs.length=n) (r:Rn (u xs δ h) Q):Rn (gT n u (.tup xs) δ h) Q:=by
 unfold gT;dsimp only;rw [if_pos hn];exact r
theorem wF (r:Rn (g d δ h) fun p=>Rn (u xs p.1 p.2) Q):Rn (aD g u (d::xs) δ h) Q:=aS r
theorem yC (q:Q (δ,h)):Rn (cg [] δ h) Q:=⟨_,rfl,q⟩
def yu (Q:D×MH->Prop):SQ:=fun r=>match r.1 with
 | .rt d=>Q (d,r.2.2)
 | .nx=>Q (.non,r.2.2)
 | _=>False
theorem Em (q:Q (d,h)):yu Q (.rt d,δ,h):=q
theorem Eo (q:Q (.non,h)):yu Q (.nx,δ,h):=q
theorem vP (r:Rn (b δ h) Q):oD b Q (.nx,δ,h):=r
theorem DN (q:Q (.rt d,δ,h)):oD b Q (.rt d,δ,h):=q
theorem DP (q:Q (.bk,δ,h)):oD b Q (.bk,δ,h):=q
theorem DO (q:Q (.ct,δ,h)):oD b Q (.ct,δ,h):=q
def rO (I:DS->MH->Prop) (Q:SQ):SQ:=fun z=>match z.1 with
 | .nx=>I z.2.1 z.2.2
 | .ct=>I z.2.1 z.2.2
 | .bk=>Q (.nx,z.2.1,z.2.2)
 | .rt d=>Q (.rt d,z.2.1,z.2.2)
theorem Eu (q:I δ h):rO I Q (.nx,δ,h):=q
theorem Ew (q:I δ h):rO I Q (.ct,δ,h):=q
theorem Ex (q:Q (.nx,δ,h)):rO I Q (.bk,δ,h):=q
theorem Et (q:Q (.rt d,δ,h)):rO I Q (.rt d,δ,h):=q
theorem bV (r:Rn (b (entry len ds) h) (yu Q)):Rn (mkF len b ds h) Q:=aS (r.imp fun p q=>by
 obtain ⟨f,δ',h'⟩:=p;cases f with
 | nx=>exact ⟨_,rfl,q⟩
 | rt d=>exact ⟨_,rfl,q⟩
 | bk=>exact q.elim
 | ct=>exact q.elim)
theorem CU (r:Rn (i δ h) fun p=>Rn (j9 p.2.1 g b p.1 δ p.2.2) Q):Rn (gX i g b δ h) Q:=aS r
theorem cT:∀{xs:List D} {δ:DS} {h:MH} (I:Nat->DS->MH->Prop),I 0 δ h->(∀i δ h,i≤xs.length->I i δ h->chk ws h=true)->
  (∀i x δ h,xs[i]?=some x->I i δ h->Rn (g x δ h) fun q=>Rn (b q.1 q.2) (rO (I (i+1)) Q))->(∀δ h,I xs.length δ h->Q (.nx,δ,h))->Rn (j9 ws g b xs δ h) Q
 | [],δ,h,I,h0,hc,_,hq=>by
  unfold j9;rw [if_pos (hc 0 δ h (Nat.le_refl _) h0)];exact ⟨_,rfl,hq δ h h0⟩
 | x::xs,δ,h,I,h0,hc,ht,hq=>by
  unfold j9;rw [if_pos (hc 0 δ h (Nat.zero_le _) h0)];obtain ⟨q,e1,z,e2,hz⟩:=ht 0 x δ h rfl h0;rw [e1];show Rn ((b q.1 q.2).bind _) Q;rw [e2];obtain ⟨f,δ',h'⟩:=z;have next:I 1 δ' h'->Rn (j9 ws g b xs δ' h') Q:=fun hi=>cT (fun i=>I (i+1)) hi (fun i δ h hl=>hc (i+1) δ h (Nat.succ_le_succ hl)) (fun i x δ h hx=>ht (i+1) x δ h (by simpa using hx)) hq
  cases f with
  | nx=>exact next hz
  | ct=>exact next hz
  | bk=>exact ⟨_,rfl,hz⟩
  | rt d=>exact ⟨_,rfl,hz⟩
theorem mQ (r:Rn (e δ h) fun p=>∃xs ws,cZ p.1 p.2=some (xs,ws)∧Q (xs,ws,p.2)):Rn (cU e δ h) Q:=aS (r.imp fun p ⟨xs,ws,e,q⟩=>⟨(xs,ws,p.2),by rw [e];rfl,q⟩)
theorem fH (r:Rn (m δ h) fun p=>∃j:Int,p.1=[.int j]∧-(2^62)≤j∧j < 2^62∧Q ((List.range j.toNat).map fun (k:Nat)=>D.int (k:Int),[],p.2)):Rn (lU m δ h) Q:=aS (r.imp fun p ⟨j,e,h1,h2,q⟩=>by
 rw [e];dsimp only;rw [if_pos ⟨h1,h2⟩];exact ⟨_,rfl,q⟩)
theorem jX (r:Rn (m δ h) fun p=>∃d xs ws,p.1=[d]∧cZ d p.2=some (xs,ws)∧Q (iY 0 xs,ws,p.2)):Rn (ni m δ h) Q:=
 aS (r.imp fun p ⟨d,xs,ws,e1,e2,q⟩=>⟨_,by rw [e1];dsimp only;rw [e2];rfl,q⟩)
theorem Ay (r:Rn (i δ h) fun p=>Rn (bG p.2.1 g c e p.1 (kl caps δ) p.2.2) fun q=>q.1.length≤sizeLine∧Q q):Rn (bC caps i g c e δ h) Q:=
 aS (r.imp fun p r=>aS (r.imp fun q ⟨hz,hq⟩=>⟨q,by rw [if_pos hz],hq⟩))
theorem p7 (hc:chk ws h=true) (f:D->Option D) (J:DS->Prop):∀{xs:List D} {δ:DS},J δ->
  (∀x∈xs,∀δ,J δ->Rn (g x δ h) fun q=>q.2=h∧Rn (c q.1 h) fun t=>t.2=h∧J q.1∧(t.1=true->∃y,f x=some y∧Rn (e q.1 h) fun p=>p=(y,h))∧(t.1=false->f x=none))->
  bG ws g c e xs δ h=some (xs.filterMap f,h)
 | [],δ,_,_=>by unfold bG;rw [if_pos hc];rfl
 | x::xs,δ,hJ,ht=>by
  unfold bG;rw [if_pos hc];obtain ⟨⟨δ1,h1⟩,e1,rfl,⟨t,h2⟩,e2,rfl,J1,q1,q2⟩:=ht x List.mem_cons_self δ hJ;rw [e1];dsimp only [Option.bind_some] at e2 q1 q2 ⊢;rw [e2];walk_at "ag";have ih:=p7 hc f J J1 (xs:=xs) fun y hy=>ht y (List.mem_cons_of_mem _ hy);cases t with
  | true=>
   obtain ⟨y,ef,p,ep,rfl⟩:=q1 rfl;rw [if_pos rfl,ep];walk_at "ag";rw [ih,List.filterMap_cons,ef];rfl
  | false=>
   rw [if_neg (by simp),ih,List.filterMap_cons,q2 rfl]
end Sm
namespace Sm
theorem wx (q:Q (d,h)) (e:δ[i]?=some (some d):=by with_unfolding_all rfl):Rn (ae i δ h) Q:=CL e q
theorem zK (r:Rn (u xs δ h) Q) (hn:xs.length=n:=by with_unfolding_all rfl):Rn (gT n u (.tup xs) δ h) Q:=D6 hn r
end Sm
namespace Sm
open PySem L2
theorem sP (hh:Rn (a δ h) fun p=>Rn (l δ p.2) fun q=>Rn (u δ q.2) fun r=>Rn (r8 p.1 q.1 r.1 r.2) Q):Rn (ou a l u δ h) Q:=aS (hh.imp fun _ x=>aS (x.imp fun _ y=>aS y))
theorem wG (hh:Rn (ma δ h) fun p=>Rn (mb δ p.2) fun q=>Rn (f p.1 q.1 q.2) fun r=>∃b,r.1=.bl b∧if b=true then Rn (mc δ r.2) fun u=>Rn (f' q.1 u.1 u.2) Q else Q (.bl false,r.2)):Rn (nA f f' ma mb mc δ h) Q:=
 aS (hh.imp fun p x=>aS (x.imp fun q y=>aS (y.imp fun r ⟨b,e,k⟩=>by
  rw [e];cases b with
  | true=>rw [if_pos rfl] at k;exact aS k
  | false=>rw [if_neg (by simp)] at k;exact ⟨_,rfl,k⟩)))
theorem Cf (q:Q (.tup ds,h)):Rn (aW ds h) Q:=⟨_,rfl,q⟩
theorem Ci (q:Q (.int (-a),h)):Rn (jL (.int a) h) Q:=⟨_,rfl,q⟩
theorem w_add (q:Q (.int (a+b),h)):Rn (aG (.int a) (.int b) h) Q:=⟨_,rfl,q⟩
theorem w_sub (q:Q (.int (a-b),h)):Rn (tx (.int a) (.int b) h) Q:=⟨_,rfl,q⟩
theorem w_lt (q:Q (.bl (decide (a < b)),h)):Rn (fLt (.int a) (.int b) h) Q:=⟨_,rfl,q⟩
theorem DK (q:Q (.bl (decide (a≤b)),h)):Rn (fLe (.int a) (.int b) h) Q:=⟨_,rfl,q⟩
theorem DL (q:Q (.bl (decide (b < a)),h)):Rn (fGt (.int a) (.int b) h) Q:=⟨_,rfl,q⟩
theorem DM (q:Q (.bl (decide (b≤a)),h)):Rn (fGe (.int a) (.int b) h) Q:=⟨_,rfl,q⟩
theorem Cr (q:Q (.bl (a==b),h)):Rn (cx (.int a) (.int b) h) Q:=⟨_,rfl,q⟩
theorem Ck (q:Q (.bl (!(a==b)),h)):Rn (iS (.int a) (.int b) h) Q:=⟨_,rfl,q⟩
theorem Cq (q:Q (.bl (x==y),h)):Rn (cx (.str x) (.str y) h) Q:=⟨_,rfl,q⟩
theorem Cj (q:Q (.bl (!(x==y)),h)):Rn (iS (.str x) (.str y) h) Q:=⟨_,rfl,q⟩
theorem Co (q:Q (d,h)):Rn (fIx (.tup (d::r)) (.int 0) h) Q:=⟨_,by
 show ((atI (d::r) 0).map fun z=>(z,h))=_;have:atI (d::r) 0=some d:=by unfold atI;rw [show ixN (d::r).length 0=some 0 by unfold ixN;simp;try lia];rfl
 rw [this];rfl,q⟩
theorem Cn (q:Q (e,h)):Rn (fIx (.tup (d::e::r)) (.int 1) h) Q:=⟨_,by
 show ((atI (d::e::r) 1).map fun z=>(z,h))=_;have:atI (d::e::r) 1=some e:=by unfold atI;rw [show ixN (d::e::r).length 1=some 1 by unfold ixN;simp;try lia];rfl
 rw [this];rfl,q⟩
theorem Cm (q:Q (f,h)):Rn (fIx (.tup (d::e::f::r)) (.int 2) h) Q:=⟨_,by
 show ((atI (d::e::f::r) 2).map fun z=>(z,h))=_;have:atI (d::e::f::r) 2=some f:=by unfold atI;rw [show ixN (d::e::f::r).length 2=some 2 by unfold ixN;simp;try lia];rfl
 rw [this];rfl,q⟩
theorem zR (q:Q (.int r.length,h)):Rn (c5 [.tup r] h) Q:=⟨_,rfl,q⟩
theorem zS (q:Q (.int r.length,h)):Rn (c5 [.lv r] h) Q:=⟨_,rfl,q⟩
inductive All2 {α β:Type} (R:α->β->Prop):List α->List β->Prop where
 | nil:All2 R [] []
 | cons {x y xs ys}:R x y->All2 R xs ys->All2 R (x::xs) (y::ys)
theorem All2.length:∀{xs:List α} {ys:List β},All2 R xs ys->ys.length=xs.length
 | _,_,.nil=>rfl
 | _,_,.cons _ t=>by rw [List.length_cons,List.length_cons,All2.length t]
theorem All2.right:∀{xs:List α} {ys:List β},All2 R xs ys->∀y∈ys,∃x∈xs,R x y
 | _,_,.nil,_,h=>by cases h
 | _,_,.cons r t,y,h=>by
  rcases List.mem_cons.mp h with rfl | h
  ·exact ⟨_,List.mem_cons_self,r⟩
  ·obtain ⟨x,hx,r⟩:=All2.right t y h;exact ⟨x,List.mem_cons_of_mem _ hx,r⟩
theorem md (R:D->D->Prop):∀{xs:List D} {δ:DS} {h:MH} (J:Nat->DS->MH->Prop),J 0 δ h->(∀i δ h,i≤xs.length->J i δ h->chk ws h=true)->
  (∀i x δ h,xs[i]?=some x->J i δ h->Rn (g x δ h) fun q=>Rn (e q.1 q.2) fun y=>R x y.1∧J (i+1) q.1 y.2)->Rn (bG ws g cN e xs δ h) fun p=>All2 R xs p.1∧∃δ',J xs.length δ' p.2
 | [],δ,h,J,hJ,hc,_=>by
  unfold bG;rw [if_pos (hc 0 δ h (Nat.le_refl _) hJ)];exact ⟨_,rfl,.nil,δ,hJ⟩
 | x::xs,δ,h,J,hJ,hc,ht=>by
  unfold bG;rw [if_pos (hc 0 δ h (Nat.zero_le _) hJ)];obtain ⟨⟨δ1,h1⟩,e1,⟨y,h2⟩,e2,r,J1⟩:=ht 0 x δ h rfl hJ;dsimp only at e2 r J1;obtain ⟨⟨ys,h3⟩,e3,a,δ',J2⟩:=md R (xs:=xs) (fun i=>J (i+1)) J1 (fun i δ h hl=>hc (i+1) δ h (Nat.succ_le_succ hl)) fun i y δ h hy=>ht (i+1) y δ h (by simpa using hy);refine ⟨(y::ys,h3),?_,.cons r a,δ',J2⟩;rw [e1];walk_at "ag";show ((some (true,h1)).bind _)=_;walk_at "ag";rw [if_pos rfl,e2];walk_at "ag";rw [e3];rfl
theorem l9 (R:D->D->Prop):∀{xs:List D} {δ:DS} {h:MH} (J:Nat->DS->MH->Prop),J 0 δ h->(∀i δ h,i≤xs.length->J i δ h->chk ws h=true)->
  (∀i x δ h,xs[i]?=some x->J i δ h->Rn (g x δ h) fun q=>Rn (c q.1 q.2) fun t=>(t.1=true->Rn (e q.1 t.2) fun y=>R x y.1∧J (i+1) q.1 y.2)∧(t.1=false->J (i+1) q.1 t.2))->Rn (bG ws g c e xs δ h) fun p=>p.1.length≤xs.length∧(∀y∈p.1,∃x∈xs,R x y)∧∃δ',J xs.length δ' p.2
 | [],δ,h,J,hJ,hc,_=>by
  unfold bG;rw [if_pos (hc 0 δ h (Nat.le_refl _) hJ)];exact ⟨_,rfl,Nat.le_refl _,fun _ z=>(nomatch z),δ,hJ⟩
 | x::xs,δ,h,J,hJ,hc,ht=>by
  unfold bG;rw [if_pos (hc 0 δ h (Nat.zero_le _) hJ)];obtain ⟨⟨δ1,h1⟩,e1,⟨t,h2⟩,e2,q1,q2⟩:=ht 0 x δ h rfl hJ;dsimp only at e2 q1 q2;rw [e1];walk_at "ag";rw [e2];walk_at "ag";have next:=fun {δ':DS} {h':MH} (J1:J 1 δ' h')=>l9 R (xs:=xs) (fun i=>J (i+1)) J1 (fun i δ h hl=>hc (i+1) δ h (Nat.succ_le_succ hl)) fun i y δ h hy=>ht (i+1) y δ h (by simpa using hy)
  cases t with
  | true=>
   obtain ⟨⟨y,h3⟩,e3,r,J1⟩:=q1 rfl;dsimp only at r J1;obtain ⟨⟨ys,h4⟩,e4,l,a,δ',J2⟩:=next J1
   refine ⟨(y::ys,h4),?_,Nat.succ_le_succ l,fun z hz=>?_,δ',J2⟩
   ·rw [if_pos rfl,e3];walk_at "ag";rw [e4];rfl
   ·rcases List.mem_cons.mp hz with rfl | hz
    ·exact ⟨x,List.mem_cons_self,r⟩
    ·obtain ⟨u,hu,r⟩:=a z hz;exact ⟨u,List.mem_cons_of_mem _ hu,r⟩
  | false=>
   obtain ⟨⟨ys,h4⟩,e4,l,a,δ',J2⟩:=next (q2 rfl)
   refine ⟨(ys,h4),?_,Nat.le_succ_of_le l,fun z hz=>?_,δ',J2⟩
   ·rw [if_neg (by decide),e4]
   ·obtain ⟨u,hu,r⟩:=a z hz;exact ⟨u,List.mem_cons_of_mem _ hu,r⟩
end Sm
namespace L2
open PySem PySem.Spec PyProof.Rows
abbrev Es:Hp:=fun _=>none
structure Tab (P:Program) (w:World) (K:FR) (mg:Str->Option Value) (nm:Str) (tb:List (Str×List Int)):Prop where
 ex:∃(a:Addr) (o:Obj) (es:Array DictEntry) (ep:Nat) (kvs:List (Str×Value)),mg nm=some (.ref a)∧K.lookup a=some o∧o.ExactDict∧o.data=.dict es ep∧(a==sysModules)=false∧KeysOf (strKind P w) es∧Pairs (strKind P w) es.toList kvs∧(kvs.map (·.1)).Nodup∧
  Sm.All2 (fun (x:Str×List Int) (y:Str×Value)=>x.1=y.1∧∃(t:Addr) (u:Obj) (its:Array Value) (n:Nat),y.2=.ref t∧K.lookup t=some u∧u.cls=.type "tuple"∧u.dict=none∧u.data=.seq its n∧its.size≤sizeLine∧IntsAre its.toList x.2) tb kvs
theorem uM {K:FR}:∀{tb:List (Str×List Int)} {kvs:List (Str×Value)},Sm.All2 (fun (x:Str×List Int) (y:Str×Value)=>x.1=y.1∧∃(t:Addr) (u:Obj) (its:Array Value) (n:Nat),y.2=.ref t∧K.lookup t=some u∧u.cls=.type "tuple"∧u.dict=none∧u.data=.seq its n∧its.size≤sizeLine∧IntsAre its.toList x.2) tb kvs->∀x:Str,
  (∀is,tb.lookup x=some is->∃t,valueAt kvs x=some (.ref t)∧∀H,SqT K H t (is.map V.int))∧(valueAt kvs x).isSome=(tb.lookup x).isSome:=by
 intro tb kvs h
 induction h with
 | nil=>exact fun x=>⟨fun is e=>(nomatch e),rfl⟩
 | @cons p q tb kvs r l ih=>
  intro x;obtain ⟨a,is0⟩:=p;obtain ⟨b,v⟩:=q;obtain ⟨e0,t,u,its,n,e1,h1,h2,h3,h4,h5,h6⟩:=r;dsimp only at e0 e1 h6;subst e0;subst e1
  by_cases hx:x=a
  ·subst hx;have hv:valueAt ((x,Value.ref t)::kvs) x=some (.ref t):=by unfold valueAt;simp
   have hl:((x,is0)::tb).lookup x=some is0:=by simp
   refine ⟨fun is e=>?_,by rw [hv,hl];rfl⟩;rw [hl] at e;cases e;exact ⟨t,hv,fun H=>.inr ⟨u,its,n,h1,h2,h4,h5,iF h6,h3⟩⟩
  ·have hv:valueAt ((a,Value.ref t)::kvs) x=valueAt kvs x:=by
    unfold valueAt;rw [List.find?_cons_of_neg (by simpa using fun z=>hx z.symm)]
   have hl:((a,is0)::tb).lookup x=tb.lookup x:=by
    rw [List.lookup_cons,show (x==a)=false by simpa using hx]
   rw [hv,hl];exact ih x
theorem Tab.dict (T:Tab X.prog X.w X.K X.mg nm tb) (I:Inv X pins σ H s):∃(a:Addr) (kvs:List (Str×Value)),X.mg nm=some (.ref a)∧(a==sysModules)=false∧s.heap.DictOf (strKind X.prog X.w) a kvs∧∀x:Str,
  (∀is,tb.lookup x=some is->∃t,valueAt kvs x=some (.ref t)∧∀H,SqT X.K H t (is.map V.int))∧(valueAt kvs x).isSome=(tb.lookup x).isSome:=by
 obtain ⟨a,o,es,ep,kvs,h1,h2,h3,h4,h5,h6,h7,h8,h9⟩:=T.ex;exact ⟨a,kvs,h1,h5,⟨o,es,ep,I.kIn a o h2,h3,h4,h6,h7,h8⟩,uM h9⟩
theorem AO (T:Tab X.prog X.w X.K X.mg nm tb) (hg:Gl X nm) (hi:PE X i ti) (hs:zF i) (hd:(nm==("__debug__":Str))=false):
  PE X (.Subscript (.Name nm p) i pos) (fun σ H Q=>ti σ H fun y H1=>∃x is,y=.str x∧tb.lookup x=some is∧∀t,SqT X.K Es t (is.map V.int)->Q (.ref t) H1):=by
 intro pins s σ H Q I h;obtain ⟨a,kvs,hm,hsm,dd,hv⟩:=T.dict I;refine yi PySem.F.slot_dict_getitem.lookup hs (ug I hg hm (thn (hi pins s σ H _ I h) fun iv s2 ⟨y,H2,I2,ry,x,is,ey,l,q⟩=>?_) hd);subst ey;obtain ⟨t,rfl⟩:=ry;obtain ⟨a',kvs',hm',hsm',dd',hv'⟩:=T.dict I2;rw [hm] at hm';cases hm';obtain ⟨u,e,sq⟩:=(hv' x).1 is l;exact ⟨dd'.typeIs,wpAny_getItem_of (by show Value.isStrOf x (.str x t)=true;unfold Value.isStrOf;simp) dd'.mapOf e ⟨.ref u,H2,I2.tok _,rfl,q u (sq _)⟩⟩
end L2
namespace Sm
open PySem L2 PySem.Spec PyProof.Rows
noncomputable def BL (tb:List (Str×List Int)) (d:D) (h:MH):Option (D×MH):=match d with
 | .str x=>(tb.lookup x).map fun is=>(.tup (is.map D.int),h)
 | _=>none
theorem Ae (T:Tab X.prog X.w X.K X.mg nm tb) (hi:SE X i mi) (hg:Gl X nm:=by unfold Gl;kernel_rfl) (hs:zF i:=by unfold zF;intro _ _;kernel_rfl) (hd:(nm==("__debug__":Str))=false:=by kernel_rfl):SE X (.Subscript (.Name nm p) i pos) (eUn (BL tb) mi):=
 (AO T hg hi hs hd).imp fun σ H Q ⟨ρ,δ,h,d,h',R,S,e,k⟩=>by
  walk_at "ad";dsimp only at e2;refine ⟨ρ,δ,h,x,h1,R,S,e1,fun v H1 ⟨ρ1,T1,S1,r1⟩=>?_⟩;unfold BL at e2
  split at e2
  ·rename_i y;obtain ⟨is,e3,e4⟩:=mpd e2;cases e4;cases r1;exact ⟨_,is,rfl,e3,fun t sq=>k _ _ ⟨ρ1,T1,S1,.tup (.inr sq) (repL_ints' is)⟩⟩
  ·cases e2
end Sm
namespace Hd
open PySem PySem.W PySem.Spec PyProof.Rows L2 Sm
abbrev Sub (h h':Heap):Prop:=∀b o,h.get? b=some o->h'.get? b=some o
theorem sM (k:Sub h h') (x:rowAt h e=some r):rowAt h' e=some r:=by
 unfold rowAt at x ⊢
 split at x
 ·split at x
  ·split at x
   ·rename_i u hu;rw [k _ _ hu];exact x
   ·cases x
  ·cases x
 ·cases x
theorem lx (k:Sub h h'):∀{es:List DictEntry} {r:List (Str×Int×List Int)},je h es=some r->je h' es=some r
 | [],_,x=>x
 | e::es,r,x=>by
  unfold je at x ⊢;obtain ⟨y,e1,x⟩:=Option.bind_eq_some_iff.mp x;obtain ⟨ys,e2,x⟩:=Option.map_eq_some_iff.mp x;rw [sM k e1,lx k e2];exact congrArg some x
theorem sF (k:Sub h h') (x:tabAt h nm=some r):tabAt h' nm=some r:=by
 have hg:∀v,h.nsMap mainGlobals nm=some v->h'.nsMap mainGlobals nm=some v:=fun v e=>by
  unfold Heap.nsMap at e ⊢
  split at e
  ·rename_i o ho;rw [k _ _ ho];exact e
  ·cases e
 unfold tabAt at x ⊢
 split at x
 ·rename_i a ha;rw [hg _ ha];dsimp only
  split at x
  ·cases x
  ·rename_i hs;rw [if_neg hs]
   split at x
   ·rename_i o ho;rw [k _ _ ho];dsimp only
    split at x
    ·rename_i hc;rw [if_pos hc]
     split at x
     ·exact lx k x
     ·cases x
    ·cases x
   ·cases x
 ·cases x
theorem rV:∀{vs:List Value} {is:List Int},uo vs=some is->IntsAre vs is
 | [],_,e=>by cases e;exact .nil
 | v::r,is,e=>by
  cases v <;> first | (cases e;done) | skip
  obtain ⟨js,e1,e2⟩:=Option.map_eq_some_iff.mp (show (uo r).map _=some is from e);subst e2;exact .cons _ _ (rV e1)
theorem sk (h:uz v t=true):v=.type t:=by
 unfold uz at h
 split at h
 ·rw [of_decide_eq_true h]
 ·cases h
theorem mI:∀{es:List DictEntry} {tb:List (Str×List Int)},je h es=some (tb.map fun x=>(x.1,hashStr w x.1,x.2))->
  ∃kvs:List (Str×Value),(∀e∈es,∃k,(PySem.strKind P w).is k e.key=true∧e.hash=(PySem.strKind P w).hash k)∧Pairs (PySem.strKind P w) es kvs∧kvs.map (·.1)=tb.map (·.1)∧
   All2 (fun (x:Str×List Int) (y:Str×Value)=>x.1=y.1∧∃(t:Addr) (u:Obj) (its:Array Value) (n:Nat),y.2=.ref t∧(bt h).lookup t=some u∧u.cls=.type "tuple"∧u.dict=none∧u.data=.seq its n∧its.size≤sizeLine∧IntsAre its.toList x.2) tb kvs
 | [],tb,x=>by
  have hz:tb=[]:=by
   have:=Option.some.inj x;exact List.map_eq_nil_iff.mp this.symm
  subst hz;exact ⟨[],fun _ z=>(nomatch z),.nil,rfl,.nil⟩
 | e::es,tb,x=>by
  unfold je at x;obtain ⟨y,e1,x⟩:=Option.bind_eq_some_iff.mp x;obtain ⟨ys,e2,x⟩:=Option.map_eq_some_iff.mp x;cases tb with
  | nil=>cases x
  | cons q tb=>
   rw [List.map_cons] at x;obtain ⟨rfl,rfl⟩:=List.cons.inj x;obtain ⟨kvs,h1,h2,h3,h4⟩:=mI (P:=P) e2;unfold rowAt at e1
   split at e1
   ·rename_i x0 tk hk
    split at e1
    ·rename_i t hv
     split at e1
     ·rename_i u hu
      split at e1
      ·rename_i hc;rw [Bool.and_eq_true] at hc
       split at e1
       ·rename_i its n hd
        split at e1
        ·rename_i hs;obtain ⟨is,e3,e4⟩:=Option.map_eq_some_iff.mp e1;have e5:x0=q.1:=congrArg (·.1) e4;have e6:e.hash=hashStr w q.1:=congrArg (·.2.1) e4;have e7:is=q.2:=congrArg (·.2.2) e4;have hki:(PySem.strKind P w).is q.1 e.key=true:=by rw [hk,e5];show Value.isStrOf q.1 (.str q.1 tk)=true;unfold Value.isStrOf;simp
         refine ⟨(q.1,.ref t)::kvs,fun e' he'=>?_,.cons hki hv h2,by rw [List.map_cons,List.map_cons,h3],.cons ⟨rfl,t,u,its,n,rfl,iO hu rfl,sk hc.1,by simpa using hc.2,hd,Nat.le_trans hs (by decide),by rw [←e7];exact rV e3⟩ h4⟩;rcases List.mem_cons.mp he' with rfl | he'
         ·exact ⟨q.1,hki,e6⟩
         ·exact h1 e' he'
        ·cases e1
       ·cases e1
      ·cases e1
     ·cases e1
    ·cases e1
   ·cases e1
theorem tab_of (x:tabAt h nm=some (tb.map fun x=>(x.1,hashStr w x.1,x.2))) (g:h.Ns mainGlobals mg) (nd:(tb.map (·.1)).Nodup):Tab P w (bt h) mg nm tb:=by
 unfold tabAt at x
 split at x
 ·rename_i a ha
  split at x
  ·cases x
  ·rename_i hs
   split at x
   ·rename_i o ho
    split at x
    ·rename_i hc;rw [Bool.and_eq_true,Bool.and_eq_true] at hc
     split at x
     ·rename_i es ep hd;obtain ⟨kvs,h1,h2,h3,h4⟩:=mI (P:=P) x;have hm:mg nm=some (.ref a):=by
       obtain ⟨o',es',ep',g1,g2,_,g3⟩:=g;rw [←g3 nm,←ha];unfold Heap.nsMap;rw [g1];dsimp only;rw [g2]
      exact ⟨a,o,es,ep,kvs,hm,iO ho rfl,⟨sk hc.1.1,by simpa using hc.1.2,of_decide_eq_true hc.2⟩,hd,by simpa using hs,fun e he=>h1 e (Array.mem_toList_iff.mpr he),h2,by rw [h3];exact nd,h4⟩
     ·cases x
    ·cases x
   ·cases x
 ·cases x
end Hd
namespace L2
open PySem PySem.Spec PyProof.Rows
end L2
namespace Sm
open PySem L2 PySem.Spec PyProof.Rows
end Sm
namespace Sb
open PySem L2 PySem.Spec PyProof.Rows
open Builtin.SmallTypes (nextOf ownedTupleIsFree ownedTupleHandOut)
end Sb
namespace PySem
end PySem
namespace L2
open PySem PySem.Spec PyProof.Rows
end L2
namespace L2
open PySem PySem.Spec PyProof.Rows Sb
end L2
namespace Sm
open PySem L2 PySem.Spec PyProof.Rows Sb
end Sm
namespace Sb
open PySem L2 PySem.Spec PyProof.Rows
variable {P:Program} {w:World} {A:Around} {E:Value->Shared->Prop} {s:Shared} {b c:Bool}
end Sb
namespace Sb
open PySem L2 PySem.Spec PyProof.Rows
variable {P:Program} {w:World} {A:Around} {E:Value->Shared->Prop} {s:Shared} {b c:Bool}
end Sb
namespace L2
open PySem PySem.Spec PyProof.Rows Sb
end L2
namespace Sm
open PySem L2 PySem.Spec PyProof.Rows Sb
end Sm
namespace PySem
end PySem
namespace L2
open PySem PySem.Spec PyProof.Rows
end L2
namespace Sm
open PySem L2 PySem.Spec PyProof.Rows
end Sm
namespace L2
open PySem PySem.Spec PyProof.Rows
end L2
namespace L2
open PySem PySem.Spec PyProof.Rows PySem.SeqAt
end L2
namespace Sm
open PySem L2 PySem.Spec PyProof.Rows
end Sm
namespace Hd
open PySem PySem.W PySem.Spec PyProof.Rows L2 Sm
end Hd
namespace L2
open PySem PySem.Spec PyProof.Rows
end L2
namespace Sm
open PySem L2 PySem.Spec PyProof.Rows
end Sm
namespace L2
open PySem PySem.Spec PyProof.Rows
end L2
namespace Sm
open PySem L2 PySem.Spec PyProof.Rows
end Sm
namespace L2
open PySem PySem.Spec PyProof.Rows
end L2
namespace Sm
open PySem L2
end Sm
namespace Sm
open PySem L2 PySem.Spec PyProof.Rows
end Sm
namespace L2
open PySem PySem.Spec PyProof.Rows
end L2
namespace Sm
open PySem L2 PySem.Spec PyProof.Rows
theorem scl (d:Df X.prog X.w X.K X.mg X.base nm k ps n F) (hr:Room k' X.A) (ha:SA X (e::es) m) (hk:k≤k':=by decide) (hl:ll m n:=by repeat (first | exact ak | refine ag ?_)) (hg:Gl X nm:=by unfold Gl;kernel_rfl) (hdb:(nm==("__debug__":Str))=false:=by kernel_rfl) (he:starEach (e::es) X.env=(false,eval e X.env)::starEach es X.env:=by kernel_rfl) (hpl:(backTo pos (starEach es X.env)).any (·.1)=false:=by kernel_rfl):SE X (.Call (.Name nm p) (e::es) [] pos) (eFn F m):=CJ d hr hk ha hl hg hdb he hpl
theorem scb {x:Str} {id:String} {p pos:Pos} {e:Expr} {es:List Expr} {f:Fn} {m:AM} (hc:eP X (.builtin id) f) (hm:X.mg x=none) (hv:bootBuiltins x=some (.builtin id)) (ha:SA X (e::es) m) (hg:Gl X x:=by unfold Gl;kernel_rfl) (hn:x≠"__name__":=by decide) (hdb:(x==("__debug__":Str))=false:=by kernel_rfl)
  (he:starEach (e::es) X.env=(false,eval e X.env)::starEach es X.env:=by kernel_rfl) (hpl:(backTo pos (starEach es X.env)).any (·.1)=false:=by kernel_rfl):SE X (.Call (.Name x p) (e::es) [] pos) (eFn f m):=wk hc hg hm hv ha hn hdb he hpl
theorem sct {x:Str} {id:String} {p pos:Pos} {e:Expr} {es:List Expr} {f:Fn} {m:AM} (hc:eP X (.type id) f) (hm:X.mg x=none) (hv:bootBuiltins x=some (.type id)) (ha:SA X (e::es) m) (hg:Gl X x:=by unfold Gl;kernel_rfl) (hn:x≠"__name__":=by decide) (hdb:(x==("__debug__":Str))=false:=by kernel_rfl)
  (he:starEach (e::es) X.env=(false,eval e X.env)::starEach es X.env:=by kernel_rfl) (hpl:(backTo pos (starEach es X.env)).any (·.1)=false:=by kernel_rfl):SE X (.Call (.Name x p) (e::es) [] pos) (eFn f m):=wj hc hg hm hv ha hn hdb he hpl
theorem sty (hm:X.mg x=none) (hv:bootBuiltins x=some (.type n)) (hg:Gl X x:=by unfold Gl;kernel_rfl) (hn:x≠"__name__":=by decide) (hd:(x==("__debug__":Str))=false:=by kernel_rfl):SE X (.Name x pos) (eK (.ty n)):=CD hg hm hv hn hd
theorem six (hr:Room k X.A) (ha:SE X a ma) (hb:SE X b mb) (hs:kB b:=by unfold kB;intro _ _;kernel_rfl):SE X (.Subscript a b pos) (eOp fIx ma mb):=CG hr.units ha hb hs
end Sm
namespace Hd
open PySem PySem.W PySem.Spec PyProof.Rows L2 Sm
theorem u0 {P:List Value->Prop} (h:P []) (us:List Value) (hl:us.length=0):P us:=by cases us with | nil=>exact h | cons _ _=>cases hl
theorem u1 {P:List Value->Prop} (h:∀a,P [a]) (us:List Value) (hl:us.length=1):P us:=by
 cases us with
 | nil=>cases hl
 | cons a r=>exact u0 (P:=fun r=>P (a::r)) (h a) r (Nat.succ.inj hl)
theorem u2 {P:List Value->Prop} (h:∀a b,P [a,b]) (us:List Value) (hl:us.length=2):P us:=by
 cases us with
 | nil=>cases hl
 | cons a r=>exact u1 (P:=fun r=>P (a::r)) (h a) r (Nat.succ.inj hl)
theorem u3 {P:List Value->Prop} (h:∀a b c,P [a,b,c]) (us:List Value) (hl:us.length=3):P us:=by
 cases us with
 | nil=>cases hl
 | cons a r=>exact u2 (P:=fun r=>P (a::r)) (h a) r (Nat.succ.inj hl)
theorem u4 {P:List Value->Prop} (h:∀a b c d,P [a,b,c,d]) (us:List Value) (hl:us.length=4):P us:=by
 cases us with
 | nil=>cases hl
 | cons a r=>exact u3 (P:=fun r=>P (a::r)) (h a) r (Nat.succ.inj hl)
theorem u5 {P:List Value->Prop} (h:∀a b c d e,P [a,b,c,d,e]) (us:List Value) (hl:us.length=5):P us:=by
 cases us with
 | nil=>cases hl
 | cons a r=>exact u4 (P:=fun r=>P (a::r)) (h a) r (Nat.succ.inj hl)
theorem u6 {P:List Value->Prop} (h:∀a b c d e f,P [a,b,c,d,e,f]) (us:List Value) (hl:us.length=6):P us:=by
 cases us with
 | nil=>cases hl
 | cons a r=>exact u5 (P:=fun r=>P (a::r)) (h a) r (Nat.succ.inj hl)
theorem u7 {P:List Value->Prop} (h:∀a b c d e f g,P [a,b,c,d,e,f,g]) (us:List Value) (hl:us.length=7):P us:=by
 cases us with
 | nil=>cases hl
 | cons a r=>exact u6 (P:=fun r=>P (a::r)) (h a) r (Nat.succ.inj hl)
theorem bZ {q:Program} {loose:List Str} {mean:ExcName->Option Value} {mg mb:Str->Option Value} {h base:Heap} {P:Program} {w:World} (T:Top q loose mean mg mb h) {n:Str} {st:Stmt} (e:(recsOf q).find? (fun e=>e.name==n)=some (oH n st)) {ps:List Str} {k N:Nat} {F:Fn}
  (hb:∀{f:Addr} {fd:FuncData},Fun (bt h) n n st f fd->Binds (bt h) fd ps []) (ok:∀{f:Addr} {fd:FuncData},Fun (bt h) n n st f fd->keepIn (bt h) (.ref f)=true->Binds (bt h) fd ps []->mg n=some (.ref f)->FnOk P w (bt h) mg base CX0 k f fd ps (spF (bt h) N F)):Df P w (bt h) mg base n k ps N F:=by
 obtain ⟨f,fd,m,G⟩:=pb T e;exact ⟨f,fd,ok G G.kp (hb G) m,G.kp,hb G,m⟩
end Hd
namespace L2
open PySem PySem.Spec PyProof.Rows Builtin.Str
theorem za {X:Cx}:MtR X "str.join" (fun x vs H Q=>∃p a ss,x=.str p∧vs=[.ref a]∧(SqL X.K H a (ss.map V.str)∨SqT X.K H a (ss.map V.str))∧(ss.map (·.length)).sum+ss.length*p.length≤16777216∧Q (.str (Txt.join p ss)) H):=by
 intro pins s σ H x xs v us Q I rx rs h;obtain ⟨p,a,ss,rfl,rfl,ha,hz,q⟩:=h;obtain ⟨t,rfl⟩:=rx;obtain ⟨u,rfl,ru⟩:=vals1 rs;cases ru;rcases ha with ha | ha
 ·obtain ⟨its,rv,p,_⟩:=I.list ha;exact join_list p.isList (by simpa using iH rv) hz fun t' k=>⟨.str _,H,I.kept (t':=k) fun _ _ e=>e,⟨t',rfl⟩,q⟩
 ·obtain ⟨its,rv,p,_⟩:=I.tuple ha;exact join_tuple p (by simpa using iH rv) hz fun t' k=>⟨.str _,H,I.kept (t':=k) fun _ _ e=>e,⟨t',rfl⟩,q⟩
theorem mq:∀(l:List (Str×Tok)),Vals ((l.map (·.1)).map V.str) (strValues l)
 | []=>.nil
 | (x,t)::r=>.cons ⟨t,rfl⟩ (mq r)
theorem vW {prog:Program} {w:World} {A:Around} {E:Value->Shared->Prop} {s:Shared} {x y:Str} {t u:Tok} {Q:Value->Shared->Prop} (hy:(y.length==0)=false)
  (hq:∀l k,l.map (·.1)=Txt.split x y->Q (.ref s.heap.objs.size) {s with toks:=k,heap:=s.heap.push {cls:=.type "list",data:=.seq (strValues l).toArray}})
  (hsz:x.length≤sizeLine) (hsz2:(partsBetween x (occurrences x y 0 x.length (x.length+1)) y.length).length≤sizeLine):
  wpAny (model prog w) A (call (.builtin "str.split") [.str x t,.str y u]) Q E s:=by
 cases h1:(decide (x.length < y.length)||decide (strKind x < strKind y))
 ·cases hf:(occurrences x y 0 x.length (x.length+1)).isEmpty
  ·refine call_meets F.slot_str_split (typeIs_str _ _ _) F.entry_str_split (F.args_str_split_2 _ _) (meets_str_split_sep x y t u h1 hy hf hsz hsz2) ?_;show wants Q E _ {s with toks:=_,heap:=s.heap.push {cls:=.type "list",data:=.seq (strsFrom s.toks (partsBetween x (occurrences x y 0 x.length (x.length+1)) y.length)).toArray}};rw [strsFrom_eq];exact hq (numbered s.toks _) _ ((numbered_texts _ _).trans ((if_neg (ne_true_of_eq_false h1)).trans (if_neg (ne_true_of_eq_false hf))).symm)
  ·exact call_meets F.slot_str_split (typeIs_str _ _ _) F.entry_str_split (F.args_str_split_2 _ _) (meets_str_split_not_found x y t u h1 hy hf)
    (hq [(x,t)] _ ((if_neg (ne_true_of_eq_false h1)).trans (if_pos hf)).symm)
 ·exact call_meets F.slot_str_split (typeIs_str _ _ _) F.entry_str_split (F.args_str_split_2 _ _) (meets_str_split_cannot_occur x y t u h1)
   (hq [(x,t)] _ (if_pos h1).symm)
theorem xh {X:Cx}:MtR X "str.split" (fun x vs H Q=>∃p y,x=.str p∧vs=[.str y]∧(y.length==0)=false∧p.length≤sizeLine∧(Txt.split p y).length≤sizeLine∧(partsBetween p (occurrences p y 0 p.length (p.length+1)) y.length).length≤sizeLine∧∀l,H l=none->Q (.ref l) (upd H l (.lst ((Txt.split p y).map V.str)))):=by
 intro pins s σ H x xs v us Q I rx rs h;obtain ⟨p,y,rfl,rfl,hy,hz,hz1,hz2,q⟩:=h;obtain ⟨t,rfl⟩:=rx;obtain ⟨u,rfl,ru⟩:=vals1 rs;obtain ⟨t',rfl⟩:=ru;refine vW hy (fun l k e=>?_) hz hz2;rw [←e] at q hz1;exact ⟨.ref s.heap.objs.size,_,I.laid (t':=k) (o:=.lst ((l.map (·.1)).map V.str)) (fun b ob q=>Heap.get?_push_of_some _ q) (Nat.le_refl _)
  ⟨by rw [List.length_map];exact hz1,strValues l,_,mq l,Heap.get?_push_size _ rfl⟩,rfl,q _ (I.hok.fresh (Nat.le_refl _))⟩
end L2
namespace L2
open PySem PySem.Spec PyProof.Rows
end L2
namespace Sm
open PySem L2 PySem.Spec PyProof.Rows Builtin.Str
theorem fM {x y:Str} (hx:PyData.strOk x=true) (hy:PyData.strOk y=true):PyData.strOk (x++y)=true:=by
 unfold PyData.strOk at*;show (x.cps++y.cps).all _=true;rw [Array.all_append,hx,hy];rfl
noncomputable def isStr (d:D) (_:MH):Bool:=match d with
 | .str _=>true
 | _=>false
theorem ty_str {K:FR} {ρ:Ad} {H:Hp} {h:MH} {v:V} {d:D} (S:Sim K ρ h H) (r:Rep K ρ H v d) (e:isStr d h=true):tyV K "str" v H:=by
 cases r <;> first | (cases e;done) | exact rfl
noncomputable def lz:MFn:=fun d ds h=>match d,ds with
 | .str x,[y]=>(cZ y h).bind fun p=>(lp p.1).bind fun ns=>if (ns.map (·.length)).sum+ns.length*x.length≤16777216 then some (.str (Str.join x ns),h) else none
 | _,_=>none
theorem i0 {x:Str} (hx:PyData.strOk x=true):∀ns:List Str,(∀y∈ns,PyData.strOk y=true)->PyData.strOk (Str.join x ns)=true
 | [],_=>by kernel_rfl
 | [y],h=>h y (.head _)
 | y::z::r,h=>fM (fM (h y (.head _)) hx) (i0 hx (z::r) fun a ha=>h a (.tail _ ha))
theorem mj {X:Cx}:MtR X "str.join" (rM X.K lz):=by
 walk_at "ai";cases rd <;> first | (cases ee;done) | skip
 rename_i p hp
 match ds,l,ee with
 | [],_,ee=>cases ee
 | _::_::_,_,ee=>cases ee
 | [y],l,ee=>
  obtain ⟨⟨ys,w⟩,e1,e2⟩:=bnd ee;obtain ⟨ns,e3,e4⟩:=bnd e2
  by_cases c:(ns.map (·.length)).sum+ns.length*p.length≤16777216
  ·rw [if_pos c] at e4;cases e4;obtain ⟨v1,rfl,ry⟩:=rep1 l;obtain ⟨a,vs,rfl,hq,l2⟩:=jP S ry e1;have:=mB e3;dsimp only at this;subst this;obtain ⟨e5,f⟩:=jg l2;subst e5;refine za pins s σ H _ _ v us Q I rx rs ⟨p,a,ns,rfl,rfl,hq,c,?_⟩;rw [show Txt.join p ns=Str.join p ns from StrLaws.glued_eq_join p ns];exact k _ _ (.here S (.str (i0 hp ns f)))
  ·rw [if_neg c] at e4;cases e4
noncomputable def kT:MFn:=fun d ds h=>match d,ds with
 | .str x,[.str y]=>if (y.length==0)=false∧x.length≤sizeLine∧(Txt.split x y).length≤sizeLine∧(partsBetween x (occurrences x y 0 x.length (x.length+1)) y.length).length≤sizeLine∧(Txt.split x y).all PyData.strOk=true then some (.lv ((Txt.split x y).map D.str),h) else none
 | _,_=>none
theorem rN {X:Cx}:MtR X "str.split" (rM X.K kT):=by
 walk_at "ai";cases rd <;> first | (cases ee;done) | skip
 rename_i p hp
 match ds,l,ee with
 | [],_,ee=>cases ee
 | y::_::_,_,ee=>cases y <;> cases ee
 | [y],l,ee=>
  obtain ⟨v1,rfl,ry⟩:=rep1 l;cases ry <;> first | (cases ee;done) | skip
  rename_i q hq _;unfold kT at ee;dsimp only at ee
  split at ee
  ·rename_i c;cases ee;exact xh pins s σ H _ _ v us Q I rx rs ⟨p,q,rfl,rfl,c.1,c.2.1,c.2.2.1,c.2.2.2.1,fun l hl=>k _ _ (.lv S (kK _ fun x hx=>List.all_eq_true.mp c.2.2.2.2 x hx) hl)⟩
  ·cases ee
theorem oE (i:Int):PyData.strOk (Str.ofString (toString i))=true:=by
 unfold PyData.strOk;rw [Array.all_eq_true'];intro c hc;refine decide_eq_true (Nat.lt_of_not_le fun h=>?_);exact int_text_free' c ⟨by lia,.inr (by lia)⟩ i (Array.mem_toList_iff.mpr hc)
noncomputable def rY:Fn:=fun ds h=>match ds with
 | [.int i]=>if i.natAbs.log2 < 1920 then some (.str (toString i),h) else none
 | _=>none
theorem uw {X:Cx}:eP X (.type "str") rY:=by
 walk_at "ac"
 match ds,l,ee with
 | [],_,ee=>cases ee
 | d::_::_,_,ee=>cases d <;> cases ee
 | [d],l,ee=>
  obtain ⟨v,rfl,rd⟩:=rep1 l;cases rd <;> first | (cases ee;done) | skip
  unfold rY at ee;dsimp only at ee
  split at ee
  ·rename_i c;cases ee;refine qG pins s σ H _ us Q I r ⟨_,rfl,c,k _ _ (.here S (.str ?_))⟩;exact oE _
  ·cases ee
end Sm
namespace L2
open PySem PySem.Spec PyProof.Rows
theorem sy {prog:Program} {w:World} {A:Around} {I:Addr} {fp wr:List Addr} {n:Nat} {P:Nat->Value->Prop} {St:Nat->Heap->Prop} (W:Walks prog w A I fp wr (n+1) P St):Walks prog w A I fp wr n (fun i=>P (i+1)) (fun i=>St (i+1)) where
 sub:=W.sub
 frame:=fun i=>W.frame (i+1)
 item:=fun i s Q E hi st hQ=>W.item (i+1) s Q E (Nat.succ_lt_succ hi) st hQ
 done:=fun s Q E st hQ=>W.done s Q E st hQ
 self:=fun i=>W.self (i+1)
theorem qR {prog:Program} {w:World} {A:Around} {E:Value->Shared->Prop} {s:Shared} {t:Addr} {x:Value} {r:List Value} {Q:List Value->Shared->Prop} (hh:A.handled=none) (ht:IsTup s.heap t (x::r).toArray) (hz:r.length≤sizeLine)
  (hQ:∀(h':Heap) tk,(∀b o,s.heap.get? b=some o->h'.get? b=some o)->Q [x,.ref h'.objs.size] {s with heap:=h'.push {cls:=.type "list",data:=.seq r.toArray},toks:=tk}):
  wpAny (model prog w) A (unpackItems (.ref t) 2 (some 1)) Q E s:=by
 have hlt:t≠s.heap.objs.size:=by obtain ⟨o,ho,_⟩:=ht;exact Nat.ne_of_lt (Heap.lt_size ho)
 unfold unpackItems;refine wpAny_bind ?_;unfold notIterableAtAll;refine wpAny_bind (wpAny_specialOf ht.typeIs slot_tuple_iter.lookup ?_);refine wpAny_pure ?_;simp only [Bool.false_eq_true,if_false];refine wpAny_bind (wpAny_holding (iter_tuple ht ?_));refine wpAny_bind (wpAny_holding (draw_tuple hlt 1 0 _ _ ⟨_,Heap.get?_push_size _ rfl,rfl,rfl⟩ (ht.push _) (by simp) fun h₁ hit₁ hs₁=>?_));rw [show List.take 1 (List.drop 0 (x::r).toArray.toList)=[x] by simp];rw [if_neg (by simp)];have ht₁:IsTup h₁ t (x::r).toArray:=(ht.push _).extBut hs₁.extBut hlt;have W:=(sy (n:=r.length) (by simpa using Walks.tuple (prog:=prog) (w:=w) (A:=A.in1) hh s.heap.objs.size t hlt (x::r).toArray)).toS;have k1:∀b o,s.heap.get? b=some o->h₁.get? b=some o:=fun b o e=>hs₁.extBut b o (Nat.ne_of_lt (Heap.lt_size e)) (Heap.get?_push_of_some _ e);refine wpAny_bind (wpAny_holding (wpAny_collect_iter (.inr (.inr (.inr rfl))) W (fun i s' st=>st.1.typeIs) ⟨hit₁,ht₁⟩ (fun b hb=>?_) (by simp) (fun s' acc mv hacc=>?_) hz))
 ·rcases List.mem_cons.mp hb with rfl | hb
  ·obtain ⟨o,e,_⟩:=hit₁;exact Heap.lt_size e
  ·obtain rfl:=List.mem_singleton.mp hb;obtain ⟨o,e,_⟩:=ht₁;exact Heap.lt_size e
 have e1:acc.toList=r:=by
  refine List.ext_getElem? fun j=>?_;have h1:=hacc.1
  by_cases z:j < r.length
  ·have h2:=hacc.2 j (acc[j]'(by lia)) (by simp);have h3:r[j]?=some acc[j]:=by simpa using h2
   rw [h3];simp
  ·rw [List.getElem?_eq_none (by simp;lia),List.getElem?_eq_none (by lia)]
 rw [e1];rw [if_neg (by simp)];simp only [Nat.sub_self,Nat.sub_zero,List.take_length,List.drop_length];refine wpAny_bind (wpAny_newObj_type ?_ hz);refine wpAny_pure ?_;have k2:∀b o,s.heap.get? b=some o->s'.heap.get? b=some o:=fun b o e=>mv.heap b o (fun hb=>by
  have:=List.mem_singleton.mp hb;exact Nat.ne_of_lt (Heap.lt_size e) this) (k1 b o e)
 have e2:=mv.gens;have e3:=mv.drawn;have e4:=mv.os;cases s';cases s;dsimp only at*;subst e2 e3 e4;exact hQ _ _ k2
section
variable {X:Cx}
def Dx (K:FR) (t:TGs):TG:=fun v σ H Q=>∃a x xs,v=.ref a∧SqT K H a (x::xs)∧∀l,H l=none->t [x,.ref l] σ (upd H l (.lst xs)) Q
theorem yU {es:List Expr} {t:TGs} {k:_} {pos:Pos} (hc:X.calm=true) (h:PGs X es t) (hn:(assignEach es X.env).length=2:=by rfl) (hst:(assignEach es X.env).findIdx? (·.1)=some 1:=by rfl):PG X (.Tuple es k pos) (Dx X.K t):=by
 intro pins s σ H v u Q I r hw;obtain ⟨a,x,xs,e1,hq,hw⟩:=hw;subst e1;cases r;obtain ⟨its,rv,ht,hz⟩:=I.tuple hq;cases rv with
 | cons rx rv=>
  rename_i y ys;rw [List.length_cons] at hz;have hl:=rv.length;rw [assign_Tuple];refine wpAny_bind (wpAny_standAt ?_);unfold unpack;rw [hn,hst];refine wpAny_bind (wpAny_holding (qR (I.ok.hd hc) ht (by lia) fun h' tk kk=>?_));have I1:Inv X pins σ H {s with heap:=h',toks:=tk}:=I.kept kk;have I2:=I1.laid (t':=tk) (h':=h'.push {cls:=.type "list",data:=.seq ys.toArray}) (a:=h'.objs.size) (o:=.lst xs) (fun b ob q=>Heap.get?_push_of_some _ q) (Nat.le_refl _) ⟨by lia,ys,_,rv,Heap.get?_push_size _ rfl⟩;exact h pins _ σ _ [x,.ref h'.objs.size] _ Q I2 (.cons rx (.cons (show RelV (.ref h'.objs.size) (.ref h'.objs.size) from rfl) .nil)) (hw _ (I1.hok.fresh (Nat.le_refl _)))
end
end L2
namespace Sm
open PySem L2 PySem.Spec PyProof.Rows
noncomputable def gTS (u:GMs):GM:=fun d δ h=>match d with
 | .tup (x::xs)=>u [x,.lv xs] δ h
 | _=>none
section
variable {X:Cx}
theorem wb {es es':List Expr} {m:GMs} (h:SGs X es m) (hs:(assignEach es' X.env).map (·.2)=(assignEach es X.env).map (·.2):=by kernel_rfl):SGs X es' m:=fun pins s σ H vs us Q I r q=>by
 rw [hs];exact h pins s σ H vs us Q I r q
theorem uO {e1 e2:Expr} {g1 g2:GM} {p:Pos} (h1:SG X e1 g1) (h2:SG X e2 g2) (a1:(assignEach [e1,e2] X.env).map (·.2)=assign e1 X.env::(assignEach [e2] X.env).map (·.2):=by kernel_rfl) (a2:(assignEach [e2] X.env).map (·.2)=[assign e2 X.env]:=by kernel_rfl) (hs:(assignEach [e1,.Starred e2 p] X.env).map (·.2)=(assignEach [e1,e2] X.env).map (·.2):=by kernel_rfl):SGs X [e1,.Starred e2 p] (aD g1 (aD g2 cg)):=
 wb (au h1 (au h2 bj a2) a1) hs
theorem yl {es:List Expr} {gs:GMs} {k0:_} {pos:Pos} (hc:X.calm=true) (h:SGs X es gs) (hn:(assignEach es X.env).length=2:=by kernel_rfl) (hst:(assignEach es X.env).findIdx? (·.1)=some 1:=by kernel_rfl):SG X (.Tuple es k0 pos) (gTS gs):=
 (yU hc h hn hst).imp fun v σ H Q ⟨ρ,δ,h,d,δ',h',R,S,r,e,k⟩=>by
  cases r <;> first | (exact absurd e (by intro z;cases z)) | skip
  rename_i a vs ds ht l _;cases l with
  | nil=>cases e
  | cons r l=>
   unfold gTS at e;dsimp only at e;refine ⟨a,_,_,rfl,ht.sq,fun p hp=>?_⟩;obtain ⟨ρ1,T1,S1,r1⟩:=dw.lv (K:=X.K) (h:=h) S l hp;exact ⟨ρ1,δ,h,_,δ',h',R.mono T1.toCh,S1,.cons (r.mono T1.toCh) (.cons r1 .nil),e,fun ρ2 H2 σ2 T2 S2 R2=>k ρ2 H2 σ2 (T1.trans T2) S2 R2⟩
end
end Sm
namespace Pg
open PySem Sm L2
abbrev Term:=Str×Int
abbrev Lock:=Str×Term
inductive Row where
 | say (w:Str)
 | call (d:Str) (ts:List Term)
 | within (l:Lock) (b:List Row)
 | all (ls:List Lock) (b:List Row)
 | ask (l:Lock) (b e:List Row)
 | by_ (s t:Term) (a b c:List Row)
 | either (a b:List Row)
 | again (a:List Row)
noncomputable def bz (t:Term):D:=.tup [.str t.1,.int t.2]
noncomputable def aI (l:Lock):D:=.tup [.str l.1,bz l.2]
mutual
noncomputable def aR:Row->D
 | .say w=>.tup [.str "say",.str w]
 | .call d ts=>.tup [.str "call",.str d,.tup (ts.map bz)]
 | .within l b=>.tup [.str "within",aI l,.tup (bY b)]
 | .all ls b=>.tup [.str "all",.tup (ls.map aI),.tup (bY b)]
 | .ask l b e=>.tup [.str "ask",aI l,.tup (bY b),.tup (bY e)]
 | .by_ s t a b c=>.tup [.str "by",bz s,bz t,.tup (bY a),.tup (bY b),.tup (bY c)]
 | .either a b=>.tup [.str "either",.tup (bY a),.tup (bY b)]
 | .again a=>.tup [.str "again",.tup (bY a)]
noncomputable def bY:List Row->List D
 | []=>[]
 | r::rs=>aR r::bY rs
end
theorem fT:∀l:List Row,bY l=l.map aR
 | []=>by simp [bY]
 | r::rs=>by simp [bY,fT rs]
mutual
noncomputable def cnt:Row->Nat
 | .say _=>1
 | .call _ _=>1
 | .within _ b=>1+av b
 | .all _ b=>1+av b
 | .ask _ b e=>1+av b+av e
 | .by_ _ _ a b c=>1+av a+av b+av c
 | .either a b=>1+av a+av b
 | .again a=>1+av a
noncomputable def av:List Row->Nat
 | []=>0
 | r::rs=>cnt r+av rs
end
theorem ki:∀a b:List Row,av (a++b)=av a+av b
 | [],b=>by simp [av]
 | r::a,b=>by simp [av,ki a b];lia
structure Wd where
 names:List Str
 deeds:List Str
 params:List (List Str)
def dQ (ps:List Str) (t:Term):Prop:=(t.1=Str.ofString ""∨t.1∈ps)∧-99≤t.2∧t.2≤99
def eI (W:Wd) (ps:List Str) (l:Lock):Prop:=l.1∈W.names∧dQ ps l.2
mutual
def br (W:Wd) (ps:List Str):Nat->Row->Prop
 | _,.say w=>w∈W.names++W.deeds
 | _,.call d ts=>(∃(j:Nat) (qs:List Str),W.deeds[j]?=some d∧W.params[j]?=some qs∧ts.length=qs.length)∧∀t∈ts,dQ ps t
 | n,.within l b=>eI W ps l∧n < 5∧b.length≤12∧bE W ps (n+1) b
 | n,.all ls b=>(2≤ls.length∧ls.length≤4∧ls.Nodup∧∀l∈ls,eI W ps l)∧n < 5∧b.length≤12∧bE W ps (n+1) b
 | n,.ask l b e=>eI W ps l∧n < 5∧b.length≤12∧e.length≤12∧bE W ps (n+1) b∧bE W ps (n+1) e
 | n,.by_ s t a b c=>dQ ps s∧dQ ps t∧n < 5∧a.length≤12∧b.length≤12∧c.length≤12∧bE W ps (n+1) a∧bE W ps (n+1) b∧bE W ps (n+1) c
 | n,.either a b=>n < 5∧a.length≤12∧b.length≤12∧bE W ps (n+1) a∧bE W ps (n+1) b
 | n,.again a=>n < 5∧a.length≤12∧bE W ps (n+1) a
def bE (W:Wd) (ps:List Str):Nat->List Row->Prop
 | _,[]=>True
 | n,r::rs=>br W ps n r∧bE W ps n rs
end
theorem oP {W:Wd} {ps:List Str} {n:Nat}:∀{a b:List Row},bE W ps n a->bE W ps n b->bE W ps n (a++b)
 | [],b,_,h=>h
 | r::a,b,h,h'=>by
  unfold bE at h;show bE W ps n (r::(a++b));unfold bE;exact ⟨h.1,oP h.2 h'⟩
theorem oO {W:Wd} {ps:List Str} {n:Nat}:∀{a:List Row},bE W ps n a->∀r∈a,br W ps n r
 | [],_,_,z=>by cases z
 | r::a,h,x,hx=>by
  unfold bE at h;rcases List.mem_cons.mp hx with rfl | hx
  ·exact h.1
  ·exact oO h.2 x hx
end Pg
namespace Mi
open PySem L2 Sm PySem.Spec PyProof.Rows
structure Bs (P:Program) (w:World) (K:FR) (mg:Str->Option Value):Prop where
 b9:mg "abs"=none
 b4:mg "all"=none
 b6:mg "enumerate"=none
 b2:mg "int"=none
 b3:mg "isinstance"=none
 b1:mg "len"=none
 b5:mg "list"=none
 b10:mg "max"=none
 b11:mg "min"=none
 b0:mg "range"=none
 b8:mg "sorted"=none
 b12:mg "str"=none
 b13:mg "sum"=none
 b7:mg "tuple"=none
 T_SHAPES:Tab P w K mg "SHAPES" iG
abbrev gq:Stmt:=top 14
abbrev gB:List Str:=["_law_script"]
theorem nX:FnScope ["_law_script"] gB (ay gq):=by walk_at "s"
noncomputable def dA:Fn:=mkF 1
  (bo (eOb (ab (eK (.int 0)) (ab (eOb (yc (ab (ou (ae 0) pNo (pAt (eK (.int 63)))) aj))) (ab (eK (.int 0)) aj)))))
abbrev ic:Stmt:=top 15
abbrev iw:List Str:=["_law_state"]
theorem cp:FnScope ["_law_state","_law_cells","_law_tour","_law_cell","_law_mixed"] iw (ay ic):=by walk_at "s"
noncomputable def fD:Fn:=mkF 5
  (ax (aT 1 (eOp fIx (ae 0) (eK (.int 1))))
  (ax (aT 2 (eOp fIx (ae 0) (eK (.int 2))))
  (ax (fO (eOp aG (ae 2) (eK (.int 1))) (lV (ae 0) (eK (.int 2))))
  (ax (aT 3 (eK (.int 0)))
  (ax (sIf (aH (eOp iS (ae 1) (eLv aj))) (aT 3 (eOp fIx (ae 1) (eOp nu (ae 2) (eFn c5 (ab (ae 1) aj))))) cc)
  (sIf (iQ (aH (eOp fLt (ae 2) (eFn c5 (ab (ae 1) aj)))) (aH (eOp fGe (eFn BO (ab (ae 3) aj)) (eOp zm (eK (.int 10)) (eK (.int 18)))))) (fO (eFn BO (ab (ae 3) aj)) (lV (ae 0) (eK (.int 0)))) (ax (aT 4 (eOp nu (eOp fX (eOp aG (eOp aG (eOp nu (ae 3) (eK (.int 2305843009213693951))) (eOp fX (eOp fX (eK (.int 7919)) (ae 2)) (ae 2))) (eK (.int 11))) (eK (.int 48271))) (eK (.int 2305843009213693951))))
  (ax (aT 4 (eOp nu (eOp fX (ae 4) (ae 4)) (eK (.int 2305843009213693921))))
  (fO (eOp aG (eOp nu (eOp aG (eOp aG (eOp fX (ae 4) (eK (.int 69621))) (ae 2)) (eK (.int 104729))) (eK (.int 2305843009213693951))) (eOp zm (eK (.int 10)) (eK (.int 9)))) (lV (ae 0) (eK (.int 0))))))))))))
abbrev ia:Stmt:=top 16
abbrev ir:List Str:=["_law_state","_law_many"]
theorem jR:FnScope ["_law_state","_law_many","_law_found"] ir (ay ia):=by walk_at "s"
noncomputable def aO:Fn:=mkF 3
  (ax (sIf (aH (eOp fLt (eOp fIx (ae 0) (eK (.int 0))) (ae 1))) (fu (eFn fD (ab (ae 0) aj))) cc)
  (ax (aT 2 (eOp nu (eOp fIx (ae 0) (eK (.int 0))) (ae 1)))
  (ax (fO (eOp xB (eOp fIx (ae 0) (eK (.int 0))) (ae 1)) (lV (ae 0) (eK (.int 0))))
  (bo (ae 2)))))
abbrev kI:Stmt:=top 17
abbrev kR:List Str:=["_law_state","_law_some"]
theorem sJ:FnScope ["_law_state","_law_some"] kR (ay kI):=by walk_at "s"
noncomputable def aN:Fn:=mkF 2
  (bo (eOp fIx (ae 1) (eFn aO (ab (ae 0) (ab (eFn c5 (ab (ae 1) aj)) aj)))))
abbrev gm:Stmt:=top 18
abbrev gy:List Str:=["_law_state","_law_many"]
theorem bM:FnScope ["_law_state","_law_many","_law_letters","_law_stem","_law_k","_law_at","_law_first","_law_stride"] gy (ay gm):=by walk_at "s"
noncomputable def cR:Fn:=mkF 8
  (ax (aT 2 (eK (.str "abcdefghijklmnopqrstuvwxyz")))
  (ax (aT 3 (eK (.str "")))
  (ax (gX (lU (ab (eFn aN (ab (ae 0) (ab (eK (.lv [.int 0,.int 1,.int 1,.int 2,.int 3,.int 6])) aj))) aj)) (gN 4) (aT 3 (eOp aG (ae 3) (eOp fIx (ae 2) (eFn aO (ab (ae 0) (ab (eK (.int 26)) aj)))))))
  (ax (aT 5 (eFn aO (ab (ae 0) (ab (eOp aG (eFn c5 (ab (ae 3) aj)) (eK (.int 1))) aj))))
  (ax (aT 6 (eFn aO (ab (ae 0) (ab (eK (.int 26)) aj))))
  (ax (aT 7 (eFn aN (ab (ae 0) (ab (eK (.lv [.int 1,.int 3,.int 5,.int 7,.int 9,.int 11])) aj))))
  (bo (eLv (bC [none,some 5,some 6,some 2,some 3,some 7] (lU (ab (ae 1) aj)) (gN 0) cN (eOp aG (eOp aG (ou (ae 4) pNo (pAt (ae 1))) (eOp fIx (ae 3) (eOp nu (eOp aG (ae 2) (eOp fX (ae 5) (ae 0))) (eK (.int 26))))) (ou (ae 4) (pAt (ae 1)) pNo)))))))))))
abbrev gk:Stmt:=top 19
abbrev gx:List Str:=["_law_state","_law_most","_law_odd"]
theorem bX:FnScope ["_law_state","_law_most","_law_odd","_law_names","_law_deeds","_law_params","_law_many","_law_floors"] gx (ay gk):=by walk_at "s"
noncomputable def eS:Fn:=mkF 8
  (ax (aT 3 (eFn cR (ab (ae 0) (ab (eFn aN (ab (ae 0) (ab (eK (.lv [.int 1,.int 2,.int 2,.int 3,.int 4,.int 6])) aj))) aj))))
  (ax (aT 4 (eFn cR (ab (ae 0) (ab (eFn aN (ab (ae 0) (ab (eK (.lv [.int 1,.int 1,.int 2,.int 2,.int 3,.int 4,.int 6])) aj))) aj))))
  (ax (aT 5 (eFn cR (ab (ae 0) (ab (eK (.int 3)) aj))))
  (ax (aT 6 (eLv (bC [none,some 0] (cU (ae 4)) (gN 0) cN (eFn aN (ab (ae 1) (ab (eK (.lv [.int 0,.int 1,.int 1,.int 2,.int 2,.int 3])) aj))))))
  (ax (aT 7 (eFn xx (ab (eLv (bC [none,some 3,some 0] (cU (ae 4)) (gN 0) cN (eFn aO (ab (ae 2) (ab (eFn c5 (ab (ae 1) aj)) aj))))) aj)))
  (ax (aT 5 (eLv (bC [none,some 5] (cU (ae 6)) (gN 0) cN (ou (ae 1) pNo (pAt (ae 0))))))
  (bo (tH (dD (eK (.str "names")) (ae 3) (dD (eK (.str "deeds")) (ae 4) (dD (eK (.str "params")) (ae 5) (dD (eK (.str "floors")) (ae 7) (dD (eK (.str "left")) (ae 1) (dD (eK (.str "odd")) (ae 2) y1))))))))))))))
abbrev fG:Stmt:=top 20
abbrev fI:List Str:=["_law_state","_law_world_here"]
theorem mH:FnScope ["_law_state","_law_world_here"] fI (ay fG):=by walk_at "s"
noncomputable def cC:Fn:=mkF 2
  (bo (BQ (eOp fGt (eOp fIx (ae 1) (eK (.str "odd"))) (eK (.int 0))) (eOp cx (eFn aO (ab (ae 0) (ab (eOp fIx (ae 1) (eK (.str "odd"))) aj))) (eK (.int 0)))))
abbrev hV:Stmt:=top 21
abbrev ip:List Str:=["_law_state","_law_params"]
theorem jQ:FnScope ["_law_state","_law_params","_law_far"] ip (ay hV):=by walk_at "s"
noncomputable def bD:Fn:=mkF 3
  (ax (aT 2 (eOp tx (eFn aO (ab (ae 0) (ab (eK (.int 81)) aj))) (eK (.int 40))))
  (ax (sIf (iQ (aH (eOp fGt (eFn c5 (ab (ae 1) aj)) (eK (.int 0)))) (aH (eOp fGt (eFn aO (ab (ae 0) (ab (eK (.int 5)) aj))) (eK (.int 0))))) (bo (eFn aW (ab (eFn aN (ab (ae 0) (ab (ae 1) aj))) (ab (eFn aN (ab (ae 0) (ab (eLv (ab (eK (.int 0)) (ab (eK (.int 0)) (ab (eK (.int 0)) (ab (eK (.int 0)) (ab (eK (.int 1)) (ab (eK (.int 1)) (ab (eUn jL (eK (.int 1))) (ab (eK (.int 2)) (ab (ae 2) aj)))))))))) aj))) aj)))) cc)
  (bo (eFn aW (ab (eK (.str "")) (ab (eFn aN (ab (ae 0) (ab (eLv (ab (eK (.int 0)) (ab (eK (.int 0)) (ab (eK (.int 1)) (ab (eK (.int 1)) (ab (eK (.int 2)) (ab (eK (.int 3)) (ab (eUn jL (eK (.int 1))) (ab (ae 2) aj))))))))) aj))) aj))))))
abbrev ig:Stmt:=top 23
abbrev iy:List Str:=["_law_state","_law_world_here","_law_deed","_law_top"]
theorem di:FnScope ["_law_state","_law_world_here","_law_deed","_law_top","_law_some","_law_other","_law_terms"] iy (ay ig):=by walk_at "s"
noncomputable def eA:Fn:=mkF 7
  (ax (aT 4 (eLv (bC [none,some 2,some 3,some 1] (lU (ab (eFn c5 (ab (eOp fIx (ae 1) (eK (.str "deeds"))) aj)) aj)) (gN 0) (iQ (aH (eOp fGt (eOp fIx (eOp fIx (ae 3) (eK (.str "floors"))) (ae 0)) (ae 2))) (aH (eOp fGe (ae 0) (ae 1)))) (ae 0))))
  (ax (sIf (qU (eFn cC (ab (ae 0) (ab (ae 1) aj)))) (aT 4 (eLv (B7 (ab (eFn c5 (ab (eOp fIx (ae 1) (eK (.str "deeds"))) aj)) aj)))) cc)
  (ax (sIf (aH (eOp cx (ae 4) (eLv aj))) (bo (eFn aW (ab (eK (.str "say")) (ab (eOp fIx (eOp fIx (ae 1) (eK (.str "deeds"))) (ae 2)) aj)))) cc)
  (ax (aT 5 (eFn aN (ab (ae 0) (ab (ae 4) aj))))
  (ax (aT 6 (eLv (bC [none,some 2,some 0,some 1] (cU (eOp fIx (eOp fIx (ae 1) (eK (.str "params"))) (ae 5))) (gN 0) cN (eFn bD (ab (ae 2) (ab (eOp fIx (eOp fIx (ae 3) (eK (.str "params"))) (ae 1)) aj))))))
  (bo (eFn aW (ab (eK (.str "call")) (ab (eOp fIx (eOp fIx (ae 1) (eK (.str "deeds"))) (ae 5)) (ab (eFn eJ (ab (ae 6) aj)) aj))))))))))
abbrev ib:Stmt:=top 22
abbrev iu:List Str:=["_law_state","_law_world_here","_law_deed","_law_top","_law_held"]
theorem bU:FnScope ["_law_state","_law_world_here","_law_deed","_law_top","_law_held","_law_low","_law_at","_law_name","_law_same","_law_word","_law_more"] iu (ay ib):=by walk_at "s"
noncomputable def c8:Fn:=mkF 11
  (ax (aT 5 (eFn nv (ab (ae 3) (ab (eOp fIx (eOp fIx (ae 1) (eK (.str "floors"))) (ae 2)) aj))))
  (ax (sIf (aH (eOp cx (ae 5) (eFn c5 (ab (eOp fIx (ae 1) (eK (.str "names"))) aj)))) (bo (eFn aW (ab (eK .non) (ab (eK .non) aj)))) cc)
  (ax (aT 6 (eOp aG (ae 5) (eFn aO (ab (ae 0) (ab (eOp tx (eFn c5 (ab (eOp fIx (ae 1) (eK (.str "names"))) aj)) (ae 5)) aj)))))
  (ax (sIf (qU (eFn cC (ab (ae 0) (ab (ae 1) aj)))) (aT 6 (eFn aO (ab (ae 0) (ab (eFn c5 (ab (eOp fIx (ae 1) (eK (.str "names"))) aj)) aj)))) cc)
  (ax (aT 7 (eOp fIx (eOp fIx (ae 1) (eK (.str "names"))) (ae 6)))
  (ax (aT 8 (eLv (bC [none,some 7] (cU (ae 4)) (gN 0) (aH (eOp cx (eOp fIx (ae 0) (eK (.int 0))) (ae 1))) (eOp fIx (ae 0) (eK (.int 1))))))
  (ax (sIf (iQ (aH (eOp iS (ae 8) (eLv aj))) (qV (qU (eFn cC (ab (ae 0) (ab (ae 1) aj)))))) (ax (fO (eOp fIx (ae 8) (eUn jL (eK (.int 1)))) (gT 2 (aD (gN 9) (aD (gN 10) cg))))
  (bo (eFn aW (ab (ae 6) (ab (eFn aW (ab (ae 7) (ab (eFn aW (ab (ae 9) (ab (eFn xy (ab (eK (.int 99)) (ab (eOp aG (eOp aG (ae 10) (eK (.int 1))) (eFn aO (ab (ae 0) (ab (eK (.int 2)) aj)))) aj))) aj))) aj))) aj))))) cc)
  (bo (eFn aW (ab (ae 6) (ab (eFn aW (ab (ae 7) (ab (eFn bD (ab (ae 0) (ab (eOp fIx (eOp fIx (ae 1) (eK (.str "params"))) (ae 2)) aj))) aj))) aj)))))))))))
abbrev jb:Stmt:=top 27
abbrev dO:List Str:=["_law_state","_law_world_here","_law_deed","_law_deep","_law_top","_law_held","_law_most"]
theorem hG:FnScope ["_law_state","_law_world_here","_law_deed","_law_deep","_law_top","_law_held","_law_most","_law_rows","_law_k"] dO (ay jb):=by walk_at "s"
abbrev i9:Stmt:=top 26
abbrev dN:List Str:=["_law_state","_law_world_here","_law_deed","_law_deep","_law_top","_law_held"]
theorem cI:FnScope ["_law_state","_law_world_here","_law_deed","_law_deep","_law_top","_law_held","_law_way","_law_one","_law_other","_law_lots","_law_sort_here"] dN (ay i9):=by walk_at "s"
abbrev fF:Stmt:=top 25
abbrev cA:List Str:=["_law_state","_law_world_here","_law_deed","_law_deep","_law_top","_law_held","_law_way"]
theorem aQ:FnScope ["_law_state","_law_world_here","_law_deed","_law_deep","_law_top","_law_held","_law_way","_law_at","_law_lock_here","_law_some","_law_high","_law_turn","_law_low","_law_other","_law_lot_here"] cA (ay fF):=by walk_at "s"
abbrev eF:Stmt:=top 24
abbrev bS:List Str:=["_law_state","_law_world_here","_law_deed","_law_deep","_law_top","_law_held"]
theorem aX:FnScope ["_law_state","_law_world_here","_law_deed","_law_deep","_law_top","_law_held","_law_low","_law_name","_law_one","_law_other","_law_lots","_law_first","_law_second","_law_inner"] bS (ay eF):=by walk_at "s"
mutual
noncomputable def bq:Nat->Fn
 | 0=>fun _ _=>none
 | n+1=>mkL 9
  (ax (aT 7 (eOb aj))
  (ax (gX (lU (ab (eFn aO (ab (ae 0) (ab (eOp aG (eFn aN (ab (ae 0) (ab (eOp aG (eOp tD (eLv (ab (ae 6) aj)) (eK (.int 15))) (eLv (ab (eK (.int 12)) aj))) aj))) (eK (.int 1))) aj))) aj)) (gN 8) (sIf (aH (eOp fGt (eOp fIx (ae 1) (eK (.str "left"))) (eK (.int 0)))) (ax (fO (eOp tx (eOp fIx (ae 1) (eK (.str "left"))) (eK (.int 1))) (lV (ae 1) (eK (.str "left"))))
  (fu (eM cw cW (ae 7) (ab (eFn (dU n) (ab (ae 0) (ab (ae 1) (ab (ae 2) (ab (ae 3) (ab (ae 4) (ab (ae 5) aj))))))) aj)))) cc))
  (bo (eFn eJ (ab (ae 7) aj)))))
noncomputable def dU:Nat->Fn
 | 0=>fun _ _=>none
 | n+1=>mkF 11
  (ax (aT 6 (eFn aO (ab (ae 0) (ab (eK (.int 16)) aj))))
  (ax (sIf (tOr (aH (eOp fLt (ae 6) (eK (.int 2)))) (iQ (aH (eOp cx (ae 3) (eK (.int 5)))) (aH (eOp fLt (ae 6) (eK (.int 11)))))) (bo (eFn aW (ab (eK (.str "say")) (ab (eFn aN (ab (ae 0) (ab (eOp aG (eOp fIx (ae 1) (eK (.str "names"))) (eOp fIx (ae 1) (eK (.str "deeds")))) aj))) aj)))) cc)
  (ax (sIf (tOr (aH (eOp fGt (ae 6) (eK (.int 12)))) (aH (eOp cx (ae 3) (eK (.int 5))))) (bo (eFn eA (ab (ae 0) (ab (ae 1) (ab (ae 2) (ab (ae 4) aj)))))) cc)
  (ax (sIf (iQ (aH (eOp cx (ae 6) (eK (.int 12)))) (iQ (aH (eOp fLt (ae 3) (eK (.int 3)))) (aH (eOp fGt (eOp fIx (ae 1) (eK (.str "left"))) (eK (.int 5)))))) (bo (eFn (bT n) (ab (ae 0) (ab (ae 1) (ab (ae 2) (ab (ae 3) (ab (ae 4) (ab (ae 5) aj)))))))) cc)
  (ax (sIf (tOr (aH (eOp cx (ae 6) (eK (.int 11)))) (aH (eOp cx (ae 6) (eK (.int 12))))) (ax (pS 7 8 (ab (eFn bD (ab (ae 0) (ab (eOp fIx (eOp fIx (ae 1) (eK (.str "params"))) (ae 2)) aj))) (ab (eFn bD (ab (ae 0) (ab (eOp fIx (eOp fIx (ae 1) (eK (.str "params"))) (ae 2)) aj))) aj)))
  (ax (aT 9 (eLv (bC [none,some 2,some 3,some 5,some 0,some 4,some 1] (lU (ab (eK (.int 3)) aj)) (gN 0) cN (eFn (bq n) (ab (ae 4) (ab (ae 6) (ab (ae 1) (ab (eOp aG (ae 2) (eK (.int 1))) (ab (ae 5) (ab (ae 3) (ab (eK (.int 2)) aj)))))))))))
  (bo (eOp aG (eFn aW (ab (eK (.str "by")) (ab (ae 7) (ab (ae 8) aj)))) (eFn eJ (ab (ae 9) aj)))))) cc)
  (ax (sIf (aH (eOp cx (ae 6) (eK (.int 10)))) (ax (aT 9 (eLv (bC [none,some 2,some 3,some 5,some 0,some 4,some 1] (lU (ab (eK (.int 2)) aj)) (gN 0) cN (eFn (bq n) (ab (ae 4) (ab (ae 6) (ab (ae 1) (ab (eOp aG (ae 2) (eK (.int 1))) (ab (ae 5) (ab (ae 3) (ab (eK (.int 2)) aj)))))))))))
  (bo (eOp aG (eFn aW (ab (eK (.str "either")) aj)) (eFn eJ (ab (ae 9) aj))))) cc)
  (ax (sIf (aH (eOp cx (ae 6) (eK (.int 9)))) (bo (eFn aW (ab (eK (.str "again")) (ab (eFn (bq n) (ab (ae 0) (ab (ae 1) (ab (ae 2) (ab (eOp aG (ae 3) (eK (.int 1))) (ab (ae 4) (ab (ae 5) (ab (eK (.int 2)) aj)))))))) aj)))) cc)
  (ax (aT 10 (eFn aN (ab (ae 0) (ab (eK (.lv [.str "within",.str "within",.str "within",.str "within",.str "ask",.str "all"])) aj))))
  (bo (eFn (cB n) (ab (ae 0) (ab (ae 1) (ab (ae 2) (ab (ae 3) (ab (ae 4) (ab (ae 5) (ab (ae 10) aj)))))))))))))))))
noncomputable def cB:Nat->Fn
 | 0=>fun _ _=>none
 | n+1=>mkL 15
  (ax (fO (eFn c8 (ab (ae 0) (ab (ae 1) (ab (ae 2) (ab (ae 4) (ab (ae 5) aj)))))) (gT 2 (aD (gN 7) (aD (gN 8) cg))))
  (ax (sIf (aH (eOp DB (ae 7) (eK .non))) (bo (eFn aW (ab (eK (.str "say")) (ab (eOp fIx (eOp fIx (ae 1) (eK (.str "deeds"))) (ae 2)) aj)))) cc)
  (ax (sIf (aH (eOp cx (ae 6) (eK (.str "all")))) (ax (pS 9 10 (ab (eOb (ab (ae 8) aj)) (ab (ae 7) aj)))
  (ax (gX (lU (ab (eFn aN (ab (ae 0) (ab (eK (.lv [.int 1,.int 1,.int 2,.int 3])) aj))) aj)) (gN 11) (ax (fO (eFn c8 (ab (ae 0) (ab (ae 1) (ab (ae 2) (ab (ae 4) (ab (ae 5) aj)))))) (gT 2 (aD (gN 12) (aD (gN 13) cg))))
  (ax (aT 10 (eFn nv (ab (ae 10) (ab (ae 12) aj))))
  (aT 9 (eOb (vH (ae 9) (eOp tD (eLv (ab (ae 13) aj)) (eFn k5 (ab (eOp fJ (ae 13) (ae 9)) aj)))))))))
  (ax (sIf (aH (eOp cx (eFn c5 (ab (ae 9) aj)) (eK (.int 1)))) (fu (eM cw cW (ae 9) (ab (eFn aW (ab (eOp fIx (ae 8) (eK (.int 0))) (ab (eFn aW (ab (eOp fIx (eOp fIx (ae 8) (eK (.int 1))) (eK (.int 0))) (ab (eOp tx (eOp aG (eOp fIx (eOp fIx (ae 8) (eK (.int 1))) (eK (.int 1))) (eK (.int 1))) (eOp fX (eK (.int 2)) (eFn k5 (ab (eOp fGt (eOp fIx (eOp fIx (ae 8) (eK (.int 1))) (eK (.int 1))) (eK (.int 90))) aj)))) aj))) aj))) aj))) cc)
  (ax (aT 10 (eOp aG (ae 10) (eFn k5 (ab (eOp cx (eOp fIx (ae 1) (eK (.str "odd"))) (eK (.int 0))) aj))))
  (bo (eFn aW (ab (eK (.str "all")) (ab (eFn eJ (ab (ae 9) aj)) (ab (eFn (bq n) (ab (ae 0) (ab (ae 1) (ab (ae 2) (ab (eOp aG (ae 3) (eK (.int 1))) (ab (eFn nv (ab (ae 4) (ab (ae 10) aj))) (ab (eOp aG (ae 5) (ae 9)) (ab (eK (.int 3)) aj)))))))) aj))))))))) cc)
  (ax (aT 14 (eFn (bq n) (ab (ae 0) (ab (ae 1) (ab (ae 2) (ab (eOp aG (ae 3) (eK (.int 1))) (ab (eFn nv (ab (ae 4) (ab (ae 7) aj))) (ab (eOp aG (ae 5) (eLv (ab (ae 8) aj))) (ab (eK (.int 3)) aj)))))))))
  (ax (sIf (aH (eOp cx (ae 6) (eK (.str "ask")))) (bo (eFn aW (ab (eK (.str "ask")) (ab (ae 8) (ab (ae 14) (ab (eFn (bq n) (ab (ae 0) (ab (ae 1) (ab (ae 2) (ab (eOp aG (ae 3) (eK (.int 1))) (ab (ae 4) (ab (ae 5) (ab (eK (.int 2)) aj)))))))) aj)))))) cc)
  (bo (eFn aW (ab (eK (.str "within")) (ab (ae 8) (ab (ae 14) aj))))))))))
noncomputable def bT:Nat->Fn
 | 0=>fun _ _=>none
 | n+1=>mkL 14
  (ax (aT 6 (eFn nv (ab (ae 4) (ab (eOp fIx (eOp fIx (ae 1) (eK (.str "floors"))) (ae 2)) aj))))
  (ax (sIf (aH (eOp cx (ae 6) (eFn c5 (ab (eOp fIx (ae 1) (eK (.str "names"))) aj)))) (bo (eFn aW (ab (eK (.str "say")) (ab (eOp fIx (eOp fIx (ae 1) (eK (.str "deeds"))) (ae 2)) aj)))) cc)
  (ax (sIf (aH (eOp iS (eLv (bC [none,some 6,some 1] (cU (ae 5)) (gN 0) (aH (eOp cx (eOp fIx (ae 0) (eK (.int 0))) (eOp fIx (eOp fIx (ae 2) (eK (.str "names"))) (ae 1)))) (ae 0))) (eLv aj))) (bo (eFn aW (ab (eK (.str "say")) (ab (eOp fIx (eOp fIx (ae 1) (eK (.str "deeds"))) (ae 2)) aj)))) cc)
  (ax (aT 7 (eOp fIx (eOp fIx (ae 1) (eK (.str "names"))) (ae 6)))
  (ax (fO (eOp tx (eOp fIx (ae 1) (eK (.str "left"))) (eK (.int 5))) (lV (ae 1) (eK (.str "left"))))
  (ax (pS 8 9 (ab (eFn bD (ab (ae 0) (ab (eOp fIx (eOp fIx (ae 1) (eK (.str "params"))) (ae 2)) aj))) (ab (eFn bD (ab (ae 0) (ab (eOp fIx (eOp fIx (ae 1) (eK (.str "params"))) (ae 2)) aj))) aj)))
  (ax (aT 10 (eOb aj))
  (ax (gX (cU (eLv (ab (eFn aW (ab (ae 8) (ab (ae 9) aj))) (ab (eFn aW (ab (ae 9) (ab (ae 8) aj))) aj)))) (gT 2 (aD (gN 11) (aD (gN 12) cg))) (ax (aT 13 (eFn (bq n) (ab (ae 0) (ab (ae 1) (ab (ae 2) (ab (eOp aG (ae 3) (eK (.int 3))) (ab (ae 6) (ab (eOp aG (ae 5) (eLv (ab (eFn aW (ab (ae 7) (ab (ae 11) aj))) (ab (eFn aW (ab (ae 7) (ab (ae 12) aj))) aj)))) (ab (eK (.int 2)) aj)))))))))
  (fu (eM cw cW (ae 10) (ab (eFn aW (ab (eFn aW (ab (eK (.str "within")) (ab (eFn aW (ab (ae 7) (ab (ae 11) aj))) (ab (eFn aW (ab (eFn aW (ab (eK (.str "within")) (ab (eFn aW (ab (ae 7) (ab (ae 12) aj))) (ab (ae 13) aj)))) aj)) aj)))) aj)) aj)))))
  (bo (eFn aW (ab (eK (.str "by")) (ab (ae 8) (ab (ae 9) (ab (eOp fIx (ae 10) (eK (.int 0))) (ab (eFn aW (ab (eFn aW (ab (eK (.str "within")) (ab (eFn aW (ab (ae 7) (ab (ae 8) aj))) (ab (eFn aW aj) aj)))) aj)) (ab (eOp fIx (ae 10) (eK (.int 1))) aj))))))))))))))))
end
abbrev eX:Stmt:=top 28
abbrev fc:List Str:=["_law_state","_law_most","_law_odd"]
theorem bR:FnScope ["_law_state","_law_most","_law_odd","_law_world_here","_law_deeds","_law_k","_law_deed","_law_rows"] fc (ay eX):=by walk_at "s"
noncomputable def dz:Fn:=mkL 8
  (ax (aT 3 (eFn eS (ab (ae 0) (ab (ae 1) (ab (ae 2) aj)))))
  (ax (aT 4 (eOb aj))
  (ax (gX (ni (ab (eOp fIx (ae 3) (eK (.str "deeds"))) aj)) (gT 2 (aD (gN 5) (aD (gN 6) cg))) (ax (aT 7 (eFn (bq 20) (ab (ae 0) (ab (ae 3) (ab (ae 5) (ab (eK (.int 1)) (ab (eUn jL (eK (.int 1))) (ab (eLv aj) (ab (eFn aN (ab (ae 0) (ab (eK (.lv [.int 1,.int 2,.int 3,.int 4,.int 12])) aj))) aj)))))))))
  (fu (eM cw cW (ae 4) (ab (eFn aW (ab (ae 6) (ab (eFn eJ (ab (eOp fIx (eOp fIx (ae 3) (eK (.str "params"))) (ae 5)) aj)) (ab (ae 7) aj)))) aj)))))
  (bo (eFn aW (ab (eFn eJ (ab (eFn xw (ab (eOp fIx (ae 3) (eK (.str "names"))) aj)) aj)) (ab (eFn eJ (ab (ae 4) aj)) aj)))))))
abbrev jd:Stmt:=top 29
abbrev jv:List Str:=["_law_state"]
theorem rj:FnScope ["_law_state"] jv (ay jd):=by walk_at "s"
noncomputable def gO:Fn:=mkF 1
  (bo (eFn dz (ab (ae 0) (ab (eFn aN (ab (ae 0) (ab (eK (.lv [.int 4,.int 8,.int 12,.int 20,.int 40,.int 60])) aj))) (ab (eFn aN (ab (ae 0) (ab (eK (.lv [.int 0,.int 2,.int 5,.int 9])) aj))) aj)))))
abbrev dH:Stmt:=top 30
abbrev dM:List Str:=["_law_term_here"]
theorem dh:FnScope ["_law_term_here","_law_word","_law_more"] dM (ay dH):=by walk_at "s"
noncomputable def aZ:Fn:=mkF 3
  (ax (fO (ae 0) (gT 2 (aD (gN 1) (aD (gN 2) cg))))
  (ax (sIf (tOr (aH (eOp cx (ae 1) (eK (.str "")))) (aH (eOp cx (ae 2) (eK (.int 0))))) (bo (BP (ae 1) (eFn rY (ab (ae 2) aj)))) cc)
  (bo (eOp aG (eOp aG (ae 1) (eOp fX (eK (.str "+")) (eFn k5 (ab (eOp fGt (ae 2) (eK (.int 0))) aj)))) (eFn rY (ab (ae 2) aj))))))
abbrev dJ:Stmt:=top 31
abbrev dP:List Str:=["_law_lock_here"]
theorem jS:FnScope ["_law_lock_here"] dP (ay dJ):=by walk_at "s"
noncomputable def bx:Fn:=mkF 1
  (bo (eOp aG (eOp aG (eOp fIx (ae 0) (eK (.int 0))) (eK (.str ":"))) (eFn aZ (ab (eOp fIx (ae 0) (eK (.int 1))) aj))))
abbrev ie:Stmt:=top 32
abbrev ix:List Str:=["_law_row_here"]
theorem pQ:FnScope ["_law_row_here"] ix (ay ie):=by walk_at "s"
noncomputable def fE:Fn:=mkF 1
  (ax (sIf (aH (eOp cx (eOp fIx (ae 0) (eK (.int 0))) (eK (.str "say")))) (bo (eOp aG (eK (.str "say ")) (eOp fIx (ae 0) (eK (.int 1))))) cc)
  (ax (sIf (aH (eOp cx (eOp fIx (ae 0) (eK (.int 0))) (eK (.str "call")))) (bo (eM isStr lz (eK (.str " ")) (ab (eOp aG (eLv (ab (eK (.str "call")) (ab (eOp fIx (ae 0) (eK (.int 1))) aj))) (eLv (bC [none] (cU (eOp fIx (ae 0) (eK (.int 2)))) (gN 0) cN (eFn aZ (ab (ae 0) aj))))) aj))) cc)
  (ax (sIf (aH (eOp cx (eOp fIx (ae 0) (eK (.int 0))) (eK (.str "all")))) (bo (eM isStr lz (eK (.str " ")) (ab (eOp aG (eLv (ab (eK (.str "all")) aj)) (eLv (bC [none] (cU (eOp fIx (ae 0) (eK (.int 1)))) (gN 0) cN (eFn bx (ab (ae 0) aj))))) aj))) cc)
  (ax (sIf (aH (eOp fIn (eOp fIx (ae 0) (eK (.int 0))) (eFn aW (ab (eK (.str "within")) (ab (eK (.str "ask")) aj))))) (bo (eOp aG (eOp aG (eOp fIx (ae 0) (eK (.int 0))) (eK (.str " "))) (eFn bx (ab (eOp fIx (ae 0) (eK (.int 1))) aj)))) cc)
  (ax (sIf (aH (eOp cx (eOp fIx (ae 0) (eK (.int 0))) (eK (.str "by")))) (bo (eOp aG (eOp aG (eOp aG (eK (.str "by ")) (eFn aZ (ab (eOp fIx (ae 0) (eK (.int 1))) aj))) (eK (.str " "))) (eFn aZ (ab (eOp fIx (ae 0) (eK (.int 2))) aj)))) cc)
  (bo (eOp fIx (ae 0) (eK (.int 0)))))))))
abbrev dI:Stmt:=top 33
abbrev cf:List Str:=["_law_lot_here","_law_first"]
theorem aB:FnScope ["_law_lot_here","_law_first","_law_found","_law_number","_law_row_here","_law_mine","_law_first_lot","_law_lots","_law_place","_law_inner","_law_lines_here"] cf (ay dI):=by walk_at "s"
noncomputable def bw:Nat->Fn
 | 0=>fun _ _=>none
 | n+1=>mkF 11
  (ax (pS 2 3 (ab (eOb aj) (ab (ae 1) aj)))
  (ax (gX (cU (ae 0)) (gN 4) (ax (aT 5 (ae 3))
  (ax (fu (eM cw cW (ae 2) (ab (eFn aW (ab (ae 5) (ab (eFn fE (ab (ae 4) aj)) aj))) aj)))
  (ax (aT 3 (eOp aG (ae 3) (eK (.int 1))))
  (ax (aT 6 (eM xp Bu (zP (dD (eK (.str "say")) (eK (.int 2)) (dD (eK (.str "call")) (eK (.int 3)) (dD (eK (.str "by")) (eK (.int 3)) (dD (eK (.str "either")) (eK (.int 1)) (dD (eK (.str "again")) (eK (.int 1)) y1)))))) (ab (eOp fIx (ae 4) (eK (.int 0))) (ab (eK (.int 2)) aj))))
  (ax (aT 7 (ou (ae 4) (pAt (ae 6)) pNo))
  (ax (gX (ni (ab (ae 7) aj)) (gT 2 (aD (gN 8) (aD (gN 9) cg))) (ax (aT 2 (eOb (vH (ae 2) (eOp tD (eLv (ab (eFn aW (ab (ae 5) (ab (eK (.str "or")) aj))) aj)) (eFn k5 (ab (eOp fGt (ae 8) (eK (.int 0))) aj))))))
  (ax (fO (eFn (bw n) (ab (ae 9) (ab (ae 3) aj))) (gT 2 (aD (gN 10) (aD (gN 3) cg))))
  (aT 2 (eOb (vH (ae 2) (ae 10)))))))
  (aT 2 (eOb (vH (ae 2) (eOp tD (eLv (ab (eFn aW (ab (ae 5) (ab (eK (.str "end")) aj))) aj)) (eFn k5 (ab (eOp fGt (eFn c5 (ab (ae 7) aj)) (eK (.int 0))) aj)))))))))))))
  (bo (eFn aW (ab (ae 2) (ab (ae 3) aj))))))
abbrev gp:Stmt:=top 34
abbrev gA:List Str:=["_law_program_here"]
theorem bA:FnScope ["_law_program_here","_law_found","_law_number","_law_deed","_law_params","_law_rows","_law_lines_here"] gA (ay gp):=by walk_at "s"
noncomputable def eT:Fn:=mkL 7
  (ax (pS 1 2 (ab (eLv (ab (eFn aW (ab (eUn jL (eK (.int 1))) (ab (eM isStr lz (eK (.str " ")) (ab (eOp aG (eFn aW (ab (eK (.str "locks")) aj)) (eOp fIx (ae 0) (eK (.int 0)))) aj)) aj))) aj)) (ab (eK (.int 0)) aj)))
  (ax (gX (cU (eOp fIx (ae 0) (eK (.int 1)))) (gT 3 (aD (gN 3) (aD (gN 4) (aD (gN 5) cg)))) (ax (fO (eFn (bw 8) (ab (ae 5) (ab (ae 2) aj))) (gT 2 (aD (gN 6) (aD (gN 2) cg))))
  (aT 1 (eOp aG (eOp aG (eOp aG (ae 1) (eLv (ab (eFn aW (ab (eUn jL (eK (.int 1))) (ab (eM isStr lz (eK (.str " ")) (ab (eOp aG (eFn aW (ab (eK (.str "deed")) (ab (ae 3) aj))) (ae 4)) aj)) aj))) aj))) (ae 6)) (eLv (ab (eFn aW (ab (eUn jL (eK (.int 1))) (ab (eK (.str "end")) aj))) aj))))))
  (bo (ae 1))))
abbrev eY:Stmt:=top 36
abbrev fe:List Str:=["_law_texts_here"]
theorem aV:FnScope ["_law_texts_here","_law_counts","_law_most","_law_deep","_law_rows","_law_text","_law_word"] fe (ay eY):=by walk_at "s"
noncomputable def ck:Fn:=mkL 7
  (ax (fO (eFn aW (ab (eOb aj) (ab (eK (.int 0)) (ab (eK (.int 0)) (ab (eK (.int 0)) aj))))) (gT 4 (aD (gN 1) (aD (gN 2) (aD (gN 3) (aD (gN 4) cg))))))
  (ax (gX (cU (ou (ae 0) (pAt (eK (.int 1))) pNo)) (gN 5) (ax (aT 6 (eOp fIx (eM isStr kT (ae 5) (ab (eK (.str " ")) aj)) (eK (.int 0))))
  (sIf (aH (eOp cx (ae 5) (eK (.str "or")))) (fO (eK (.int 0)) (lV (ae 1) (eUn jL (eK (.int 1))))) (sIf (aH (eOp cx (ae 5) (eK (.str "end")))) (fu (eM cw zc (ae 1) aj)) (ax (sIf (aH (eOp iS (ae 1) (eLv aj))) (ax (fO (eOp aG (eOp fIx (ae 1) (eUn jL (eK (.int 1)))) (eK (.int 1))) (lV (ae 1) (eUn jL (eK (.int 1)))))
  (pS 4 2 (ab (eOp aG (ae 4) (eK (.int 1))) (ab (eFn nv (ab (ae 2) (ab (eOp fIx (ae 1) (eUn jL (eK (.int 1)))) aj))) aj)))) cc)
  (sIf (aH (eOp fJ (ae 6) (eFn aW (ab (eK (.str "say")) (ab (eK (.str "call")) aj))))) (ax (fu (eM cw cW (ae 1) (ab (eK (.int 0)) aj)))
  (aT 3 (eFn nv (ab (ae 3) (ab (eFn c5 (ab (ae 1) aj)) aj))))) cc))))))
  (bo (eFn aW (ab (ae 2) (ab (ae 3) (ab (ae 4) aj)))))))
abbrev gn:Stmt:=top 35
abbrev gz:List Str:=["_law_lines_here"]
theorem nW:FnScope ["_law_lines_here"] gz (ay gn):=by walk_at "s"
noncomputable def dy:Fn:=mkF 1
  (bo (eLv (bC [none,none] (cU (ae 0)) (gT 2 (aD (gN 0) (aD (gN 1) cg))) cN (ae 1))))
abbrev hW:Stmt:=top 38
abbrev iq:List Str:=["_law_lines_here","_law_number"]
theorem pP:FnScope ["_law_lines_here","_law_number"] iq (ay hW):=by walk_at "s"
noncomputable def fC:Fn:=mkF 2
  (bo (eOp fIx (eM isStr kT (eOp fIx (eLv (bC [none,none,some 1] (cU (ae 0)) (gT 2 (aD (gN 0) (aD (gN 1) cg))) (aH (eOp cx (ae 0) (ae 2))) (ae 1))) (eK (.int 0))) (ab (eK (.str " ")) aj)) (eK (.int 0))))
abbrev ja:Stmt:=top 37
abbrev ju:List Str:=["_law_lines_here","_law_number"]
theorem cJ:FnScope ["_law_lines_here","_law_number","_law_found","_law_kept","_law_mine","_law_text"] ju (ay ja):=by walk_at "s"
noncomputable def gM:Fn:=mkL 6
  (ax (pS 2 3 (ab (eOb aj) (ab (eK (.bl true)) aj)))
  (ax (gX (cU (ae 0)) (gT 2 (aD (gN 4) (aD (gN 5) cg))) (sIf (iQ (aH (eOp cx (ae 4) (ae 1))) (aH (eOp cx (ae 5) (eK (.str "or"))))) (aT 3 (eK (.bl false))) (sIf (aH (eOp cx (ae 4) (ae 1))) (aT 3 (eK (.bl true))) (sIf (qU (ae 3)) (fu (eM cw cW (ae 2) (ab (eFn aW (ab (ae 4) (ab (ae 5) aj))) aj))) cc))))
  (bo (ae 2))))
abbrev kH:Stmt:=top 5
abbrev kQ:List Str:=["row"]
theorem sI:FnScope ["row"] kQ (ay kH):=by walk_at "s"
noncomputable def eU:Fn:=mkF 1
  (bo (ou (ae 0) (pAt (eOp fIx (eUn (BL iG) (eOp fIx (ae 0) (eK (.int 0)))) (eK (.int 0)))) pNo))
abbrev i7:Stmt:=top 7
abbrev fb:List Str:=["lot","ahead"]
theorem cH:FnScope ["lot","ahead","found","number","row","path","at","inner"] fb (ay i7):=by walk_at "s"
noncomputable def bP:Nat->Fn
 | 0=>fun _ _=>none
 | n+1=>mkL 8
  (ax (aT 2 (eOb aj))
  (ax (gX (ni (ab (ae 0) aj)) (gT 2 (aD (gN 3) (aD (gN 4) cg))) (ax (aT 5 (eOp aG (ae 1) (eFn aW (ab (ae 3) aj))))
  (ax (fu (eM cw cW (ae 2) (ab (eFn aW (ab (ae 5) (ab (ae 4) aj))) aj)))
  (gX (ni (ab (eFn eU (ab (ae 4) aj)) aj)) (gT 2 (aD (gN 6) (aD (gN 7) cg))) (fu (eM cw iM (ae 2) (ab (eFn (bP n) (ab (ae 7) (ab (eOp aG (ae 5) (eFn aW (ab (ae 6) aj))) aj))) aj)))))))
  (bo (ae 2))))
abbrev hU:Stmt:=top 8
abbrev il:List Str:=["program"]
theorem cP:FnScope ["program","found","deed","name","params","rows"] il (ay hU):=by walk_at "s"
noncomputable def eu:Fn:=mkL 6
  (ax (aT 1 (eOb aj))
  (ax (gX (ni (ab (eOp fIx (ae 0) (eK (.int 1))) aj)) (gT 2 (aD (gN 2) (aD (gT 3 (aD (gN 3) (aD (gN 4) (aD (gN 5) cg)))) cg))) (fu (eM cw iM (ae 1) (ab (eLv (bC [none,none,some 2] (cU (eFn (bP 8) (ab (ae 5) (ab (eFn aW aj) aj)))) (gT 2 (aD (gN 0) (aD (gN 1) cg))) cN (eFn aW (ab (ae 2) (ab (ae 0) (ab (ae 1) aj)))))) aj))))
  (bo (ae 1))))
abbrev i6:Stmt:=top 10
abbrev jr:List Str:=["program","number"]
theorem lr:FnScope ["program","number","places"] jr (ay i6):=by walk_at "s"
noncomputable def gK:Fn:=mkF 3
  (ax (aT 2 (eFn eu (ab (ae 0) aj)))
  (ax (sIf (qV (aH (nA fLe fLt (eK (.int 0)) (ae 1) (eFn c5 (ab (ae 2) aj))))) sL cc)
  (bo (eOp fIx (ae 2) (ae 1)))))
abbrev i8:Stmt:=top 6
abbrev jt:List Str:=["row"]
theorem rh:FnScope ["row"] jt (ay i8):=by walk_at "s"
noncomputable def gL:Fn:=mkF 1
  (ax (sIf (aH (eOp cx (eOp fIx (ae 0) (eK (.int 0))) (eK (.str "all")))) (bo (eOp fIx (ae 0) (eK (.int 1)))) cc)
  (bo (eIf (aH (eOp fIn (eOp fIx (ae 0) (eK (.int 0))) (eFn aW (ab (eK (.str "within")) (ab (eK (.str "ask")) aj))))) (eFn aW (ab (eOp fIx (ae 0) (eK (.int 1))) aj)) (eFn aW aj))))
abbrev eD:Stmt:=top 11
abbrev eG:List Str:=["program","number"]
theorem cQ:FnScope ["program","number","deed","path","row"] eG (ay eD):=by walk_at "s"
noncomputable def cX:Fn:=mkF 5
  (ax (fO (eFn gK (ab (ae 0) (ab (ae 1) aj))) (gT 3 (aD (gN 2) (aD (gN 3) (aD (gN 4) cg)))))
  (ax (sIf (qV (qU (eFn gL (ab (ae 4) aj)))) sL cc)
  (bo (eFn aW (ab (ae 2) (ab (ae 3) (ab (ae 4) aj)))))))
abbrev gj:Stmt:=top 12
abbrev gw:List Str:=["program","number","other"]
theorem cz:FnScope ["program","number","other","deed","path","row","first","gone"] gw (ay gj):=by walk_at "s"
noncomputable def eR:Fn:=mkF 8
  (ax (fO (eFn cX (ab (ae 0) (ab (ae 1) aj))) (gT 3 (aD (gN 3) (aD (gN 4) (aD (gN 5) cg)))))
  (ax (sIf (aH (eOp fLt (ae 2) (ae 1))) (bo (ae 2)) cc)
  (ax (fO (eFn eU (ab (ae 5) aj)) (gTS (aD (gN 6) (aD (gN 7) cg))))
  (ax (sIf (aH (eOp fLt (ae 2) (eOp aG (ae 1) (eFn c5 (ab (eFn (bP 8) (ab (ae 6) (ab (eFn aW aj) aj))) aj))))) (bo (eOp aG (ae 2) (eK (.int 1)))) cc)
  (bo (eOp aG (eOp aG (ae 2) (eK (.int 1))) (eFn DA (ab (eLv (bC [none] (cU (ae 7)) (gN 0) cN (eFn c5 (ab (eFn (bP 8) (ab (ae 0) (ab (eFn aW aj) aj))) aj)))) aj))))))))
abbrev lu:Stmt:=top 39
abbrev zN:List Str:=["_law_script"]
theorem gi:FnScope ["_law_script","_law_state","_law_turn","_law_program_here","_law_lines_here","_law_number","_law_less","_law_heads","_law_found"] zN (ay lu):=by walk_at "s"
noncomputable def uI:Fn:=mkF 9
  (ax (aT 1 (eFn dA (ab (ae 0) aj)))
  (ax (gX (lU (ab (eK (.int 2)) aj)) (gN 2) (ax (aT 3 (eFn gO (ab (ae 1) aj)))
  (ax (aT 4 (eFn eT (ab (ae 3) aj)))
  (gX (lU (ab (eOp fIx (eFn ck (ab (eFn dy (ab (ae 4) aj)) aj)) (eK (.int 2))) aj)) (gN 5) (sIf (aH (eOp fIn (eFn fC (ab (ae 4) (ab (ae 5) aj))) (eK (.tup [.str "within",.str "all",.str "ask"])))) (ax (aT 6 (eFn gM (ab (ae 4) (ab (ae 5) aj))))
  (ax (aT 7 (eLv (bC [none,none] (cU (ae 6)) (gT 2 (aD (gN 0) (aD (gN 1) cg))) (iQ (aH (eOp fGe (ae 0) (eK (.int 0)))) (aH (eOp fJ (ae 1) (eFn aW (ab (eK (.str "or")) (ab (eK (.str "end")) aj)))))) (ae 0))))
  (sIf (aH (eOp fLt (eOp fIx (eFn ck (ab (eFn dy (ab (ae 6) aj)) aj)) (eK (.int 0))) (eK (.int 13)))) (ax (aT 8 (eLv (bC [none,some 5,some 3] (lU (ab (eFn c5 (ab (ae 7) aj)) aj)) (gN 0) cN (eFn eR (ab (ae 2) (ab (ae 1) (ab (ae 0) aj)))))))
  (sIf (tOr (aH (eOp iS (ae 8) (ae 7))) (qV (qU (eFn BN (ab (eLv (bC [none] (cU (ae 8)) (gN 0) cN (eFn zq (ab (ae 0) (ab (eK (.ty "int")) aj))))) aj))))) (bo (eK (.bl false))) cc)) cc))) cc)))))
  (bo (eK (.bl true)))))
section
variable (P:Program) (w:World) (K:FR) (mg:Str->Option Value) (base:Heap)
abbrev kA:Prop:=Df P w K mg base "_law_drawn" 1 gB 1 dA
abbrev lL:Prop:=Df P w K mg base "_law_load" 1 iw 1 fD
abbrev cm:Prop:=Df P w K mg base "_law_next" 2 ir 2 aO
abbrev c7:Prop:=Df P w K mg base "_law_of" 3 kR 2 aN
abbrev kr:Prop:=Df P w K mg base "_law_words" 4 gy 2 cR
abbrev kq:Prop:=Df P w K mg base "_law_world" 5 gx 3 eS
abbrev fL:Prop:=Df P w K mg base "_law_is_odd" 3 fI 2 cC
abbrev fB:Prop:=Df P w K mg base "_law_term" 4 ip 2 bD
abbrev lN:Prop:=Df P w K mg base "_law_call" 5 iy 4 eA
abbrev lK:Prop:=Df P w K mg base "_law_lock" 5 iu 5 c8
abbrev nS:Prop:=Df P w K mg base "_law_lot" 26 dO 7 (bq 20)
abbrev tT:Prop:=Df P w K mg base "_law_row" 26 dN 6 (dU 20)
abbrev oz:Prop:=Df P w K mg base "_law_locked" 26 cA 7 (cB 20)
abbrev lW:Prop:=Df P w K mg base "_law_two_ways" 26 bS 6 (bT 20)
abbrev iD:Prop:=Df P w K mg base "_law_program" 27 fc 3 dz
abbrev nT:Prop:=Df P w K mg base "_law_any" 28 jv 1 gO
abbrev dS:Prop:=Df P w K mg base "_law_term_text" 1 dM 1 aZ
abbrev gb:Prop:=Df P w K mg base "_law_lock_text" 2 dP 1 bx
abbrev lM:Prop:=Df P w K mg base "_law_head" 3 ix 1 fE
abbrev f9:Prop:=Df P w K mg base "_law_lot_lines" 12 cf 2 (bw 8)
abbrev kz:Prop:=Df P w K mg base "_law_lines" 13 gA 1 eT
abbrev iE:Prop:=Df P w K mg base "_law_measure" 1 fe 1 ck
abbrev ku:Prop:=Df P w K mg base "_law_texts" 1 gz 1 dy
abbrev lJ:Prop:=Df P w K mg base "_law_sort" 1 iq 2 fC
abbrev nR:Prop:=Df P w K mg base "_law_out" 1 ju 2 gM
abbrev lh:Prop:=Df P w K mg base "lots_of" 1 kQ 1 eU
abbrev jI:Prop:=Df P w K mg base "paths_in" 10 fb 2 (bP 8)
abbrev lI:Prop:=Df P w K mg base "places_of" 11 il 1 eu
abbrev nP:Prop:=Df P w K mg base "place_of" 12 jr 2 gK
abbrev nQ:Prop:=Df P w K mg base "locks_of" 1 jt 1 gL
abbrev gU:Prop:=Df P w K mg base "locking_place" 13 eG 2 cX
abbrev ko:Prop:=Df P w K mg base "old_number" 14 gw 3 eR
end
section
variable {P:Program} {w:World} {K:FR} {mg:Str->Option Value} {base:Heap}
theorem oq (F:Fun K "_law_drawn" "_law_drawn" gq f fd) (B:Bs P w K mg):FnOk P w K mg base CX0 1 f fd gB (spF K 1 dA):=
 (a8 F nX fun cdv A outer s H E hr=>by (conv=>arg 2;whnf);with_reducible exact (ar (aE (SFL.ob (bc (aa ah (aa (SFL.ob (yn (by unfold Gl;kernel_rfl) B.b5 uC (aa (i5 (sv 0) gh (gg ah)) af) (ag ak))) (aa ah af))) (ag (ag (ag ak))))))))
theorem qi (F:Fun K "_law_load" "_law_load" ic f fd) (B:Bs P w K mg):FnOk P w K mg base CX0 1 f fd iw (spF K 1 fD):=
 (a8 F cp fun cdv A outer s H E hr=>by (conv=>arg 2;whnf);with_reducible exact (ai (sset 1 cp.nd (six hr (sv 0) ah))
   (ai (sset 2 cp.nd (six hr (sv 0) ah))
   (ai (cD (aA aw (sv 2) ah) (gZ hr.units (sv 0) ah))
   (ai (sset 3 cp.nd ah)
   (ai (ba (aF (mV hr.units) (sv 1) (SFL.lv (bc af ak)) (aC _)) (ar (sset 3 cp.nd (six hr (sv 1) (aA jw (sv 2) (scb cu B.b1 cv (aa (sv 1) af)))))) aP)
   (ar (ba (SW.st (gd (aF jZ (sv 2) (scb cu B.b1 cv (aa (sv 1) af)) (aC _)) (fq (aF w9 (scb xO B.b9 x3 (aa (sv 3) af)) (aA wZ ah ah) (aC _))))) (ar (cD (scb xO B.b9 x3 (aa (sv 3) af)) (gZ hr.units (sv 0) ah))) (ai (sset 4 cp.nd (aA jw (aA fv (aA aw (aA aw (aA jw (sv 3) ah) (aA fv (aA fv ah (sv 2)) (sv 2))) ah) ah) ah))
   (ai (sset 4 cp.nd (aA jw (aA fv (sv 4) (sv 4)) ah))
   (ar (cD (aA aw (aA jw (aA aw (aA aw (aA fv (sv 4) ah) (sv 2)) ah) ah) (aA wZ ah ah)) (gZ hr.units (sv 0) ah)))))))))))))
theorem qg (F:Fun K "_law_next" "_law_next" ia f fd) (B:Bs P w K mg) (d8:lL P w K mg base):FnOk P w K mg base CX0 2 f fd ir (spF K 2 aO):=
 (a8 F jR fun cdv A outer s H E hr=>by (conv=>arg 2;whnf);with_reducible exact (ai (ba (aF jZ (six hr (sv 0) ah) (sv 1) (aC _)) (ar (cV (scl d8 hr (aa (sv 0) af)))) aP)
   (ai (sset 2 jR.nd (aA jw (six hr (sv 0) ah) (sv 1)))
   (ai (cD (aA Bd (six hr (sv 0) ah) (sv 1)) (gZ hr.units (sv 0) ah))
   (ar (aE (sv 2)))))))
theorem sT (F:Fun K "_law_of" "_law_of" kI f fd) (B:Bs P w K mg) (d9:cm P w K mg base):FnOk P w K mg base CX0 3 f fd kR (spF K 2 aN):=
 (a8 F sJ fun cdv A outer s H E hr=>by (conv=>arg 2;whnf);with_reducible exact (ar (aE (six hr (sv 1) (scl d9 hr (aa (sv 0) (aa (scb cu B.b1 cv (aa (sv 1) af)) af)))))))
theorem oj (F:Fun K "_law_words" "_law_words" gm f fd) (B:Bs P w K mg) (d10:c7 P w K mg base) (d9:cm P w K mg base):FnOk P w K mg base CX0 4 f fd gy (spF K 2 cR):=
 (a8 F bM fun cdv A outer s H E hr=>by (conv=>arg 2;whnf);with_reducible exact (ai (sset 2 bM.nd aq)
   (ai (sset 3 bM.nd aq)
   (ai (cY PassesOwn.never rfl (cy (by unfold Gl;kernel_rfl) B.b0 (aa (scl d10 hr (aa (sv 0) (aa (cO 9 (by kernel_rfl)) af))) af) (hl:=(ag ak))) (sgn 4 bM.nd) (ar (sset 3 bM.nd (aA aw (sv 3) (six hr (sv 2) (scl d9 hr (aa (sv 0) (aa ah af))))))))
   (ai (sset 5 bM.nd (scl d9 hr (aa (sv 0) (aa (aA aw (scb cu B.b1 cv (aa (sv 3) af)) ah) af))))
   (ai (sset 6 bM.nd (scl d9 hr (aa (sv 0) (aa ah af))))
   (ai (sset 7 bM.nd (scl d10 hr (aa (sv 0) (aa (cO 9 (by kernel_rfl)) af))))
   (ar (aE (dg (N':=["_law_k","_law_at","_law_first","_law_letters","_law_stem","_law_stride"]) (caps:=[none,some 5,some 6,some 2,some 3,some 7]) (aY (by kernel_rfl)) rfl (cy (by unfold Gl;kernel_rfl) B.b0 (aa (sv 1) af) (hl:=(ag ak))) (fun _ _ _ _ _=>(sgn 0 (by show (["_law_k","_law_at","_law_first","_law_letters","_law_stem","_law_stride"]:List Str).Nodup;decide+kernel))) (fun _ _ _ _ _=>cF) (fun _ _ _ _ _=>(aA aw (aA aw (i5 (sv 4) gh (gg (sv 1))) (six hr (sv 3) (aA jw (aA aw (sv 2) (aA fv (sv 5) (sv 0))) ah))) (i5 (sv 4) (gg (sv 1)) gh)))))))))))))
theorem oh (F:Fun K "_law_world" "_law_world" gk f fd) (B:Bs P w K mg) (d11:kr P w K mg base) (d10:c7 P w K mg base) (d9:cm P w K mg base):FnOk P w K mg base CX0 5 f fd gx (spF K 3 eS):=
 (a8 F bX fun cdv A outer s H E hr=>by (conv=>arg 2;whnf);with_reducible exact (ai (sset 3 bX.nd (scl d11 hr (aa (sv 0) (aa (scl d10 hr (aa (sv 0) (aa (cO 9 (by kernel_rfl)) af))) af))))
   (ai (sset 4 bX.nd (scl d11 hr (aa (sv 0) (aa (scl d10 hr (aa (sv 0) (aa (cO 9 (by kernel_rfl)) af))) af))))
   (ai (sset 5 bX.nd (scl d11 hr (aa (sv 0) (aa ah af))))
   (ai (ft (i:=6) bX.nd (by kernel_rfl) (by kernel_rfl) (N':=["_law_deed","_law_state"]) (caps:=[none,some 0]) (aY (by kernel_rfl)) rfl (cn (sv 4)) (fun _ _ _ _ _=>(sgn 0 (by show (["_law_deed","_law_state"]:List Str).Nodup;decide+kernel))) (fun _ _ _ _ _=>cF) (fun _ _ _ _ _=>(scl d10 hr (aa (sv 1) (aa (cO 9 (by kernel_rfl)) af)))))
   (ai (sset 7 bX.nd (scb xN B.b8 pv (aa (dg (N':=["_law_deed","_law_names","_law_state"]) (caps:=[none,some 3,some 0]) (aY (by kernel_rfl)) rfl (cn (sv 4)) (fun _ _ _ _ _=>(sgn 0 (by show (["_law_deed","_law_names","_law_state"]:List Str).Nodup;decide+kernel))) (fun _ _ _ _ _=>cF) (fun _ _ _ _ _=>(scl d9 hr (aa (sv 2) (aa (scb cu B.b1 cv (aa (sv 1) af)) af))))) af)))
   (ai (sset 5 bX.nd (dg (N':=["_law_k","_law_params"]) (caps:=[none,some 5]) (aY (by kernel_rfl)) rfl (cn (sv 6)) (fun _ _ _ _ _=>(sgn 0 (by show (["_law_k","_law_params"]:List Str).Nodup;decide+kernel))) (fun _ _ _ _ _=>cF) (fun _ _ _ _ _=>(i5 (sv 1) gh (gg (sv 0))))))
   (ar (aE (wg (df aq (sv 3) (df aq (sv 4) (df aq (sv 5) (df aq (sv 7) (df aq (sv 1) (df aq (sv 2) vX)))))) (by kernel_rfl) (by kernel_rfl) (by simp) fun trs h=>uc h (by kernel_rfl) (by kernel_rfl) (by simp) (by decide)))))))))))
theorem mW (F:Fun K "_law_is_odd" "_law_is_odd" fG f fd) (B:Bs P w K mg) (d9:cm P w K mg base):FnOk P w K mg base CX0 3 f fd fI (spF K 2 cC):=
 (a8 F mH fun cdv A outer s H E hr=>by (conv=>arg 2;whnf);with_reducible exact (ar (aE (Ag (g9 iA (six hr (sv 1) aq) ah (aC _)) (we (g9 (bg hr.units) (scl d9 hr (aa (sv 0) (aa (six hr (sv 1) aq) af))) ah (aC _)))))))
theorem qe (F:Fun K "_law_term" "_law_term" hV f fd) (B:Bs P w K mg) (d9:cm P w K mg base) (d10:c7 P w K mg base):FnOk P w K mg base CX0 4 f fd ip (spF K 2 bD):=
 (a8 F jQ fun cdv A outer s H E hr=>by (conv=>arg 2;whnf);with_reducible exact (ai (sset 2 jQ.nd (aA mT (scl d9 hr (aa (sv 0) (aa ah af))) ah))
   (ai (ba (SW.st (gd (aF iA (scb cu B.b1 cv (aa (sv 1) af)) ah (aC _)) (fq (aF iA (scl d9 hr (aa (sv 0) (aa ah af))) ah (aC _))))) (ar (aE (az (aa (scl d10 hr (aa (sv 0) (aa (sv 1) af))) (aa (scl d10 hr (aa (sv 0) (aa (SFL.lv (bc (aa ah (aa ah (aa ah (aa ah (aa ah (aa ah (aa (gQ eC ah) (aa ah (aa (sv 2) af))))))))) (ag (ag (ag (ag (ag (ag (ag (ag (ag ak))))))))))) af))) af)) (ag (ag ak))))) aP)
   (ar (aE (az (aa aq (aa (scl d10 hr (aa (sv 0) (aa (SFL.lv (bc (aa ah (aa ah (aa ah (aa ah (aa ah (aa ah (aa (gQ eC ah) (aa (sv 2) af)))))))) (ag (ag (ag (ag (ag (ag (ag (ag ak)))))))))) af))) af)) (ag (ag ak))))))))
theorem qk (F:Fun K "_law_call" "_law_call" ig f fd) (B:Bs P w K mg) (d13:fL P w K mg base) (d10:c7 P w K mg base) (d14:fB P w K mg base):FnOk P w K mg base CX0 5 f fd iy (spF K 4 eA):=
 (a8 F di fun cdv A outer s H E hr=>by (conv=>arg 2;whnf);with_reducible exact (ai (ft (i:=4) di.nd (by kernel_rfl) (by kernel_rfl) (N':=["_law_k","_law_deed","_law_top","_law_world_here"]) (caps:=[none,some 2,some 3,some 1]) (aY (by kernel_rfl)) rfl (cy (by unfold Gl;kernel_rfl) B.b0 (aa (scb cu B.b1 cv (aa (six hr (sv 1) aq) af)) af) (hl:=(ag ak))) (fun _ _ _ _ _=>(sgn 0 (by show (["_law_k","_law_deed","_law_top","_law_world_here"]:List Str).Nodup;decide+kernel))) (fun _ _ _ _ _=>(jN (SW.st (gd (aF iA (six hr (six hr (sv 3) aq) (sv 0)) (sv 2) (aC _)) (fq (aF w9 (sv 0) (sv 1) (aC _))))))) (fun _ _ _ _ _=>(sv 0)))
   (ai (ba (kG (scl d13 hr (aa (sv 0) (aa (sv 1) af)))) (ar (sset 4 di.nd (SFL.lv (uP rfl (by unfold Gl;kernel_rfl) B.b5 (by unfold Gl;kernel_rfl) B.b0 uC (aa (scb cu B.b1 cv (aa (six hr (sv 1) aq) af)) af))))) aP)
   (ai (ba (aF (bg hr.units) (sv 4) (SFL.lv (bc af ak)) (aC _)) (ar (aE (az (aa aq (aa (six hr (six hr (sv 1) aq) (sv 2)) af)) (ag (ag ak))))) aP)
   (ai (sset 5 di.nd (scl d10 hr (aa (sv 0) (aa (sv 4) af))))
   (ai (ft (i:=6) di.nd (by kernel_rfl) (by kernel_rfl) (N':=["_law_one","_law_deed","_law_state","_law_world_here"]) (caps:=[none,some 2,some 0,some 1]) (aY (by kernel_rfl)) rfl (cn (six hr (six hr (sv 1) aq) (sv 5))) (fun _ _ _ _ _=>(sgn 0 (by show (["_law_one","_law_deed","_law_state","_law_world_here"]:List Str).Nodup;decide+kernel))) (fun _ _ _ _ _=>cF) (fun _ _ _ _ _=>(scl d14 hr (aa (sv 2) (aa (six hr (six hr (sv 3) aq) (sv 1)) af)))))
   (ar (aE (az (aa aq (aa (six hr (six hr (sv 1) aq) (sv 5)) (aa (sct eg B.b7 en (aa (sv 6) af)) af))) (ag (ag (ag ak))))))))))))
theorem qh (F:Fun K "_law_lock" "_law_lock" ib f fd) (B:Bs P w K mg) (d9:cm P w K mg base) (d13:fL P w K mg base) (d14:fB P w K mg base):FnOk P w K mg base CX0 5 f fd iu (spF K 5 c8):=
 (a8 F bU fun cdv A outer s H E hr=>by (conv=>arg 2;whnf);with_reducible exact (ai (sset 5 bU.nd (scb (jF rfl) B.b10 jG (aa (sv 3) (aa (six hr (six hr (sv 1) aq) (sv 2)) af))))
   (ai (ba (aF (bg hr.units) (sv 5) (scb cu B.b1 cv (aa (six hr (sv 1) aq) af)) (aC _)) (ar (aE (az (aa pO (aa pO af)) (ag (ag ak))))) aP)
   (ai (sset 6 bU.nd (aA aw (sv 5) (scl d9 hr (aa (sv 0) (aa (aA mT (scb cu B.b1 cv (aa (six hr (sv 1) aq) af)) (sv 5)) af)))))
   (ai (ba (kG (scl d13 hr (aa (sv 0) (aa (sv 1) af)))) (ar (sset 6 bU.nd (scl d9 hr (aa (sv 0) (aa (scb cu B.b1 cv (aa (six hr (sv 1) aq) af)) af))))) aP)
   (ai (sset 7 bU.nd (six hr (six hr (sv 1) aq) (sv 6)))
   (ai (ft (i:=8) bU.nd (by kernel_rfl) (by kernel_rfl) (N':=["_law_lock_here","_law_name"]) (caps:=[none,some 7]) (aY (by kernel_rfl)) rfl (cn (sv 4)) (fun _ _ _ _ _=>(sgn 0 (by show (["_law_lock_here","_law_name"]:List Str).Nodup;decide+kernel))) (fun _ _ _ _ _=>(jN (aF (bg hr.units) (six hr (sv 0) ah) (sv 1) (aC _)))) (fun _ _ _ _ _=>(six hr (sv 0) ah)))
   (ai (ba (SW.st (gd (aF (mV hr.units) (sv 8) (SFL.lv (bc af ak)) (aC _)) (fq (pI (kG (scl d13 hr (aa (sv 0) (aa (sv 1) af)))))))) (ai (cD (six hr (sv 8) (gQ eC ah)) (bQ rfl (au (sgn 9 bU.nd) (au (sgn 10 bU.nd) bj))))
   (ar (aE (az (aa (sv 6) (aa (az (aa (sv 7) (aa (az (aa (sv 9) (aa (scb (BV rfl) B.b11 B4 (aa ah (aa (aA aw (aA aw (sv 10) ah) (scl d9 hr (aa (sv 0) (aa ah af)))) af))) af)) (ag (ag ak))) af)) (ag (ag ak))) af)) (ag (ag ak)))))) aP)
   (ar (aE (az (aa (sv 6) (aa (az (aa (sv 7) (aa (scl d14 hr (aa (sv 0) (aa (six hr (six hr (sv 1) aq) (sv 2)) af))) af)) (ag (ag ak))) af)) (ag (ag ak)))))))))))))
theorem ue {f1:Addr} {fd1:FuncData} (F1:Fun K "_law_lot" "_law_lot" jb f1 fd1) (kf1:PySem.W.keepIn K (.ref f1)=true) (bf1:Binds K fd1 dO []) (mf1:mg "_law_lot"=some (.ref f1)) {f2:Addr} {fd2:FuncData} (F2:Fun K "_law_row" "_law_row" i9 f2 fd2) (kf2:PySem.W.keepIn K (.ref f2)=true) (bf2:Binds K fd2 dN []) (mf2:mg "_law_row"=some (.ref f2)) {f3:Addr} {fd3:FuncData} (F3:Fun K "_law_locked" "_law_locked" fF f3 fd3) (kf3:PySem.W.keepIn K (.ref f3)=true) (bf3:Binds K fd3 cA []) (mf3:mg "_law_locked"=some (.ref f3)) {f4:Addr} {fd4:FuncData} (F4:Fun K "_law_two_ways" "_law_two_ways" eF f4 fd4) (kf4:PySem.W.keepIn K (.ref f4)=true) (bf4:Binds K fd4 bS []) (mf4:mg "_law_two_ways"=some (.ref f4)) (B:Bs P w K mg) (d9:cm P w K mg base) (d10:c7 P w K mg base) (d16:lN P w K mg base) (d14:fB P w K mg base) (d15:lK P w K mg base):∀n,FnOk P w K mg base CX0 (6+n) f1 fd1 dO (spF K 7 (bq n))∧FnOk P w K mg base CX0 (6+n) f2 fd2 dN (spF K 6 (dU n))∧FnOk P w K mg base CX0 (6+n) f3 fd3 cA (spF K 7 (cB n))∧FnOk P w K mg base CX0 (6+n) f4 fd4 bS (spF K 6 (bT n))
 | 0=>⟨iJ,iJ,iJ,iJ⟩
 | n+1=>by
  obtain ⟨i1,i2,i3,i4⟩:=ue F1 kf1 bf1 mf1 F2 kf2 bf2 mf2 F3 kf3 bf3 mf3 F4 kf4 bf4 mf4 B d9 d10 d16 d14 d15 n;have d20:Df P w K mg base "_law_lot" (6+n) dO 7 (bq n):=⟨f1,fd1,i1,kf1,bf1,mf1⟩;have d19:Df P w K mg base "_law_row" (6+n) dN 6 (dU n):=⟨f2,fd2,i2,kf2,bf2,mf2⟩;have d18:Df P w K mg base "_law_locked" (6+n) cA 7 (cB n):=⟨f3,fd3,i3,kf3,bf3,mf3⟩;have d17:Df P w K mg base "_law_two_ways" (6+n) bS 6 (bT n):=⟨f4,fd4,i4,kf4,bf4,mf4⟩;refine ⟨?_,?_,?_,?_⟩
  ·exact dr (a8 F1 hG fun cdv A outer s H E hr=>by (conv=>arg 2;whnf);with_reducible exact (ai (sset 7 hG.nd (SFL.ob (bc af ak)))
   (ai (cY PassesOwn.never rfl (cy (by unfold Gl;kernel_rfl) B.b0 (aa (scl d9 hr (aa (sv 0) (aa (aA aw (scl d10 hr (aa (sv 0) (aa (aA aw (aA p9 (SFL.lv (bc (aa (sv 6) af) (ag ak))) ah) (SFL.lv (bc (aa ah af) (ag ak)))) af)) (Nat.le_trans (by decide) (Nat.le_add_right _ _))) ah) af)) (Nat.le_trans (by decide) (Nat.le_add_right _ _))) af) (hl:=(ag ak))) (sgn 8 hG.nd) (ar (ba (aF iA (six hr (sv 1) aq) ah (aC _)) (ai (cD (aA mT (six hr (sv 1) aq) ah) (gZ hr.units (sv 1) aq))
   (ar (cV (g0 (isT:=cw) eV PySem.F.plainAttrs_list PySem.F.slot_list_append PySem.F.type_list_append c6 (sv 7) (aa (scl d19 hr (aa (sv 0) (aa (sv 1) (aa (sv 2) (aa (sv 3) (aa (sv 4) (aa (sv 5) af)))))) (Nat.le_refl _)) af))))) aP)))
   (ar (aE (sct eg B.b7 en (aa (sv 7) af)))))))
  ·exact (a8 F2 cI fun cdv A outer s H E hr=>by (conv=>arg 2;whnf);with_reducible exact (ai (sset 6 cI.nd (scl d9 hr (aa (sv 0) (aa ah af)) (Nat.le_trans (by decide) (Nat.le_add_right _ _))))
   (ai (ba (SW.st (qW (aF jZ (sv 6) ah (aC _)) (mz (SW.st (gd (aF (bg hr.units) (sv 3) ah (aC _)) (fq (aF jZ (sv 6) ah (aC _)))))))) (ar (aE (az (aa aq (aa (scl d10 hr (aa (sv 0) (aa (aA aw (six hr (sv 1) aq) (six hr (sv 1) aq)) af)) (Nat.le_trans (by decide) (Nat.le_add_right _ _))) af)) (ag (ag ak))))) aP)
   (ai (ba (SW.st (qW (aF iA (sv 6) ah (aC _)) (mz (aF (bg hr.units) (sv 3) ah (aC _))))) (ar (aE (scl d16 hr (aa (sv 0) (aa (sv 1) (aa (sv 2) (aa (sv 4) af)))) (Nat.le_trans (by decide) (Nat.le_add_right _ _))))) aP)
   (ai (ba (SW.st (gd (aF (bg hr.units) (sv 6) ah (aC _)) (gd (aF jZ (sv 3) ah (aC _)) (fq (aF iA (six hr (sv 1) aq) ah (aC _)))))) (ar (aE (scl d17 hr (aa (sv 0) (aa (sv 1) (aa (sv 2) (aa (sv 3) (aa (sv 4) (aa (sv 5) af)))))) (Nat.le_refl _)))) aP)
   (ai (ba (SW.st (qW (aF (bg hr.units) (sv 6) ah (aC _)) (mz (aF (bg hr.units) (sv 6) ah (aC _))))) (ai (sG 7 8 cI.nd (ag (ag ak)) rfl (by decide) (by with_unfolding_all exact (jl rfl cI.nd rfl rfl (by decide) rfl rfl (aa (scl d14 hr (aa (sv 0) (aa (six hr (six hr (sv 1) aq) (sv 2)) af)) (Nat.le_trans (by decide) (Nat.le_add_right _ _))) (aa (scl d14 hr (aa (sv 0) (aa (six hr (six hr (sv 1) aq) (sv 2)) af)) (Nat.le_trans (by decide) (Nat.le_add_right _ _))) af)) rfl)))
   (ai (ft (i:=9) cI.nd (by kernel_rfl) (by kernel_rfl) (N':=["_law_k","_law_deed","_law_deep","_law_held","_law_state","_law_top","_law_world_here"]) (caps:=[none,some 2,some 3,some 5,some 0,some 4,some 1]) (aY (by kernel_rfl)) rfl (cy (by unfold Gl;kernel_rfl) B.b0 (aa ah af) (hl:=(ag ak))) (fun _ _ _ _ _=>(sgn 0 (by show (["_law_k","_law_deed","_law_deep","_law_held","_law_state","_law_top","_law_world_here"]:List Str).Nodup;decide+kernel))) (fun _ _ _ _ _=>cF) (fun _ _ _ _ _=>(scl d20 hr (aa (sv 4) (aa (sv 6) (aa (sv 1) (aa (aA aw (sv 2) ah) (aa (sv 5) (aa (sv 3) (aa ah af))))))) (Nat.le_refl _))))
   (ar (aE (aA aw (az (aa aq (aa (sv 7) (aa (sv 8) af))) (ag (ag (ag ak)))) (sct eg B.b7 en (aa (sv 9) af))))))) aP)
   (ai (ba (aF (bg hr.units) (sv 6) ah (aC _)) (ai (ft (i:=9) cI.nd (by kernel_rfl) (by kernel_rfl) (N':=["_law_k","_law_deed","_law_deep","_law_held","_law_state","_law_top","_law_world_here"]) (caps:=[none,some 2,some 3,some 5,some 0,some 4,some 1]) (aY (by kernel_rfl)) rfl (cy (by unfold Gl;kernel_rfl) B.b0 (aa ah af) (hl:=(ag ak))) (fun _ _ _ _ _=>(sgn 0 (by show (["_law_k","_law_deed","_law_deep","_law_held","_law_state","_law_top","_law_world_here"]:List Str).Nodup;decide+kernel))) (fun _ _ _ _ _=>cF) (fun _ _ _ _ _=>(scl d20 hr (aa (sv 4) (aa (sv 6) (aa (sv 1) (aa (aA aw (sv 2) ah) (aa (sv 5) (aa (sv 3) (aa ah af))))))) (Nat.le_refl _))))
   (ar (aE (aA aw (az (aa aq af) (ag ak)) (sct eg B.b7 en (aa (sv 9) af)))))) aP)
   (ai (ba (aF (bg hr.units) (sv 6) ah (aC _)) (ar (aE (az (aa aq (aa (scl d20 hr (aa (sv 0) (aa (sv 1) (aa (sv 2) (aa (aA aw (sv 3) ah) (aa (sv 4) (aa (sv 5) (aa ah af))))))) (Nat.le_refl _)) af)) (ag (ag ak))))) aP)
   (ai (sset 10 cI.nd (scl d10 hr (aa (sv 0) (aa (cO 9 (by kernel_rfl)) af)) (Nat.le_trans (by decide) (Nat.le_add_right _ _))))
   (ar (aE (scl d18 hr (aa (sv 0) (aa (sv 1) (aa (sv 2) (aa (sv 3) (aa (sv 4) (aa (sv 5) (aa (sv 10) af))))))) (Nat.le_refl _)))))))))))))
  ·exact dr (a8 F3 aQ fun cdv A outer s H E hr=>by (conv=>arg 2;whnf);with_reducible exact (ai (cD (scl d15 hr (aa (sv 0) (aa (sv 1) (aa (sv 2) (aa (sv 4) (aa (sv 5) af))))) (Nat.le_trans (by decide) (Nat.le_add_right _ _))) (bQ rfl (au (sgn 7 aQ.nd) (au (sgn 8 aQ.nd) bj))))
   (ai (ba (aF Bc (sv 7) pO (aC _)) (ar (aE (az (aa aq (aa (six hr (six hr (sv 1) aq) (sv 2)) af)) (ag (ag ak))))) aP)
   (ai (ba (aF (bg hr.units) (sv 6) aq (aC _)) (ai (sG 9 10 aQ.nd (ag (ag ak)) rfl (by decide) (by with_unfolding_all exact (jl rfl aQ.nd rfl rfl (by decide) rfl rfl (aa (SFL.ob (bc (aa (sv 8) af) (ag ak))) (aa (sv 7) af)) rfl)))
   (ai (cY PassesOwn.never rfl (cy (by unfold Gl;kernel_rfl) B.b0 (aa (scl d10 hr (aa (sv 0) (aa (cO 9 (by kernel_rfl)) af)) (Nat.le_trans (by decide) (Nat.le_add_right _ _))) af) (hl:=(ag ak))) (sgn 11 aQ.nd) (ai (cD (scl d15 hr (aa (sv 0) (aa (sv 1) (aa (sv 2) (aa (sv 4) (aa (sv 5) af))))) (Nat.le_trans (by decide) (Nat.le_add_right _ _))) (bQ rfl (au (sgn 12 aQ.nd) (au (sgn 13 aQ.nd) bj))))
   (ai (sset 10 aQ.nd (scb (jF rfl) B.b10 jG (aa (sv 10) (aa (sv 12) af))))
   (ar (sset 9 aQ.nd (SFL.ob (pN (sv 9) (aA p9 (SFL.lv (bc (aa (sv 13) af) (ag ak))) (sct k7 B.b2 jH (aa (g9 (mU hr.units) (sv 13) (sv 9) (by kernel_rfl)) af))))))))))
   (ai (ba (aF (bg hr.units) (scb cu B.b1 cv (aa (sv 9) af)) ah (aC _)) (ar (cV (g0 (isT:=cw) eV PySem.F.plainAttrs_list PySem.F.slot_list_append PySem.F.type_list_append c6 (sv 9) (aa (az (aa (six hr (sv 8) ah) (aa (az (aa (six hr (six hr (sv 8) ah) ah) (aa (aA mT (aA aw (six hr (six hr (sv 8) ah) ah) ah) (aA fv ah (sct k7 B.b2 jH (aa (g9 iA (six hr (six hr (sv 8) ah) ah) ah (aC _)) af)))) af)) (ag (ag ak))) af)) (ag (ag ak))) af)))) aP)
   (ai (sset 10 aQ.nd (aA aw (sv 10) (sct k7 B.b2 jH (aa (g9 (bg hr.units) (six hr (sv 1) aq) ah (aC _)) af))))
   (ar (aE (az (aa aq (aa (sct eg B.b7 en (aa (sv 9) af)) (aa (scl d20 hr (aa (sv 0) (aa (sv 1) (aa (sv 2) (aa (aA aw (sv 3) ah) (aa (scb (jF rfl) B.b10 jG (aa (sv 4) (aa (sv 10) af))) (aa (aA aw (sv 5) (sv 9)) (aa ah af))))))) (Nat.le_refl _)) af))) (ag (ag (ag ak)))))))))) aP)
   (ai (sset 14 aQ.nd (scl d20 hr (aa (sv 0) (aa (sv 1) (aa (sv 2) (aa (aA aw (sv 3) ah) (aa (scb (jF rfl) B.b10 jG (aa (sv 4) (aa (sv 7) af))) (aa (aA aw (sv 5) (SFL.lv (bc (aa (sv 8) af) (ag ak)))) (aa ah af))))))) (Nat.le_refl _)))
   (ai (ba (aF (bg hr.units) (sv 6) aq (aC _)) (ar (aE (az (aa aq (aa (sv 8) (aa (sv 14) (aa (scl d20 hr (aa (sv 0) (aa (sv 1) (aa (sv 2) (aa (aA aw (sv 3) ah) (aa (sv 4) (aa (sv 5) (aa ah af))))))) (Nat.le_refl _)) af)))) (ag (ag (ag (ag ak))))))) aP)
   (ar (aE (az (aa aq (aa (sv 8) (aa (sv 14) af))) (ag (ag (ag ak))))))))))))
  ·exact dr (a8 F4 aX fun cdv A outer s H E hr=>by (conv=>arg 2;whnf);with_reducible exact (ai (sset 6 aX.nd (scb (jF rfl) B.b10 jG (aa (sv 4) (aa (six hr (six hr (sv 1) aq) (sv 2)) af))))
   (ai (ba (aF (bg hr.units) (sv 6) (scb cu B.b1 cv (aa (six hr (sv 1) aq) af)) (aC _)) (ar (aE (az (aa aq (aa (six hr (six hr (sv 1) aq) (sv 2)) af)) (ag (ag ak))))) aP)
   (ai (ba (aF (mV hr.units) (dg (N':=["_law_lock_here","_law_low","_law_world_here"]) (caps:=[none,some 6,some 1]) (aY (by kernel_rfl)) rfl (cn (sv 5)) (fun _ _ _ _ _=>(sgn 0 (by show (["_law_lock_here","_law_low","_law_world_here"]:List Str).Nodup;decide+kernel))) (fun _ _ _ _ _=>(jN (aF (bg hr.units) (six hr (sv 0) ah) (six hr (six hr (sv 2) aq) (sv 1)) (aC _)))) (fun _ _ _ _ _=>(sv 0))) (SFL.lv (bc af ak)) (aC _)) (ar (aE (az (aa aq (aa (six hr (six hr (sv 1) aq) (sv 2)) af)) (ag (ag ak))))) aP)
   (ai (sset 7 aX.nd (six hr (six hr (sv 1) aq) (sv 6)))
   (ai (cD (aA mT (six hr (sv 1) aq) ah) (gZ hr.units (sv 1) aq))
   (ai (sG 8 9 aX.nd (ag (ag ak)) rfl (by decide) (by with_unfolding_all exact (jl rfl aX.nd rfl rfl (by decide) rfl rfl (aa (scl d14 hr (aa (sv 0) (aa (six hr (six hr (sv 1) aq) (sv 2)) af)) (Nat.le_trans (by decide) (Nat.le_add_right _ _))) (aa (scl d14 hr (aa (sv 0) (aa (six hr (six hr (sv 1) aq) (sv 2)) af)) (Nat.le_trans (by decide) (Nat.le_add_right _ _))) af)) rfl)))
   (ai (sset 10 aX.nd (SFL.ob (bc af ak)))
   (ai (cY PassesOwn.never rfl (cn (SFL.lv (bc (aa (az (aa (sv 8) (aa (sv 9) af)) (ag (ag ak))) (aa (az (aa (sv 9) (aa (sv 8) af)) (ag (ag ak))) af)) (ag (ag ak))))) (bQ rfl (au (sgn 11 aX.nd) (au (sgn 12 aX.nd) bj))) (ai (sset 13 aX.nd (scl d20 hr (aa (sv 0) (aa (sv 1) (aa (sv 2) (aa (aA aw (sv 3) ah) (aa (sv 6) (aa (aA aw (sv 5) (SFL.lv (bc (aa (az (aa (sv 7) (aa (sv 11) af)) (ag (ag ak))) (aa (az (aa (sv 7) (aa (sv 12) af)) (ag (ag ak))) af)) (ag (ag ak))))) (aa ah af))))))) (Nat.le_refl _)))
   (ar (cV (g0 (isT:=cw) eV PySem.F.plainAttrs_list PySem.F.slot_list_append PySem.F.type_list_append c6 (sv 10) (aa (az (aa (az (aa aq (aa (az (aa (sv 7) (aa (sv 11) af)) (ag (ag ak))) (aa (az (aa (az (aa aq (aa (az (aa (sv 7) (aa (sv 12) af)) (ag (ag ak))) (aa (sv 13) af))) (ag (ag (ag ak)))) af) (ag ak)) af))) (ag (ag (ag ak)))) af) (ag ak)) af))))))
   (ar (aE (az (aa aq (aa (sv 8) (aa (sv 9) (aa (six hr (sv 10) ah) (aa (az (aa (az (aa aq (aa (az (aa (sv 7) (aa (sv 8) af)) (ag (ag ak))) (aa (az af ak) af))) (ag (ag (ag ak)))) af) (ag ak)) (aa (six hr (sv 10) ah) af)))))) (ag (ag (ag (ag (ag (ag ak))))))))))))))))))
theorem lR (F:Fun K "_law_program" "_law_program" eX f fd) (B:Bs P w K mg) (d12:kq P w K mg base) (d20:nS P w K mg base) (d10:c7 P w K mg base):FnOk P w K mg base CX0 27 f fd fc (spF K 3 dz):=
 dr (a8 F bR fun cdv A outer s H E hr=>by (conv=>arg 2;whnf);with_reducible exact (ai (sset 3 bR.nd (scl d12 hr (aa (sv 0) (aa (sv 1) (aa (sv 2) af)))))
   (ai (sset 4 bR.nd (SFL.ob (bc af ak)))
   (ai (cY PassesOwn.never rfl (jO (by unfold Gl;kernel_rfl) B.b6 (aa (six hr (sv 3) aq) af) (ag ak)) (bQ rfl (au (sgn 5 bR.nd) (au (sgn 6 bR.nd) bj))) (ai (sset 7 bR.nd (scl d20 hr (aa (sv 0) (aa (sv 3) (aa (sv 5) (aa ah (aa (gQ eC ah) (aa (SFL.lv (bc af ak)) (aa (scl d10 hr (aa (sv 0) (aa (cO 9 (by kernel_rfl)) af))) af)))))))))
   (ar (cV (g0 (isT:=cw) eV PySem.F.plainAttrs_list PySem.F.slot_list_append PySem.F.type_list_append c6 (sv 4) (aa (az (aa (sv 6) (aa (sct eg B.b7 en (aa (six hr (six hr (sv 3) aq) (sv 5)) af)) (aa (sv 7) af))) (ag (ag (ag ak)))) af))))))
   (ar (aE (az (aa (sct eg B.b7 en (aa (scb xM B.b8 pv (aa (six hr (sv 3) aq) af)) af)) (aa (sct eg B.b7 en (aa (sv 4) af)) af)) (ag (ag ak)))))))))
theorem rG (F:Fun K "_law_any" "_law_any" jd f fd) (B:Bs P w K mg) (d21:iD P w K mg base) (d10:c7 P w K mg base):FnOk P w K mg base CX0 28 f fd jv (spF K 1 gO):=
 (a8 F rj fun cdv A outer s H E hr=>by (conv=>arg 2;whnf);with_reducible exact (ar (aE (scl d21 hr (aa (sv 0) (aa (scl d10 hr (aa (sv 0) (aa (cO 9 (by kernel_rfl)) af))) (aa (scl d10 hr (aa (sv 0) (aa (cO 9 (by kernel_rfl)) af))) af)))))))
theorem j3 (F:Fun K "_law_term_text" "_law_term_text" dH f fd) (B:Bs P w K mg):FnOk P w K mg base CX0 1 f fd dM (spF K 1 aZ):=
 (a8 F dh fun cdv A outer s H E hr=>by (conv=>arg 2;whnf);with_reducible exact (ai (cD (sv 0) (bQ rfl (au (sgn 1 dh.nd) (au (sgn 2 dh.nd) bj))))
   (ai (ba (SW.st (qW (aF (bg hr.units) (sv 1) aq (aC _)) (mz (aF (bg hr.units) (sv 2) ah (aC _))))) (ar (aE (Af (sv 1) (we (sct uw B.b12 xZ (aa (sv 2) af)))))) aP)
   (ar (aE (aA aw (aA aw (sv 1) (aA fv aq (sct k7 B.b2 jH (aa (g9 iA (sv 2) ah (aC _)) af)))) (sct uw B.b12 xZ (aa (sv 2) af))))))))
theorem j4 (F:Fun K "_law_lock_text" "_law_lock_text" dJ f fd) (B:Bs P w K mg) (d23:dS P w K mg base):FnOk P w K mg base CX0 2 f fd dP (spF K 1 bx):=
 (a8 F jS fun cdv A outer s H E hr=>by (conv=>arg 2;whnf);with_reducible exact (ar (aE (aA aw (aA aw (six hr (sv 0) ah) aq) (scl d23 hr (aa (six hr (sv 0) ah) af))))))
theorem qj (F:Fun K "_law_head" "_law_head" ie f fd) (B:Bs P w K mg) (d23:dS P w K mg base) (d24:gb P w K mg base):FnOk P w K mg base CX0 3 f fd ix (spF K 1 fE):=
 (a8 F pQ fun cdv A outer s H E hr=>by (conv=>arg 2;whnf);with_reducible exact (ai (ba (aF (bg hr.units) (six hr (sv 0) ah) aq (aC _)) (ar (aE (aA aw aq (six hr (sv 0) ah)))) aP)
   (ai (ba (aF (bg hr.units) (six hr (sv 0) ah) aq (aC _)) (ar (aE (g0 (isT:=isStr) ty_str PySem.F.plainAttrs_str PySem.F.slot_str_join PySem.F.type_str_join mj aq (aa (aA aw (SFL.lv (bc (aa aq (aa (six hr (sv 0) ah) af)) (ag (ag ak)))) (dg (N':=["_law_term_here"]) (caps:=[none]) (aY (by kernel_rfl)) rfl (cn (six hr (sv 0) ah)) (fun _ _ _ _ _=>(sgn 0 (by show (["_law_term_here"]:List Str).Nodup;decide+kernel))) (fun _ _ _ _ _=>cF) (fun _ _ _ _ _=>(scl d23 hr (aa (sv 0) af))))) af)))) aP)
   (ai (ba (aF (bg hr.units) (six hr (sv 0) ah) aq (aC _)) (ar (aE (g0 (isT:=isStr) ty_str PySem.F.plainAttrs_str PySem.F.slot_str_join PySem.F.type_str_join mj aq (aa (aA aw (SFL.lv (bc (aa aq af) (ag ak))) (dg (N':=["_law_lock_here"]) (caps:=[none]) (aY (by kernel_rfl)) rfl (cn (six hr (sv 0) ah)) (fun _ _ _ _ _=>(sgn 0 (by show (["_law_lock_here"]:List Str).Nodup;decide+kernel))) (fun _ _ _ _ _=>cF) (fun _ _ _ _ _=>(scl d24 hr (aa (sv 0) af))))) af)))) aP)
   (ai (ba (aF (w5 hr.units) (six hr (sv 0) ah) (az (aa aq (aa aq af)) (ag (ag ak))) (by kernel_rfl)) (ar (aE (aA aw (aA aw (six hr (sv 0) ah) aq) (scl d24 hr (aa (six hr (sv 0) ah) af))))) aP)
   (ai (ba (aF (bg hr.units) (six hr (sv 0) ah) aq (aC _)) (ar (aE (aA aw (aA aw (aA aw aq (scl d23 hr (aa (six hr (sv 0) ah) af))) aq) (scl d23 hr (aa (six hr (sv 0) ah) af))))) aP)
   (ar (aE (six hr (sv 0) ah)))))))))
theorem fw (F:Fun K "_law_lot_lines" "_law_lot_lines" dI f fd) (B:Bs P w K mg) (kf:PySem.W.keepIn K (.ref f)=true) (bf:Binds K fd cf []) (mf:mg "_law_lot_lines"=some (.ref f)) (d25:lM P w K mg base):∀n,FnOk P w K mg base CX0 (4+n) f fd cf (spF K 2 (bw n))
 | 0=>iJ
 | n+1=>by
  have d26:Df P w K mg base "_law_lot_lines" (4+n) cf 2 (bw n):=⟨f,fd,fw F B kf bf mf d25 n,kf,bf,mf⟩;exact (a8 F aB fun cdv A outer s H E hr=>by (conv=>arg 2;whnf);with_reducible exact (ai (sG 2 3 aB.nd (ag (ag ak)) rfl (by decide) (by with_unfolding_all exact (jl rfl aB.nd rfl rfl (by decide) rfl rfl (aa (SFL.ob (bc af ak)) (aa (sv 1) af)) rfl)))
   (ai (cY PassesOwn.never rfl (cn (sv 0)) (sgn 4 aB.nd) (ai (sset 5 aB.nd (sv 3))
   (ai (cV (g0 (isT:=cw) eV PySem.F.plainAttrs_list PySem.F.slot_list_append PySem.F.type_list_append c6 (sv 2) (aa (az (aa (sv 5) (aa (scl d25 hr (aa (sv 4) af) (Nat.le_trans (by decide) (Nat.le_add_right _ _))) af)) (ag (ag ak))) af)))
   (ai (sset 3 aB.nd (aA aw (sv 3) ah))
   (ai (sset 6 aB.nd (g0 (isT:=xp) zX PySem.F.plainAttrs_dict PySem.F.slot_dict_get PySem.F.type_dict_get (Bt (Du hr)) (yp (df aq ah (df aq ah (df aq ah (df aq ah (df aq ah vX))))) (by kernel_rfl) (by kernel_rfl) (by simp) fun trs h=>uc h (by kernel_rfl) (by kernel_rfl) (by simp) (by decide)) (aa (six hr (sv 4) ah) (aa ah af))))
   (ai (sset 7 aB.nd (i5 (sv 4) (gg (sv 6)) gh))
   (ai (cY PassesOwn.never rfl (jO (by unfold Gl;kernel_rfl) B.b6 (aa (sv 7) af) (ag ak)) (bQ rfl (au (sgn 8 aB.nd) (au (sgn 9 aB.nd) bj))) (ai (sset 2 aB.nd (SFL.ob (pN (sv 2) (aA p9 (SFL.lv (bc (aa (az (aa (sv 5) (aa aq af)) (ag (ag ak))) af) (ag ak))) (sct k7 B.b2 jH (aa (g9 iA (sv 8) ah (aC _)) af))))))
   (ai (cD (scl d26 hr (aa (sv 9) (aa (sv 3) af)) (Nat.le_refl _)) (bQ rfl (au (sgn 10 aB.nd) (au (sgn 3 aB.nd) bj))))
   (ar (sset 2 aB.nd (SFL.ob (pN (sv 2) (sv 10))))))))
   (ar (sset 2 aB.nd (SFL.ob (pN (sv 2) (aA p9 (SFL.lv (bc (aa (az (aa (sv 5) (aa aq af)) (ag (ag ak))) af) (ag ak))) (sct k7 B.b2 jH (aa (g9 iA (scb cu B.b1 cv (aa (sv 7) af)) ah (aC _)) af))))))))))))))
   (ar (aE (az (aa (sv 2) (aa (sv 3) af)) (ag (ag ak))))))))
theorem oo (F:Fun K "_law_lines" "_law_lines" gp f fd) (B:Bs P w K mg) (d26:f9 P w K mg base):FnOk P w K mg base CX0 13 f fd gA (spF K 1 eT):=
 dr (a8 F bA fun cdv A outer s H E hr=>by (conv=>arg 2;whnf);with_reducible exact (ai (sG 1 2 bA.nd (ag (ag ak)) rfl (by decide) (by with_unfolding_all exact (jl rfl bA.nd rfl rfl (by decide) rfl rfl (aa (SFL.lv (bc (aa (az (aa (gQ eC ah) (aa (g0 (isT:=isStr) ty_str PySem.F.plainAttrs_str PySem.F.slot_str_join PySem.F.type_str_join mj aq (aa (aA aw (az (aa aq af) (ag ak)) (six hr (sv 0) ah)) af)) af)) (ag (ag ak))) af) (ag ak))) (aa ah af)) rfl)))
   (ai (cY PassesOwn.never rfl (cn (six hr (sv 0) ah)) (bQ rfl (au (sgn 3 bA.nd) (au (sgn 4 bA.nd) (au (sgn 5 bA.nd) bj)))) (ai (cD (scl d26 hr (aa (sv 5) (aa (sv 2) af))) (bQ rfl (au (sgn 6 bA.nd) (au (sgn 2 bA.nd) bj))))
   (ar (sset 1 bA.nd (aA aw (aA aw (aA aw (sv 1) (SFL.lv (bc (aa (az (aa (gQ eC ah) (aa (g0 (isT:=isStr) ty_str PySem.F.plainAttrs_str PySem.F.slot_str_join PySem.F.type_str_join mj aq (aa (aA aw (az (aa aq (aa (sv 3) af)) (ag (ag ak))) (sv 4)) af)) af)) (ag (ag ak))) af) (ag ak)))) (sv 6)) (SFL.lv (bc (aa (az (aa (gQ eC ah) (aa aq af)) (ag (ag ak))) af) (ag ak))))))))
   (ar (aE (sv 1))))))
theorem lS (F:Fun K "_law_measure" "_law_measure" eY f fd) (B:Bs P w K mg):FnOk P w K mg base CX0 1 f fd fe (spF K 1 ck):=
 dr (a8 F aV fun cdv A outer s H E hr=>by (conv=>arg 2;whnf);with_reducible exact (ai (cD (az (aa (SFL.ob (bc af ak)) (aa ah (aa ah (aa ah af)))) (ag (ag (ag (ag ak))))) (bQ rfl (au (sgn 1 aV.nd) (au (sgn 2 aV.nd) (au (sgn 3 aV.nd) (au (sgn 4 aV.nd) bj))))))
   (ai (cY PassesOwn.never rfl (cn (i5 (sv 0) (gg ah) gh)) (sgn 5 aV.nd) (ai (sset 6 aV.nd (six hr (g0 (isT:=isStr) ty_str PySem.F.plainAttrs_str PySem.F.slot_str_split PySem.F.type_str_split rN (sv 5) (aa aq af)) ah))
   (ar (ba (aF (bg hr.units) (sv 5) aq (aC _)) (ar (cD ah (gZ hr.units (sv 1) (gQ eC ah)))) (ar (ba (aF (bg hr.units) (sv 5) aq (aC _)) (ar (cV (CF (isT:=cw) eV PySem.F.plainAttrs_list PySem.F.slot_list_pop PySem.F.type_list_pop Br (sv 1)))) (ai (ba (aF (mV hr.units) (sv 1) (SFL.lv (bc af ak)) (aC _)) (ai (cD (aA aw (six hr (sv 1) (gQ eC ah)) ah) (gZ hr.units (sv 1) (gQ eC ah)))
   (ar (sG 4 2 aV.nd (ag (ag ak)) rfl (by decide) (by with_unfolding_all exact (jl rfl aV.nd rfl rfl (by decide) rfl rfl (aa (aA aw (sv 4) ah) (aa (scb (jF rfl) B.b10 jG (aa (sv 2) (aa (six hr (sv 1) (gQ eC ah)) af))) af)) rfl))))) aP)
   (ar (ba (aF (mU hr.units) (sv 6) (az (aa aq (aa aq af)) (ag (ag ak))) (by kernel_rfl)) (ai (cV (g0 (isT:=cw) eV PySem.F.plainAttrs_list PySem.F.slot_list_append PySem.F.type_list_append c6 (sv 1) (aa ah af)))
   (ar (sset 3 aV.nd (scb (jF rfl) B.b10 jG (aa (sv 3) (aa (scb cu B.b1 cv (aa (sv 1) af)) af)))))) aP)))))))))
   (ar (aE (az (aa (sv 2) (aa (sv 3) (aa (sv 4) af))) (ag (ag (ag ak)))))))))
theorem om (F:Fun K "_law_texts" "_law_texts" gn f fd) (B:Bs P w K mg):FnOk P w K mg base CX0 1 f fd gz (spF K 1 dy):=
 (a8 F nW fun cdv A outer s H E hr=>by (conv=>arg 2;whnf);with_reducible exact (ar (aE (dg (N':=["_law_number","_law_text"]) (caps:=[none,none]) (aY (by kernel_rfl)) rfl (cn (sv 0)) (fun _ _ _ _ _=>(bQ rfl (au (sgn 0 (by show (["_law_number","_law_text"]:List Str).Nodup;decide+kernel)) (au (sgn 1 (by show (["_law_number","_law_text"]:List Str).Nodup;decide+kernel)) bj)))) (fun _ _ _ _ _=>cF) (fun _ _ _ _ _=>(sv 1))))))
theorem qf (F:Fun K "_law_sort" "_law_sort" hW f fd) (B:Bs P w K mg):FnOk P w K mg base CX0 1 f fd iq (spF K 2 fC):=
 (a8 F pP fun cdv A outer s H E hr=>by (conv=>arg 2;whnf);with_reducible exact (ar (aE (six hr (g0 (isT:=isStr) ty_str PySem.F.plainAttrs_str PySem.F.slot_str_split PySem.F.type_str_split rN (six hr (dg (N':=["_law_mine","_law_text","_law_number"]) (caps:=[none,none,some 1]) (aY (by kernel_rfl)) rfl (cn (sv 0)) (fun _ _ _ _ _=>(bQ rfl (au (sgn 0 (by show (["_law_mine","_law_text","_law_number"]:List Str).Nodup;decide+kernel)) (au (sgn 1 (by show (["_law_mine","_law_text","_law_number"]:List Str).Nodup;decide+kernel)) bj)))) (fun _ _ _ _ _=>(jN (aF (bg hr.units) (sv 0) (sv 2) (aC _)))) (fun _ _ _ _ _=>(sv 1))) ah) (aa aq af)) ah))))
theorem rE (F:Fun K "_law_out" "_law_out" ja f fd) (B:Bs P w K mg):FnOk P w K mg base CX0 1 f fd ju (spF K 2 gM):=
 dr (a8 F cJ fun cdv A outer s H E hr=>by (conv=>arg 2;whnf);with_reducible exact (ai (sG 2 3 cJ.nd (ag (ag ak)) rfl (by decide) (by with_unfolding_all exact (jl rfl cJ.nd rfl rfl (by decide) rfl rfl (aa (SFL.ob (bc af ak)) (aa oG af)) rfl)))
   (ai (cY PassesOwn.never rfl (cn (sv 0)) (bQ rfl (au (sgn 4 cJ.nd) (au (sgn 5 cJ.nd) bj))) (ar (ba (SW.st (gd (aF (bg hr.units) (sv 4) (sv 1) (aC _)) (fq (aF (bg hr.units) (sv 5) aq (aC _))))) (ar (sset 3 cJ.nd oG)) (ar (ba (aF (bg hr.units) (sv 4) (sv 1) (aC _)) (ar (sset 3 cJ.nd oG)) (ar (ba (kG (sv 3)) (ar (cV (g0 (isT:=cw) eV PySem.F.plainAttrs_list PySem.F.slot_list_append PySem.F.type_list_append c6 (sv 2) (aa (az (aa (sv 4) (aa (sv 5) af)) (ag (ag ak))) af)))) aP)))))))
   (ar (aE (sv 2))))))
theorem sS (F:Fun K "lots_of" "lots_of" kH f fd) (B:Bs P w K mg):FnOk P w K mg base CX0 1 f fd kQ (spF K 1 eU):=
 (a8 F sI fun cdv A outer s H E hr=>by (conv=>arg 2;whnf);with_reducible exact (ar (aE (i5 (sv 0) (gg (six hr (Ae B.T_SHAPES (six hr (sv 0) ah)) ah)) gh))))
theorem ly (F:Fun K "paths_in" "paths_in" i7 f fd) (B:Bs P w K mg) (kf:PySem.W.keepIn K (.ref f)=true) (bf:Binds K fd fb []) (mf:mg "paths_in"=some (.ref f)) (d0:lh P w K mg base):∀n,FnOk P w K mg base CX0 (2+n) f fd fb (spF K 2 (bP n))
 | 0=>iJ
 | n+1=>by
  have d2:Df P w K mg base "paths_in" (2+n) fb 2 (bP n):=⟨f,fd,ly F B kf bf mf d0 n,kf,bf,mf⟩;exact dr (a8 F cH fun cdv A outer s H E hr=>by (conv=>arg 2;whnf);with_reducible exact (ai (sset 2 cH.nd (SFL.ob (bc af ak)))
   (ai (cY PassesOwn.never rfl (jO (by unfold Gl;kernel_rfl) B.b6 (aa (sv 0) af) (ag ak)) (bQ rfl (au (sgn 3 cH.nd) (au (sgn 4 cH.nd) bj))) (ai (sset 5 cH.nd (aA aw (sv 1) (az (aa (sv 3) af) (ag ak))))
   (ai (cV (g0 (isT:=cw) eV PySem.F.plainAttrs_list PySem.F.slot_list_append PySem.F.type_list_append c6 (sv 2) (aa (az (aa (sv 5) (aa (sv 4) af)) (ag (ag ak))) af)))
   (ar (cY PassesOwn.never rfl (jO (by unfold Gl;kernel_rfl) B.b6 (aa (scl d0 hr (aa (sv 4) af) (Nat.le_trans (by decide) (Nat.le_add_right _ _))) af) (ag ak)) (bQ rfl (au (sgn 6 cH.nd) (au (sgn 7 cH.nd) bj))) (ar (cV (g0 (isT:=cw) eV PySem.F.plainAttrs_list PySem.F.slot_list_extend PySem.F.type_list_extend oR (sv 2) (aa (scl d2 hr (aa (sv 7) (aa (aA aw (sv 5) (az (aa (sv 6) af) (ag ak))) af)) (Nat.le_refl _)) af)))))))))
   (ar (aE (sv 2))))))
theorem qc (F:Fun K "places_of" "places_of" hU f fd) (B:Bs P w K mg) (d2:jI P w K mg base):FnOk P w K mg base CX0 11 f fd il (spF K 1 eu):=
 dr (a8 F cP fun cdv A outer s H E hr=>by (conv=>arg 2;whnf);with_reducible exact (ai (sset 1 cP.nd (SFL.ob (bc af ak)))
   (ai (cY PassesOwn.never rfl (jO (by unfold Gl;kernel_rfl) B.b6 (aa (six hr (sv 0) ah) af) (ag ak)) (bQ rfl (au (sgn 2 cP.nd) (au (bQ rfl (au (sgn 3 cP.nd) (au (sgn 4 cP.nd) (au (sgn 5 cP.nd) bj)))) bj))) (ar (cV (g0 (isT:=cw) eV PySem.F.plainAttrs_list PySem.F.slot_list_extend PySem.F.type_list_extend oR (sv 1) (aa (dg (N':=["path","row","deed"]) (caps:=[none,none,some 2]) (aY (by kernel_rfl)) rfl (cn (scl d2 hr (aa (sv 5) (aa (az af ak) af)))) (fun _ _ _ _ _=>(bQ rfl (au (sgn 0 (by show (["path","row","deed"]:List Str).Nodup;decide+kernel)) (au (sgn 1 (by show (["path","row","deed"]:List Str).Nodup;decide+kernel)) bj)))) (fun _ _ _ _ _=>cF) (fun _ _ _ _ _=>(az (aa (sv 2) (aa (sv 0) (aa (sv 1) af))) (ag (ag (ag ak)))))) af)))))
   (ar (aE (sv 1))))))
theorem rC (F:Fun K "place_of" "place_of" i6 f fd) (B:Bs P w K mg) (d3:lI P w K mg base):FnOk P w K mg base CX0 12 f fd jr (spF K 2 gK):=
 (a8 F lr fun cdv A outer s H E hr=>by (conv=>arg 2;whnf);with_reducible exact (ai (sset 2 lr.nd (scl d3 hr (aa (sv 0) af)))
   (ai (ba (pI (vV Dd jZ ah (sv 1) (scb cu B.b1 cv (aa (sv 2) af)))) (ar qZ) aP)
   (ar (aE (six hr (sv 2) (sv 1)))))))
theorem rD (F:Fun K "locks_of" "locks_of" i8 f fd) (B:Bs P w K mg):FnOk P w K mg base CX0 1 f fd jt (spF K 1 gL):=
 (a8 F rh fun cdv A outer s H E hr=>by (conv=>arg 2;whnf);with_reducible exact (ai (ba (aF (bg hr.units) (six hr (sv 0) ah) aq (aC _)) (ar (aE (six hr (sv 0) ah))) aP)
   (ar (aE (CH (aF (w5 hr.units) (six hr (sv 0) ah) (az (aa aq (aa aq af)) (ag (ag ak))) (by kernel_rfl)) (az (aa (six hr (sv 0) ah) af) (ag ak)) (az af ak))))))
theorem kS (F:Fun K "locking_place" "locking_place" eD f fd) (B:Bs P w K mg) (d4:nP P w K mg base) (d1:nQ P w K mg base):FnOk P w K mg base CX0 13 f fd eG (spF K 2 cX):=
 (a8 F cQ fun cdv A outer s H E hr=>by (conv=>arg 2;whnf);with_reducible exact (ai (cD (scl d4 hr (aa (sv 0) (aa (sv 1) af))) (bQ rfl (au (sgn 2 cQ.nd) (au (sgn 3 cQ.nd) (au (sgn 4 cQ.nd) bj)))))
   (ai (ba (pI (kG (scl d1 hr (aa (sv 4) af)))) (ar qZ) aP)
   (ar (aE (az (aa (sv 2) (aa (sv 3) (aa (sv 4) af))) (ag (ag (ag ak)))))))))
theorem og (F:Fun K "old_number" "old_number" gj f fd) (B:Bs P w K mg) (d5:gU P w K mg base) (d0:lh P w K mg base) (d2:jI P w K mg base):FnOk P w K mg base CX0 14 f fd gw (spF K 3 eR):=
 (a8 F cz fun cdv A outer s H E hr=>by (conv=>arg 2;whnf);with_reducible exact (ai (cD (scl d5 hr (aa (sv 0) (aa (sv 1) af))) (bQ rfl (au (sgn 3 cz.nd) (au (sgn 4 cz.nd) (au (sgn 5 cz.nd) bj)))))
   (ai (ba (aF jZ (sv 2) (sv 1) (aC _)) (ar (aE (sv 2))) aP)
   (ai (cD (scl d0 hr (aa (sv 5) af)) (yl rfl (uO (sgn 6 cz.nd) (sgn 7 cz.nd))))
   (ai (ba (aF jZ (sv 2) (aA aw (sv 1) (scb cu B.b1 cv (aa (scl d2 hr (aa (sv 6) (aa (az af ak) af))) af))) (aC _)) (ar (aE (aA aw (sv 2) ah))) aP)
   (ar (aE (aA aw (aA aw (sv 2) ah) (scb (BU rfl) B.b13 B3 (aa (dg (N':=["lot"]) (caps:=[none]) (aY (by kernel_rfl)) rfl (cn (sv 7)) (fun _ _ _ _ _=>(sgn 0 (by show (["lot"]:List Str).Nodup;decide+kernel))) (fun _ _ _ _ _=>cF) (fun _ _ _ _ _=>(scb cu B.b1 cv (aa (scl d2 hr (aa (sv 0) (aa (az af ak) af))) af)))) af))))))))))
theorem Bo (F:Fun K "law" "law" lu f fd) (B:Bs P w K mg) (d7:kA P w K mg base) (d22:nT P w K mg base) (d27:kz P w K mg base) (d29:iE P w K mg base) (d28:ku P w K mg base) (d31:lJ P w K mg base) (d30:nR P w K mg base) (d6:ko P w K mg base):FnOk P w K mg base CX0 29 f fd zN (spF K 1 uI):=
 (a8 F gi fun cdv A outer s H E hr=>by (conv=>arg 2;whnf);with_reducible exact (ai (sset 1 gi.nd (scl d7 hr (aa (sv 0) af)))
   (ai (cY PassesOwn.never rfl (cy (by unfold Gl;kernel_rfl) B.b0 (aa ah af) (hl:=(ag ak))) (sgn 2 gi.nd) (ai (sset 3 gi.nd (scl d22 hr (aa (sv 1) af)))
   (ai (sset 4 gi.nd (scl d27 hr (aa (sv 3) af)))
   (ar (cY PassesOwn.never rfl (cy (by unfold Gl;kernel_rfl) B.b0 (aa (six hr (scl d29 hr (aa (scl d28 hr (aa (sv 4) af)) af)) ah) af) (hl:=(ag ak))) (sgn 5 gi.nd) (ar (ba (aF (w5 hr.units) (scl d31 hr (aa (sv 4) (aa (sv 5) af))) (cO 9 (by kernel_rfl)) (by kernel_rfl)) (ai (sset 6 gi.nd (scl d30 hr (aa (sv 4) (aa (sv 5) af))))
   (ai (ft (i:=7) gi.nd (by kernel_rfl) (by kernel_rfl) (N':=["_law_mine","_law_text"]) (caps:=[none,none]) (aY (by kernel_rfl)) rfl (cn (sv 6)) (fun _ _ _ _ _=>(bQ rfl (au (sgn 0 (by show (["_law_mine","_law_text"]:List Str).Nodup;decide+kernel)) (au (sgn 1 (by show (["_law_mine","_law_text"]:List Str).Nodup;decide+kernel)) bj)))) (fun _ _ _ _ _=>(jN (SW.st (gd (aF w9 (sv 0) ah (aC _)) (fq (aF (mU hr.units) (sv 1) (az (aa aq (aa aq af)) (ag (ag ak))) (by kernel_rfl))))))) (fun _ _ _ _ _=>(sv 0)))
   (ar (ba (aF jZ (six hr (scl d29 hr (aa (scl d28 hr (aa (sv 6) af)) af)) ah) ah (aC _)) (ai (ft (i:=8) gi.nd (by kernel_rfl) (by kernel_rfl) (N':=["_law_other","_law_number","_law_program_here"]) (caps:=[none,some 5,some 3]) (aY (by kernel_rfl)) rfl (cy (by unfold Gl;kernel_rfl) B.b0 (aa (scb cu B.b1 cv (aa (sv 7) af)) af) (hl:=(ag ak))) (fun _ _ _ _ _=>(sgn 0 (by show (["_law_other","_law_number","_law_program_here"]:List Str).Nodup;decide+kernel))) (fun _ _ _ _ _=>cF) (fun _ _ _ _ _=>(scl d6 hr (aa (sv 2) (aa (sv 1) (aa (sv 0) af))))))
   (ar (ba (SW.st (qW (aF (mV hr.units) (sv 8) (sv 7) (aC _)) (mz (pI (kG (scb (BX rfl) B.b4 B5 (aa (dg (N':=["_law_one"]) (caps:=[none]) (aY (by kernel_rfl)) rfl (cn (sv 8)) (fun _ _ _ _ _=>(sgn 0 (by show (["_law_one"]:List Str).Nodup;decide+kernel))) (fun _ _ _ _ _=>cF) (fun _ _ _ _ _=>(scb BW B.b3 oy (aa (sv 0) (aa (sty B.b2 jH) af))))) af))))))) (ar (aE oG)) aP))) aP)))) aP)))))))
   (ar (aE oG)))))
end
theorem fz:Hd.freeOk view (["SHAPES"]:List Str) ["abs","all","enumerate","int","isinstance","len","list","max","min","range","sorted","str","sum","tuple"]=true:=by decide+kernel
abbrev Rc (x:Str) (s:Stmt):Prop:=(recsOf view).find? (fun e=>e.name==x)=some (Hd.oH x s)
theorem mP:Rc "_law_drawn" gq:=by kernel_rfl
theorem n6:Rc "_law_load" ic:=by kernel_rfl
theorem n4:Rc "_law_next" ia:=by kernel_rfl
theorem rp:Rc "_law_of" kI:=by kernel_rfl
theorem mM:Rc "_law_words" gm:=by kernel_rfl
theorem mL:Rc "_law_world" gk:=by kernel_rfl
theorem lQ:Rc "_law_is_odd" fG:=by kernel_rfl
theorem nZ:Rc "_law_term" hV:=by kernel_rfl
theorem oe:Rc "_law_call" ig:=by kernel_rfl
theorem n5:Rc "_law_lock" ib:=by kernel_rfl
theorem pY:Rc "_law_lot" jb:=by kernel_rfl
theorem pW:Rc "_law_row" i9:=by kernel_rfl
theorem lP:Rc "_law_locked" fF:=by kernel_rfl
theorem jV:Rc "_law_two_ways" eF:=by kernel_rfl
theorem kN:Rc "_law_program" eX:=by kernel_rfl
theorem pZ:Rc "_law_any" jd:=by kernel_rfl
theorem ji:Rc "_law_term_text" dH:=by kernel_rfl
theorem jk:Rc "_law_lock_text" dJ:=by kernel_rfl
theorem oa:Rc "_law_head" ie:=by kernel_rfl
theorem jj:Rc "_law_lot_lines" dI:=by kernel_rfl
theorem mO:Rc "_law_lines" gp:=by kernel_rfl
theorem kO:Rc "_law_measure" eY:=by kernel_rfl
theorem mN:Rc "_law_texts" gn:=by kernel_rfl
theorem n3:Rc "_law_sort" hW:=by kernel_rfl
theorem pX:Rc "_law_out" ja:=by kernel_rfl
theorem rm:Rc "lots_of" kH:=by kernel_rfl
theorem pU:Rc "paths_in" i7:=by kernel_rfl
theorem nY:Rc "places_of" hU:=by kernel_rfl
theorem pT:Rc "place_of" i6:=by kernel_rfl
theorem pV:Rc "locks_of" i8:=by kernel_rfl
theorem jU:Rc "locking_place" eD:=by kernel_rfl
theorem mK:Rc "old_number" gj:=by kernel_rfl
theorem yz:Rc "law" lu:=by kernel_rfl
theorem all_mk {l:PySem.W.OpenLaw} {w:World} {h:Heap} {mg mb:Str->Option Value} {mean:ExcName->Option Value} (T:Top view (PySem.W.looseW view (["SHAPES"]:List Str)) mean mg mb h)
  (Y_SHAPES:Hd.tabAt h "SHAPES"=some (iG.map fun x=>(x.1,hashStr w x.1,x.2)))
  (hF:∀ns:List Int,ns.length≤63->∃h',uI [.ro (ns.map D.int)] []=some (.bl true,h')):
  ∃(fa:Addr) (fd:FuncData),mg "law"=some (.ref fa)∧(∀(s:Shared) (v:Value),BindsTo s fd ⟨[v],[]⟩ [("_law_script",v)])∧∀base:Heap,(Hd.bt h).In base->base.Ns mainGlobals mg->FnOk l.prog w (Hd.bt h) mg base CX0 29 fa fd ["_law_script"] (spT (Hd.bt h)):=by
 have B:Bs l.prog w (Hd.bt h) mg:=⟨Hd.cG T fz (List.mem_of_getElem? (i:=0) rfl),Hd.cG T fz (List.mem_of_getElem? (i:=1) rfl),Hd.cG T fz (List.mem_of_getElem? (i:=2) rfl),Hd.cG T fz (List.mem_of_getElem? (i:=3) rfl),Hd.cG T fz (List.mem_of_getElem? (i:=4) rfl),Hd.cG T fz (List.mem_of_getElem? (i:=5) rfl),Hd.cG T fz (List.mem_of_getElem? (i:=6) rfl),Hd.cG T fz (List.mem_of_getElem? (i:=7) rfl),Hd.cG T fz (List.mem_of_getElem? (i:=8) rfl),Hd.cG T fz (List.mem_of_getElem? (i:=9) rfl),Hd.cG T fz (List.mem_of_getElem? (i:=10) rfl),Hd.cG T fz (List.mem_of_getElem? (i:=11) rfl),Hd.cG T fz (List.mem_of_getElem? (i:=12) rfl),Hd.cG T fz (List.mem_of_getElem? (i:=13) rfl),Hd.tab_of Y_SHAPES T.g (by decide+kernel)⟩;obtain ⟨f11,fd11,m11,F11⟩:=Hd.pb T pY;have k11:=F11.kp;have b11:=F11.binds (ps:=dO) fun _ _ _ _ _ _=>Hd.u7 (fun _ _ _ _ _ _ _=>rfl);obtain ⟨f12,fd12,m12,F12⟩:=Hd.pb T pW;have k12:=F12.kp;have b12:=F12.binds (ps:=dN) fun _ _ _ _ _ _=>Hd.u6 (fun _ _ _ _ _ _=>rfl);obtain ⟨f13,fd13,m13,F13⟩:=Hd.pb T lP;have k13:=F13.kp;have b13:=F13.binds (ps:=cA) fun _ _ _ _ _ _=>Hd.u7 (fun _ _ _ _ _ _ _=>rfl);obtain ⟨f14,fd14,m14,F14⟩:=Hd.pb T jV;have k14:=F14.kp;have b14:=F14.binds (ps:=bS) fun _ _ _ _ _ _=>Hd.u6 (fun _ _ _ _ _ _=>rfl);obtain ⟨f33,fd33,m33,F33⟩:=Hd.pb T yz;refine ⟨f33,fd33,m33,F33.one fun _ _ _ _ _ _ _=>rfl,fun base _ _=>?_⟩;have d7:kA l.prog w (Hd.bt h) mg base:=Hd.bZ T mP (fun F=>F.binds fun _ _ _ _ _ _=>Hd.u1 (fun _=>rfl)) fun F _ _ _=>oq F B;have d8:lL l.prog w (Hd.bt h) mg base:=Hd.bZ T n6 (fun F=>F.binds fun _ _ _ _ _ _=>Hd.u1 (fun _=>rfl)) fun F _ _ _=>qi F B;have d9:cm l.prog w (Hd.bt h) mg base:=Hd.bZ T n4 (fun F=>F.binds fun _ _ _ _ _ _=>Hd.u2 (fun _ _=>rfl)) fun F _ _ _=>qg F B d8;have d10:c7 l.prog w (Hd.bt h) mg base:=Hd.bZ T rp (fun F=>F.binds fun _ _ _ _ _ _=>Hd.u2 (fun _ _=>rfl)) fun F _ _ _=>sT F B d9;have d11:kr l.prog w (Hd.bt h) mg base:=Hd.bZ T mM (fun F=>F.binds fun _ _ _ _ _ _=>Hd.u2 (fun _ _=>rfl)) fun F _ _ _=>oj F B d10 d9;have d12:kq l.prog w (Hd.bt h) mg base:=Hd.bZ T mL (fun F=>F.binds fun _ _ _ _ _ _=>Hd.u3 (fun _ _ _=>rfl)) fun F _ _ _=>oh F B d11 d10 d9;have d13:fL l.prog w (Hd.bt h) mg base:=Hd.bZ T lQ (fun F=>F.binds fun _ _ _ _ _ _=>Hd.u2 (fun _ _=>rfl)) fun F _ _ _=>mW F B d9;have d14:fB l.prog w (Hd.bt h) mg base:=Hd.bZ T nZ (fun F=>F.binds fun _ _ _ _ _ _=>Hd.u2 (fun _ _=>rfl)) fun F _ _ _=>qe F B d9 d10;have d16:lN l.prog w (Hd.bt h) mg base:=Hd.bZ T oe (fun F=>F.binds fun _ _ _ _ _ _=>Hd.u4 (fun _ _ _ _=>rfl)) fun F _ _ _=>qk F B d13 d10 d14;have d15:lK l.prog w (Hd.bt h) mg base:=Hd.bZ T n5 (fun F=>F.binds fun _ _ _ _ _ _=>Hd.u5 (fun _ _ _ _ _=>rfl)) fun F _ _ _=>qh F B d9 d13 d14;have okr:=ue (P:=l.prog) (w:=w) (base:=base) F11 k11 b11 m11 F12 k12 b12 m12 F13 k13 b13 m13 F14 k14 b14 m14 B d9 d10 d16 d14 d15 20;have d20:nS l.prog w (Hd.bt h) mg base:=⟨f11,_,okr.1,k11,b11,m11⟩;have d19:tT l.prog w (Hd.bt h) mg base:=⟨f12,_,okr.2.1,k12,b12,m12⟩;have d18:oz l.prog w (Hd.bt h) mg base:=⟨f13,_,okr.2.2.1,k13,b13,m13⟩;have d17:lW l.prog w (Hd.bt h) mg base:=⟨f14,_,okr.2.2.2,k14,b14,m14⟩;have d21:iD l.prog w (Hd.bt h) mg base:=Hd.bZ T kN (fun F=>F.binds fun _ _ _ _ _ _=>Hd.u3 (fun _ _ _=>rfl)) fun F _ _ _=>lR F B d12 d20 d10;have d22:nT l.prog w (Hd.bt h) mg base:=Hd.bZ T pZ (fun F=>F.binds fun _ _ _ _ _ _=>Hd.u1 (fun _=>rfl)) fun F _ _ _=>rG F B d21 d10;have d23:dS l.prog w (Hd.bt h) mg base:=Hd.bZ T ji (fun F=>F.binds fun _ _ _ _ _ _=>Hd.u1 (fun _=>rfl)) fun F _ _ _=>j3 F B;have d24:gb l.prog w (Hd.bt h) mg base:=Hd.bZ T jk (fun F=>F.binds fun _ _ _ _ _ _=>Hd.u1 (fun _=>rfl)) fun F _ _ _=>j4 F B d23;have d25:lM l.prog w (Hd.bt h) mg base:=Hd.bZ T oa (fun F=>F.binds fun _ _ _ _ _ _=>Hd.u1 (fun _=>rfl)) fun F _ _ _=>qj F B d23 d24;have d26:f9 l.prog w (Hd.bt h) mg base:=Hd.bZ T jj (fun F=>F.binds fun _ _ _ _ _ _=>Hd.u2 (fun _ _=>rfl)) fun F k b m=>fw F B k b m d25 8;have d27:kz l.prog w (Hd.bt h) mg base:=Hd.bZ T mO (fun F=>F.binds fun _ _ _ _ _ _=>Hd.u1 (fun _=>rfl)) fun F _ _ _=>oo F B d26;have d29:iE l.prog w (Hd.bt h) mg base:=Hd.bZ T kO (fun F=>F.binds fun _ _ _ _ _ _=>Hd.u1 (fun _=>rfl)) fun F _ _ _=>lS F B;have d28:ku l.prog w (Hd.bt h) mg base:=Hd.bZ T mN (fun F=>F.binds fun _ _ _ _ _ _=>Hd.u1 (fun _=>rfl)) fun F _ _ _=>om F B;have d31:lJ l.prog w (Hd.bt h) mg base:=Hd.bZ T n3 (fun F=>F.binds fun _ _ _ _ _ _=>Hd.u2 (fun _ _=>rfl)) fun F _ _ _=>qf F B;have d30:nR l.prog w (Hd.bt h) mg base:=Hd.bZ T pX (fun F=>F.binds fun _ _ _ _ _ _=>Hd.u2 (fun _ _=>rfl)) fun F _ _ _=>rE F B;have d0:lh l.prog w (Hd.bt h) mg base:=Hd.bZ T rm (fun F=>F.binds fun _ _ _ _ _ _=>Hd.u1 (fun _=>rfl)) fun F _ _ _=>sS F B;have d2:jI l.prog w (Hd.bt h) mg base:=Hd.bZ T pU (fun F=>F.binds fun _ _ _ _ _ _=>Hd.u2 (fun _ _=>rfl)) fun F k b m=>ly F B k b m d0 8;have d3:lI l.prog w (Hd.bt h) mg base:=Hd.bZ T nY (fun F=>F.binds fun _ _ _ _ _ _=>Hd.u1 (fun _=>rfl)) fun F _ _ _=>qc F B d2;have d4:nP l.prog w (Hd.bt h) mg base:=Hd.bZ T pT (fun F=>F.binds fun _ _ _ _ _ _=>Hd.u2 (fun _ _=>rfl)) fun F _ _ _=>rC F B d3;have d1:nQ l.prog w (Hd.bt h) mg base:=Hd.bZ T pV (fun F=>F.binds fun _ _ _ _ _ _=>Hd.u1 (fun _=>rfl)) fun F _ _ _=>rD F B;have d5:gU l.prog w (Hd.bt h) mg base:=Hd.bZ T jU (fun F=>F.binds fun _ _ _ _ _ _=>Hd.u2 (fun _ _=>rfl)) fun F _ _ _=>kS F B d4 d1;have d6:ko l.prog w (Hd.bt h) mg base:=Hd.bZ T mK (fun F=>F.binds fun _ _ _ _ _ _=>Hd.u3 (fun _ _ _=>rfl)) fun F _ _ _=>og F B d5 d0 d2;exact zg (Bo F33 B d7 d22 d27 d29 d28 d31 d30 d6) hF
end Mi
local macro_rules | `(tactic| walk_at "o") => `(tactic| with_reducible first
 | refine Sm.iV ?_ | refine Sm.vP ?_ | refine Sm.wB ?_ | refine Sm.zL ?_ | refine Sm.Ax ?_ | refine Sm.wC ?_ | refine Sm.wA ?_ | refine Sm.Ar ?_ | refine Sm.CP ?_ | refine Sm.As ?_ | refine Sm.yB ?_
 | refine Sm.sO ?_ | refine Sm.D0 ?_ | refine Sm.r_k ?_ | refine Sm.Aw ?_ | refine Sm.p6 ?_ | refine Sm.t9 ?_ | refine Sm.D5 ?_ | refine Sm.p5 ?_ | refine Sm.D4 ?_ | refine Sm.D8 ?_ | refine Sm.D9 ?_
 | refine Sm.wH ?_ | refine Sm.wy ?_ | refine Sm.sN ?_ | refine Sm.wz ?_ | refine Sm.CM ?_ | refine Sm.CV ?_ | refine Sm.D3 ?_ | refine Sm.CS ?_
 | refine Sm.D2 ?_ | refine Sm.CN ?_ | refine Sm.CO ?_ | refine Sm.D7 ?_ | refine Sm.Av ?_ | refine Sm.wF ?_ | refine Sm.yC ?_ | refine Sm.CU ?_ | refine Sm.Ay ?_
 | refine Sm.Em ?_ | refine Sm.Eo ?_ | refine Sm.DN ?_ | refine Sm.DP ?_ | refine Sm.DO ?_ | refine Sm.Eu ?_ | refine Sm.Ew ?_ | refine Sm.Ex ?_ | refine Sm.Et ?_)
local macro_rules | `(tactic| walk_at "g") => `(tactic| (repeat (first | walk_at "o" | with_reducible refine Sm.wx ?_ | with_reducible refine Sm.zK ?_)); (try dsimp only))
local macro_rules | `(tactic| walk_at "r") => `(tactic| (repeat (first | walk_at "o" | with_reducible refine Sm.wx ?_ | with_reducible refine Sm.zK ?_ | with_reducible refine Sm.Cf ?_ | with_reducible refine Sm.Ci ?_ | with_reducible refine Sm.w_add ?_ | with_reducible refine Sm.w_sub ?_ | with_reducible refine Sm.w_lt ?_ | with_reducible refine Sm.DK ?_ | with_reducible refine Sm.DL ?_ | with_reducible refine Sm.DM ?_ | with_reducible refine Sm.Cr ?_ | with_reducible refine Sm.Ck ?_ | with_reducible refine Sm.Cq ?_ | with_reducible refine Sm.Cj ?_ | with_reducible refine Sm.Co ?_ | with_reducible refine Sm.Cn ?_ | with_reducible refine Sm.Cm ?_ | with_reducible refine Sm.zR ?_ | with_reducible refine Sm.zS ?_ | with_reducible refine Sm.sP ?_)); (try dsimp only))
namespace Mi
open PySem Sm
theorem jf {a b:Int} {h:MH} {Q:D×MH->Prop} (hb:0 < b) (q:Q (.int (a % b),h)):Rn (nu (.int a) (.int b) h) Q:=⟨_,by unfold nu;dsimp only;rw [if_pos hb],q⟩
theorem An {a b:Int} {h:MH} {Q:D×MH->Prop} (hb:0 < b) (hb2:b≤10^40) (q:Q (.int (a / b),h)):Rn (xB (.int a) (.int b) h) Q:=⟨_,by unfold xB;dsimp only;rw [if_pos ⟨hb,hb2⟩],q⟩
theorem kJ {a b:Int} {h:MH} {Q:D×MH->Prop} (hb:j5 a b=true) (q:Q (.int (a*b),h)):Rn (fX (.int a) (.int b) h) Q:=⟨_,by show (if j5 a b then _ else _)=_;rw [if_pos hb],q⟩
theorem mul_r {a b:Int} (h1:-(2^64) < b) (h2:b < 2^64):j5 a b=true:=by unfold j5;simp only [Bool.or_eq_true,Bool.and_eq_true,decide_eq_true_eq];exact .inr ⟨h1,h2⟩
theorem xg {a b:Int} (h1:-(2^64) < a) (h2:a < 2^64):j5 a b=true:=by unfold j5;simp only [Bool.or_eq_true,Bool.and_eq_true,decide_eq_true_eq];exact .inl ⟨h1,h2⟩
theorem va {h:MH} {s c:Nat} {cs:List Int} {n t:Int} (hs:h[s]?=some (.lst [.int n,.ob c,.int t])) (hc:h[c]?=some (.lst (cs.map D.int))) (ne:c≠s) (t0:0≤t) (tB:t < 2^60):
  Rn (fD [.ob s] h) fun p=>∃n',0≤n'∧p=(.non,h.set s (.lst [.int n',.ob c,.int (t+1)])):=by
 have hl:s < h.length:=(List.getElem?_eq_some_iff.mp hs).1;generalize hH:h.set s (.lst [.int n,.ob c,.int (t+1)])=H;have Hs:H[s]?=some (.lst [.int n,.ob c,.int (t+1)]):=by rw [←hH];exact List.getElem?_set_self hl
 have Hc:H[c]?=some (.lst (cs.map D.int)):=by rw [←hH,List.getElem?_set_ne (Ne.symm ne)];exact hc
 have set0:∀v:Int,ot (.ob s) (.int 0) (.int v) H=some (h.set s (.lst [.int v,.ob c,.int (t+1)])):=fun v=>by
  rw [kc (p:=0) Hs rfl,←hH,List.set_set];rfl
 have e3:ot (.ob s) (.int 2) (.int (t+1)) h=some H:=by rw [kc (p:=2) hs rfl,←hH];rfl
 have e4:c5 [.ob c] H=some (.int cs.length,H):=by rw [qx Hc,List.length_map]
 refine bV ?_;walk_at "g";refine rv (fK hs rfl) ?_;walk_at "g";refine rv (fK hs rfl) ?_;walk_at "g";refine rv rfl ?_;walk_at "g";refine rv e3 ?_;walk_at "g";refine rv (pd Hc) ⟨_,rfl,fun hne=>?pos,fun hne=>?neg⟩
 case' pos=>
  have hpos:0 < cs.length:=by cases cs with | nil=>simp at hne | cons _ _=>simp
  walk_at "g";refine rv e4 (jf (by lia) ?_);obtain ⟨z,hz⟩:=x9 cs (t % (cs.length:Int)) (Int.emod_nonneg _ (by lia)) (Int.emod_lt_of_pos _ (by lia));refine rv (fK Hc hz) ?_
 all_goals
  walk_at "g";refine rv e4 (rv rfl ⟨_,rfl,?_⟩);refine (fun mix=>⟨fun c1=>?thenA,fun _=>⟨fun z=>(nomatch z),fun _=>mix⟩⟩) ?thenB
  case thenA=>
   walk_at "g";refine rv rfl ?_;walk_at "g";refine rv rfl (rv rfl ⟨_,rfl,fun c2=>?_,fun _=>mix⟩);walk_at "g";refine rv rfl ?_;walk_at "g";refine rv (set0 _) ?_;walk_at "g";exact ⟨_,by split <;> lia,rfl⟩
  case thenB=>
   walk_at "g";refine jf (by decide) ?_;walk_at "g";refine kJ (xg (by decide) (by decide)) ?_;walk_at "g";refine kJ (mul_r (by lia) (by lia)) (rv rfl ?_);walk_at "g";refine rv rfl ?_;walk_at "g";refine kJ (mul_r (by decide) (by decide)) ?_;walk_at "g";refine jf (by decide) ?_;walk_at "g";refine kJ (xg (Int.lt_of_lt_of_le (by decide) (Int.emod_nonneg _ (by decide))) (Int.lt_trans (Int.emod_lt_of_pos _ (by decide)) (by decide))) ?_;walk_at "g";refine jf (by decide) ?_;walk_at "g";refine kJ (mul_r (by decide) (by decide)) ?_;walk_at "g";refine rv rfl ?_;walk_at "g";refine rv rfl ?_;walk_at "g";refine jf (by decide) ?_;walk_at "g";refine rv rfl (rv rfl ?_);walk_at "g";refine rv (set0 _) ?_;walk_at "g";exact ⟨_,Int.add_nonneg (Int.emod_nonneg _ (by decide)) (by decide),rfl⟩
structure St (s c:Nat) (cs:List Int) (R:Nat) (h:MH):Prop where
 st:∃n t:Int,h[s]?=some (.lst [.int n,.ob c,.int t])∧0≤n∧0≤t∧t+R≤2^60
 ce:h[c]?=some (.lst (cs.map D.int))
 ne:c≠s
def But (s:Nat) (h h':MH):Prop:=h'.length=h.length∧∀k,k≠s->h'[k]?=h[k]?
theorem But.refl (s:Nat) (h:MH):But s h h:=⟨rfl,fun _ _=>rfl⟩
theorem But.trans {s:Nat} {h h1 h2:MH} (a:But s h h1) (b:But s h1 h2):But s h h2:=⟨b.1.trans a.1,fun k n=>(b.2 k n).trans (a.2 k n)⟩
theorem But.set {s:Nat} {h:MH} {o:MO}:But s h (h.set s o):=⟨List.length_set,fun k n=>List.getElem?_set_ne (Ne.symm n)⟩
section
variable {s c R:Nat} {cs:List Int} {h:MH}
theorem St.le {R':Nat} (S:St s c cs R h) (hB:R'≤R):St s c cs R' h:=by
 obtain ⟨n,t,e,a,b,d⟩:=S.st;exact ⟨⟨n,t,e,a,b,by lia⟩,S.ce,S.ne⟩
theorem St.dn (k:Nat) (S:St s c cs (R+k) h):St s c cs R h:=S.le (Nat.le_add_right _ _)
theorem St.set {R':Nat} {n t:Int} (S:St s c cs R h) (h1:0≤n) (h2:0≤t) (h3:t+R'≤2^60):St s c cs R' (h.set s (.lst [.int n,.ob c,.int t])):=by
 obtain ⟨n0,t0,e,_⟩:=S.st;exact ⟨⟨n,t,List.getElem?_set_self (List.getElem?_eq_some_iff.mp e).1,h1,h2,h3⟩,by rw [List.getElem?_set_ne (Ne.symm S.ne)];exact S.ce,S.ne⟩
theorem St.more (S:St s c cs R h) (g:MH):St s c cs R (h++g):=by
 obtain ⟨n,t,e,r⟩:=S.st;exact ⟨⟨n,t,by rw [List.getElem?_append_left (List.getElem?_eq_some_iff.mp e).1];exact e,r⟩,by rw [List.getElem?_append_left (List.getElem?_eq_some_iff.mp S.ce).1];exact S.ce,S.ne⟩
theorem St.off {k:Nat} {o:MO} (S:St s c cs R h) (h1:k≠s) (h2:k≠c):St s c cs R (h.set k o):=by
 obtain ⟨n,t,e,r⟩:=S.st;exact ⟨⟨n,t,by rw [List.getElem?_set_ne h1];exact e,r⟩,by rw [List.getElem?_set_ne h2];exact S.ce,S.ne⟩
theorem St.lt (S:St s c cs R h):s < h.length∧c < h.length:=by
 obtain ⟨n,t,e,r⟩:=S.st;exact ⟨(List.getElem?_eq_some_iff.mp e).1,(List.getElem?_eq_some_iff.mp S.ce).1⟩
structure Sb (s c:Nat) (cs:List Int) (h0:MH) (R:Nat) (h:MH):Prop where
 S:St s c cs R h
 b:But s h0 h
theorem St.sb (S:St s c cs R h):Sb s c cs h R h:=⟨S,But.refl _ _⟩
theorem Sb.dn {h0:MH} (k:Nat) (A:Sb s c cs h0 (R+k) h):Sb s c cs h0 R h:=⟨A.S.dn k,A.b⟩
theorem Sb.le {h0:MH} {R':Nat} (A:Sb s c cs h0 R h) (hR:R'≤R):Sb s c cs h0 R' h:=⟨A.S.le hR,A.b⟩
theorem Sb.at_ {h0:MH} {k:Nat} {o:MO} (A:Sb s c cs h0 R h) (e:h0[k]?=some o) (n:k≠s):h[k]?=some o:=(A.b.2 k n).trans e
variable {h0:MH}
theorem eL {m:Int} {Q:D×MH->Prop} (A:Sb s c cs h0 (R+1) h) (m0:0 < m) (m1:m≤10^40) (k:∀(r:Int) (h1:MH),0≤r->r < m->Sb s c cs h0 R h1->Q (.int r,h1)):Rn (aO [.ob s,.int m] h) Q:=by
 have S:=A.S;obtain ⟨n,t,hs,n0,t0,tB⟩:=S.st;refine bV ?_;walk_at "g";refine rv (fK hs rfl) ?_;walk_at "g";refine rv rfl ⟨_,rfl,fun _=>?pos,fun _=>?neg⟩
 case' pos=>
  walk_at "g";obtain ⟨p,ep,n',n0',rfl⟩:=va hs S.ce S.ne t0 (by lia);refine rv ep ?_;have S1:St s c cs R (h.set s (.lst [.int n',.ob c,.int (t+1)])):=S.set n0' (by lia) (by lia);have b1:But s h (h.set s (.lst [.int n',.ob c,.int (t+1)])):=But.set
 case' neg=>
  have S1:St s c cs R h:=S.dn 1;have b1:But s h h:=But.refl s h
 all_goals
  generalize h.set s (MO.lst [D.int _,D.ob c,D.int (t+1)])=h1 at*;obtain ⟨n2,t2,hs2,n02,t02,tB2⟩:=S1.st;walk_at "g";refine rv (fK hs2 rfl) ?_;walk_at "g";refine jf m0 ?_;walk_at "g";refine rv (fK hs2 rfl) ?_;walk_at "g";refine An m0 m1 ?_;walk_at "g";refine rv (kc (p:=0) hs2 rfl) ?_;walk_at "g";exact k _ _ (Int.emod_nonneg _ (by lia)) (Int.emod_lt_of_pos _ m0) ⟨S1.set (Int.ediv_nonneg n02 (by lia)) t02 tB2,A.b.trans (b1.trans But.set)⟩
theorem zC {d:D} {xs:List D} {Q:D×MH->Prop} (A:Sb s c cs h0 (R+1) h) (hd:d=.lv xs∨d=.tup xs) (l0:0 < xs.length) (l1:xs.length≤1000000) (k:∀(x:D) (h1:MH),x∈xs->Sb s c cs h0 R h1->Q (x,h1)):Rn (aN [.ob s,d] h) Q:=by
 refine bV ?_;walk_at "g";have e1:c5 [d] h=some (.int xs.length,h):=by rcases hd with rfl | rfl <;> rfl
 refine rv e1 ?_;walk_at "g";refine eL A (by lia) (by lia) fun r h' r0 r1 A1=>?_;obtain ⟨v,e3,hv⟩:=x6 r0 r1;have e4:fIx d (.int r) h'=some (v,h'):=by rcases hd with rfl | rfl <;> simp only [fIx,c9,cZ,Option.bind_some,e3,Option.map_some]
 refine rv e4 ?_;walk_at "g";exact k v h' hv A1
theorem iZ {is:List Int} {Q:D×MH->Prop} (P:Int->Prop) (hP:∀i∈is,P i) (A:Sb s c cs h0 (R+1) h) (k:∀(i:Int) (h1:MH),P i->i∈is->Sb s c cs h0 R h1->Q (.int i,h1)) (l0:0 < is.length:=by simp) (l1:is.length≤1000:=by simp):Rn (aN [.ob s,.lv (is.map D.int)] h) Q:=
 zC A (.inl rfl) (by rw [List.length_map];exact l0) (by rw [List.length_map];lia) fun x h1 hx A1=>by
  obtain ⟨i,hi,rfl⟩:=List.mem_map.mp hx;exact k i h1 (hP i hi) hi A1
end
theorem tI (ns:List Int) (hn:ns.length≤63) (R:Nat) (hR:R≤2^60):∃cs:List Int,dA [.ro (ns.map D.int)] []=some (.ob 1,[.lst (cs.map D.int),.lst [.int 0,.ob 0,.int 0]])∧St 1 0 cs R [.lst (cs.map D.int),.lst [.int 0,.ob 0,.int 0]]:=by
 refine ⟨(ns.drop (HT.sIx ns.length 0 none)).take (HT.sIx ns.length ns.length (some 63)-HT.sIx ns.length 0 none),?_,⟨⟨0,0,rfl,by decide,by decide,by lia⟩,rfl,by decide⟩⟩;have e:Rn (dA [.ro (ns.map D.int)] []) fun p=>p=(.ob 1,[.lst (((ns.drop (HT.sIx ns.length 0 none)).take (HT.sIx ns.length ns.length (some 63)-HT.sIx ns.length 0 none)).map D.int),.lst [.int 0,.ob 0,.int 0]]):=by
  refine bV ?_;walk_at "g";refine Au ?_;walk_at "g";refine ⟨_,rfl,rv rfl ?_⟩;walk_at "g";refine ⟨_,_,_,rfl,rfl,?_⟩;walk_at "g";simp only [cutD,List.length_map,List.map_drop,List.map_take,List.length_nil,List.nil_append,List.cons_append,List.length_cons]
 obtain ⟨p,ep,rfl⟩:=e;exact ep
end Mi
namespace Mi
open PySem Sm L2
theorem bu {a b:Str} {h:MH} (hl:a.length+b.length≤10000):aG (.str a) (.str b) h=some (.str (a++b),h):=by
 show (if a.length+b.length≤sizeLine then some (D.str (a++b),h) else none)=_;rw [if_pos (by rw [show sizeLine=16777216 from rfl];lia)]
theorem xA {a:Str} {h:MH} (hl:a.length≤10000):c5 [.str a] h=some (.int a.length,h):=by
 show (if a.length≤sizeLine then some (D.int a.length,h) else none)=_;rw [if_pos (by rw [show sizeLine=16777216 from rfl];lia)]
theorem rZ {a:Str} {lo hi:Option Int} {h:MH} (hl:a.length≤10000):r8 (.str a) lo hi h=some (.str (Txt.slice a lo hi),h):=by
 show (if a.length≤sizeLine then some (D.str (Txt.slice a lo hi),h) else none)=_;rw [if_pos (by rw [show sizeLine=16777216 from rfl];lia)]
noncomputable def nK (z:Str) (i:Int):Str:=match atI z.cps.toList i with
 | some c=>⟨#[c]⟩
 | none=>""
theorem zp {z:Str} {i:Int} {h:MH} (hl:z.length≤10000) (h0:0≤i) (h1:i < z.cps.toList.length):(nK z i).length=1∧fIx (.str z) (.int i) h=some (.str (nK z i),h):=by
 obtain ⟨v,e,_⟩:=x6 (xs:=z.cps.toList) h0 h1;have e1:nK z i=⟨#[v]⟩:=by unfold nK;rw [e]
 rw [e1];refine ⟨rfl,?_⟩;show (if z.length≤sizeLine then (atI z.cps.toList i).map fun c=>(D.str ⟨#[c]⟩,h) else none)=_;rw [if_pos (by rw [show sizeLine=16777216 from rfl];lia),e];rfl
noncomputable def dY:Str:="abcdefghijklmnopqrstuvwxyz"
theorem jz {i:Int} {h:MH} (h0:0≤i) (h1:i < 26):(nK dY i).length=1∧fIx (.str "abcdefghijklmnopqrstuvwxyz") (.int i) h=some (.str (nK dY i),h):=
 zp (z:=dY) (by decide) h0 (by rw [show (dY.cps.toList.length:Int)=26 by decide];exact h1)
def low (w:Str):Prop:=∀c∈w.cps,97≤c∧c≤122
theorem zd:low "":=fun c hc=>absurd (show c∈(#[]:Array Nat) from hc) (by simp)
theorem qp {a b:Str} (ha:low a) (hb:low b):low (a++b):=by
 intro c hc;have hc':c∈a.cps++b.cps:=hc;rcases Array.mem_append.mp hc' with z | z
 ·exact ha c z
 ·exact hb c z
theorem oS {x:Str} (l u:Option Int) (h:low x):low (Txt.slice x l u):=by
 unfold Txt.slice
 split
 ·exact h
 ·intro c hc;have hc':c∈(List.filterMap (x.cps[·]?) (Builtin.Str.strSliceIndices l u 1 x.length)).toArray:=hc;rw [List.mem_toArray] at hc';obtain ⟨i,_,e⟩:=List.mem_filterMap.mp hc';exact h c (Array.mem_of_getElem? e)
theorem Bx {w:Str} (h:low w):PyData.strOk w=true:=iI.mpr fun c hc=>by have:=(h c hc).2;lia
theorem tj:dY.cps.toList=(List.range 26).map (97+·):=by decide+kernel
theorem qF {i:Int} (h0:0≤i) (h1:i < 26):nK dY i=⟨#[97+i.toNat]⟩:=by
 obtain ⟨n,rfl⟩:=Int.eq_ofNat_of_zero_le h0;have:atI dY.cps.toList (n:Int)=some (97+n):=by
  rw [tj];exact qP (by rw [List.getElem?_map,List.getElem?_range (by lia)];rfl)
 unfold nK;rw [this];rfl
theorem sm {i:Int} (h0:0≤i) (h1:i < 26):low (nK dY i):=by
 rw [qF h0 h1];intro c hc;have:c=97+i.toNat:=by simpa using hc
 lia
theorem rf {x:Str} {j:Int} (h0:0≤j):(Txt.slice x none (some j)).length≤j.toNat:=by
 have key:(Builtin.Str.strSliceIndices none (some j) 1 x.length).length≤j.toNat:=by
  unfold Builtin.Str.strSliceIndices sliceRange;simp only [show (1:Int) > 0 by decide,if_true,List.length_map,List.length_range]
  (split <;> (try split) <;> (try split) <;> (try simp only [Int.ediv_one]) <;> lia)
 unfold Txt.slice
 split
 ·next z=>simp at z;have:x.cps.size=x.length:=rfl;lia
 ·show (List.filterMap _ (Builtin.Str.strSliceIndices none (some j) 1 x.length)).toArray.size≤_;rw [List.size_toArray];exact Nat.le_trans (List.length_filterMap_le _ _) key
theorem q9 {x:Str} {j:Int} (h0:0≤j):(Txt.slice x (some j) none).length≤x.length-j.toNat:=by
 have key:(Builtin.Str.strSliceIndices (some j) none 1 x.length).length≤x.length-j.toNat:=by
  unfold Builtin.Str.strSliceIndices sliceRange;simp only [show (1:Int) > 0 by decide,if_true,List.length_map,List.length_range]
  (split <;> (try split) <;> (try split) <;> (try simp only [Int.ediv_one]) <;> lia)
 unfold Txt.slice
 split
 ·next z=>simp at z;have:x.cps.size=x.length:=rfl;lia
 ·show (List.filterMap _ (Builtin.Str.strSliceIndices (some j) none 1 x.length)).toArray.size≤_;rw [List.size_toArray];exact Nat.le_trans (List.length_filterMap_le _ _) key
theorem tQ {a b x y:Str} (e:a++x++b=a++y++b):x=y:=by
 have e1:(a.cps++x.cps)++b.cps=(a.cps++y.cps)++b.cps:=congrArg Str.cps e;have e2:=congrArg Array.toList e1;simp only [Array.toList_append] at e2;have e3:=List.append_cancel_left (List.append_cancel_right e2);cases x;cases y;exact congrArg Str.mk (Array.toList_inj.mp e3)
noncomputable def wordAt (stem:Str) (at_ first stride:Int) (k:Int):Str:=Txt.slice stem none (some at_)++nK dY ((first+stride*k) % 26)++Txt.slice stem (some at_) none
theorem vJ {stem:Str} {at_ first stride:Int} {k j:Nat} (hs:stride∈[1,3,5,7,9,11]) (hk:k < 6) (hj:j < 6) (e:wordAt stem at_ first stride k=wordAt stem at_ first stride j):k=j:=by
 have e1:=tQ (show Txt.slice stem none (some at_)++_++Txt.slice stem (some at_) none=Txt.slice stem none (some at_)++_++_ from e);rw [qF (Int.emod_nonneg _ (by decide)) (Int.emod_lt_of_pos _ (by decide)),qF (Int.emod_nonneg _ (by decide)) (Int.emod_lt_of_pos _ (by decide))] at e1;have e2:97+((first+stride*k) % 26).toNat=97+((first+stride*j) % 26).toNat:=by injection e1 with e1;injection e1 with e1;injection e1
 have e3:(first+stride*k) % 26=(first+stride*j) % 26:=by
  have a1:=Int.emod_nonneg (first+stride*k) (show (26:Int)≠0 by decide);have a2:=Int.emod_nonneg (first+stride*j) (show (26:Int)≠0 by decide)
  lia
 simp at hs;rcases hs with rfl | rfl | rfl | rfl | rfl | rfl <;> lia
theorem qK {h:MH} {s c R:Nat} {cs:List Int} {m:Int} {h0:MH} {Q:D×MH->Prop} (A:Sb s c cs h0 (R+20) h) (m0:0≤m) (m1:m≤6)
  (kk:∀(ws:List Str) (h1:MH),ws.length=m.toNat->(∀w∈ws,1≤w.length∧w.length≤7∧low w)->ws.Nodup->Sb s c cs h0 R h1->Q (.lv (ws.map D.str),h1)):Rn (cR [.ob s,.int m] h) Q:=by
 refine bV ?_;walk_at "g";refine fH ?_;walk_at "g";refine iZ (is:=[0,1,1,2,3,6]) (fun i=>0≤i∧i≤6) (by decide) A fun k h1 hk _ A1=>?_;walk_at "g";refine ⟨k,rfl,by lia,by lia,?_⟩;refine cT (fun i δ h'=>∃stem d4,δ=[some (.ob s),some (.int m),some (.str "abcdefghijklmnopqrstuvwxyz"),some (.str stem),d4,none,none,none]∧stem.length≤i∧low stem∧Sb s c cs h0 (R+19-i) h')
  ⟨"",_,rfl,Nat.le_refl _,zd,A1⟩ (fun _ _ _ _ _=>rfl) ?_ ?_
 ·rintro i x δ h2 hx ⟨stem,d4,rfl,hst,hok,A2⟩;have hi:i < k.toNat:=by
   have:=(List.getElem?_eq_some_iff.mp hx).1
   simpa using this
  rw [show R+19-i=R+19-(i+1)+1 by lia] at A2;walk_at "g";refine eL A2 (by decide) (by decide) fun r h3 r0 r1 A3=>?_;walk_at "g";obtain ⟨hc,e4⟩:=jz (h:=h3) r0 r1;refine rv e4 ?_;walk_at "g";refine rv (bu (by lia)) ?_;walk_at "g";exact ⟨stem++nK dY r,_,rfl,by rw [PySem.Str.length_append];lia,qp hok (sm r0 r1),A3⟩
 ·rintro δ h2 ⟨stem,d4,rfl,hst,hok,A2⟩;rw [List.length_map,List.length_range] at hst A2;have A2:Sb s c cs h0 (R+3) h2:=A2.le (by lia);walk_at "g";refine rv (xA (by lia)) ?_;walk_at "g";refine rv (a:=(.int ((stem.length:Int)+1),h2)) rfl ?_;walk_at "g";refine eL A2 (by lia) (by lia) fun at_ h3 a0 a1 A3=>?_
  walk_at "g";refine eL A3 (by decide) (by decide) fun first h4 f0 f1 A4=>?_
  walk_at "g";refine iZ (is:=[1,3,5,7,9,11]) (fun i=>0≤i∧i≤11) (by decide) A4 fun stride h5 ht tm A5=>?_;obtain ⟨t0,t1⟩:=ht;walk_at "g";refine fH ?_;walk_at "g";refine ⟨m,rfl,by lia,by lia,?_⟩;have hw:∀k:Int,1≤(wordAt stem at_ first stride k).length∧(wordAt stem at_ first stride k).length≤7∧low (wordAt stem at_ first stride k):=by
   intro k;have c0:=Int.emod_nonneg (first+stride*k) (show (26:Int)≠0 by decide);have c1:=Int.emod_lt_of_pos (first+stride*k) (show (0:Int) < 26 by decide);obtain ⟨hc,e⟩:=jz (i:=(first+stride*k) % 26) (h:=[]) c0 c1;have s1:=rf (x:=stem) a0;have s2:=q9 (x:=stem) a0;have s3:low (wordAt stem at_ first stride k):=qp (qp (oS _ _ hok) (sm c0 c1)) (oS _ _ hok);refine (fun (z:_∧_)=>⟨z.1,z.2,s3⟩) ?_;unfold wordAt;rw [PySem.Str.length_append,PySem.Str.length_append]
   lia
  refine rv (p7 rfl (fun x=>match x with | .int k=>some (.str (wordAt stem at_ first stride k)) | _=>none) (fun δ=>∃d0,δ=[d0,some (.int at_),some (.int first),some (.str "abcdefghijklmnopqrstuvwxyz"),some (.str stem),some (.int stride)]) ⟨_,rfl⟩ ?_) ⟨?_,?_⟩
  ·rintro x hx δ ⟨d0,rfl⟩;obtain ⟨k,hk,rfl⟩:=List.mem_map.mp hx;refine rv rfl ⟨rfl,rv rfl ⟨rfl,⟨_,rfl⟩,fun _=>⟨_,rfl,?_⟩,fun z=>(nomatch z)⟩⟩;refine sO (sO (sP ?_));walk_at "g";refine ⟨_,rfl,rv (rZ (a:=stem) (by lia)) ?_⟩;walk_at "g";refine kJ (xg (by lia) (by lia)) ?_;refine rv (a:=(.int (first+stride*(k:Int)),h5)) rfl ?_;walk_at "g";refine jf (by decide) ?_;obtain ⟨hc,e⟩:=jz (i:=(first+stride*(k:Int)) % 26) (h:=h5) (Int.emod_nonneg _ (by decide)) (Int.emod_lt_of_pos _ (by decide));have s1:=Txt.slice_le stem none (some at_);have s2:=Txt.slice_le stem (some at_) none;refine rv e (rv (bu (by lia)) ?_);refine sP ?_;walk_at "g";refine ⟨_,rfl,?_⟩;walk_at "g";refine rv (rZ (a:=stem) (by lia)) (rv (bu (by rw [PySem.Str.length_append];lia)) ?_);rfl
  ·rw [List.filterMap_map];exact Nat.le_trans (List.length_filterMap_le _ _) (by rw [List.length_range,show sizeLine=16777216 from rfl];lia)
  ·walk_at "g";rw [show List.filterMap (fun x=>match x with | D.int k=>some (D.str (wordAt stem at_ first stride k)) | _=>none) ((List.range m.toNat).map fun (k:Nat)=>D.int k)=((List.range m.toNat).map fun (k:Nat)=>wordAt stem at_ first stride (k:Int)).map D.str by
    rw [List.filterMap_map,List.map_map];exact congrFun (List.filterMap_eq_map (f:=D.str∘fun (k:Nat)=>wordAt stem at_ first stride (k:Int))) _]
   refine kk _ h5 (by simp) (fun w hw'=>?_) ?_ A5
   ·obtain ⟨k,_,rfl⟩:=List.mem_map.mp hw';exact hw k
   ·rw [List.nodup_iff_pairwise_ne,List.pairwise_map];refine (List.nodup_range (n:=m.toNat)).imp_of_mem fun {a b} ha hb hab e=>hab ?_;have:=List.mem_range.mp ha;have:=List.mem_range.mp hb;exact vJ tm (by lia) (by lia) e
theorem St.cut {s c:Nat} {cs:List Int} {B:Nat} {hb g:MH} (S:Mi.St s c cs B (hb++g)) (h1:s < hb.length) (h2:c < hb.length):Mi.St s c cs B hb:=by
 obtain ⟨n,t,e,r⟩:=S.st;have e2:=S.ce;rw [List.getElem?_append_left h1] at e;rw [List.getElem?_append_left h2] at e2;exact ⟨⟨n,t,e,r⟩,e2,S.ne⟩
def Cl (h:MH):Prop:=∀o∈h,clO h.length o=true
theorem uB (n:Nat):∀js:List Int,clL n (js.map D.int)=true
 | []=>rfl
 | j::r=>by rw [List.map_cons];show (clD n (.int _)&&clL n _)=true;rw [uB n r];rfl
theorem Cl.but {s c:Nat} {cs:List Int} {B:Nat} {h h':MH} (C:Cl h) (S:Mi.St s c cs B h') (b:But s h h'):Cl h':=by
 intro o ho;obtain ⟨k,hk⟩:=List.mem_iff_getElem?.mp ho
 by_cases z:k=s
 ·subst z;obtain ⟨n,t,e,_⟩:=S.st;rw [e] at hk;cases hk;show (true&&(decide (c < h'.length)&&(true&&true)))=true;rw [decide_eq_true S.lt.2];rfl
 ·rw [b.2 k z] at hk;rw [b.1];exact C o (List.mem_of_getElem? hk)
theorem m5 {h hb g:MH} {d:D} (hl:hb.length=h.length) (C:Cl hb) (h1:∀n,d≠.ob n) (h2:clD h.length d=true):leave h d (hb++g)=some (d,hb):=by
 have h3:sE h.length (hb++g) d=d:=by
  cases d with
  | ob n=>exact absurd rfl (h1 n)
  | _=>rfl
 unfold leave;rw [h3,←hl,List.take_append_of_le_length (Nat.le_refl _),List.take_length,hl,h2];have:(hb.all (clO h.length))=true:=by
  rw [List.all_eq_true];intro o ho;rw [←hl];exact C o ho
 rw [this,Bool.or_true];rfl
theorem Cl.add {h:MH} (C:Cl h) {o:MO} (ho:clO (h.length+1) o=true) (up:∀o∈h,clO h.length o=true->clO (h.length+1) o=true):Cl (h++[o]):=by
 intro x hx;rw [List.length_append,List.length_singleton];rcases List.mem_append.mp hx with z | z
 ·exact up x z (C x z)
 ·rw [List.mem_singleton.mp z];exact ho
mutual
theorem xS {n m:Nat} (hm:n≤m):∀d:D,clD n d=true->clD m d=true
 | .non,_=>rfl
 | .bl _,_=>rfl
 | .int _,_=>rfl
 | .str _,_=>rfl
 | .ty _,_=>rfl
 | .ob k,h=>by simp only [clD,decide_eq_true_eq] at h ⊢;lia
 | .tup xs,h=>by simp only [clD] at h ⊢;exact nJ hm xs h
 | .lv xs,h=>by simp only [clD] at h ⊢;exact nJ hm xs h
 | .ro xs,h=>by simp only [clD] at h ⊢;exact nJ hm xs h
 | .dv xs,h=>by simp only [clD] at h ⊢;exact tN hm xs h
theorem nJ {n m:Nat} (hm:n≤m):∀d:List D,clL n d=true->clL m d=true
 | [],_=>rfl
 | x::r,h=>by
  simp only [clL,Bool.and_eq_true] at h ⊢;exact ⟨xS hm x h.1,nJ hm r h.2⟩
theorem tN {n m:Nat} (hm:n≤m):∀d:List (Key×D),clK n d=true->clK m d=true
 | [],_=>rfl
 | (_,x)::r,h=>by
  simp only [clK,Bool.and_eq_true] at h ⊢;exact ⟨xS hm x h.1,tN hm r h.2⟩
end
theorem BZ {n m:Nat} (hm:n≤m) (o:MO) (h:clO n o=true):clO m o=true:=by
 cases o with
 | lst xs=>exact nJ hm xs h
 | dct xs=>exact tN hm xs h
theorem Cl.snoc {h:MH} (C:Cl h) {o:MO} (ho:clO (h.length+1) o=true):Cl (h++[o]):=C.add ho fun x _ z=>BZ (Nat.le_succ _) x z
theorem Cl.set {h:MH} (C:Cl h) {n:Nat} {o:MO} (ho:clO h.length o=true):Cl (h.set n o):=by
 intro x hx;rw [List.length_set];rcases List.mem_or_eq_of_mem_set hx with z | z
 ·exact C x z
 ·rw [z];exact ho
end Mi
namespace Sm
open PySem L2
theorem uD {α:Type} (f:α->Bool):∀(l:List α),vD (l.map fun x=>D.bl (f x))=some (l.map f)
 | []=>rfl
 | x::r=>by show (vD (r.map fun x=>D.bl (f x))).map _=_;rw [uD f r];rfl
theorem zr {α:Type} (p:α->Bool) (xs:List α) (h:MH):BN [.lv (xs.map fun x=>.bl (p x))] h=some (.bl (xs.all p),h):=by
 show (vD (xs.map fun x=>D.bl (p x))).map (fun bs=>(D.bl (bs.all id),h))=_;rw [uD];show some (D.bl ((xs.map p).all id),h)=_;rw [List.all_map];rfl
theorem dC {α:Type} {o:Option α} {a:α} (r:Rn o fun p=>p=a):o=some a:=let ⟨_,e,q⟩:=r;by rw [e,q]
theorem zO {xs ys:List D} {h:MH} (hl:xs.length+ys.length≤10000):aG (.tup xs) (.tup ys) h=some (.tup (xs++ys),h):=by
 cases xs with
 | nil=>rfl
 | cons x xs=>
  show (if xs.length+1+ys.length≤sizeLine then some (D.tup (x::xs++ys),h) else none)=_;rw [if_pos (by rw [show sizeLine=16777216 from rfl];rw [List.length_cons] at hl;lia)]
end Sm
namespace Mi
open PySem Sm L2 Pg
noncomputable def wdO (W:Wd) (fl:List Int) (left odd:Int):MO:=.dct [(.inr (Str.ofString "names"),.lv (W.names.map D.str)),(.inr (Str.ofString "deeds"),.lv (W.deeds.map D.str)),(.inr (Str.ofString "params"),.lv (W.params.map fun ps=>.lv (ps.map D.str))),(.inr (Str.ofString "floors"),.lv (fl.map D.int)),(.inr (Str.ofString "left"),.int left),(.inr (Str.ofString "odd"),.int odd)]
structure WdOk (W:Wd) (fl:List Int) (odd:Int):Prop where
 n1:1≤W.names.length
 n2:W.names.length≤6
 d1:1≤W.deeds.length
 d2:W.deeds.length≤6
 pl:W.params.length=W.deeds.length
 p3:∀ps∈W.params,ps.length≤3
 fln:fl.length=W.deeds.length
 f0:∀f∈fl,0≤f∧f < W.names.length
 o0:0≤odd
 o1:odd≤1000
 sn:∀w∈W.names,1≤w.length∧w.length≤7∧low w
 sd:∀w∈W.deeds,1≤w.length∧w.length≤7∧low w
 sp:∀ps∈W.params,∀w∈ps,1≤w.length∧w.length≤7∧low w
 nn:W.names.Nodup
 nd:W.deeds.Nodup
 np:∀ps∈W.params,ps.Nodup
section
variable {h:MH} {wd:Nat} {W:Wd} {fl:List Int} {left odd:Int}
theorem dc (hw:h[wd]?=some (wdO W fl left odd)):fIx (.ob wd) (.str (Str.ofString "names")) h=some (.lv (W.names.map D.str),h):=by simp only [fIx,c9,hw,wdO];rfl
theorem de (hw:h[wd]?=some (wdO W fl left odd)):fIx (.ob wd) (.str (Str.ofString "deeds")) h=some (.lv (W.deeds.map D.str),h):=by simp only [fIx,c9,hw,wdO];rfl
theorem cM (hw:h[wd]?=some (wdO W fl left odd)):fIx (.ob wd) (.str (Str.ofString "params")) h=some (.lv (W.params.map fun ps=>.lv (ps.map D.str)),h):=by simp only [fIx,c9,hw,wdO];rfl
theorem kE (hw:h[wd]?=some (wdO W fl left odd)):fIx (.ob wd) (.str (Str.ofString "floors")) h=some (.lv (fl.map D.int),h):=by simp only [fIx,c9,hw,wdO];rfl
theorem lX (hw:h[wd]?=some (wdO W fl left odd)):fIx (.ob wd) (.str (Str.ofString "left")) h=some (.int left,h):=by simp only [fIx,c9,hw,wdO];rfl
theorem sx (hw:h[wd]?=some (wdO W fl left odd)):fIx (.ob wd) (.str (Str.ofString "odd")) h=some (.int odd,h):=by simp only [fIx,c9,hw,wdO];rfl
theorem vK (hw:h[wd]?=some (wdO W fl left odd)) (v:Int):ot (.ob wd) (.str (Str.ofString "left")) (.int v) h=some (h.set wd (wdO W fl v odd)):=by
 have h1:(6:Nat) < sizeLine:=by decide
 simp only [ot,hw,wdO,rR,Option.bind_some,List.length_cons,List.length_nil];rw [if_pos h1];rfl
end
section
variable {h h0:MH} {s c wd R:Nat} {cs:List Int} {W:Wd} {fl:List Int} {left odd:Int} {Q:D×MH->Prop}
theorem xY (A:Sb s c cs h0 (R+1) h) (hw:h[wd]?=some (wdO W fl left odd)) (ok:WdOk W fl odd) (k:∀(b:Bool) (h1:MH),Sb s c cs h0 R h1->Q (.bl b,h1)):Rn (cC [.ob s,.ob wd] h) Q:=by
 refine bV ?_;walk_at "r";refine rv (sx hw) ?_;walk_at "ae"
 ·walk_at "r";refine rv (sx hw) ?_;walk_at "r";refine eL A (of_decide_eq_true z) (by have:=ok.o1;lia) fun m h1 _ _ A1=>?_;walk_at "r";exact k _ _ A1
 ·walk_at "r";exact k _ _ (A.dn 1)
theorem qL {ps:List Str} (A:Sb s c cs h0 (R+4) h) (hp:ps.length≤3) (k:∀(t:Term) (h1:MH),dQ ps t->t.2≤40->Sb s c cs h0 R h1->Q (bz t,h1)):Rn (bD [.ob s,.lv (ps.map D.str)] h) Q:=by
 refine bV ?_;walk_at "r";refine eL A (by decide) (by decide) fun m h1 m0 m1 A1=>?_;walk_at "r";have plain:∀{h2:MH} {P:D×MH->Prop},Sb s c cs h0 (R+1) h2->(∀(i:Int) (h3:MH),-40≤i∧i≤40->Sb s c cs h0 R h3->P (.int i,h3))->Rn (aN [.ob s,.lv [.int 0,.int 0,.int 1,.int 1,.int 2,.int 3,.int (-1),.int (m-40)]] h2) P:=fun A2 kk=>
  iZ (is:=[0,0,1,1,2,3,-1,m-40]) (fun i=>-40≤i∧i≤40) (by intro x hx;simp at hx;lia) A2 fun i h3 hi _ A3=>kk i h3 hi A3
 refine ⟨_,rfl,fun z=>?_,fun z=>⟨fun z=>(nomatch z),fun _=>?_⟩⟩
 ·have z:0 < ps.length:=by simpa using z
  walk_at "r";refine eL A1 (by decide) (by decide) fun m2 h2 _ _ A2=>?_;walk_at "r";refine ⟨_,rfl,fun _=>?_,fun _=>?_⟩
  ·walk_at "r";refine zC A2 (.inl rfl) (by simpa using z) (by simp;lia) fun d3 h3 hd3 A3=>?_;obtain ⟨w,hw,rfl⟩:=List.mem_map.mp hd3;walk_at "r";refine iZ (is:=[0,0,0,0,1,1,-1,2,m-40]) (fun i=>-40≤i∧i≤40) (by intro x hx;simp at hx;lia) A3 fun i h4 hi _ A4=>?_;walk_at "r";exact k (w,i) h4 ⟨.inr hw,by dsimp only;lia,by dsimp only;lia⟩ hi.2 A4
  ·walk_at "r";refine plain (A2.dn 1) fun i h3 hi A3=>?_;walk_at "r";exact k (Str.ofString "",i) h3 ⟨.inl rfl,by dsimp only;lia,by dsimp only;lia⟩ hi.2 A3
 ·walk_at "r";refine plain (A1.dn 2) fun i h3 hi A3=>?_;walk_at "r";exact k (Str.ofString "",i) h3 ⟨.inl rfl,by dsimp only;lia,by dsimp only;lia⟩ hi.2 A3
end
theorem bK {α:Type} {xs:List α} {f:α->D} {h:MH} {j:Nat} {x:α} (e:xs[j]?=some x):fIx (.lv (xs.map f)) (.int j) h=some (f x,h):=by
 have hj:j < xs.length:=by
  rcases Nat.lt_or_ge j xs.length with z | z
  ·exact z
  ·rw [List.getElem?_eq_none z] at e;cases e
 show ((atI (xs.map f) j).map fun z=>(z,h))=_;have:atI (xs.map f) j=some (f x):=by
  unfold atI;rw [show ixN (xs.map f).length j=some j by unfold ixN;simp;lia];show (xs.map f)[j]?=_;rw [List.getElem?_map,e];rfl
 rw [this];rfl
theorem gG (i j:Int) (h:MH):nv [.int i,.int j] h=some (.int (max i j),h):=by
 show some (D.int (if j > i then j else i),h)=_;rw [show (if j > i then j else i)=max i j by split <;> lia]
theorem zo (i j:Int) (h:MH):xy [.int i,.int j] h=some (.int (min i j),h):=by
 show some (D.int (if j < i then j else i),h)=_;rw [show (if j < i then j else i)=min i j by split <;> lia]
theorem uq {α:Type} {o:Option Bool} {x y:Option α} {X Y:α->Prop} (r:∃c,o=some c∧(c=true->Rn x Y)∧(c=false->Rn y Y)) (f:∀p,Y p->X p):∃c,o=some c∧(c=true->Rn x X)∧(c=false->Rn y X):=
 let ⟨c,e,a,b⟩:=r
 ⟨c,e,fun z=>(a z).imp f,fun z=>(b z).imp f⟩
noncomputable def my (t:Term):PyData:=.tuple [.str t.1,.int t.2]
theorem oJ:∀ts:List Term,pyL (ts.map bz)=some (ts.map my)
 | []=>rfl
 | c::r=>by simp only [List.map_cons,pyL,oJ r,bz,pyD,Option.bind_some,Option.map_some];rfl
theorem lG:∀ts:List Term,PyData.depthAll (ts.map my)≤1
 | []=>by simp [PyData.depthAll]
 | c::r=>by
  have:=lG r;simp only [List.map_cons,PyData.depthAll,my,PyData.depth]
  lia
theorem tE (ts:List Term) (h:MH):iS (.lv (ts.map bz)) (.lv []) h=some (.bl (!ts.isEmpty),h):=by
 have:=lG ts;simp only [iS,eqA,c9,eqD,rdD,oJ,pyD,pyL,Option.map_some,Option.bind_some];rw [if_pos ⟨show PyData.depthAll _+1≤64 by lia,by decide⟩];cases ts <;> rfl
section
variable {h h0:MH} {s c wd R:Nat} {cs:List Int} {W:Wd} {fl:List Int} {left odd:Int} {Q:D×MH->Prop}
theorem B1 {ps:List Str} {j:Nat} {top:Int} {held:List Lock} (A:Sb s c cs h0 (R+10) h) (hw0:h0[wd]?=some (wdO W fl left odd)) (hne:wd≠s) (ok:WdOk W fl odd) (hp:W.params[j]?=some ps) (hj:j < W.deeds.length) (ht:top≤W.names.length) (hh:∀l∈held,eI W ps l) (hl:held.length≤1000)
  (k1:∀(k:Int) (l:Lock) (h1:MH),max top (fl[j]?.getD 0) < W.names.length->0≤k->k < W.names.length->eI W ps l->Sb s c cs h0 R h1->Q (.tup [.int k,aI l],h1))
  (k2:∀(h1:MH),max top (fl[j]?.getD 0)=W.names.length->Sb s c cs h0 R h1->Q (.tup [.non,.non],h1)):Rn (c8 [.ob s,.ob wd,.int j,.int top,.lv (held.map aI)] h) Q:=by
 have hw:=A.at_ hw0 hne;obtain ⟨f,hf⟩:∃f,fl[j]?=some f:=⟨_,List.getElem?_eq_getElem (by rw [ok.fln];exact hj)⟩;have hfm:=ok.f0 f (List.mem_of_getElem? hf);have n2:=ok.n2;rw [hf] at k1 k2;dsimp only [Option.getD_some] at k1 k2;refine bV ?_;walk_at "r";refine rv (kE hw) ?_;walk_at "r";refine rv (bK hf) ?_;walk_at "r";refine rv (gG top f h) ?_;have lo0:0≤max top f:=by lia
 have lo1:max top f≤W.names.length:=by lia
 generalize max top f=lo at lo0 lo1 k1 k2 ⊢;walk_at "r";refine rv (dc hw) ?_;walk_at "ae"
 ·have z:lo=W.names.length:=by simpa using z
  walk_at "r";exact k2 h z (A.dn 10)
 have z:lo≠W.names.length:=by simpa using z
 have z0:lo < W.names.length:=by lia
 have k1:=fun k l h1=>k1 k l h1 z0;clear k2;walk_at "r";refine rv (dc hw) ?_;walk_at "r";simp only [List.length_map];refine eL A (by lia) (by lia) fun m h1 m0 m1 A1=>?_;walk_at "r";refine xY A1 (A1.at_ hw0 hne) ok fun b h2 A2=>?_;walk_at "r";refine uq (Y:=fun r=>∃(k:Int) (h3:MH),r=(Fl.nx,[some (.ob s),some (.ob wd),some (.int j),some (.int top),some (.lv (held.map aI)),some (.int lo),some (.int k),none,none,none,none],h3)∧0≤k∧k < W.names.length∧Sb s c cs h0 (R+7) h3) ?_ ?_
 ·refine ⟨b,rfl,fun _=>?_,fun _=>?_⟩
  ·walk_at "r";refine rv (dc (A2.at_ hw0 hne)) ?_;walk_at "r";simp only [List.length_map];refine eL A2 (by lia) (by lia) fun k h3 k0 k1 A3=>?_;exact ⟨k,h3,rfl,k0,k1,A3⟩
  ·walk_at "r";exact ⟨lo+m,h2,rfl,by lia,by lia,A2.dn 1⟩
 rintro _ ⟨k,h3,rfl,k0,kL,A3⟩;have hw3:=A3.at_ hw0 hne;have k1:=fun l h1=>k1 k l h1 k0 kL;obtain ⟨kn,rfl⟩:=Int.eq_ofNat_of_zero_le k0;obtain ⟨nm,hnm⟩:∃f,W.names[kn]?=some f:=⟨_,List.getElem?_eq_getElem (by lia)⟩;show Rn _ _;walk_at "r";refine rv (dc hw3) ?_;walk_at "r";refine rv (bK hnm) ?_;walk_at "af";obtain ⟨⟨ys,h4⟩,e4,hyl,hym,δ4,hh4,_⟩:=l9 (ws:=[]) (g:=gN 0) (c:=aH (eOp cx (eOp fIx (ae 0) (eK (D.int 0))) (ae 1))) (e:=eOp fIx (ae 0) (eK (D.int 1))) (fun x y=>∃l∈held,x=aI l∧y=bz l.2)
  (xs:=held.map aI) (δ:=[none,some (.str nm)]) (h:=h3) (fun j δ h'=>h'=h3∧∃d0,δ=[d0,some (.str nm)]) ⟨rfl,_,rfl⟩ (fun _ _ _ _ _=>rfl) (by
   rintro i x δ h' hx ⟨rfl,d0,rfl⟩;obtain ⟨l,hl,rfl⟩:=List.mem_map.mp (List.mem_of_getElem? hx);walk_at "r";refine rv (a:=(.str l.1,_)) rfl ?_;walk_at "r";refine ⟨_,rfl,fun _=>?_,fun _=>⟨rfl,_,rfl⟩⟩;walk_at "r";exact rv (a:=(bz l.2,_)) rfl ⟨⟨l,hl,rfl,rfl⟩,rfl,_,rfl⟩)
 dsimp only at hh4;subst hh4;refine rv e4 ⟨Nat.le_trans hyl (by rw [List.length_map,show sizeLine=16777216 from rfl];lia),?_⟩;obtain ⟨ts,rfl,htm⟩:∃ts:List Term,ys=ts.map bz∧∀t∈ts,dQ ps t:=by
  clear e4 hyl
  induction ys with
  | nil=>exact ⟨[],rfl,fun _ z=>(nomatch z)⟩
  | cons y r ih=>
   obtain ⟨js,rfl,h1⟩:=ih fun z hz=>hym z (List.mem_cons_of_mem _ hz);obtain ⟨x,hx,l,hl,rfl,rfl⟩:=hym y List.mem_cons_self;exact ⟨l.2::js,rfl,List.forall_mem_cons.mpr ⟨(hh l hl).2,h1⟩⟩
 walk_at "r";have pl:=ok.p3 ps (List.mem_of_getElem? hp);refine rv (tE ts _) ⟨_,rfl,fun z=>?_,fun z=>⟨fun z=>(nomatch z),fun _=>?_⟩⟩
 ·walk_at "r";refine xY A3 hw3 ok fun b' h5 A5=>⟨_,rfl,fun _=>?_,fun _=>?_⟩
  ·have hts:ts≠[]:=by rintro rfl;cases z
   obtain ⟨us,last,rfl⟩:∃us last,ts=us++[last]:=⟨ts.dropLast,ts.getLast hts,(List.dropLast_concat_getLast hts).symm⟩;have hlast:=htm last (by simp);walk_at "r";refine rv (a:=(bz last,_)) (by
    show ((atI ((us++[last]).map bz) (-1)).map fun z=>(z,h5))=_;rw [List.map_append];show ((atI (us.map bz++[bz last]) (-1)).map fun z=>(z,h5))=_;rw [x8];rfl) ?_
   walk_at "r";refine rv (a:=_) rfl ?_;walk_at "r";refine eL A5 (by decide) (by decide) fun m6 h6 m60 m61 A6=>?_;walk_at "r";refine rv (zo _ _ _) ?_;walk_at "r";exact k1 (nm,(last.1,min 99 (last.2+1+m6))) h6 ⟨List.mem_of_getElem? hnm,hlast.1,by dsimp only;have:=hlast.2;lia,by dsimp only;lia⟩ (A6.dn 5)
  ·walk_at "r";refine rv (cM (A5.at_ hw0 hne)) ?_;walk_at "r";refine rv (bK hp) ?_;walk_at "r";refine qL (A5.dn 2) pl fun t h6 tk _ A6=>?_;walk_at "r";exact k1 (nm,t) h6 ⟨List.mem_of_getElem? hnm,tk⟩ A6
 ·walk_at "r";refine rv (cM hw3) ?_;walk_at "r";refine rv (bK hp) ?_;walk_at "r";refine qL (A3.dn 3) pl fun t h6 tk _ A6=>?_;walk_at "r";exact k1 (nm,t) h6 ⟨List.mem_of_getElem? hnm,tk⟩ A6
end
theorem se (cs:List Int) (h:MH):cx (.lv (cs.map D.int)) (.lv []) h=some (.bl cs.isEmpty,h):=by
 simp only [cx,eqA,c9,eqD,rdD,fQ,pyD,pyL,Option.map_some,Option.bind_some,PyData.depth,jE];cases cs <;> rfl
theorem Az {m:AM} {δ:DS} {h:MH} {Q:List D×MH->Prop} (r:Rn (m δ h) fun p=>∃j:Int,p.1=[.int j]∧0≤j∧j≤1000∧Q ((List.range j.toNat).map fun (k:Nat)=>D.int (k:Int),p.2)):Rn (B7 m δ h) Q:=aS (r.imp fun p ⟨j,e,h1,h2,q⟩=>by
 rw [e];dsimp only;rw [if_pos ⟨h1,h2⟩];exact ⟨_,rfl,q⟩)
section
variable {h h0:MH} {s c wd R:Nat} {cs:List Int} {W:Wd} {fl:List Int} {left odd:Int} {Q:D×MH->Prop}
theorem B2 {ps:List Str} {j:Nat} {top:Int} (A:Sb s c cs h0 (R+14) h) (hw0:h0[wd]?=some (wdO W fl left odd)) (hne:wd≠s) (ok:WdOk W fl odd) (hp:W.params[j]?=some ps) (hj:j < W.deeds.length)
  (kk:∀(r:Row) (h1:MH),(∀n,br W ps n r)->cnt r=1->Sb s c cs h0 R h1->Q (aR r,h1)):Rn (eA [.ob s,.ob wd,.int j,.int top] h) Q:=by
 have hw:=A.at_ hw0 hne;have d2:=ok.d2;have pl:=ok.p3 ps (List.mem_of_getElem? hp);obtain ⟨dj,hdj⟩:∃f,W.deeds[j]?=some f:=⟨_,List.getElem?_eq_getElem hj⟩;refine bV ?_;walk_at "r";refine fH ?_;walk_at "r";refine rv (de hw) ?_;walk_at "r";refine ⟨(W.deeds.map D.str).length,rfl,by rw [List.length_map];lia,by rw [List.length_map];lia,?_⟩;rw [List.length_map,Int.toNat_natCast];obtain ⟨⟨ys,h1⟩,e1,hyl,hym,δ1,hh1,_⟩:=l9 (ws:=[]) (g:=gN 0) (c:=iQ (aH (eOp fGt (eOp fIx (eOp fIx (ae 3) (eK (.str "floors"))) (ae 0)) (ae 2))) (aH (eOp fGe (ae 0) (ae 1)))) (e:=ae 0) (fun x y=>y=x)
  (xs:=(List.range W.deeds.length).map fun (k:Nat)=>D.int (k:Int)) (δ:=[none,some (.int j),some (.int top),some (.ob wd)]) (h:=h) (fun i δ h'=>h'=h∧∃d0,δ=[d0,some (.int j),some (.int top),some (.ob wd)]) ⟨rfl,_,rfl⟩ (fun _ _ _ _ _=>rfl) (by
   rintro i x δ h' hx ⟨rfl,d0,rfl⟩;rw [List.getElem?_map] at hx;obtain ⟨k,hk,hk2⟩:=Option.map_eq_some_iff.mp hx;subst hk2;have hkl:k < fl.length:=by rw [ok.fln];exact List.mem_range.mp (List.mem_of_getElem? hk)
   obtain ⟨f,hf⟩:∃f,fl[k]?=some f:=⟨_,List.getElem?_eq_getElem hkl⟩;walk_at "r";refine rv (kE hw) ?_;walk_at "r";refine rv (bK hf) ?_;walk_at "r";refine ⟨_,rfl,fun _=>?_,fun _=>⟨fun z=>(nomatch z),fun _=>⟨rfl,_,rfl⟩⟩⟩;walk_at "r";refine ⟨_,rfl,fun _=>?_,fun _=>⟨rfl,_,rfl⟩⟩;walk_at "r";exact ⟨rfl,rfl,_,rfl⟩)
 dsimp only at hh1;subst hh1;refine rv e1 ⟨Nat.le_trans hyl (by rw [List.length_map,List.length_range,show sizeLine=16777216 from rfl];lia),?_⟩;have hint:∀zs:List D,(∀y∈zs,∃x,x∈(List.range W.deeds.length).map (fun (k:Nat)=>D.int (k:Int))∧y=x)->∃js:List Int,zs=js.map D.int∧∀k∈js,0≤k∧k < W.deeds.length:=by
  intro zs hz
  induction zs with
  | nil=>exact ⟨[],rfl,fun _ z=>(nomatch z)⟩
  | cons y r ih=>
   obtain ⟨js,rfl,q⟩:=ih fun z hz'=>hz z (List.mem_cons_of_mem _ hz');obtain ⟨x,hx,rfl⟩:=hz y List.mem_cons_self;obtain ⟨k,hk,rfl⟩:=List.mem_map.mp hx;exact ⟨k::js,rfl,fun i hi=>by
    rcases List.mem_cons.mp hi with rfl | hi
    ·have:=List.mem_range.mp hk;lia
    ·exact q i hi⟩
 have hyn:ys.length≤6:=by
  have h9:ys.length≤_:=hyl;rw [List.length_map,List.length_range] at h9
  lia
 obtain ⟨js,rfl,hjs⟩:=hint ys hym;rw [List.length_map] at hyn;walk_at "r";refine xY A hw ok fun b h2 A2=>?_;have hw2:=A2.at_ hw0 hne;walk_at "r";refine uq (Y:=fun r=>∃(ks:List Int),r=(Fl.nx,[some (.ob s),some (.ob wd),some (.int j),some (.int top),some (.lv (ks.map D.int)),none,none],h2)∧ks.length≤6∧∀k∈ks,0≤k∧k < W.deeds.length) ?_ ?_
 ·refine ⟨b,rfl,fun _=>?_,fun _=>?_⟩
  ·walk_at "r";refine Az ?_;walk_at "r";refine rv (de hw2) ?_;walk_at "r";refine ⟨(W.deeds.map D.str).length,rfl,by rw [List.length_map];lia,by rw [List.length_map];lia,?_⟩;rw [List.length_map,Int.toNat_natCast];obtain ⟨ks,hk1,hk2⟩:=hint _ fun y hy=>⟨y,hy,rfl⟩;refine ⟨ks,?_,?_,hk2⟩
   ·show _=_;rw [←hk1];rfl
   ·have:=congrArg List.length hk1;rw [List.length_map,List.length_map,List.length_range] at this
    lia
  ·walk_at "r";exact ⟨js,rfl,hyn,hjs⟩
 rintro _ ⟨ks,rfl,kn,hks⟩;show Rn _ _;walk_at "r";refine rv (se ks _) ⟨_,rfl,fun z=>?_,fun z=>?_⟩
 ·walk_at "r";refine rv (de hw2) ?_;walk_at "r";refine rv (bK hdj) ?_;walk_at "r";have:=kk (.say dj) h2 (fun n=>by unfold br;exact List.mem_append_right _ (List.mem_of_getElem? hdj)) (by rw [cnt]) (A2.dn 13);rw [aR] at this;exact this
 have z0:0 < ks.length:=by cases ks with | nil=>cases z | cons _ _=>simp
 walk_at "r";refine zC A2 (.inl rfl) (by simpa using z0) (by simp;lia) fun d3 h3 hd3 A3=>?_;have hw3:=A3.at_ hw0 hne;obtain ⟨k,hk,rfl⟩:=List.mem_map.mp hd3;obtain ⟨k0,k1⟩:=hks k hk;obtain ⟨kn',rfl⟩:=Int.eq_ofNat_of_zero_le k0;have hkl:kn' < W.deeds.length:=by lia
 obtain ⟨dk,hdk⟩:∃f,W.deeds[kn']?=some f:=⟨_,List.getElem?_eq_getElem hkl⟩;obtain ⟨qs,hqs⟩:∃f,W.params[kn']?=some f:=⟨_,List.getElem?_eq_getElem (by rw [ok.pl];exact hkl)⟩;have ql:=ok.p3 qs (List.mem_of_getElem? hqs);walk_at "r";refine mQ ?_;walk_at "r";refine rv (cM hw3) ?_;walk_at "r";refine rv (bK hqs) ?_;refine ⟨_,_,rfl,?_⟩;obtain ⟨⟨zs,h4⟩,e4,hzs,δ4,_,A4⟩:=md (ws:=[]) (g:=gN 0) (e:=eFn bD (ab (ae 2) (ab (eOp fIx (eOp fIx (ae 3) (eK (.str "params"))) (ae 1)) aj))) (fun _ y=>∃t:Term,y=bz t∧dQ ps t)
  (xs:=qs.map D.str) (δ:=[none,some (.int j),some (.ob s),some (.ob wd)]) (h:=h3) (fun i δ h'=>(∃d0,δ=[d0,some (.int j),some (.ob s),some (.ob wd)])∧Sb s c cs h0 (R+4*(3-i)) h') ⟨⟨_,rfl⟩,A3⟩ (fun _ _ _ _ _=>rfl) (by
   rintro i x δ h' hx ⟨⟨d0,rfl⟩,Ai⟩;have hi:i < 3:=by
    have:=(List.getElem?_eq_some_iff.mp hx).1;rw [List.length_map] at this
    lia
   rw [show R+4*(3-i)=R+4*(3-(i+1))+4 by lia] at Ai;have hwi:=Ai.at_ hw0 hne;walk_at "r";refine rv (cM hwi) ?_;walk_at "r";refine rv (bK hp) ?_;walk_at "r";exact qL Ai pl fun t h6 tk _ A6=>⟨⟨t,rfl,tk⟩,⟨_,rfl⟩,A6⟩)
 obtain ⟨ts,rfl,htm⟩:∃ts:List Term,zs=ts.map bz∧∀t∈ts,dQ ps t:=by
  have hr:=hzs.right;clear e4 hzs A4;dsimp only at hr
  induction zs with
  | nil=>exact ⟨[],rfl,fun _ z=>(nomatch z)⟩
  | cons y r ih=>
   obtain ⟨js,rfl,h1⟩:=ih fun z hz=>hr z (List.mem_cons_of_mem _ hz);obtain ⟨x,hx,t,rfl,tk⟩:=hr y List.mem_cons_self;exact ⟨t::js,rfl,fun j hj=>by
    rcases List.mem_cons.mp hj with rfl | hj
    ·exact tk
    ·exact h1 j hj⟩
 have hzl:=hzs.length;dsimp only at hzl;rw [List.length_map,List.length_map] at hzl;refine rv e4 ⟨by dsimp only;rw [List.length_map,show sizeLine=16777216 from rfl];lia,?_⟩;have A4:Sb s c cs h0 R h4:=A4.le (Nat.le_add_right _ _);have hw4:=A4.at_ hw0 hne;walk_at "r";refine rv (de hw4) ?_;walk_at "r";refine rv (bK hdk) ?_;walk_at "r";refine rv (a:=(.tup (ts.map bz),_)) rfl ?_;walk_at "r";have:=kk (.call dk ts) h4 (fun n=>by unfold br;exact ⟨⟨kn',qs,hdk,hqs,hzl⟩,htm⟩) (by rw [cnt]) A4;rw [aR] at this;exact this
end
def fm (s wd:Nat) (h h':MH):Prop:=h'.length=h.length∧∀k,k≠s->k≠wd->h'[k]?=h[k]?
theorem fm.refl (s wd:Nat) (h:MH):fm s wd h h:=⟨rfl,fun _ _ _=>rfl⟩
theorem fm.trans (a:fm s wd h h1) (b:fm s wd h1 h2):fm s wd h h2:=⟨b.1.trans a.1,fun k n m=>(b.2 k n m).trans (a.2 k n m)⟩
theorem But.two (a:But s h h1):fm s wd h h1:=⟨a.1,fun k n _=>a.2 k n⟩
theorem fm.set:fm s wd h (h.set wd o):=⟨List.length_set,fun k _ n=>List.getElem?_set_ne (Ne.symm n)⟩
theorem fm.EF (b:fm s wd (hb++g) h2) (hs:s < hb.length) (hw:wd < hb.length):∃hb',h2=hb'++g∧fm s wd hb hb':=by
 have hl:h2.length=hb.length+g.length:=by rw [b.1];simp
 refine ⟨h2.take hb.length,?_,by rw [List.length_take];lia,fun k hk hk'=>?_⟩
 ·refine List.ext_getElem? fun k=>?_
  by_cases z:k < hb.length
  ·rw [List.getElem?_append_left (by rw [List.length_take];lia),List.getElem?_take_of_lt z]
  ·rw [b.2 _ (by lia) (by lia),List.getElem?_append_right (by lia),List.getElem?_append_right (by rw [List.length_take];lia),List.length_take];rw [show min hb.length h2.length=hb.length by lia]
 ·by_cases z:k < hb.length
  ·rw [List.getElem?_take_of_lt z,b.2 k hk hk',List.getElem?_append_left z]
  ·rw [List.getElem?_eq_none (by rw [List.length_take];lia),List.getElem?_eq_none (by lia)]
theorem fZ (n:Nat):∀js:List Str,clL n (js.map D.str)=true
 | []=>rfl
 | j::r=>by rw [List.map_cons];show (clD n (.str _)&&clL n _)=true;rw [fZ n r];rfl
theorem pq (n:Nat):∀js:List (List Str),clL n (js.map fun ps=>.lv (ps.map D.str))=true
 | []=>rfl
 | j::r=>by rw [List.map_cons];show (clL n (j.map D.str)&&clL n _)=true;rw [fZ n j,pq n r];rfl
theorem tL (n:Nat) (W:Wd) (fl:List Int) (l odd:Int):clO n (wdO W fl l odd)=true:=by
 show (clL n _&&(clL n _&&(clL n _&&(clL n _&&(true&&(true&&true))))))=true;rw [fZ,fZ,pq,uB];rfl
structure En where
 s:Nat
 c:Nat
 wd:Nat
 cs:List Int
 W:Wd
 fl:List Int
 odd:Int
 ok:WdOk W fl odd
 ne:wd≠s
 nc:wd≠c
structure Wb (E:En) (h0:MH) (R l:Nat) (h:MH):Prop where
 S:St E.s E.c E.cs R h
 w:h[E.wd]?=some (wdO E.W E.fl l E.odd)
 C:Cl h
 b:fm E.s E.wd h0 h
section
variable {E:En} {h0 h h1 h' g:MH} {R R' l l' k:Nat} {Q:D×MH->Prop}
theorem Wb.lt (A:Wb E h0 R l h):E.s < h.length∧E.c < h.length∧E.wd < h.length:=⟨A.S.lt.1,A.S.lt.2,(List.getElem?_eq_some_iff.mp A.w).1⟩
theorem Wb.by (A:Wb E h0 R l h) (B:Sb E.s E.c E.cs h R' h1):Wb E h0 R' l h1:=⟨B.S,(B.b.2 _ E.ne).trans A.w,A.C.but B.S B.b,A.b.trans B.b.two⟩
theorem Wb.le (A:Wb E h0 R l h) (hR:R'≤R):Wb E h0 R' l h:=⟨A.S.le hR,A.w,A.C,A.b⟩
theorem Wb.here (A:Wb E h0 R l h):Wb E h R l h:=⟨A.S,A.w,A.C,fm.refl _ _ _⟩
theorem Wb.tr (A:Wb E h1 R l h) (b:fm E.s E.wd h0 h1):Wb E h0 R l h:=⟨A.S,A.w,A.C,b.trans A.b⟩
theorem Wb.set (A:Wb E h0 R l h) (v:Nat):Wb E h0 R v (h.set E.wd (wdO E.W E.fl v E.odd)):=
 ⟨A.S.off E.ne E.nc,List.getElem?_set_self A.lt.2.2,A.C.set (tL _ _ _ _ _),A.b.trans fm.set⟩
theorem Wb.push (A:Wb E h0 R l h) {o:MO} (ho:clO (h.length+1) o=true):Wb E (h++[o]) R l (h++[o]):=⟨A.S.more _,by rw [List.getElem?_append_left A.lt.2.2];exact A.w,A.C.snoc ho,fm.refl _ _ _⟩
theorem BY (C:Cl h) (S:St E.s E.c E.cs R h') (w:h'[E.wd]?=some (wdO E.W E.fl l E.odd)) (b:fm E.s E.wd h h'):Cl h':=by
 intro o ho;obtain ⟨k,hk⟩:=List.mem_iff_getElem?.mp ho
 by_cases z:k=E.s
 ·subst z;obtain ⟨n,t,e,_⟩:=S.st;rw [e] at hk;cases hk;show (true&&(decide (E.c < h'.length)&&(true&&true)))=true;rw [decide_eq_true S.lt.2];rfl
 ·by_cases z2:k=E.wd
  ·subst z2;rw [w] at hk;cases hk;exact tL _ _ _ _ _
  ·rw [b.2 k z z2] at hk;rw [b.1];exact C o (List.mem_of_getElem? hk)
theorem Wb.pop {R0 l0:Nat} (A0:Wb E h0 R0 l0 h) (A:Wb E (h++g) R l h'):∃hb,h'=hb++g∧hb.length=h.length∧Wb E h0 R l hb:=by
 obtain ⟨h1,h2,h3⟩:=A0.lt;obtain ⟨hb,rfl,b⟩:=A.b.EF h1 h3;have e:=b.1;have S:=A.S.cut (by lia) (by lia);have w:=A.w;rw [List.getElem?_append_left (by lia)] at w;exact ⟨hb,rfl,e,S,w,BY A0.C S w b,A0.b.trans b⟩
theorem w_next {m:Int} (A:Wb E h0 (R+1) l h) (m0:0 < m) (m1:m≤10^40) (k:∀(r:Int) (h1:MH),0≤r->r < m->Wb E h0 R l h1->Q (.int r,h1)):Rn (aO [.ob E.s,.int m] h) Q:=
 eL A.S.sb m0 m1 fun r h1 r0 r1 S1=>k r h1 r0 r1 (A.by S1)
theorem Cg {d:D} {xs:List D} (A:Wb E h0 (R+1) l h) (hd:d=.lv xs∨d=.tup xs) (l0:0 < xs.length) (l1:xs.length≤1000000) (k:∀(x:D) (h1:MH),x∈xs->Wb E h0 R l h1->Q (x,h1)):Rn (aN [.ob E.s,d] h) Q:=
 zC A.S.sb hd l0 l1 fun x h1 hx S1=>k x h1 hx (A.by S1)
theorem vL {is:List Int} (P:Int->Prop) (hP:∀i∈is,P i) (A:Wb E h0 (R+1) l h) (k:∀(i:Int) (h1:MH),P i->Wb E h0 R l h1->Q (.int i,h1)) (l0:0 < is.length:=by simp) (l1:is.length≤1000:=by simp):Rn (aN [.ob E.s,.lv (is.map D.int)] h) Q:=
 iZ P hP A.S.sb (fun i h1 hi _ S1=>k i h1 hi (A.by S1)) l0 l1
theorem pG {ps:List Str} (A:Wb E h0 (R+4) l h) (hp:ps.length≤3) (k:∀(t:Term) (h1:MH),dQ ps t->Wb E h0 R l h1->Q (bz t,h1)):Rn (bD [.ob E.s,.lv (ps.map D.str)] h) Q:=
 qL A.S.sb hp fun t h1 ht _ S1=>k t h1 ht (A.by S1)
structure Cd (W:Wd) (j:Nat) (ps:List Str) (d:Nat) (top:Int) (held:List Lock):Prop where
 hp:W.params[j]?=some ps
 hj:j < W.deeds.length
 d1:1≤d
 ht:top≤W.names.length
 hh:∀x∈held,eI W ps x
 hl:held.length≤4*d
variable {j d f:Nat} {ps:List Str} {top:Int} {held:List Lock}
theorem Cd.more {W:Wd} {n:Nat} {top':Int} {ls:List Lock} (G:Cd W j ps d top held) (ht:top'≤W.names.length) (hl:ls.length≤4*n) (ho:∀x∈ls,eI W ps x):Cd W j ps (d+n) top' (held++ls):=
 ⟨G.hp,G.hj,Nat.le_trans G.d1 (Nat.le_add_right _ _),ht,fun x hx=>(List.mem_append.mp hx).elim (G.hh x) (ho x),by have:=G.hl;rw [List.length_append];lia⟩
theorem Cd.deep {W:Wd} (G:Cd W j ps d top held):Cd W j ps (d+1) top held:=⟨G.hp,G.hj,Nat.le_succ_of_le G.d1,G.ht,G.hh,by have:=G.hl;lia⟩
theorem Cd.pl (G:Cd E.W j ps d top held):ps.length≤3:=E.ok.p3 ps (List.mem_of_getElem? G.hp)
theorem vM (A:Wb E h0 (R+10) l h) (G:Cd E.W j ps d top held) (hd:d≤5) (k1:∀(k:Int) (x:Lock) (h1:MH),max top (E.fl[j]?.getD 0) < E.W.names.length->0≤k->k < E.W.names.length->eI E.W ps x->Wb E h0 R l h1->Q (.tup [.int k,aI x],h1))
  (k2:∀(h1:MH),max top (E.fl[j]?.getD 0)=E.W.names.length->Wb E h0 R l h1->Q (.tup [.non,.non],h1)):Rn (c8 [.ob E.s,.ob E.wd,.int j,.int top,.lv (held.map aI)] h) Q:=
 B1 A.S.sb A.w E.ne E.ok G.hp G.hj G.ht G.hh (by have:=G.hl;lia) (fun k x h1 a b c e S1=>k1 k x h1 a b c e (A.by S1)) fun h1 a S1=>k2 h1 a (A.by S1)
theorem zT (A:Wb E h0 (R+14) l h) (G:Cd E.W j ps d top held) (k:∀(r:Row) (h1:MH),(∀n,br E.W ps n r)->cnt r=1->Wb E h0 R l h1->Q (aR r,h1)):Rn (eA [.ob E.s,.ob E.wd,.int j,.int top] h) Q:=
 B2 A.S.sb A.w E.ne E.ok G.hp G.hj fun r h1 a b S1=>k r h1 a b (A.by S1)
abbrev ye (E:En) (h0:MH) (R l:Nat) (ps:List Str) (d:Nat) (Q:D×MH->Prop):Prop:=∀(r:Row) (l':Nat) (h':MH),br E.W ps d r->l'+cnt r=l+1->Wb E h0 (R+100*l') l' h'->Q (aR r,h')
abbrev EI (E:En) (h0:MH) (R l:Nat) (ps:List Str) (d:Nat) (Q:D×MH->Prop):Prop:=∀(t:List Row) (l':Nat) (h':MH),bE E.W ps d t->t.length≤12->l'+av t=l->Wb E h0 (R+100*l') l' h'->Q (.tup (bY t),h')
def vI (E:En) (f:Nat):Prop:=∀{h0 h:MH} {R l j:Nat} {ps:List Str} {d:Nat} {top:Int} {held:List Lock} {most:Int} {Q:D×MH->Prop},Wb E h0 (R+100*l+4) l h->Cd E.W j ps d top held->d≤5->3*(5-d)+2≤f->1≤most->most≤12->EI E h0 R l ps d Q->
 Rn (bq f [.ob E.s,.ob E.wd,.int j,.int d,.int top,.lv (held.map aI),.int most] h) Q
def Ca (E:En) (f:Nat):Prop:=∀{h0 h:MH} {R l j:Nat} {ps:List Str} {d:Nat} {top:Int} {held:List Lock} {Q:D×MH->Prop},Wb E h0 (R+100*l+100) l h->Cd E.W j ps d top held->d≤5->3*(5-d)+1≤f->ye E h0 R l ps d Q->
 Rn (dU f [.ob E.s,.ob E.wd,.int j,.int d,.int top,.lv (held.map aI)] h) Q
def yd (E:En) (f:Nat):Prop:=∀{h0 h:MH} {R l j:Nat} {ps:List Str} {d:Nat} {top:Int} {held:List Lock} {way:Str} {Q:D×MH->Prop},Wb E h0 (R+100*l+95) l h->Cd E.W j ps d top held->d < 5->3*(5-d)≤f->way∈[Str.ofString "within",Str.ofString "ask",Str.ofString "all"]->ye E h0 R l ps d Q->
 Rn (cB f [.ob E.s,.ob E.wd,.int j,.int d,.int top,.lv (held.map aI),.str way] h) Q
def B8 (E:En) (f:Nat):Prop:=∀{h0 h:MH} {R l j:Nat} {ps:List Str} {d:Nat} {top:Int} {held:List Lock} {Q:D×MH->Prop},Wb E h0 (R+100*l+95) l h->Cd E.W j ps d top held->d < 3->5 < l->3*(5-d)≤f->ye E h0 R l ps d Q->
 Rn (bT f [.ob E.s,.ob E.wd,.int j,.int d,.int top,.lv (held.map aI)] h) Q
end
theorem jW (r:Rn (b (entry len ds) h) (yu fun p=>Rn (leave h p.1 p.2) Q)):Rn (mkL len b ds h) Q:=by
 obtain ⟨p,e,q⟩:=bV r;obtain ⟨z,e2,k⟩:=q;refine ⟨z,?_,k⟩;have e:((b (entry len ds) h).bind yw)=some p:=e;show ((b (entry len ds) h).bind yw).bind _=_;rw [e];exact e2
theorem yD {isT:D->MH->Bool} {f:MFn} {o:EM} {m:AM} {δ:DS} {h:MH} {Q:D×MH->Prop} (r:Rn (o δ h) fun p=>isT p.1 p.2=true∧Rn (m δ p.2) fun q=>Rn (f p.1 q.1 q.2) Q):Rn (eM isT f o m δ h) Q:=
 aS (r.imp fun p ⟨e,r⟩=>by rw [if_pos e];exact aS r)
theorem cL (e:h[n]?=some (.lst xs)):cw (.ob n) h=true:=by unfold cw dB;dsimp only;rw [e];rfl
theorem cK (e:h[n]?=some (.lst xs)) (hl:xs.length < sizeLine):cW (.ob n) [y] h=some (.non,h.set n (.lst (xs++[y]))):=by unfold cW;dsimp only;rw [e];dsimp only;rw [if_pos hl]
theorem qD (n:Nat) (t:Term):clD n (bz t)=true:=rfl
theorem mm (n:Nat) (t:Lock):clD n (aI t)=true:=rfl
theorem dR (n:Nat) (f:α->D) (hf:∀x,clD n (f x)=true):∀xs:List α,clL n (xs.map f)=true
 | []=>rfl
 | x::r=>by rw [List.map_cons];show (clD n (f x)&&clL n _)=true;rw [hf x,dR n f hf r];rfl
mutual
theorem nG (n:Nat):∀r:Row,clD n (aR r)=true
 | .say w=>by rw [aR];rfl
 | .call d ts=>by rw [aR];show (true&&(true&&(clL n _&&true)))=true;rw [dR n _ (qD n)];rfl
 | .within l b=>by rw [aR];show (true&&(clD n (aI l)&&(clL n _&&true)))=true;rw [mm,du n b];rfl
 | .all ls b=>by rw [aR];show (true&&(clL n _&&(clL n _&&true)))=true;rw [dR n _ (mm n),du n b];rfl
 | .ask l b e=>by rw [aR];show (true&&(clD n (aI l)&&(clL n _&&(clL n _&&true))))=true;rw [mm,du n b,du n e];rfl
 | .by_ s t a b c=>by rw [aR];show (true&&(clD n (bz s)&&(clD n (bz t)&&(clL n _&&(clL n _&&(clL n _&&true))))))=true;rw [qD,qD,du n a,du n b,du n c];rfl
 | .either a b=>by rw [aR];show (true&&(clL n _&&(clL n _&&true)))=true;rw [du n a,du n b];rfl
 | .again a=>by rw [aR];show (true&&(clL n _&&true))=true;rw [du n a];rfl
theorem du (n:Nat):∀r:List Row,clL n (bY r)=true
 | []=>by rw [bY];rfl
 | r::rs=>by rw [bY];show (clD n _&&clL n _)=true;rw [nG n r,du n rs];rfl
end
theorem iR {H:MH} {a:MO} {n:Nat} (e:H.length=n):(H++[a])[n]?=some a:=by rw [←e];simp
theorem rg {H:MH} {a b:MO} {n:Nat} (e:H.length=n):(H++[a]).set n b=H++[b]:=by rw [←e];simp
section
variable {E:En} {f:Nat}
theorem sZ (hr:Ca E f):vI E (f+1):=by
 intro h0 h R l j ps d top held most Q A G d5 hf m0 m1 k;unfold bq;refine jW ?_;walk_at "r";refine fH ?_;walk_at "r";refine rv (a:=(.lv (List.replicate 15 (D.int most)),_)) rfl ?_;walk_at "r";refine rv (a:=(.lv ((List.replicate 15 most++[12]).map D.int),_)) rfl ?_;walk_at "r";refine vL (fun i=>1≤i∧i≤12) (by intro x hx;simp at hx;lia) (A.push (o:=.lst []) rfl) fun i h2 hi A2=>?_;walk_at "r";refine w_next (m:=i+1) A2 (by lia) (by lia) fun m h3 n0 n1 A3=>?_;walk_at "r";refine ⟨m,rfl,by lia,by lia,?_⟩;obtain ⟨hb,rfl,hbl,A3⟩:=A.pop A3;refine cT (fun i δ h'=>∃(t:List Row) (l':Nat) (d8:Option D) (hb:MH),δ=[some (.ob E.s),some (.ob E.wd),some (.int j),some (.int d),some (.int top),some (.lv (held.map aI)),some (.int most),some (.ob h.length),d8]∧h'=hb++[.lst (bY t)]∧hb.length=h.length∧bE E.W ps d t∧t.length≤i∧l'+av t=l∧Wb E h0 (R+100*l'+2) l' hb)
  ⟨[],l,_,hb,rfl,by rw [bY],hbl,by unfold bE;trivial,Nat.le_refl _,by simp [av],A3⟩ (fun _ _ _ _ _=>rfl) ?_ ?_
 ·rintro q x δ h' hx ⟨t,l',d8,hb,rfl,rfl,hbl,okl,hll,hc,A4⟩;have hq:q < 12:=by
   have:=(List.getElem?_eq_some_iff.mp hx).1;simp at this
   lia
  have A5:=A4.push (o:=.lst (bY t)) (du _ t);walk_at "r";refine rv (lX A5.w) ?_;walk_at "ae"
  ·obtain ⟨l1,rfl⟩:∃n,l'=n+1:=⟨l'-1,by have:=of_decide_eq_true z;lia⟩;walk_at "r";refine rv (lX A5.w) ?_;walk_at "r";refine rv (vK A5.w _) ?_;rw [show ((l1+1:Nat):Int)-1=(l1:Int) by lia];have A6:=A5.set l1;walk_at "ah";refine ⟨cL (xs:=bY t) (by rw [List.getElem?_set_ne (by have:=A4.lt;lia)];exact iR hbl),?_⟩;walk_at "r";refine hr (R:=R+2) (A6.le (by lia)) G d5 (by lia) fun r l6 h6 okr cr A7=>?_;obtain ⟨hb6,rfl,hbl6,A8⟩:=A4.pop A7;walk_at "r";have hl6:=hbl6.trans hbl;refine rv (cK (iR hl6) (by rw [fT,List.length_map,show sizeLine=16777216 from rfl];lia)) ?_;rw [rg hl6];walk_at "r";have hcn:av (t++[r])=av t+cnt r:=by rw [ki];simp [av]
   exact ⟨t++[r],l6,_,hb6,rfl,by rw [fT,fT,List.map_append];rfl,hl6,oP okl (by unfold bE;exact ⟨okr,by unfold bE;trivial⟩),by simp;lia,by lia,A8.le (by lia)⟩
  ·walk_at "r";exact ⟨t,l',_,hb,rfl,rfl,hbl,okl,by lia,hc,A4⟩
 ·rintro δ h' ⟨t,l',d8,hb,rfl,rfl,hbl,okl,hll,hc,A4⟩;rw [List.length_map,List.length_range] at hll;walk_at "r";refine rv (a:=(.tup (bY t),hb++[.lst (bY t)])) (by simp only [eJ,cZ,iR hbl,Option.map_some]) ?_;walk_at "r";exact rv (m5 hbl A4.C (fun n z=>(nomatch z)) (du _ t)) (k t l' hb okl (by lia) hc (A4.le (by lia)))
end
theorem ua:∀{xs:List D} {δ:DS} {h:MH} (J:List D->DS->MH->Prop),J [] δ h->(∀ys δ h,J ys δ h->chk ws h=true)->
  (∀x ys δ h,x∈xs->ys.length < xs.length->J ys δ h->Rn (g x δ h) fun q=>Rn (e q.1 q.2) fun y=>J (ys++[y.1]) q.1 y.2)->Rn (bG ws g cN e xs δ h) fun p=>p.1.length=xs.length∧∃δ',J p.1 δ' p.2
 | [],δ,h,J,hJ,hc,_=>by
  unfold bG;rw [if_pos (hc [] δ h hJ)];exact ⟨_,rfl,rfl,δ,hJ⟩
 | x::xs,δ,h,J,hJ,hc,ht=>by
  unfold bG;rw [if_pos (hc [] δ h hJ)];obtain ⟨⟨δ1,h1⟩,e1,⟨y,h2⟩,e2,J1⟩:=ht x [] δ h List.mem_cons_self (Nat.succ_pos _) hJ;obtain ⟨⟨ys,h3⟩,e3,a,δ',J2⟩:=ua (ws:=ws) (g:=g) (e:=e) (xs:=xs) (fun ys=>J (y::ys)) J1 (fun ys δ h=>hc (y::ys) δ h) fun x ys δ h hx hl=>ht x (y::ys) δ h (List.mem_cons_of_mem _ hx) (Nat.succ_lt_succ hl);refine ⟨(y::ys,h3),?_,congrArg Nat.succ a,δ',J2⟩;rw [e1];walk_at "ag";show ((some (true,h1)).bind _)=_;dsimp only [Option.bind_some] at e2 e3 ⊢;rw [if_pos rfl,e2];walk_at "ag";rw [e3];rfl
theorem ny (f:α->D) (xs ys:List α) (h:MH) (hl:xs.length+ys.length≤1000):aG (.lv (xs.map f)) (.lv (ys.map f)) h=some (.lv ((xs++ys).map f),h):=by
 rw [List.map_append];simp only [aG,qy,dB,Option.bind_some,List.length_map];rw [if_pos (by rw [show sizeLine=16777216 from rfl];lia)]
theorem CT (P:Prop) [Decidable P] (e:Rn (t δ h) fun p=>p=(decide P,h)) (q1:P->Rn (x δ h) Q) (q2:¬P->Rn (y δ h) Q):Rn (sIf t x y δ h) Q:=by
 refine wA (e.imp ?_);rintro _ rfl;exact ⟨fun z=>q1 (of_decide_eq_true z),fun z=>q2 (of_decide_eq_false z)⟩
theorem dX (P:Prop) [Decidable P] (e:Rn (t δ h) fun p=>p=(decide P,h)) (q1:P->Rn (x δ h) (oD b Q)) (q2:¬P->Rn (b δ h) Q):Rn (ax (sIf t x cc) b δ h) Q:=
 iV (CT P e q1 fun z=>⟨_,rfl,q2 z⟩)
theorem dT [Decidable P] (p:P) (h:MH):(true,h)=(decide P,h):=by rw [decide_eq_true p]
theorem dF [Decidable P] (p:¬P) (h:MH):(false,h)=(decide P,h):=by rw [decide_eq_false p]
section
variable {E:En} {f:Nat}
theorem oT {n:Nat} (hlot:vI E f) {h0 h:MH} {R l j:Nat} {ps:List Str} {d:Nat} {top:Int} {held:List Lock} {Q:List D×MH->Prop}
  (A:Wb E h0 (R+100*l+12) l h) (hn:n≤3) (G:Cd E.W j ps d top held) (d5:d < 5) (hf:3*(5-d)≤f) (k:∀(lots:List (List Row)) (l':Nat) (h':MH),lots.length=n->(∀t∈lots,t.length≤12∧bE E.W ps (d+1) t)->l'+(lots.map av).sum=l->Wb E h0 (R+100*l') l' h'->Q (lots.map (fun t=>D.tup (bY t)),h')):
  Rn (bG [] (gN 0) Sm.cN (eFn (bq f) (ab (ae 4) (ab (ae 6) (ab (ae 1) (ab (eOp aG (ae 2) (eK (.int 1))) (ab (ae 5) (ab (ae 3) (ab (eK (.int 2)) aj)))))))) ((List.range n).map fun (k:Nat)=>D.int k) [none,some (.int j),some (.int d),some (.lv (held.map aI)),some (.ob E.s),some (.int top),some (.ob E.wd)] h) Q:=by
 refine (ua (ws:=[]) (fun ys δ h'=>∃(d0:Option D) (lots:List (List Row)) (l':Nat),δ=[d0,some (.int j),some (.int d),some (.lv (held.map aI)),some (.ob E.s),some (.int top),some (.ob E.wd)]∧ys=lots.map (fun t=>D.tup (bY t))∧(∀t∈lots,t.length≤12∧bE E.W ps (d+1) t)∧l'+(lots.map av).sum=l∧Wb E h0 (R+100*l'+(12-4*lots.length)) l' h') ⟨none,[],l,rfl,rfl,fun _ z=>(nomatch z),by simp,A⟩ (fun _ _ _ _=>rfl) ?_).imp ?_
 ·rintro x _ δ h' hx hys ⟨d0,lots,l',rfl,rfl,hok,hc,A1⟩;rw [List.length_map,List.length_map,List.length_range] at hys;walk_at "r";refine hlot (R:=R+(8-4*lots.length)) (d:=d+1) (A1.le (by lia)) G.deep (by lia) (by lia) (by decide) (by decide) fun t l2 h2 okl hll cr A2=>?_;refine ⟨_,lots++[t],l2,rfl,by rw [List.map_append];rfl,fun u z=>?_,by simp;lia,A2.le (by rw [List.length_append,List.length_singleton];lia)⟩;rcases List.mem_append.mp z with z | z
  ·exact hok u z
  ·rw [List.mem_singleton.mp z];exact ⟨hll,okl⟩
 ·rintro ⟨ys,h2⟩ ⟨hy,_,d0,lots,l',_,he,hok,hc,A1⟩;dsimp only at hy he;subst he;rw [List.length_map,List.length_map,List.length_range] at hy;exact k lots l' h2 hy hok hc (A1.le (by lia))
theorem Am (hlot:vI E f) (hlk:yd E f) (htw:B8 E f):Ca E (f+1):=by
 intro h0 h R l j ps d top held Q A G d5 hf k;have pl:=G.pl;have n1:=E.ok.n1;have n2:=E.ok.n2;have d2:=E.ok.d2;unfold dU;refine bV ?_;walk_at "r";refine w_next (m:=16) A (by decide) (by decide) fun w h1 w0 w1 A1=>?_;refine dX (w < 2∨(d=5∧w < 11)) ?_ (fun z=>?_) (fun z=>?_)
 ·walk_at "ae"
  ·have z:w < 2:=by simpa using z
   exact dT (.inl z) _
  ·have z:¬w < 2:=by simpa using z
   walk_at "r";refine ⟨_,rfl,fun y=>?_,fun y=>?_⟩
   ·have y0:(d:Int)=5:=by simpa using y
    have y:d=5:=by lia
    walk_at "r";refine ⟨_,rfl,?_⟩;rw [show decide (w < 11)=decide (w < 2∨(d=5∧w < 11)) from decide_eq_decide.mpr (by lia)]
   ·have y0:(d:Int)≠5:=by simpa using y
    have y:d≠5:=by lia
    exact dF (by lia) _
 ·walk_at "r";refine rv (dc A1.w) ?_;walk_at "r";refine rv (de A1.w) ?_;walk_at "r";refine rv (ny D.str E.W.names E.W.deeds _ (by lia)) ?_;walk_at "r";refine Cg (xs:=(E.W.names++E.W.deeds).map D.str) A1 (.inl rfl) (by simp;lia) (by simp;lia) fun x h2 hx A2=>?_;obtain ⟨w',hw',rfl⟩:=List.mem_map.mp hx;walk_at "r";rw [show D.tup [.str "say",.str w']=aR (.say w') by rw [aR]];exact k (.say w') l h2 (by unfold br;exact hw') (by rw [cnt]) (A2.le (by lia))
 have nd:d=5->11≤w:=by lia
 have w2:2≤w:=by lia
 refine dX (12 < w∨d=5) ?_ (fun z=>?_) (fun z=>?_)
 ·walk_at "r";refine ⟨_,rfl,fun y=>?_,fun y=>?_⟩
  ·have y:12 < w:=by simpa using y
   exact dT (.inl y) _
  ·have y:¬12 < w:=by simpa using y
   walk_at "r";refine ⟨_,rfl,?_⟩;rw [show ((d:Int)==5)=decide (12 < w∨d=5) by
    rw [Bool.eq_iff_iff];simp only [beq_iff_eq,decide_eq_true_eq];lia]
 ·walk_at "r";refine zT (R:=R+100*l) (A1.le (by lia)) G fun r h2 okr cr A2=>?_;walk_at "r";exact k r l h2 (okr d) (by rw [cr]) A2
 have d4:d < 5:=by lia
 refine dX (w=12∧d < 3∧5 < (l:Int)) ?_ (fun z=>?_) (fun z=>?_)
 ·walk_at "r";refine ⟨_,rfl,fun y=>?_,fun y=>?_⟩
  ·have y:w=12:=by simpa using y
   walk_at "r";refine ⟨_,rfl,fun x=>?_,fun x=>?_⟩
   ·have x0:(d:Int) < 3:=by simpa using x
    have x:d < 3:=by lia
    walk_at "r";refine rv (lX A1.w) ?_;walk_at "r";refine ⟨_,rfl,?_⟩;rw [show decide (5 < (l:Int))=decide (w=12∧d < 3∧5 < (l:Int)) from decide_eq_decide.mpr (by lia)]
   ·have x0:¬(d:Int) < 3:=by simpa using x
    have x:¬d < 3:=by lia
    exact dF (by lia) _
  ·have y:w≠12:=by simpa using y
   exact dF (by lia) _
 ·walk_at "r";refine htw (R:=R) (A1.le (by lia)) G z.2.1 (by lia) (by lia) fun r l2 h2 okr cr A2=>?_;walk_at "r";exact k r l2 h2 okr cr A2
 refine dX (w=11∨w=12) ?_ (fun z=>?_) (fun z=>?_)
 ·walk_at "r";refine ⟨_,rfl,fun y=>?_,fun y=>?_⟩
  ·have y:w=11:=by simpa using y
   exact dT (.inl y) _
  ·have y:w≠11:=by simpa using y
   walk_at "r";refine ⟨_,rfl,?_⟩;rw [show (w==12)=decide (w=11∨w=12) by rw [Bool.eq_iff_iff];simp only [beq_iff_eq,decide_eq_true_eq];lia]
 ·show Rn (ax _ _ _ _) _;walk_at "r";refine rv (cM A1.w) ?_;walk_at "r";refine rv (bK G.hp) ?_;walk_at "r";refine pG A1 pl fun t1 h2 tk1 A2=>?_;walk_at "r";refine rv (cM A2.w) ?_;walk_at "r";refine rv (bK G.hp) ?_;walk_at "r";refine pG A2 pl fun t2 h3 tk2 A3=>?_;walk_at "r";refine ⟨_,_,rfl,?_⟩;walk_at "r";refine fH ?_;walk_at "r";refine ⟨3,rfl,by lia,by lia,?_⟩;refine oT (n:=3) (R:=R) hlot (A3.le (by lia)) (by lia) G d4 (by lia) fun lots l4 h4 hn hok cr A4=>?_
  match lots,hn with
  | [x,y,v],_=>
   refine ⟨by show 3≤sizeLine;decide,?_⟩;walk_at "r";refine rv (a:=(.tup [.tup (bY x),.tup (bY y),.tup (bY v)],_)) rfl ?_;walk_at "r";refine rv (a:=(aR (.by_ t1 t2 x y v),_)) (by rw [aR];rfl) ?_;walk_at "r";simp only [List.map_cons,List.map_nil,List.sum_cons,List.sum_nil] at cr;have hx:=hok x (by simp);have hy:=hok y (by simp);have hv:=hok v (by simp);exact k (.by_ t1 t2 x y v) l4 h4 (by unfold br;exact ⟨tk1,tk2,d4,hx.1,hy.1,hv.1,hx.2,hy.2,hv.2⟩) (by rw [cnt];lia) A4
 refine dX (w=10) ?_ (fun z=>?_) (fun z=>?_)
 ·walk_at "r";refine ⟨_,rfl,?_⟩;rw [show (w==10)=decide (w=10) by rw [Bool.eq_iff_iff];simp only [beq_iff_eq,decide_eq_true_eq]]
 ·walk_at "r";refine fH ?_;walk_at "r";refine ⟨2,rfl,by lia,by lia,?_⟩;refine oT (n:=2) (R:=R) hlot (A1.le (by lia)) (by lia) G d4 (by lia) fun lots l2 h2 hn hok cr A2=>?_
  match lots,hn with
  | [x,y],_=>
   refine ⟨by show 2≤sizeLine;decide,?_⟩;walk_at "r";refine rv (a:=(.tup [.tup (bY x),.tup (bY y)],_)) rfl ?_;walk_at "r";refine rv (a:=(aR (.either x y),_)) (by rw [aR];rfl) ?_;walk_at "r";simp only [List.map_cons,List.map_nil,List.sum_cons,List.sum_nil] at cr;have hx:=hok x (by simp);have hy:=hok y (by simp);exact k (.either x y) l2 h2 (by unfold br;exact ⟨d4,hx.1,hy.1,hx.2,hy.2⟩) (by rw [cnt];lia) A2
 refine dX (w=9) ?_ (fun z=>?_) (fun z=>?_)
 ·walk_at "r";refine ⟨_,rfl,?_⟩;rw [show (w==9)=decide (w=9) by rw [Bool.eq_iff_iff];simp only [beq_iff_eq,decide_eq_true_eq]]
 ·walk_at "r";refine hlot (R:=R) (d:=d+1) (A1.le (by lia)) G.deep (by lia) (by lia) (by decide) (by decide) fun t l2 h2 okl hll cr A2=>?_;walk_at "r";rw [show D.tup [.str "again",.tup (bY t)]=aR (.again t) by rw [aR]];exact k (.again t) l2 h2 (by unfold br;exact ⟨d4,hll,okl⟩) (by rw [cnt];lia) A2
 walk_at "r";refine Cg (xs:=[Str.ofString "within",Str.ofString "within",Str.ofString "within",Str.ofString "within",Str.ofString "ask",Str.ofString "all"].map D.str) A1 (.inl rfl) (by simp) (by simp) fun x h2 hx A2=>?_;obtain ⟨w',hw',rfl⟩:=List.mem_map.mp hx;walk_at "r";refine hlk (R:=R) (A2.le (by lia)) G d4 (by lia) (by simp at hw' ⊢;lia) fun r l3 h3 okr cr A3=>?_;walk_at "r";exact k r l3 h3 okr cr A3
end
noncomputable def eO (t:Lock):PyData:=.tuple [.str t.1,my t.2]
theorem wI (t:Term):pyD (bz t)=some (my t):=by simp only [bz,pyD,pyL,Option.bind_some,Option.map_some];rfl
theorem rq (t:Lock):pyD (aI t)=some (eO t):=by simp only [aI,pyD,pyL,wI,Option.bind_some,Option.map_some];rfl
theorem kP:∀ts:List Lock,pyL (ts.map aI)=some (ts.map eO)
 | []=>rfl
 | c::r=>by simp only [List.map_cons,pyL,kP r,rq,Option.bind_some,Option.map_some]
theorem fA:∀ts:List Lock,PyData.depthAll (ts.map eO)≤2
 | []=>by simp [PyData.depthAll]
 | c::r=>by
  have:=fA r;simp only [List.map_cons,PyData.depthAll,eO,my,PyData.depth]
  lia
theorem qw {h:MH} {n:Nat} {ls:List Lock} (x:Lock) (e:h[n]?=some (.lst (ls.map aI))):fJ (aI x) (.ob n) h=some (.bl (!(ls.map eO).any fun b=>PyData.eqv b (eO x)),h):=by
 have h1:=fA ls;have h2:=fA [x];have h3:(eO x).depth≤60:=by
  simp only [List.map_cons,List.map_nil,PyData.depthAll] at h2
  lia
 unfold fJ inD;simp only [c9,e];show ((cZ (.ob n) h).bind _).map _=_;simp only [cZ,e,Option.bind_some,kP];show (((rdD h (aI x)).bind _).map _)=_;rw [show rdD h (aI x)=some (eO x) from rq x];walk_at "ag";rw [if_pos ⟨h3,by lia⟩];rfl
theorem p8 (r:Rn (ma δ h) fun p=>Rn (mb δ p.2) fun q=>∃xs ys,dB p.1 q.2=some xs∧dB q.1 q.2=some ys∧xs.length+ys.length≤sizeLine∧Q (xs++ys,q.2)):Rn (vH ma mb δ h) Q:=
 aS (r.imp fun p r=>aS (r.imp fun q ⟨xs,ys,e1,e2,hl,hq⟩=>⟨_,by rw [e1];dsimp only [Option.bind_some];rw [e2];dsimp only [Option.bind_some];rw [if_pos hl],hq⟩))
theorem xC (x:Lock):PyData.eqv (eO x) (eO x)=true:=by
 simp [eO,my,PyData.eqv,PyData.eqvAll]
theorem yr (r:Row) (n:Nat):aR r≠.ob n:=by cases r <;> rw [aR] <;> exact fun z=>(nomatch z)
theorem Wb.ext {E:En} {h0 h g:MH} {R l:Nat} (A:Wb E h0 R l h) (C:Cl (h++g)):Wb E (h++g) R l (h++g):=⟨A.S.more _,by rw [List.getElem?_append_left A.lt.2.2];exact A.w,C,fm.refl _ _ _⟩
theorem wD {E:En} {h0 h hb g:MH} {R l l' d:Nat} {ps:List Str} {Q:D×MH->Prop} (b:fm E.s E.wd h0 h) (k:ye E h0 R l ps d Q) (r:Row) (ok:br E.W ps d r) (hc:l'+cnt r=l+1) (A:Wb E h (R+100*l') l' hb) {x:D} (e:aR r=x):Rn (leave h x (hb++g)) Q:=
 ⟨_,e ▸ m5 A.b.1 A.C (yr r) (nG _ r),k r l' hb ok hc (A.tr b)⟩
theorem p4 {E:En} {h0 h hb:MH} {R l l' d:Nat} {ps:List Str} {Q:D×MH->Prop} (b:fm E.s E.wd h0 h) (k:ye E h0 R l ps d Q) (r:Row) (ok:br E.W ps d r) (hc:l'+cnt r=l+1) (A:Wb E h (R+100*l') l' hb) {x:D} (e:aR r=x):Rn (leave h x hb) Q:=by
 have:=wD (g:=[]) b k r ok hc A e
 rwa [List.append_nil] at this
section
variable {E:En} {f:Nat}
theorem u9 (hlot:vI E f):yd E (f+1):=by
 intro h0 h R l j ps d top held way Q A G d5 hf hw k;obtain ⟨dj,hdj⟩:∃f,E.W.deeds[j]?=some f:=⟨_,List.getElem?_eq_getElem G.hj⟩;have hl:=G.hl;have ht:=G.ht;have b0:=A.b;replace A:=A.here;unfold cB;refine jW ?_;walk_at "r";refine vM A G (by lia) (fun k1 lk h1 hmx k0 k2 okk A1=>?_) fun h1 _ A1=>?_
 ·walk_at "r";refine rv (a:=(.bl false,_)) rfl ⟨_,rfl,fun z=>(nomatch z),fun _=>?_⟩;refine ⟨_,rfl,?_⟩;show Rn (ax _ _ _ _) _;refine dX (way=Str.ofString "all") ?_ (fun z=>?_) (fun z=>?_)
  ·walk_at "r";refine ⟨_,rfl,?_⟩;rw [show (way==Str.ofString "all")=decide (way=Str.ofString "all") by rw [Bool.eq_iff_iff];simp only [beq_iff_eq,decide_eq_true_eq]]
  ·show Rn (ax _ _ _ _) _;walk_at "r";refine ⟨_,_,rfl,?_⟩;walk_at "r";refine fH ?_;walk_at "r";refine vL (is:=[1,1,2,3]) (fun i=>1≤i∧i≤3) (by decide) (A1.push (o:=.lst [aI lk]) rfl) fun i h2 hi A2=>?_;obtain ⟨hb2,rfl,e2,A2'⟩:=A1.pop A2;walk_at "r";refine ⟨i,rfl,by lia,by lia,?_⟩;refine cT (fun i δ h'=>∃(ls:List Lock) (hi:Int) (n:Nat) (d11 d12 d13:Option D) (hb g:MH),δ=[some (.ob E.s),some (.ob E.wd),some (.int j),some (.int d),some (.int top),some (.lv (held.map aI)),some (.str way),some (.int k1),some (aI lk),some (.ob n),some (.int hi),d11,d12,d13,none]∧h'=hb++g∧h'[n]?=some (.lst (ls.map aI))∧h.length≤n∧lk∈ls∧ls.Nodup∧(∀x∈ls,eI E.W ps x)∧ls.length≤i+1∧0≤hi∧hi < E.W.names.length∧Wb E h (R+100*l+(80-10*i)) l hb∧Cl (hb++g))
    ⟨[lk],k1,h1.length,none,none,none,hb2,[.lst [aI lk]],rfl,rfl,iR e2,by rw [A1.b.1];exact Nat.le_refl _,by simp,by simp,by simpa using okk,Nat.le_refl _,k0,k2,A2'.le (by lia),A2.C⟩ (fun _ _ _ _ _=>rfl) ?_ ?_
   ·rintro q x δ h' hx ⟨ls,hi',n,d11,d12,d13,hb,g,rfl,rfl,hn,hnl,hlk,nd,hok,hll,hi0,hi1,A3,C3⟩;have hq:q < 3:=by
     have:=(List.getElem?_eq_some_iff.mp hx).1;simp at this
     lia
    walk_at "r";refine vM (R:=R+100*l+(80-10*(q+1))) ((A3.ext C3).le (by lia)) G (by lia) (fun k4 lk4 h4 _ k40 k41 okk4 A4=>?_) fun h1 z4 _=>absurd z4 (by lia)
    ·have hn4:h4[n]?=some (.lst (ls.map aI)):=by
      have:=A.lt;rw [A4.b.2 n (by lia) (by lia)];exact hn
     obtain ⟨hb4,rfl,e4,A4'⟩:=A3.pop A4;walk_at "r";refine rv (gG _ _ _) ?_;walk_at "r";refine p8 ?_;walk_at "r";refine rv (qw lk4 hn4) ?_;obtain ⟨us,v,hv,hus,husl,hnd,hokk⟩:∃(us:List Lock) (v:Int),k5 [.bl (!(ls.map eO).any fun b=>PyData.eqv b (eO lk4))] (hb4++g)=some (.int v,hb4++g)∧tD (.lv [aI lk4]) (.int v) (hb4++g)=some (.lv (us.map aI),hb4++g)∧us.length≤1∧(ls++us).Nodup∧∀x∈ls++us,eI E.W ps x:=by
      cases hb0:((ls.map eO).any fun b=>PyData.eqv b (eO lk4)) with
      | true=>exact ⟨[],0,rfl,rfl,by simp,by simpa using nd,by simpa using hok⟩
      | false=>
       have hnot:lk4∉ls:=fun z=>by
        rw [List.any_eq_false] at hb0;exact hb0 (eO lk4) (List.mem_map_of_mem z) (xC lk4)
       refine ⟨[lk4],1,rfl,rfl,by simp,?_,?_⟩
       ·rw [List.nodup_append];refine ⟨nd,by simp,fun x hx y hy z=>hnot ?_⟩;rw [List.mem_singleton.mp hy] at z;rw [←z];exact hx
       ·intro x hx;rcases List.mem_append.mp hx with z | z
        ·exact hok x z
        ·rw [List.mem_singleton.mp z];exact okk4
     walk_at "r";refine rv hv ?_;walk_at "r";refine rv hus ?_;refine ⟨ls.map aI,us.map aI,by simp only [dB,hn4],rfl,by rw [List.length_map,List.length_map,show sizeLine=16777216 from rfl];lia,?_⟩;refine ⟨ls++us,max hi' k4,(hb4++g).length,_,_,_,hb4,g++[.lst ((ls++us).map aI)],rfl,by rw [List.map_append];exact List.append_assoc _ _ _,by rw [List.map_append];simp,?_,List.mem_append_left _ hlk,hnd,hokk,by simp;lia,by lia,by lia,A4',?_⟩
     ·have:=A4'.b.1;rw [List.length_append];lia
     ·rw [←List.append_assoc];exact A4.C.snoc (o:=.lst _) (dR _ _ (mm _) _)
   ·rintro δ h' ⟨ls,hi',n,d11,d12,d13,hb,g,rfl,rfl,hn,hnl,hlk,nd,hok,hll,hi0,hi1,A3,C3⟩;rw [List.length_map,List.length_range] at hll A3;replace A3:=A3.le (R':=R+100*l+10) (by lia);show Rn (ax _ _ _ _) _;refine iV ?_;refine Rn.imp (Q:=fun r=>∃(ls:List Lock) (g:MH),r=(Fl.nx,[some (.ob E.s),some (.ob E.wd),some (.int j),some (.int d),some (.int top),some (.lv (held.map aI)),some (.str way),some (.int k1),some (aI lk),some (.ob n),some (.int hi'),d11,d12,d13,none],hb++g)∧(hb++g)[n]?=some (.lst (ls.map aI))∧2≤ls.length∧ls.length≤4∧ls.Nodup∧(∀x∈ls,eI E.W ps x)∧Cl (hb++g)) ?_ ?_
    ·walk_at "r";refine rv (qx hn) ?_;walk_at "ae"
     ·have z:ls.length=1:=by
       have:((ls.map aI).length:Int)=1:=by simpa using z
       rw [List.length_map] at this
       lia
      obtain ⟨x0,rfl⟩:∃x0,ls=[x0]:=List.length_eq_one_iff.mp z;obtain rfl:lk=x0:=List.mem_singleton.mp hlk;obtain ⟨nm,wo,fi⟩:=lk;have hok0:=hok _ (List.mem_singleton.mpr rfl);walk_at "ah";refine ⟨cL hn,?_⟩;walk_at "r";refine rv (a:=(.str nm,_)) rfl ?_;walk_at "r";refine rv (a:=(bz (wo,fi),_)) rfl ?_;walk_at "r";refine rv (a:=(.str wo,_)) rfl ?_;walk_at "r";refine rv (a:=(bz (wo,fi),_)) rfl ?_;walk_at "r";refine rv (a:=(.int fi,_)) rfl ?_;walk_at "r";refine rv (a:=(bz (wo,fi),_)) rfl ?_;walk_at "r";refine rv (a:=(.int fi,_)) rfl ?_;walk_at "r";obtain ⟨v,hv,hm,v1,v0⟩:∃v:Int,k5 [.bl (decide (90 < fi))] (hb++g)=some (.int v,hb++g)∧fX (.int 2) (.int v) (hb++g)=some (.int (2*v),hb++g)∧(90 < fi->v=1)∧(¬90 < fi->v=0):=by
       by_cases z:90 < fi
       ·exact ⟨1,by rw [decide_eq_true z];rfl,rfl,fun _=>rfl,fun y=>absurd z y⟩
       ·exact ⟨0,by rw [decide_eq_false z];rfl,rfl,fun y=>absurd y z,fun _=>rfl⟩
      refine rv hv ?_;walk_at "r";refine rv hm ?_;walk_at "r";refine rv (cK hn (by rw [List.length_map,show sizeLine=16777216 from rfl];simp)) ?_;walk_at "r";have hlen:=A3.b.1;rw [List.set_append_right _ _ (by lia)];have okf:=hok0.2;have okn:=hok0.1;dsimp only at okn;unfold dQ at okf;dsimp only at okf;have hvv:v=0∨v=1:=by by_cases z:90 < fi <;> lia
      refine ⟨[(nm,wo,fi),(nm,wo,fi+1-2*v)],_,rfl,?_,by simp,by simp,?_,?_,?_⟩
      ·rw [List.getElem?_append_right (by lia),List.getElem?_set_self]
       ·rfl
       ·have:=(List.getElem?_eq_some_iff.mp hn).1;rw [List.length_append] at this
        lia
      ·simp;lia
      ·intro x hx;rcases List.mem_cons.mp hx with rfl | hx
       ·exact hok0
       ·rw [List.mem_singleton.mp hx];exact ⟨okn,okf.1,by dsimp only;lia,by dsimp only;lia⟩
      ·rw [←List.set_append_right _ _ (by lia)];exact C3.set (o:=.lst _) rfl
     ·have z:ls.length≠1:=by
       have:((ls.map aI).length:Int)≠1:=by simpa using z
       rw [List.length_map] at this
       lia
      have:0 < ls.length:=List.length_pos_of_mem hlk;exact ⟨_,rfl,ls,g,rfl,hn,by lia,by lia,nd,hok,C3⟩
    rintro _ ⟨ls,g,rfl,hn,l2,l4,nd,hok,C4⟩;have A4:=A3.ext C4;show Rn (ax _ _ _ _) _;walk_at "r";refine rv (sx A4.w) ?_;walk_at "r";obtain ⟨v,hv,v0,v1⟩:∃v:Int,k5 [.bl (E.odd==0)] (hb++g)=some (.int v,hb++g)∧0≤v∧v≤1:=by
     cases E.odd==0
     ·exact ⟨0,rfl,by lia,by lia⟩
     ·exact ⟨1,rfl,by lia,by lia⟩
    refine rv hv ?_;walk_at "r";refine rv (a:=(.tup (ls.map aI),_)) (by simp only [eJ,cZ,hn,Option.map_some];rfl) ?_;walk_at "r";refine rv (gG _ _ _) ?_;walk_at "r";refine rv (a:=(.lv ((held++ls).map aI),_)) (by
     rw [List.map_append];simp only [aG,qy,dB,hn,Option.bind_some,List.length_map];rw [if_pos (by rw [show sizeLine=16777216 from rfl];lia)]) ?_
    walk_at "r";refine hlot (R:=R) (d:=d+1) (A4.le (by lia)) (G.more (n:=1) (by lia) (by lia) hok) (by lia) (by lia) (by decide) (by decide) fun t l5 h5 okl hll5 cr A5=>?_;obtain ⟨hb5,rfl,_,A5'⟩:=A3.pop A5;walk_at "r";exact wD b0 k (.all ls t) (by unfold br;exact ⟨⟨l2,l4,nd,hok⟩,d5,hll5,okl⟩) (by rw [cnt];lia) A5' (by rw [aR])
  refine iV ?_;walk_at "r";refine rv (gG _ _ _) ?_;walk_at "r";refine rv (ny aI held [lk] _ (by simp;lia)) ?_;walk_at "r";refine hlot (R:=R+10) (d:=d+1) (A1.le (by lia)) (G.more (n:=1) (ls:=[lk]) (by lia) (by simp) (by simpa using okk)) (by lia) (by lia) (by decide) (by decide) fun t l2 h2 okl hll cr A2=>?_;refine Rn.imp (Q:=_) (dX (way=Str.ofString "ask") ?_ (fun z=>?_) (fun z=>?_)) fun _ z=>z
  ·walk_at "r";refine ⟨_,rfl,?_⟩;rw [show (way==Str.ofString "ask")=decide (way=Str.ofString "ask") by rw [Bool.eq_iff_iff];simp only [beq_iff_eq,decide_eq_true_eq]]
  ·walk_at "r";refine hlot (R:=R) (d:=d+1) (A2.le (by lia)) G.deep (by lia) (by lia) (by decide) (by decide) fun t3 l3 h3 okl3 hll3 cr3 A3=>?_;walk_at "r";exact p4 b0 k (.ask lk t t3) (by unfold br;exact ⟨okk,d5,hll,hll3,okl,okl3⟩) (by rw [cnt];lia) A3 (by rw [aR])
  ·walk_at "r";exact p4 b0 k (.within lk t) (by unfold br;exact ⟨okk,d5,hll,okl⟩) (by rw [cnt];lia) (A2.le (by lia)) (by rw [aR])
 ·walk_at "r";refine rv (a:=(.bl true,_)) rfl ⟨_,rfl,fun _=>?_,fun z=>(nomatch z)⟩;walk_at "r";refine rv (de A1.w) ?_;walk_at "r";refine rv (bK hdj) ?_;walk_at "r";exact p4 b0 k (.say dj) (by unfold br;exact List.mem_append_right _ (List.mem_of_getElem? hdj)) (by rw [cnt]) (A1.le (by lia)) (by rw [aR])
end
theorem tF (ts:List Lock) (h:MH):iS (.lv (ts.map aI)) (.lv []) h=some (.bl (!ts.isEmpty),h):=by
 have:=fA ts;simp only [iS,eqA,c9,eqD,rdD,kP,pyD,pyL,Option.map_some,Option.bind_some];rw [if_pos ⟨show PyData.depthAll _+1≤64 by lia,by decide⟩];cases ts <;> rfl
section
variable {E:En}
theorem zY {f:Nat} (hlot:vI E f):B8 E (f+1):=by
 intro h0 h R l j ps d top held Q A G d3 l5 hf k;have pl:=G.pl;have hl:=G.hl;have ht:=G.ht;have b0:=A.b;replace A:=A.here;obtain ⟨dj,hdj⟩:∃f,E.W.deeds[j]?=some f:=⟨_,List.getElem?_eq_getElem G.hj⟩;obtain ⟨fj,hfj⟩:∃f,E.fl[j]?=some f:=⟨_,List.getElem?_eq_getElem (by rw [E.ok.fln];exact G.hj)⟩;have hfm:=E.ok.f0 fj (List.mem_of_getElem? hfj);have hsay:Rn (leave h (.tup [.str "say",.str dj]) h) Q:=p4 b0 k (.say dj) (by unfold br;exact List.mem_append_right _ (List.mem_of_getElem? hdj)) (by rw [cnt]) (A.le (by lia)) (by rw [aR]);unfold bT;refine jW ?_;walk_at "r";refine rv (kE A.w) ?_;walk_at "r";refine rv (bK hfj) ?_;walk_at "r";refine rv (gG top fj h) ?_;have lo0:0≤max top fj:=by lia
 have lo1:max top fj≤E.W.names.length:=by lia
 generalize max top fj=lo at lo0 lo1 ⊢;refine dX (lo=E.W.names.length) ?_ (fun z=>?_) (fun z=>?_)
 ·walk_at "r";refine rv (dc A.w) ?_;walk_at "r";refine ⟨_,rfl,?_⟩;rw [List.length_map,show (lo==(E.W.names.length:Int))=decide (lo=E.W.names.length) by rw [Bool.eq_iff_iff];simp only [beq_iff_eq,decide_eq_true_eq]]
 ·walk_at "r";refine rv (de A.w) ?_;walk_at "r";refine rv (bK hdj) ?_;walk_at "r";exact hsay
 obtain ⟨kn,rfl⟩:=Int.eq_ofNat_of_zero_le lo0;have hkn:kn < E.W.names.length:=by lia
 obtain ⟨nm,hnm⟩:∃f,E.W.names[kn]?=some f:=⟨_,List.getElem?_eq_getElem hkn⟩;refine iV ?_;walk_at "af";obtain ⟨⟨ys,h4⟩,e4,hyl,hym,δ4,hh4,_⟩:=l9 (ws:=[]) (g:=gN 0) (c:=aH (eOp cx (eOp fIx (ae 0) (eK (.int 0))) (eOp fIx (eOp fIx (ae 2) (eK (.str "names"))) (ae 1)))) (e:=ae 0) (fun x y=>∃l∈held,y=aI l)
  (xs:=held.map aI) (δ:=[none,some (.int kn),some (.ob E.wd)]) (h:=h) (fun j δ h'=>h'=h∧∃d0,δ=[d0,some (.int kn),some (.ob E.wd)]) ⟨rfl,_,rfl⟩ (fun _ _ _ _ _=>rfl) (by
   rintro i x δ h' hx ⟨rfl,d0,rfl⟩;obtain ⟨l,hl,rfl⟩:=List.mem_map.mp (List.mem_of_getElem? hx);walk_at "r";refine rv (a:=(.str l.1,_)) rfl ?_;walk_at "r";refine rv (dc A.w) ?_;walk_at "r";refine rv (bK hnm) ?_;walk_at "r";refine ⟨_,rfl,fun _=>?_,fun _=>⟨rfl,_,rfl⟩⟩;walk_at "r";exact ⟨⟨l,hl,rfl⟩,rfl,_,rfl⟩)
 dsimp only at hh4;subst hh4;refine rv e4 ⟨Nat.le_trans hyl (by rw [List.length_map,show sizeLine=16777216 from rfl];lia),?_⟩;obtain ⟨ts,rfl⟩:∃ts:List Lock,ys=ts.map aI:=by
  clear e4 hyl
  induction ys with
  | nil=>exact ⟨[],rfl⟩
  | cons y r ih=>
   obtain ⟨js,rfl⟩:=ih fun z hz=>hym z (List.mem_cons_of_mem _ hz);obtain ⟨x,hx,l,hl,rfl⟩:=hym y List.mem_cons_self;exact ⟨l::js,rfl⟩
 walk_at "r";refine rv (tF ts _) ⟨_,rfl,fun z=>?_,fun z=>?_⟩
 ·walk_at "r";refine rv (de A.w) ?_;walk_at "r";refine rv (bK hdj) ?_;walk_at "r";exact hsay
 walk_at "r";refine rv (dc A.w) ?_;walk_at "r";refine rv (bK hnm) ?_;walk_at "r";refine rv (lX A.w) ?_;walk_at "r";refine rv (vK A.w _) ?_;rw [show (l:Int)-5=((l-5:Nat):Int) by lia];have A1:=A.set (l-5);generalize h4.set E.wd (wdO E.W E.fl ((l-5:Nat):Int) E.odd)=h5 at A1 ⊢;walk_at "r";refine rv (cM A1.w) ?_;walk_at "r";refine rv (bK G.hp) ?_;walk_at "r";refine pG A1 pl fun t1 h2 tk1 A2=>?_;walk_at "r";refine rv (cM A2.w) ?_;walk_at "r";refine rv (bK G.hp) ?_;walk_at "r";refine pG A2 pl fun t2 h3 tk2 A3=>?_;walk_at "r";refine ⟨_,_,rfl,?_⟩;walk_at "af";have hlen3:=A3.b.1;have okn:=List.mem_of_getElem? hnm;refine cT (fun i δ h'=>∃(rows:List Row) (l':Nat) (d11 d12 d13:Option D) (hb:MH),δ=[some (.ob E.s),some (.ob E.wd),some (.int j),some (.int d),some (.int top),some (.lv (held.map aI)),some (.int kn),some (.str nm),some (bz t1),some (bz t2),some (.ob h3.length),d11,d12,d13]∧h'=hb++[.lst (rows.map fun r=>.tup [aR r])]∧rows.length=i∧(∀r∈rows,br E.W ps (d+1) r)∧l'+(rows.map cnt).sum+5=l+2*i∧Wb E h4 (R+100*l'+(8-4*i)) l' hb)
  ⟨[],l-5,_,_,_,h3,rfl,rfl,rfl,fun _ z=>(nomatch z),by simp;lia,A3.le (by lia)⟩ (fun _ _ _ _ _=>rfl) ?_ ?_
 ·rintro i x δ h' hx ⟨rows,l',d11,d12,d13,hb,rfl,rfl,hrl,hro,hc,A6⟩;have hi:i < 2:=(List.getElem?_eq_some_iff.mp hx).1;obtain ⟨u,v,rfl,uk,vk⟩:∃u v:Term,x=.tup [bz u,bz v]∧dQ ps u∧dQ ps v:=by
   rcases List.mem_cons.mp (List.mem_of_getElem? hx) with rfl | hx
   ·exact ⟨t1,t2,rfl,tk1,tk2⟩
   ·rw [List.mem_singleton.mp hx];exact ⟨t2,t1,rfl,tk2,tk1⟩
  have hlb:hb.length=h3.length:=A6.b.1.trans hlen3.symm;generalize hrs:rows.map (fun r=>D.tup [aR r])=rs;have hcl:clL (hb.length+1) rs=true:=by rw [←hrs];exact dR _ _ (fun r=>by show (clD _ (aR r)&&true)=true;rw [nG];rfl) rows
  walk_at "r";refine rv (ny aI held [(nm,u),(nm,v)] _ (by simp;lia)) ?_;walk_at "r";refine hlot (R:=R+(8-4*(i+1))) (d:=d+3) ((A6.push (o:=.lst rs) hcl).le (by lia)) (G.more (n:=3) (ls:=[(nm,u),(nm,v)]) lo1 (by simp) (by
   intro x hx;rcases List.mem_cons.mp hx with rfl | z
   ·exact ⟨okn,uk⟩
   ·rw [List.mem_singleton.mp z];exact ⟨okn,vk⟩)) (by lia) (by lia) (by decide) (by decide) fun t l7 h7 okl hll cr A7=>?_
  obtain ⟨hb7,rfl,e7,A7'⟩:=A6.pop A7;have hl7:=e7.trans hlb;walk_at "ah";refine ⟨cL (iR hl7),?_⟩;walk_at "r";refine rv (cK (iR hl7) (by rw [←hrs,List.length_map,show sizeLine=16777216 from rfl];lia)) ?_;rw [rg hl7];walk_at "r";have hcn:((rows++[Row.within (nm,u) [Row.within (nm,v) t]]).map cnt).sum=(rows.map cnt).sum+(2+av t):=by
   rw [List.map_append,List.sum_append];simp [cnt,av]
   lia
  refine ⟨rows++[.within (nm,u) [.within (nm,v) t]],l7,_,_,_,hb7,rfl,?_,by simp [hrl],?_,by rw [hcn];lia,A7'.le (by lia)⟩
  ·rw [List.map_append,hrs];simp [aR,bY,aI]
  ·intro r hr;rcases List.mem_append.mp hr with z | z
   ·exact hro r z
   ·rw [List.mem_singleton.mp z];simp only [br,bE];exact ⟨⟨okn,uk⟩,by lia,by simp,⟨⟨okn,vk⟩,by lia,hll,okl⟩,trivial⟩
 ·rintro δ h' ⟨rows,l',d11,d12,d13,hb,rfl,rfl,hrl,hro,hc,A6⟩
  match rows,hrl with
  | [r0,r1],_=>
   have hc:l'+(([r0,r1]:List Row).map cnt).sum+5=l+2*2:=hc;have hat:(hb++[MO.lst [.tup [aR r0],.tup [aR r1]]])[h3.length]?=some (.lst [.tup [aR r0],.tup [aR r1]]):=iR (A6.b.1.trans hlen3.symm);show Rn _ _;walk_at "r";refine rv (fK hat (d:=.tup [aR r0]) rfl) ?_;walk_at "r";refine rv (fK hat (d:=.tup [aR r1]) rfl) ?_;walk_at "r";refine wD b0 k (.by_ t1 t2 [r0] [.within (nm,t1) []] [r1]) ?_ ?_ (A6.le (by lia)) (by simp [aR,bY,aI])
   ·simp only [br,bE];exact ⟨tk1,tk2,by lia,by simp,by simp,by simp,⟨hro r0 (by simp),trivial⟩,⟨⟨⟨okn,tk1⟩,by lia,by simp,trivial⟩,trivial⟩,⟨hro r1 (by simp),trivial⟩⟩
   ·simp [cnt,av] at hc ⊢;lia
theorem ring:∀f,vI E f∧Ca E f∧yd E f∧B8 E f
 | 0=>⟨fun _ _ _ z=>absurd z (by lia),fun _ _ _ z=>absurd z (by lia),fun _ _ z1 z=>absurd z (by lia),fun _ _ z1 _ z=>absurd z (by lia)⟩
 | f+1=>let ⟨a,b,c,d⟩:=ring f;⟨sZ b,Am a c d,u9 a,zY a⟩
end
theorem qt {P:Int->Prop}:∀{zs:List D},(∀y∈zs,∃i,y=.int i∧P i)->∃js:List Int,zs=js.map D.int∧∀j∈js,P j
 | [],_=>⟨[],rfl,fun _ z=>(nomatch z)⟩
 | y::r,h=>by
  obtain ⟨js,rfl,q⟩:=qt (zs:=r) fun z hz=>h z (List.mem_cons_of_mem _ hz);obtain ⟨i,rfl,p⟩:=h y List.mem_cons_self;exact ⟨i::js,rfl,fun j hj=>by
   rcases List.mem_cons.mp hj with rfl | hj
   ·exact p
   ·exact q j hj⟩
theorem vm (f:α->D) (xs:List α) (k:Nat) (h:MH):r8 (.lv (xs.map f)) none (some (k:Int)) h=some (.lv ((xs.take k).map f),h):=by
 show some (D.lv (cutD (xs.map f) none (some (k:Int))),h)=_;unfold cutD;rw [HT.rl,HT.t4,List.drop_zero,Nat.sub_zero,List.length_map,←List.map_take]
 by_cases z:k≤xs.length
 ·rw [Nat.min_eq_left z]
 ·rw [Nat.min_eq_right (by lia),List.take_of_length_le (Nat.le_refl _),List.take_of_length_le (by lia)]
theorem zB {h h0:MH} {s c R:Nat} {cs:List Int} {most odd:Int} {Q:D×MH->Prop} (A:Sb s c cs h0 (R+80) h) (o0:0≤odd) (o1:odd≤1000) (k:∀(W:Wd) (fl:List Int) (hb:MH),WdOk W fl odd->Sb s c cs h0 R hb->Q (.ob hb.length,hb++[wdO W fl most odd])):Rn (eS [.ob s,.int most,.int odd] h) Q:=by
 refine bV ?_;walk_at "r";refine iZ (is:=[1,2,2,3,4,6]) (fun i=>1≤i∧i≤6) (by decide) A fun n1 h1 hn1 _ A1=>?_;walk_at "r";refine qK A1 (by lia) (by lia) fun ns h2 nl nk nnd A2=>?_;walk_at "r";refine iZ (is:=[1,1,2,2,3,4,6]) (fun i=>1≤i∧i≤6) (by decide) A2 fun n2 h3 hn2 _ A3=>?_;walk_at "r";refine qK A3 (by lia) (by lia) fun ds h4 dl dk dnd A4=>?_;walk_at "r";refine qK A4 (by lia) (by lia) fun ps h5 pl pk pnd A5=>?_;walk_at "af";obtain ⟨⟨ys,h6⟩,e6,a6,δ6,_,A6⟩:=md (ws:=[]) (g:=gN 0) (e:=eFn aN (ab (ae 1) (ab (eK (.lv [.int 0,.int 1,.int 1,.int 2,.int 2,.int 3])) aj))) (fun _ y=>∃i,y=.int i∧0≤i∧i≤3)
  (xs:=ds.map D.str) (δ:=[none,some (.ob s)]) (h:=h5) (fun i δ h'=>(∃d0,δ=[d0,some (.ob s)])∧Sb s c cs h0 (R+18-i) h') ⟨⟨_,rfl⟩,A5⟩ (fun _ _ _ _ _=>rfl) (by
   rintro i x δ h' hx ⟨⟨d0,rfl⟩,A6⟩;have hi:i < 6:=by
    have:=(List.getElem?_eq_some_iff.mp hx).1;rw [List.length_map] at this
    lia
   walk_at "r";exact iZ (R:=R+18-(i+1)) (is:=[0,1,1,2,2,3]) (fun i=>0≤i∧i≤3) (by decide) (A6.le (by lia)) fun i h7 hi _ A7=>⟨⟨i,rfl,hi⟩,⟨_,rfl⟩,A7⟩)
 have l6:=a6.length;obtain ⟨many,rfl,hmany⟩:=qt (P:=fun i=>0≤i∧i≤3) fun y hy=>(let ⟨_,_,r⟩:=a6.right y hy;r);dsimp only at l6;rw [List.length_map,List.length_map] at l6;rw [List.length_map] at A6;refine rv e6 ⟨by dsimp only;rw [List.length_map,show sizeLine=16777216 from rfl];lia,?_⟩;walk_at "af";obtain ⟨⟨ys,h7⟩,e7,a7,δ7,_,A7⟩:=md (ws:=[]) (g:=gN 0) (e:=eFn aO (ab (ae 2) (ab (eFn c5 (ab (ae 1) aj)) aj))) (fun _ y=>∃i,y=.int i∧0≤i∧i < ns.length)
  (xs:=ds.map D.str) (δ:=[none,some (.lv (ns.map D.str)),some (.ob s)]) (h:=h6) (fun i δ h'=>(∃d0,δ=[d0,some (.lv (ns.map D.str)),some (.ob s)])∧Sb s c cs h0 (R+12-i) h') ⟨⟨_,rfl⟩,A6.le (by lia)⟩ (fun _ _ _ _ _=>rfl) (by
   rintro i x δ h' hx ⟨⟨d0,rfl⟩,A7⟩;have hi:i < 6:=by
    have:=(List.getElem?_eq_some_iff.mp hx).1;rw [List.length_map] at this
    lia
   walk_at "r";rw [List.length_map];exact eL (R:=R+12-(i+1)) (A7.le (by lia)) (by lia) (by lia) fun r h8 r0 r1 A8=>⟨⟨r,rfl,r0,r1⟩,⟨_,rfl⟩,A8⟩)
 have l7:=a7.length;obtain ⟨fls,rfl,hfls⟩:=qt (P:=fun i=>0≤i∧i < ns.length) fun y hy=>(let ⟨_,_,r⟩:=a7.right y hy;r);dsimp only at l7;rw [List.length_map,List.length_map] at l7;rw [List.length_map] at A7;refine rv e7 ⟨by dsimp only;rw [List.length_map,show sizeLine=16777216 from rfl];lia,?_⟩;walk_at "r";refine rv (a:=(.lv ((iU fls).map D.int),h7)) (by
  show (lE (fls.map D.int)).bind _=_;rw [oZ];show (if fls.length < 64 then _ else _)=_;rw [if_pos (by lia)]) ?_
 walk_at "af";have e8:bG [] (gN 0) cN (ou (ae 1) pNo (pAt (ae 0))) (many.map D.int) [none,some (.lv (ps.map D.str))] h7=some ((many.map D.int).filterMap fun d=>match d with | .int k=>some (.lv ((ps.take k.toNat).map D.str)) | _=>none,h7):=
  p7 rfl _ (fun δ=>∃d0,δ=[d0,some (.lv (ps.map D.str))]) ⟨_,rfl⟩ (by
   rintro x hx δ ⟨d0,rfl⟩;obtain ⟨k,hk,rfl⟩:=List.mem_map.mp hx;refine rv rfl ⟨rfl,rv rfl ⟨rfl,⟨_,rfl⟩,fun _=>⟨_,rfl,?_⟩,fun z=>(nomatch z)⟩⟩;obtain ⟨n,rfl⟩:=Int.eq_ofNat_of_zero_le (hmany k hk).1;walk_at "r";refine ⟨_,rfl,rv (vm D.str ps n _) ?_⟩;rfl)
 have e9:((many.map D.int).filterMap fun d=>match d with | .int k=>some (D.lv ((ps.take k.toNat).map D.str)) | _=>none)=(many.map fun k=>ps.take k.toNat).map fun ps=>D.lv (ps.map D.str):=by
  rw [List.filterMap_map,List.map_map];exact congrFun (List.filterMap_eq_map (f:=(fun ps:List Str=>D.lv (ps.map D.str))∘fun k:Int=>ps.take k.toNat)) _
 rw [e9] at e8;refine rv e8 ⟨by dsimp only;rw [List.length_map,List.length_map,show sizeLine=16777216 from rfl];lia,?_⟩;walk_at "r";have hfin:∀(a b c d e f:D),Rn (tH (dD (eK (.str "names")) (ae 3) (dD (eK (.str "deeds")) (ae 4) (dD (eK (.str "params")) (ae 5) (dD (eK (.str "floors")) (ae 7) (dD (eK (.str "left")) (ae 1) (dD (eK (.str "odd")) (ae 2) y1)))))) [some (.ob s),some (.int most),some (.int odd),some a,some b,some c,some d,some e] h7) fun p=>p=(.ob h7.length,h7++[.dct [(.inr (Str.ofString "names"),a),(.inr (Str.ofString "deeds"),b),(.inr (Str.ofString "params"),c),(.inr (Str.ofString "floors"),e),(.inr (Str.ofString "left"),.int most),(.inr (Str.ofString "odd"),.int odd)]]):=fun a b c d e f=>⟨_,rfl,rfl⟩;refine (hfin _ _ _ _ _ .non).imp ?_;rintro _ rfl;walk_at "r";refine k ⟨ns,ds,many.map fun k=>ps.take k.toNat⟩ (iU fls) h7 ⟨?_,?_,?_,?_,?_,?_,?_,?_,o0,o1,nk,dk,?_,nnd,dnd,?_⟩ (A7.le (by lia))
 ·show 1≤ns.length;lia
 ·show ns.length≤6;lia
 ·show 1≤ds.length;lia
 ·show ds.length≤6;lia
 ·show (many.map _).length=ds.length;rw [List.length_map];lia
 ·intro q hq;obtain ⟨k,hk,rfl⟩:=List.mem_map.mp hq;rw [List.length_take];have:=pl
  lia
 ·show (iU fls).length=ds.length;rw [(gf fls).length_eq];lia
 ·intro f hf;exact hfls f ((gf fls).mem_iff.mp hf)
 ·intro q hq w hw;obtain ⟨k,hk,rfl⟩:=List.mem_map.mp hq;exact pk w (List.mem_of_mem_take hw)
 ·intro q hq;obtain ⟨k,hk,rfl⟩:=List.mem_map.mp hq;exact pnd.sublist (List.take_sublist _ _)
end Mi
namespace Pg
open PySem Sm L2
abbrev dW:=Str×List Str×List Row
structure Prog where
 names:List Str
 deeds:List dW
noncomputable def gS (d:dW):D:=.tup [.str d.1,.tup (d.2.1.map D.str),.tup (bY d.2.2)]
noncomputable def eN (P:Prog):D:=.tup [.tup (P.names.map D.str),.tup (P.deeds.map gS)]
structure OkP (W:Wd) (most:Nat) (P:Prog):Prop where
 nm:P.names=gP W.names
 dl:P.deeds.length=W.deeds.length
 dd:∀(j:Nat) (d:dW),P.deeds[j]?=some d->W.deeds[j]?=some d.1∧W.params[j]?=some d.2.1∧bE W d.2.1 1 d.2.2∧d.2.2.length≤12
 ct:(P.deeds.map fun d=>av d.2.2).sum≤most
end Pg
namespace Mi
open PySem Sm L2 Pg
theorem qE (n:Nat) (d:dW):clD n (gS d)=true:=by
 show (true&&(clL n (d.2.1.map D.str)&&(clL n (bY d.2.2)&&true)))=true;rw [fZ,du];rfl
theorem zx (n:Nat) (P:Prog):clD n (eN P)=true:=by
 show (clL n (P.names.map D.str)&&(clL n (P.deeds.map gS)&&true))=true;rw [fZ,dR n _ (qE n)];rfl
theorem kd {α:Type} {f:α->D} {xs:List α} {i:Nat} {x:D} (h:(iY 0 (xs.map f))[i]?=some x):∃a,xs[i]?=some a∧x=.tup [.int (i:Int),f a]:=by
 rw [k6,List.getElem?_map] at h;cases e:xs[i]? with
 | none=>rw [e] at h;cases h
 | some a=>
  rw [e] at h;cases h;exact ⟨a,rfl,by rw [Nat.zero_add]⟩
theorem Wb.out {E:En} {h h1:MH} {R l:Nat} {o:MO} (C:Cl h) (B:Sb E.s E.c E.cs h R' h0) (e:E.wd=h0.length) (A:Wb E (h0++[o]) R l h1):∃hb o',h1=hb++[o']∧Sb E.s E.c E.cs h R hb∧Cl hb:=by
 have b:=A.b;obtain ⟨hs,hc⟩:=B.S.lt;have hl:h1.length=h0.length+1:=by rw [b.1];simp
 have hx:h0.length < h1.length:=by lia
 have ee:h1=h1.take h0.length++[h1[h0.length]'hx]:=by rw [List.take_append_getElem,List.take_of_length_le (by lia)]
 have bb:But E.s h0 (h1.take h0.length):=⟨by rw [List.length_take];lia,fun k hk=>by
  by_cases z:k < h0.length
  ·rw [List.getElem?_take_of_lt z,b.2 k hk (by lia),List.getElem?_append_left z]
  ·rw [List.getElem?_eq_none (by rw [List.length_take];lia),List.getElem?_eq_none (by lia)]⟩
 have S:=A.S;rw [ee] at S;have S':=S.cut (by rw [bb.1];exact hs) (by rw [bb.1];exact hc);exact ⟨_,_,ee,⟨S',B.b.trans bb⟩,C.but S' (B.b.trans bb)⟩
theorem vB {h h0:MH} {s c R most:Nat} {cs:List Int} {odd:Int} {Q:D×MH->Prop} (A:Sb s c cs h0 (R+100*most+120) h) (C:Cl h) (o0:0≤odd) (o1:odd≤1000) (k:∀(W:Wd) (fl:List Int) (P:Prog) (h1:MH),WdOk W fl odd->OkP W most P->Sb s c cs h0 R h1->Cl h1->Q (eN P,h1)):Rn (dz [.ob s,.int most,.int odd] h) Q:=by
 refine jW ?_;walk_at "r";refine zB (R:=R+100*most+40) A.S.sb o0 o1 fun W fl hb ok A1=>?_;obtain ⟨lt1,lt2⟩:=A1.S.lt;have d2:=ok.d2;have n1:=ok.n1;have n2:=ok.n2;have hlen:=A1.b.1;let E:En:=⟨s,c,hb.length,cs,W,fl,odd,ok,by lia,by lia⟩;have B0:Wb E (hb++[wdO W fl most odd]) (R+100*most+40) most (hb++[wdO W fl most odd]):=⟨A1.S.more _,iR rfl,(C.but A1.S A1.b).snoc (tL _ _ _ _ _),fm.refl _ _ _⟩;walk_at "r";refine jX ?_;walk_at "r";refine rv (de (B0.push (o:=.lst []) rfl).w) ?_;walk_at "r";refine ⟨_,_,_,rfl,rfl,?_⟩;have hobl:(hb++[wdO W fl most odd]).length=h.length+1:=by simp [hlen]
 rw [hobl];refine cT (fun i δ h'=>∃(dds:List dW) (l':Nat) (d5 d6 d7:Option D) (hw:MH),δ=[some (.ob s),some (.int most),some (.int odd),some (.ob hb.length),some (.ob (h.length+1)),d5,d6,d7]∧h'=hw++[.lst (dds.map gS)]∧hw.length=h.length+1∧dds.length=i∧(∀(j:Nat) (d:dW),dds[j]?=some d->W.deeds[j]?=some d.1∧W.params[j]?=some d.2.1∧bE W d.2.1 1 d.2.2∧d.2.2.length≤12)∧l'+(dds.map fun d=>av d.2.2).sum=most∧Wb E (hb++[wdO W fl most odd]) (R+100*l'+(40-5*i)) l' hw)
  ⟨[],most,_,_,_,_,rfl,rfl,hobl,rfl,fun _ _ z=>by simp at z,by simp,B0⟩ (fun _ _ _ _ _=>rfl) ?_ ?_
 ·rintro i x δ h' hx ⟨dds,l',d5,d6,d7,hw,rfl,rfl,hwl,hdl,hdd,hc,A6⟩;obtain ⟨dn,hdn,rfl⟩:=kd hx;have hi:i < W.deeds.length:=(List.getElem?_eq_some_iff.mp hdn).1;obtain ⟨ps,hps⟩:∃f,W.params[i]?=some f:=⟨_,List.getElem?_eq_getElem (by rw [ok.pl];exact hi)⟩;walk_at "r";refine vL (E:=E) (R:=R+100*l'+(39-5*i)) (is:=[1,2,3,4,12]) (fun i=>1≤i∧i≤12) (by decide) ((A6.push (o:=.lst (dds.map gS)) (dR _ _ (qE _) dds)).le (by lia)) fun mo h7 hmo A7=>?_;walk_at "r";refine (ring (E:=E) 20).1 (R:=R+(40-5*(i+1))) (d:=1) (held:=[]) (A7.le (by lia)) ⟨hps,hi,by decide,show (-1:Int)≤W.names.length by lia,fun _ z=>(nomatch z),by simp⟩ (by decide) (by decide) hmo.1 hmo.2 fun t l8 h8 okl hll cr A8=>?_;have w8:=A8.w;obtain ⟨hw8,rfl,e8,A8'⟩:=A6.pop A8;have hl8:=e8.trans hwl;walk_at "ah";refine ⟨cL (iR hl8),?_⟩;walk_at "r";refine rv (cM w8) ?_;walk_at "r";refine rv (bK hps) ?_;walk_at "r";refine rv (a:=(.tup (ps.map D.str),_)) rfl ?_;walk_at "r";refine rv (cK (iR hl8) (by rw [List.length_map,show sizeLine=16777216 from rfl];lia)) ?_;rw [rg hl8];walk_at "r";have hcn:((dds++[(dn,ps,t)]).map fun d:dW=>av d.2.2).sum=(dds.map fun d:dW=>av d.2.2).sum+av t:=by
   rw [List.map_append,List.sum_append];simp
  refine ⟨dds++[(dn,ps,t)],l8,_,_,_,hw8,rfl,by rw [List.map_append];rfl,hl8,by simp [hdl],?_,by rw [hcn];lia,A8'.le (by lia)⟩;intro j d hj
  by_cases z:j < dds.length
  ·rw [List.getElem?_append_left z] at hj;exact hdd j d hj
  ·rw [List.getElem?_append_right (by lia)] at hj;have hj0:j-dds.length=0:=by
    have:=(List.getElem?_eq_some_iff.mp hj).1;simp at this
    lia
   rw [hj0] at hj;cases hj;obtain rfl:j=i:=by lia
   exact ⟨hdn,hps,okl,hll⟩
 ·rintro δ h' ⟨dds,l',d5,d6,d7,hw,rfl,rfl,hwl,hdl,hdd,hc,A6⟩;rw [cq,List.length_map] at hdl;have w6:=(A6.push (o:=.lst (dds.map gS)) (dR _ _ (qE _) dds)).w;have hat:(hw++[MO.lst (dds.map gS)])[h.length+1]?=some (.lst (dds.map gS)):=iR hwl;obtain ⟨hb',o',rfl,B9,C9⟩:=Wb.out (E:=E) C A1 rfl A6;walk_at "r";refine rv (dc w6) ?_;walk_at "r";refine rv (a:=(.lv ((gP W.names).map D.str),_)) (by
   show (lp (W.names.map D.str)).bind _=_;rw [kF];show (if W.names.length < 64 then _ else _)=_;rw [if_pos (by lia)]) ?_
  walk_at "r";refine rv (a:=(.tup ((gP W.names).map D.str),_)) rfl ?_;walk_at "r";refine rv (a:=(.tup (dds.map gS),_)) (by simp only [eJ,cZ,hat,Option.map_some];rfl) ?_;walk_at "r";rw [List.append_assoc];exact rv (m5 B9.b.1 C9 (fun n z=>(nomatch z)) (zx _ ⟨gP W.names,dds⟩)) (k W fl ⟨gP W.names,dds⟩ hb' ok ⟨rfl,hdl,hdd,by show _≤_;dsimp only;lia⟩ ⟨B9.S.le (by lia),A.b.trans B9.b⟩ C9)
end Mi
namespace Pg
open PySem Sm L2
noncomputable def td (l:List Row):D:=.tup (bY l)
noncomputable def ao:Row->List (List Row)
 | .say _=>[]
 | .call _ _=>[]
 | .within _ b=>[b]
 | .all _ b=>[b]
 | .ask _ b e=>[b,e]
 | .by_ _ _ a b c=>[a,b,c]
 | .either a b=>[a,b]
 | .again a=>[a]
noncomputable def bN:Row->Str
 | .say _=>"say"
 | .call _ _=>"call"
 | .within _ _=>"within"
 | .all _ _=>"all"
 | .ask _ _ _=>"ask"
 | .by_ _ _ _ _ _=>"by"
 | .either _ _=>"either"
 | .again _=>"again"
mutual
noncomputable def dm (p:List Nat):Row->List (List Nat×Row)
 | .say _=>[]
 | .call _ _=>[]
 | .within _ b=>aM (p++[0]) 0 b
 | .all _ b=>aM (p++[0]) 0 b
 | .ask _ b e=>aM (p++[0]) 0 b++aM (p++[1]) 0 e
 | .by_ _ _ a b c=>aM (p++[0]) 0 a++(aM (p++[1]) 0 b++aM (p++[2]) 0 c)
 | .either a b=>aM (p++[0]) 0 a++aM (p++[1]) 0 b
 | .again a=>aM (p++[0]) 0 a
noncomputable def aM (a:List Nat) (k:Nat):List Row->List (List Nat×Row)
 | []=>[]
 | r::rs=>(a++[k],r)::(dm (a++[k]) r++aM a (k+1) rs)
end
noncomputable def cS (p:List Nat):Nat->List (List Row)->List (List Nat×Row)
 | _,[]=>[]
 | k,l::ls=>aM (p++[k]) 0 l++cS p (k+1) ls
theorem oM (p:List Nat) (r:Row):dm p r=cS p 0 (ao r):=by
 cases r <;> simp [dm,ao,cS]
theorem jn (a:List Nat):∀(k:Nat) (x y:List Row),aM a k (x++y)=aM a k x++aM a (k+x.length) y
 | k,[],y=>by simp [aM]
 | k,r::x,y=>by simp [aM,jn a (k+1) x y,Nat.add_comm,Nat.add_left_comm]
theorem kW (p:List Nat):∀(k:Nat) (x y:List (List Row)),cS p k (x++y)=cS p k x++cS p (k+x.length) y
 | k,[],y=>by simp [cS]
 | k,r::x,y=>by simp [cS,kW p (k+1) x y,Nat.add_comm,Nat.add_left_comm]
mutual
noncomputable def dE:Row->Nat
 | .say _=>0
 | .call _ _=>0
 | .within _ b=>bh b
 | .all _ b=>bh b
 | .ask _ b e=>max (bh b) (bh e)
 | .by_ _ _ a b c=>max (bh a) (max (bh b) (bh c))
 | .either a b=>max (bh a) (bh b)
 | .again a=>bh a
noncomputable def bh:List Row->Nat
 | []=>1
 | r::rs=>max (1+dE r) (bh rs)
end
theorem iL {lot:List Row} {r:Row} (h:r∈lot):1+dE r≤bh lot:=by
 induction lot with
 | nil=>cases h
 | cons x xs ih=>
  rw [bh];rcases List.mem_cons.mp h with rfl | h
  ·omega
  ·have:=ih h;omega
theorem iK {r:Row} {l:List Row} (h:l∈ao r):bh l≤dE r:=by
 cases r <;> simp [ao] at h
 case within=>subst h;simp [dE]
 case all=>subst h;simp [dE]
 case ask=>rcases h with rfl | rfl <;> rw [dE] <;> omega
 case by_=>rcases h with rfl | rfl | rfl <;> rw [dE] <;> omega
 case either=>rcases h with rfl | rfl <;> rw [dE] <;> omega
 case again=>subst h;simp [dE]
theorem eh (r:Row):cnt r=1+((ao r).map av).sum:=by cases r <;> simp [cnt,ao] <;> omega
mutual
theorem jm (p:List Nat):∀r:Row,1+(dm p r).length=cnt r
 | .say _=>by simp [dm,cnt]
 | .call _ _=>by simp [dm,cnt]
 | .within _ b=>by simp [dm,cnt,aL (p++[0]) 0 b]
 | .all _ b=>by simp [dm,cnt,aL (p++[0]) 0 b]
 | .ask _ b e=>by simp [dm,cnt,aL (p++[0]) 0 b,aL (p++[1]) 0 e];omega
 | .by_ _ _ a b c=>by simp [dm,cnt,aL (p++[0]) 0 a,aL (p++[1]) 0 b,aL (p++[2]) 0 c];omega
 | .either a b=>by simp [dm,cnt,aL (p++[0]) 0 a,aL (p++[1]) 0 b];omega
 | .again a=>by simp [dm,cnt,aL (p++[0]) 0 a]
theorem aL (a:List Nat):∀(k:Nat) (l:List Row),(aM a k l).length=av l
 | k,[]=>by simp [aM,av]
 | k,r::rs=>by
  have:=jm (a++[k]) r;have:=aL a (k+1) rs;simp [aM,av];omega
end
mutual
theorem sU {W:Wd} {ps:List Str}:∀(n:Nat) (r:Row),br W ps n r->n≤5->dE r≤5-n
 | n,.say _,_,_=>by simp [dE]
 | n,.call _ _,_,_=>by simp [dE]
 | n,.within _ b,h,hn=>by rw [br] at h;have:=bH (n+1) b h.2.2.2 h.2.1;rw [dE];omega
 | n,.all _ b,h,hn=>by rw [br] at h;have:=bH (n+1) b h.2.2.2 h.2.1;rw [dE];omega
 | n,.ask _ b e,h,hn=>by rw [br] at h;have:=bH (n+1) b h.2.2.2.2.1 h.2.1;have:=bH (n+1) e h.2.2.2.2.2 h.2.1;rw [dE];omega
 | n,.by_ _ _ a b c,h,hn=>by
  rw [br] at h;obtain ⟨_,_,h0,_,_,_,h1,h2,h3⟩:=h;have:=bH (n+1) a h1 h0;have:=bH (n+1) b h2 h0;have:=bH (n+1) c h3 h0;rw [dE];omega
 | n,.either a b,h,hn=>by
  rw [br] at h;obtain ⟨h0,_,_,h1,h2⟩:=h;have:=bH (n+1) a h1 h0;have:=bH (n+1) b h2 h0;rw [dE];omega
 | n,.again a,h,hn=>by
  rw [br] at h;obtain ⟨h0,_,h1⟩:=h;have:=bH (n+1) a h1 h0;rw [dE];omega
theorem bH {W:Wd} {ps:List Str}:∀(n:Nat) (l:List Row),bE W ps n l->n≤5->bh l≤6-n
 | n,[],_,hn=>by simp [bh];omega
 | n,r::rs,h,hn=>by
  rw [bE] at h;have:=sU n r h.1 hn;have:=bH n rs h.2 hn;rw [bh];omega
end
noncomputable def qm (n:Nat):D:=.int (n:Int)
noncomputable def fS (p:List Nat):D:=.tup (p.map qm)
noncomputable def jY (x:List Nat×Row):D:=.tup [fS x.1,aR x.2]
end Pg
namespace Mi
open PySem Sm L2 Pg
theorem zy (n:Nat) (x:List Nat×Row):clD n (jY x)=true:=by
 show (clL n (x.1.map qm)&&(clD n (aR x.2)&&true))=true;rw [dR n _ (fun _=>rfl),nG];rfl
theorem pD (h:MH):qO h h=true:=by
 induction h with
 | nil=>rfl
 | cons o r ih=>show (vF o o&&qO r r)=true;rw [vE,ih];rfl
theorem kY {H:MH} {xs:List D} (hc:clL H.length xs=true):leave H (.ob H.length) (H++[.lst xs])=some (.lv xs,H):=by
 have h3:sE H.length (H++[.lst xs]) (.ob H.length)=.lv xs:=by
  show (if H.length < H.length then _ else _)=_;rw [if_neg (Nat.lt_irrefl _)];simp
 unfold leave;rw [h3,List.take_append_of_le_length (Nat.le_refl _),List.take_length,pD];show (if (clL H.length xs&&_)=true then _ else _)=_;rw [hc];rfl
theorem j7 (r:Row) (h:MH):eU [aR r] h=some (.tup ((ao r).map td),h):=by
 have e:Rn (eU [aR r] h) fun p=>p=(.tup ((ao r).map td),h):=by
  refine bV ?_;cases r <;> rw [aR] <;> (walk_at "r";refine rv rfl ?_;walk_at "r";refine rv rfl ?_;dsimp only;refine ⟨_,rfl,?_⟩;walk_at "r";refine rv rfl ?_;rfl)
 obtain ⟨p,e1,rfl⟩:=e;exact e1
theorem vn {xs ys:List D} {h:MH} (hl:xs.length+ys.length≤10000):aG (.tup xs) (.tup ys) h=some (.tup (xs++ys),h):=by
 cases xs with
 | nil=>rfl
 | cons x xs=>
  show (if xs.length+1+ys.length≤sizeLine then some (D.tup (x::xs++ys),h) else none)=_;rw [if_pos (by rw [show sizeLine=16777216 from rfl];rw [List.length_cons] at hl;omega)]
theorem mY {h:MH} {n:Nat} {xs ys:List D} (e:h[n]?=some (.lst xs)) (hl:xs.length+ys.length≤1000000):iM (.ob n) [.lv ys] h=some (.non,h.set n (.lst (xs++ys))):=by
 unfold iM;dsimp only;rw [e];show (if xs.length+ys.length≤sizeLine then _ else _)=_;rw [if_pos (by rw [show sizeLine=16777216 from rfl];omega)]
theorem mF {H:MH} {o o':MO}:(H++[o]).set H.length o'=H++[o']:=by
 rw [List.set_append_right _ _ (Nat.le_refl _),Nat.sub_self];rfl
theorem fW {H:MH} {o:MO}:(H++[o])[H.length]?=some o:=by simp
theorem pe (a:List Nat) (i:Nat) (hl:a.length≤1000) (h:MH):aG (fS a) (.tup [.int (i:Int)]) h=some (fS (a++[i]),h):=by
 show aG (.tup (a.map qm)) (.tup [qm i]) _=_;rw [vn (by rw [List.length_map];simp;omega)];simp [fS]
theorem jq:∀(n:Nat) (lot:List Row) (ahead:List Nat) (h:MH),bh lot≤n->av lot≤1000->ahead.length+2*n≤100->bP n [.tup (bY lot),fS ahead] h=some (.lv ((aM ahead 0 lot).map jY),h)
 | 0,lot,ahead,h,hn,hc,ha=>by
  exfalso;cases lot with
  | nil=>simp [bh] at hn
  | cons r rs=>rw [bh] at hn;omega
 | n+1,lot,ahead,h,hn,hc,ha=>by
  have e:Rn (bP (n+1) [.tup (bY lot),fS ahead] h) fun p=>p=(.lv ((aM ahead 0 lot).map jY),h):=by
   unfold bP;refine jW ?_;walk_at "r";refine jX ?_;walk_at "r";refine ⟨_,_,_,rfl,rfl,?_⟩;rw [fT];refine cT (fun i δ h'=>∃(d3 d4 d5 d6 d7:Option D),δ=[some (.tup (lot.map aR)),some (fS ahead),some (.ob h.length),d3,d4,d5,d6,d7]∧h'=h++[.lst ((aM ahead 0 (lot.take i)).map jY)])
    ⟨_,_,_,_,_,rfl,by simp [aM]⟩ (fun _ _ _ _ _=>rfl) ?_ ?_
   ·rintro i x δ h' hx ⟨d3,d4,d5,d6,d7,rfl,rfl⟩;obtain ⟨r,hr,rfl⟩:=kd hx;have hrm:=List.mem_of_getElem? hr;have hi:i < lot.length:=(List.getElem?_eq_some_iff.mp hr).1;have htk:lot.take (i+1)=lot.take i++[r]:=by
     rw [List.take_succ,hr];rfl
    have hpl:aM ahead 0 (lot.take (i+1))=aM ahead 0 (lot.take i)++((ahead++[i],r)::cS (ahead++[i]) 0 (ao r)):=by
     rw [htk,jn];simp only [aM,oM,List.length_take,List.append_nil,Nat.zero_add];rw [Nat.min_eq_left (by omega)]
    have hlen:(aM ahead 0 lot).length≤1000:=by rw [aL];exact hc
    have hsub:(aM ahead 0 (lot.take (i+1))).length≤1000:=by
     have:aM ahead 0 lot=aM ahead 0 (lot.take (i+1))++aM ahead (0+(lot.take (i+1)).length) (lot.drop (i+1)):=by
      rw [←jn,List.take_append_drop]
     rw [this,List.length_append] at hlen;omega
    generalize aM ahead 0 (lot.take i)=F0 at hpl ⊢;walk_at "r";refine rv (pe ahead i (by omega) _) ?_;walk_at "r";rw [hpl,List.length_append,List.length_cons] at hsub;refine yD ?_;walk_at "r";refine ⟨cL fW,?_⟩;walk_at "r";refine rv (cK fW (by rw [List.length_map,show sizeLine=16777216 from rfl];omega)) ?_;walk_at "r";rw [mF];refine jX ?_;walk_at "r";refine rv (j7 r _) ?_;walk_at "r";refine ⟨_,_,_,rfl,rfl,?_⟩;refine cT (fun j δ h'=>∃(d6 d7:Option D),δ=[some (.tup (lot.map aR)),some (fS ahead),some (.ob h.length),some (.int i),some (aR r),some (fS (ahead++[i])),d6,d7]∧h'=h++[.lst ((F0++((ahead++[i],r)::cS (ahead++[i]) 0 ((ao r).take j))).map jY)])
     ⟨_,_,rfl,by simp [cS,jY]⟩ (fun _ _ _ _ _=>rfl) ?_ ?_
    ·rintro j x δ h' hx ⟨d6,d7,rfl,rfl⟩;obtain ⟨l,hl,rfl⟩:=kd hx;have hlm:=List.mem_of_getElem? hl;have hj:j < (ao r).length:=(List.getElem?_eq_some_iff.mp hl).1;have htk:(ao r).take (j+1)=(ao r).take j++[l]:=by
      rw [List.take_succ,hl];rfl
     have hpj:cS (ahead++[i]) 0 ((ao r).take (j+1))=cS (ahead++[i]) 0 ((ao r).take j)++aM (ahead++[i]++[j]) 0 l:=by
      rw [htk,kW];simp only [cS,List.length_take,List.append_nil,Nat.zero_add];rw [Nat.min_eq_left (by omega)]
     have hsub2:(cS (ahead++[i]) 0 ((ao r).take (j+1))).length≤(cS (ahead++[i]) 0 (ao r)).length:=by
      have:cS (ahead++[i]) 0 (ao r)=cS (ahead++[i]) 0 ((ao r).take (j+1))++cS (ahead++[i]) (0+((ao r).take (j+1)).length) ((ao r).drop (j+1)):=by
       rw [←kW,List.take_append_drop]
      rw [this,List.length_append];omega
     rw [hpj,List.length_append] at hsub2;have ih:=fun hh=>jq n l (ahead++[i]++[j]) hh (by have:=iL hrm;have:=iK hlm;omega) (by rw [←aL (ahead++[i]++[j]) 0];omega) (by simp;omega);walk_at "ah";refine ⟨cL fW,?_⟩;walk_at "r";refine rv (pe (ahead++[i]) j (by simp;omega) _) ?_;walk_at "r";refine rv (ih _) ?_;walk_at "r";refine rv (mY fW (by rw [List.length_map,List.length_map,List.length_append,List.length_cons];omega)) ?_;walk_at "r";rw [mF,←List.map_append];refine ⟨_,_,rfl,?_⟩;rw [hpj];simp
    ·rintro δ h' ⟨d6,d7,rfl,rfl⟩;rw [cq,List.length_map,List.take_length];walk_at "r";exact ⟨_,_,_,_,_,rfl,by rw [hpl]⟩
   ·rintro δ h' ⟨d3,d4,d5,d6,d7,rfl,rfl⟩;rw [cq,List.length_map,List.take_length];walk_at "r";exact rv (kY (dR _ _ (zy _) _)) rfl
  obtain ⟨p,e1,rfl⟩:=e;exact e1
end Mi
namespace Pg
open PySem Sm L2
noncomputable def placesFrom:Nat->List dW->List (Nat×List Nat×Row)
 | _,[]=>[]
 | k,d::ds=>(aM [] 0 d.2.2).map (fun x=>(k,x.1,x.2))++placesFrom (k+1) ds
noncomputable def jo (x:Nat×List Nat×Row):D:=.tup [qm x.1,fS x.2.1,aR x.2.2]
theorem eZ:∀(k:Nat) (x y:List dW),placesFrom k (x++y)=placesFrom k x++placesFrom (k+x.length) y
 | k,[],y=>by simp [placesFrom]
 | k,d::x,y=>by simp [placesFrom,eZ (k+1) x y,Nat.add_comm,Nat.add_left_comm]
theorem ik:∀(k:Nat) (ds:List dW),(placesFrom k ds).length=(ds.map fun d=>av d.2.2).sum
 | _,[]=>rfl
 | k,d::ds=>by simp [placesFrom,ik (k+1) ds,aL]
theorem tX:∀{ds:List dW} {d:dW},d∈ds->av d.2.2≤(ds.map fun d=>av d.2.2).sum
 | x::r,d,h=>by
  rw [List.map_cons,List.sum_cons];rcases List.mem_cons.mp h with rfl | h
  ·omega
  ·have:=tX h;omega
structure Fit (P:Prog):Prop where
 nd:∀d∈P.deeds,bh d.2.2≤6
 ct:(P.deeds.map fun d=>av d.2.2).sum≤1000
 dl:P.deeds.length≤1000
theorem OkP.fit {W:Wd} {m:Nat} {P:Prog} (o:OkP W m P) (hm:m≤1000) (hd:W.deeds.length≤6):Fit P:=by
 refine ⟨fun d hd=>?_,Nat.le_trans o.ct hm,by rw [o.dl];omega⟩;obtain ⟨j,hj⟩:=List.mem_iff_getElem?.mp hd;obtain ⟨_,_,ok,_⟩:=o.dd j d hj;have:=bH 1 d.2.2 ok (by omega);omega
end Pg
namespace Mi
open PySem Sm L2 Pg
theorem xQ (n:Nat) (x:Nat×List Nat×Row):clD n (jo x)=true:=by
 show (true&&(clL n (x.2.1.map qm)&&(clD n (aR x.2.2)&&true)))=true;rw [dR n _ (fun _=>rfl),nG];rfl
theorem zv {α:Type} {ws:W} {g:GM} {e:EM} {h:MH} (hc:chk ws h=true) (f k:α->D) (J:DS->Prop) (xs:List α) {δ:DS} (h0:J δ) (ht:∀x∈xs,∀δ,J δ->Rn (g (f x) δ h) fun q=>q.2=h∧J q.1∧Rn (e q.1 h) fun p=>p=(k x,h)):
  bG ws g cN e (xs.map f) δ h=some (xs.map k,h):=by
 induction xs generalizing δ with
 | nil=>rw [List.map_nil];unfold bG;rw [if_pos hc];rfl
 | cons x r ih=>
  rw [List.map_cons];unfold bG;rw [if_pos hc];obtain ⟨⟨δ1,h1⟩,e1,rfl,J1,p,e2,rfl⟩:=ht x List.mem_cons_self δ h0;rw [e1];dsimp only [Option.bind_some] at e2 ⊢;show ((some (true,h1)).bind _)=_;walk_at "ag";rw [if_pos rfl,e2];walk_at "ag";rw [ih J1 fun y hy=>ht y (List.mem_cons_of_mem _ hy)];rfl
theorem rA {P:Prog} (fit:Fit P) (h:MH):eu [eN P] h=some (.lv ((placesFrom 0 P.deeds).map jo),h):=by
 have e:Rn (eu [eN P] h) fun p=>p=(.lv ((placesFrom 0 P.deeds).map jo),h):=by
  refine jW ?_;walk_at "r";refine jX ?_;walk_at "r";refine rv (a:=(.tup (P.deeds.map gS),_)) rfl ?_;walk_at "r";refine ⟨_,_,_,rfl,rfl,?_⟩;refine cT (fun i δ h'=>∃(d2 d3 d4 d5:Option D),δ=[some (eN P),some (.ob h.length),d2,d3,d4,d5]∧h'=h++[.lst ((placesFrom 0 (P.deeds.take i)).map jo)])
   ⟨_,_,_,_,rfl,by simp [placesFrom]⟩ (fun _ _ _ _ _=>rfl) ?_ ?_
  ·rintro i x δ h' hx ⟨d2,d3,d4,d5,rfl,rfl⟩;obtain ⟨d,hd,rfl⟩:=kd hx;have hdm:=List.mem_of_getElem? hd;have hi:i < P.deeds.length:=(List.getElem?_eq_some_iff.mp hd).1;have htk:P.deeds.take (i+1)=P.deeds.take i++[d]:=by rw [List.take_succ,hd];rfl
   have hpl:placesFrom 0 (P.deeds.take (i+1))=placesFrom 0 (P.deeds.take i)++(aM [] 0 d.2.2).map fun x=>(i,x.1,x.2):=by
    rw [htk,eZ];simp only [placesFrom,List.length_take,List.append_nil,Nat.zero_add];rw [Nat.min_eq_left (by omega)]
   have hc:=tX hdm;have ct:=fit.ct;have hlen:(placesFrom 0 P.deeds).length≤1000:=by rw [ik];exact ct
   have hsub:(placesFrom 0 (P.deeds.take (i+1))).length≤1000:=by
    have:placesFrom 0 P.deeds=placesFrom 0 (P.deeds.take (i+1))++placesFrom (0+(P.deeds.take (i+1)).length) (P.deeds.drop (i+1)):=by
     rw [←eZ,List.take_append_drop]
    rw [this,List.length_append] at hlen;omega
   rw [hpl,List.length_append,List.length_map] at hsub;unfold gS;walk_at "ah";refine ⟨cL fW,?_⟩;walk_at "r";refine mQ ?_;walk_at "r";refine rv (jq 8 d.2.2 [] _ (Nat.le_trans (fit.nd d hdm) (by decide)) (by omega) (by simp)) ?_;refine ⟨_,_,rfl,?_⟩;refine rv (zv rfl jY (fun x=>jo (i,x.1,x.2)) (fun δ=>∃a b,δ=[a,b,some (.int i)]) (aM [] 0 d.2.2) ⟨_,_,rfl⟩ ?_) ⟨?_,?_⟩
   ·rintro x hx δ ⟨a,b,rfl⟩;unfold jY;walk_at "r";refine ⟨rfl,⟨_,_,rfl⟩,?_⟩;walk_at "r";rfl
   ·dsimp only;rw [List.length_map,show sizeLine=16777216 from rfl];omega
   ·walk_at "r";refine rv (mY fW (by rw [List.length_map,List.length_map];omega)) ?_;walk_at "r";rw [mF];refine ⟨_,_,_,_,rfl,?_⟩;rw [hpl,List.map_append,List.map_map];rfl
  ·rintro δ h' ⟨d2,d3,d4,d5,rfl,rfl⟩;rw [cq,List.length_map,List.take_length];walk_at "r";exact rv (kY (dR _ _ (xQ _) _)) rfl
 obtain ⟨p,e1,rfl⟩:=e;exact e1
end Mi
namespace Sm
open PySem L2 Builtin.Str StrLaws
noncomputable def mkS (l:List Nat):Str:=⟨l.toArray⟩
theorem zb (l:List Nat):(mkS l).cps.toList=l:=by simp [mkS]
theorem qo (x:Str):mkS x.cps.toList=x:=by cases x;simp [mkS]
theorem m7 (c:Nat):∀(x:Str) (r:List Str),(Str.join ⟨#[c]⟩ (x::r)).cps.toList=x.cps.toList++(r.map fun y=>c::y.cps.toList).flatten
 | x,[]=>by show x.cps.toList=_;simp
 | x,y::r=>by
  show (x.cps++#[c]++(Str.join ⟨#[c]⟩ (y::r)).cps).toList=_;rw [Array.toList_append,Array.toList_append,m7 c y r];simp
theorem nC {c:Nat}:∀{a b s t:List Nat},c∉a->c∉b->a++c::s=b++c::t->a=b∧s=t
 | [],[],s,t,_,_,e=>⟨rfl,by simpa using e⟩
 | [],y::b,s,t,_,hb,e=>by simp at e;exact absurd (e.1 ▸ List.mem_cons_self) hb
 | x::a,[],s,t,ha,_,e=>by simp at e;exact absurd (e.1 ▸ List.mem_cons_self) ha
 | x::a,y::b,s,t,ha,hb,e=>by
  simp at e;obtain ⟨e1,e2⟩:=nC (fun h=>ha (List.mem_cons_of_mem _ h)) (fun h=>hb (List.mem_cons_of_mem _ h)) e.2;exact ⟨by rw [e.1,e1],e2⟩
theorem ux {x y:Str} (e:x.cps.toList=y.cps.toList):x=y:=by rw [←qo x,e,qo]
def Sh (n:Nat) (x:Str):Prop:=x.length≤n∧PyData.strOk x=true
theorem Sh.up {n m:Nat} {x:Str} (h:Sh n x) (hm:n≤m):Sh m x:=⟨Nat.le_trans h.1 hm,h.2⟩
theorem Sh.app {n m:Nat} {x y:Str} (h:Sh n x) (h':Sh m y):Sh (n+m) (x++y):=⟨by rw [PySem.Str.length_append];exact Nat.add_le_add h.1 h'.1,Sm.fM h.2 h'.2⟩
theorem Sh.int {i:Int} (h:-99≤i∧i≤99):Sh 8 (Str.ofString (toString i)):=by
 refine ⟨?_,oE i⟩;have hl:(Str.ofString (toString i)).length=(toString i).length:=by
  rw [Str.ofString_eq_toList];show ((toString i).toList.map Char.toNat).toArray.size=_;rw [List.size_toArray,List.length_map];exact String.length_toList
 rw [hl];have:=int_text_length_le10 (a:=i) (k:=2) (by decide) (by lia)
 lia
theorem Sh.join {n:Nat} {s:Str} (hs:Sh 1 s):∀{xs:List Str},(∀x∈xs,Sh n x)->Sh ((n+1)*xs.length) (Str.join s xs)
 | [],_=>⟨by simp [Str.join,Str.empty,Str.length],i0 hs.2 [] (fun _ h=>(nomatch h))⟩
 | [x],h=>(h x (.head _)).up (by simp)
 | x::y::r,h=>by
  have:=(((h x (.head _)).app hs).app (Sh.join (n:=n) hs (xs:=y::r) fun z hz=>h z (.tail _ hz)));exact this.up (by simp only [List.length_cons];rw [Nat.mul_succ (n+1)];lia)
theorem lq {x:Str} {w rest:List Nat} (h:32∉w) (e:x.cps.toList=w∨x.cps.toList=w++32::rest):∃r,Txt.split x (Str.ofString " ")=mkS w::r:=by
 have eb:Str.ofString " "=⟨#[32]⟩:=by decide+kernel
 rw [eb];have j:=join_split x ⟨#[32]⟩;have f:=split_free x 32;have p:=PyProof.Rows.split_pos x ⟨#[32]⟩;generalize Txt.split x ⟨#[32]⟩=ps at j f p;cases ps with
 | nil=>simp at p
 | cons y r=>
  refine ⟨r,?_⟩;have jc:y.cps.toList++(r.map fun y=>32::y.cps.toList).flatten=x.cps.toList:=by rw [←m7,j]
  have fy:=f y (.head _);have:y.cps.toList=w:=by
   rcases e with e | e
   ·rw [e] at jc;cases r with
    | nil=>simpa using jc
    | cons z r=>exact absurd (by rw [←jc];simp) h
   ·rw [e] at jc;cases r with
    | nil=>
     have:y.cps.toList=w++32::rest:=by simpa using jc
     exact absurd (by rw [this];simp) fy
    | cons z r=>
     simp only [List.map_cons,List.flatten_cons,List.cons_append] at jc;exact (nC fy h jc).1
  rw [show y=mkS w from ux (by rw [zb,this])]
theorem mD {x:Str} (h:Sh 1000 x) {H:MH}:kT (.str x) [.str " "] H=some (.lv ((Txt.split x (Str.ofString " ")).map D.str),H):=by
 have eb:Str.ofString " "=⟨#[32]⟩:=by decide+kernel
 have h1:=h.1;unfold kT;dsimp only;rw [if_pos];refine ⟨by decide+kernel,Nat.le_trans h1 (by decide),?_,?_,?_⟩
 ·have:=PyProof.Rows.split_le x (Str.ofString " ");rw [show sizeLine=16777216 from rfl];lia
 ·rw [PyProof.Rows.len_partsBetween];have:=StrLaws.occ_length_le x (Str.ofString " ") 0 x.length (x.length+1);rw [show sizeLine=16777216 from rfl];lia
 ·rw [List.all_eq_true];intro y hy;have j:=join_split x (Str.ofString " ");have h2:=h.2;unfold PyData.strOk at h2 ⊢;rw [Array.all_eq_true'] at h2 ⊢;intro c hc;refine h2 c ?_;have:=(PyProof.Rows.mem_join (Str.ofString " ") c (Txt.split x (Str.ofString " "))).mpr (.inl ⟨y,hy,Array.mem_toList_iff.mpr hc⟩);rw [j] at this;exact Array.mem_toList_iff.mp this
end Sm
namespace Pg
open PySem Sm L2
noncomputable def gW (t:Term):Str:=if t.1=Str.ofString "" then Str.ofString (toString t.2) else if t.2=0 then t.1 else t.1++(if 0 < t.2 then Txt.mul (Str.ofString "+") 1 else Txt.mul (Str.ofString "+") 0)++Str.ofString (toString t.2)
noncomputable def fg (l:Lock):Str:=l.1++Str.ofString ":"++gW l.2
noncomputable def bB:Row->Str
 | .say w=>Str.ofString "say "++w
 | .call d ts=>Str.join (Str.ofString " ") (Str.ofString "call"::d::ts.map gW)
 | .within l _=>Str.ofString "within"++Str.ofString " "++fg l
 | .all ls _=>Str.join (Str.ofString " ") (Str.ofString "all"::ls.map fg)
 | .ask l _ _=>Str.ofString "ask"++Str.ofString " "++fg l
 | .by_ s t _ _ _=>Str.ofString "by "++gW s++Str.ofString " "++gW t
 | .either _ _=>Str.ofString "either"
 | .again _=>Str.ofString "again"
def shT (t:Term):Prop:=Sh 8 t.1∧-99≤t.2∧t.2≤99
def shK (l:Lock):Prop:=Sh 8 l.1∧shT l.2
def shR:Row->Prop
 | .say w=>Sh 8 w
 | .call d ts=>Sh 8 d∧ts.length≤3∧∀t∈ts,shT t
 | .within l _=>shK l
 | .all ls _=>ls.length≤4∧(∀l∈ls,shK l)∧ls≠[]
 | .ask l _ _=>shK l
 | .by_ s t _ _ _=>shT s∧shT t
 | .either _ _=>True
 | .again _=>True
theorem fo {t:Term} (h:shT t):Sh 20 (gW t):=by
 unfold gW
 split
 ·exact (Sh.int h.2).up (by decide)
 ·split
  ·exact h.1.up (by decide)
  ·refine Sh.up (n:=8+2+8) ((h.1.app ?_).app (Sh.int h.2)) (by decide)
   split <;> exact ⟨by decide+kernel,by decide+kernel⟩
theorem fU {l:Lock} (h:shK l):Sh 30 (fg l):=Sh.up (n:=8+1+20) ((h.1.app ⟨by decide+kernel,by decide+kernel⟩).app (fo h.2)) (by decide)
theorem f6:Sh 1 (Str.ofString " "):=⟨by decide+kernel,by decide+kernel⟩
theorem rW:∀{r:Row},shR r->Sh 400 (bB r)
 | .say w,h=>Sh.up (n:=4+8) (Sh.app ⟨by decide+kernel,by decide+kernel⟩ h) (by decide)
 | .call d ts,h=>by
  refine (Sh.join (n:=20) f6 fun x hx=>?_).up ?_
  ·rcases List.mem_cons.mp hx with rfl | hx
   ·exact ⟨by decide+kernel,by decide+kernel⟩
   ·rcases List.mem_cons.mp hx with rfl | hx
    ·exact h.1.up (by decide)
    ·obtain ⟨t,ht,rfl⟩:=List.mem_map.mp hx;exact fo (h.2.2 t ht)
  ·have:=h.2.1;simp only [List.length_cons,List.length_map];lia
 | .within l _,h=>Sh.up (n:=6+1+30) ((Sh.app ⟨by decide+kernel,by decide+kernel⟩ f6).app (fU h)) (by decide)
 | .all ls _,h=>by
  refine (Sh.join (n:=30) f6 fun x hx=>?_).up ?_
  ·rcases List.mem_cons.mp hx with rfl | hx
   ·exact ⟨by decide+kernel,by decide+kernel⟩
   ·obtain ⟨t,ht,rfl⟩:=List.mem_map.mp hx;exact fU (h.2.1 t ht)
  ·have:=h.1;simp only [List.length_cons,List.length_map];lia
 | .ask l _ _,h=>Sh.up (n:=3+1+30) ((Sh.app ⟨by decide+kernel,by decide+kernel⟩ f6).app (fU h)) (by decide)
 | .by_ s t _ _ _,h=>Sh.up (n:=3+20+1+20) (((Sh.app ⟨by decide+kernel,by decide+kernel⟩ (fo h.1)).app f6).app (fo h.2)) (by decide)
 | .either _ _,_=>show Sh 400 (Str.ofString "either") from ⟨by decide+kernel,by decide+kernel⟩
 | .again _,_=>show Sh 400 (Str.ofString "again") from ⟨by decide+kernel,by decide+kernel⟩
noncomputable def sorts:List (List Nat):=[[115,97,121],[99,97,108,108],[119,105,116,104,105,110],[97,108,108],[97,115,107],[98,121],[101,105,116,104,101,114],[97,103,97,105,110]]
theorem kZ (x:Str) (r:List Str) (h:r≠[]):∃rest,(Str.join (Str.ofString " ") (x::r)).cps.toList=x.cps.toList++32::rest:=by
 have eb:Str.ofString " "=⟨#[32]⟩:=by decide+kernel
 rw [eb,m7];cases r with
 | nil=>exact absurd rfl h
 | cons y r=>exact ⟨_,rfl⟩
theorem dZ (x y:Str):(x++y).cps.toList=x.cps.toList++y.cps.toList:=by
 show (x.cps++y.cps).toList=_;rw [Array.toList_append]
theorem nj (r:Row) (h:shR r):∃rest,(bB r).cps.toList=(bN r).cps.toList∨(bB r).cps.toList=(bN r).cps.toList++32::rest:=by
 cases r with
 | say w=>exact ⟨w.cps.toList,.inr (by show (Str.ofString "say "++w).cps.toList=_;rw [dZ,show (Str.ofString "say ").cps.toList=(Str.ofString "say").cps.toList++[32] by decide+kernel];simp [bN])⟩
 | call d ts=>obtain ⟨rest,e⟩:=kZ (Str.ofString "call") (d::ts.map gW) (by simp);exact ⟨rest,.inr e⟩
 | within l _=>exact ⟨(fg l).cps.toList,.inr (by show (Str.ofString "within"++Str.ofString " "++fg l).cps.toList=_;rw [dZ,dZ,show (Str.ofString " ").cps.toList=[32] by decide+kernel];simp [bN])⟩
 | all ls _=>
  by_cases z:ls.map fg=[]
  ·exact ⟨[],.inl (by show (Str.join _ (_::ls.map fg)).cps.toList=_;rw [z];rfl)⟩
  ·obtain ⟨rest,e⟩:=kZ (Str.ofString "all") (ls.map fg) z;exact ⟨rest,.inr e⟩
 | ask l _ _=>exact ⟨(fg l).cps.toList,.inr (by show (Str.ofString "ask"++Str.ofString " "++fg l).cps.toList=_;rw [dZ,dZ,show (Str.ofString " ").cps.toList=[32] by decide+kernel];simp [bN])⟩
 | by_ s t _ _ _=>exact ⟨(gW s++Str.ofString " "++gW t).cps.toList,.inr (by show (Str.ofString "by "++gW s++Str.ofString " "++gW t).cps.toList=_;rw [dZ,dZ,dZ,dZ,dZ,show (Str.ofString "by ").cps.toList=(Str.ofString "by").cps.toList++[32] by decide+kernel];simp [bN])⟩
 | either _ _=>exact ⟨[],.inl rfl⟩
 | again _=>exact ⟨[],.inl rfl⟩
theorem q0 (r:Row):(bN r).cps.toList∈sorts:=by
 have:∀w∈[Str.ofString "say",Str.ofString "call",Str.ofString "within",Str.ofString "all",Str.ofString "ask",Str.ofString "by",Str.ofString "either",Str.ofString "again"],w.cps.toList∈sorts:=by decide+kernel
 refine this _ ?_;cases r <;> simp [bN]
theorem sH:∀w∈sorts,32∉w:=by decide
theorem jC (r:Row) (h:shR r):∃q,Txt.split (bB r) (Str.ofString " ")=bN r::q:=by
 obtain ⟨rest,e⟩:=nj r h;obtain ⟨q,e⟩:=lq (sH _ (q0 r)) e;exact ⟨q,by rw [e,qo]⟩
theorem vY:∀w∈sorts,w.head?≠some 111∧w≠[101,110,100]∧∀rest,w++32::rest≠[101,110,100]:=by
 have:∀w∈sorts,w.head?≠some 111∧w≠[101,110,100]∧w≠[]∧32∉[101,110,100]:=by decide
 exact fun w hw=>⟨(this w hw).1,(this w hw).2.1,fun rest e=>(this w hw).2.2.2 (by rw [←e];simp)⟩
theorem qv (r:Row) (h:shR r):(bB r==Str.ofString "or")=false∧(bB r==Str.ofString "end")=false:=by
 obtain ⟨rest,e⟩:=nj r h;obtain ⟨a,b,c⟩:=vY _ (q0 r);constructor <;> rw [beq_eq_false_iff_ne] <;> intro z <;> rw [z] at e
 ·rw [show (Str.ofString "or").cps.toList=[111,114] by decide+kernel] at e;rcases e with e | e
  ·rw [←e] at a;exact a rfl
  ·cases hw:(bN r).cps.toList with
   | nil=>rw [hw] at e;cases e
   | cons x q=>rw [hw] at e a;exact a (by rw [←(List.cons.inj e).1];rfl)
 ·rw [show (Str.ofString "end").cps.toList=[101,110,100] by decide+kernel] at e;rcases e with e | e
  ·exact b e.symm
  ·exact c rest e.symm
end Pg
namespace Sm
open PySem L2
theorem kh {α:Type} {e:EM} {h:MH} {t:DS} (A f:α->D):∀(xs:List α) (o:Option D),(∀x∈xs,e (some (A x)::t) h=some (f x,h))->bG [] (gN 0) cN e (xs.map A) (o::t) h=some (xs.map f,h)
 | [],o,_=>rfl
 | x::r,o,hx=>by
  have e1:e (some (A x)::t) h=some (f x,h):=hx x List.mem_cons_self;have e2:=kh A f r (some (A x)) fun y hy=>hx y (List.mem_cons_of_mem _ hy);show ((e (some (A x)::t) h).bind fun y=>(bG [] (gN 0) cN e (r.map A) (some (A x)::t) y.2).map fun z=>(y.1::z.1,z.2))=_;rw [e1];show ((bG [] (gN 0) cN e (r.map A) (some (A x)::t) h).map fun z=>(f x::z.1,z.2))=_;rw [e2];rfl
theorem lg {α:Type} {caps:List (Option Nat)} {ei e:EM} {δ t:DS} {o:Option D} {h:MH} {d:D} {xs:List α} (A f:α->D) (hi:ei δ h=some (d,h)) (hs:cZ d h=some (xs.map A,[])) (hc:kl caps δ=o::t) (hl:xs.length≤100000) (he:∀x∈xs,e (some (A x)::t) h=some (f x,h)):
  bC caps (cU ei) (gN 0) cN e δ h=some (xs.map f,h):=by
 unfold bC cU;rw [hi];walk_at "ag";rw [hs];dsimp only [Option.map_some,Option.bind_some];rw [hc,kh A f xs o he];walk_at "ag";rw [if_pos (by rw [List.length_map,show sizeLine=16777216 from rfl];lia)]
abbrev g2:GM:=gT 2 (aD (gN 0) (aD (gN 1) cg))
theorem sj {α:Type} {e:EM} {h:MH} {t:DS} (A B f:α->D):∀(xs:List α) (o o2:Option D),(∀x∈xs,e (some (A x)::some (B x)::t) h=some (f x,h))->bG [] g2 cN e (xs.map fun x=>.tup [A x,B x]) (o::o2::t) h=some (xs.map f,h)
 | [],o,o2,_=>rfl
 | x::r,o,o2,hx=>by
  have e1:e (some (A x)::some (B x)::t) h=some (f x,h):=hx x List.mem_cons_self;have e2:=sj A B f r (some (A x)) (some (B x)) fun y hy=>hx y (List.mem_cons_of_mem _ hy);show ((e (some (A x)::some (B x)::t) h).bind fun y=>(bG [] g2 cN e (r.map fun x=>.tup [A x,B x]) (some (A x)::some (B x)::t) y.2).map fun z=>(y.1::z.1,z.2))=_;rw [e1];show ((bG [] g2 cN e (r.map fun x=>.tup [A x,B x]) (some (A x)::some (B x)::t) h).map fun z=>(f x::z.1,z.2))=_;rw [e2];rfl
theorem vG {α:Type} {caps:List (Option Nat)} {ei e:EM} {δ t:DS} {o o2:Option D} {h:MH} {d:D} {xs:List α} (A B f:α->D) (hi:ei δ h=some (d,h)) (hs:cZ d h=some (xs.map fun x=>.tup [A x,B x],[])) (hc:kl caps δ=o::o2::t) (hl:xs.length≤100000) (he:∀x∈xs,e (some (A x)::some (B x)::t) h=some (f x,h)):
  bC caps (cU ei) g2 cN e δ h=some (xs.map f,h):=by
 unfold bC cU;rw [hi];walk_at "ag";rw [hs];dsimp only [Option.map_some,Option.bind_some];rw [hc,sj A B f xs o o2 he];walk_at "ag";rw [if_pos (by rw [List.length_map,show sizeLine=16777216 from rfl];lia)]
end Sm
namespace Mi
open PySem Sm L2 Pg
theorem CQ {δ:DS} {h:MH} {a b:EM} {Q:D×MH->Prop} (r:Rn (a δ h) fun p=>∃c,sD p.1 p.2=some c∧(c=true->Q p)∧(c=false->Rn (b δ p.2) Q)):Rn (BP a b δ h) Q:=aS (r.imp fun p ⟨c,e,q1,q2⟩=>by
 rw [e];show Rn (if c=true then some p else b δ p.2) Q;cases c with
 | true=>rw [if_pos rfl];exact ⟨_,rfl,q1 rfl⟩
 | false=>rw [if_neg (by simp)];exact q2 rfl)
theorem len0 {w:Str} (h:w.length=0):w=Str.ofString "":=by
 refine ux ?_;have:w.cps.toList.length=0:=by rw [Array.length_toList];exact h
 rw [List.length_eq_zero_iff.mp this];rfl
theorem eQ {t:Term} {h:MH} (ht:shT t):aZ [bz t] h=some (.str (gW t),h):=by
 obtain ⟨w,i⟩:=t;obtain ⟨hw,h0,h1⟩:=ht;dsimp only at hw h0 h1;have hs:rY [.int i] h=some (.str (Str.ofString (toString i)),h):=by
  show (if i.natAbs.log2 < 1920 then some (D.str (Str.ofString (toString i)),h) else none)=_;rw [if_pos]
  by_cases z:i.natAbs=0
  ·rw [z];decide
  ·exact (Nat.log2_lt z).mpr (Nat.lt_of_lt_of_le (show i.natAbs < 2^7 by lia) (Nat.pow_le_pow_right (by decide) (by decide)))
 have li:=(Sh.int ⟨h0,h1⟩).1;have lw:=hw.1;refine dC ?_;show Rn (aZ [.tup [.str w,.int i]] h) _;refine bV ?_;refine iV (zL (rv (a:=(.tup [.str w,.int i],h)) rfl (rv (a:=([some (.tup [.str w,.int i]),some (.str w),some (.int i)],h)) rfl (vP ?_))));refine dX (w=Str.ofString ""∨i=0) ?_ (fun z=>?_) (fun z=>?_)
 ·walk_at "r";refine ⟨_,rfl,fun y=>?_,fun y=>?_⟩
  ·exact dT (.inl (eq_of_beq y)) _
  ·have y:w≠Str.ofString "":=by intro e;rw [e,beq_self_eq_true] at y;cases y
   walk_at "r";refine ⟨_,rfl,?_⟩;rw [show (i==0)=decide (w=Str.ofString ""∨i=0) by rw [Bool.eq_iff_iff];simp [y]]
 ·walk_at "r";refine CQ ?_;walk_at "r"
  by_cases e:w=Str.ofString ""
  ·subst e;refine ⟨false,by kernel_rfl,fun z=>(nomatch z),fun _=>?_⟩;walk_at "r";refine rv hs ?_;walk_at "r";unfold gW;rw [if_pos rfl]
  ·have z0:i=0:=z.resolve_left e;subst z0;refine ⟨true,?_,fun _=>?_,fun z=>(nomatch z)⟩
   ·show (if w.length≤sizeLine then some ((w.length:Int) !=0) else none)=_;rw [if_pos (Nat.le_trans lw (by decide))];have:w.length≠0:=fun y=>e (len0 y);congr 1;simp only [bne_iff_ne,ne_eq];lia
   ·walk_at "r";unfold gW;rw [if_neg e,if_pos rfl]
 ·walk_at "r";obtain ⟨v,hv,hm,hvt⟩:∃(v:Int),k5 [.bl (decide (0 < i))] h=some (.int v,h)∧fX (.str (Str.ofString "+")) (.int v) h=some (.str (if 0 < i then Txt.mul (Str.ofString "+") 1 else Txt.mul (Str.ofString "+") 0),h)∧(if 0 < i then Txt.mul (Str.ofString "+") 1 else Txt.mul (Str.ofString "+") 0).length≤1:=by
   by_cases y:0 < i
   ·exact ⟨1,by rw [decide_eq_true y];rfl,by rw [if_pos y];kernel_rfl,by rw [if_pos y];decide+kernel⟩
   ·exact ⟨0,by rw [decide_eq_false y];rfl,by rw [if_neg y];kernel_rfl,by rw [if_neg y];decide+kernel⟩
  refine rv hv (rv hm (rv (bu (by lia)) ?_));walk_at "r";refine rv hs (rv (bu (by rw [PySem.Str.length_append];lia)) ?_);walk_at "r";unfold gW;dsimp only;rw [if_neg (fun e=>z (.inl e)),if_neg (fun e=>z (.inr e))]
theorem gD {l:Lock} {h:MH} (hl:shK l):bx [aI l] h=some (.str (fg l),h):=by
 obtain ⟨w,t⟩:=l;obtain ⟨hw,ht⟩:=hl;have a:=hw.1;have b:=(fo ht).1;have c:(Str.ofString ":").length=1:=by decide+kernel
 dsimp only at a b;refine dC ?_;show Rn (bx [.tup [.str w,bz t]] h) _;refine bV ?_;walk_at "r";refine rv (bu (by lia)) ?_;walk_at "r";refine rv (eQ ht) (rv (bu (by rw [PySem.Str.length_append];lia)) ?_);walk_at "r";rfl
theorem qS {n:Nat}:∀{xs:List Str},(∀x∈xs,x.length≤n)->(xs.map (·.length)).sum≤n*xs.length
 | [],_=>by simp
 | x::r,h=>by
  have a:=h x (.head _);have b:=qS (n:=n) (xs:=r) fun y hy=>h y (.tail _ hy);simp only [List.map_cons,List.sum_cons,List.length_cons];rw [Nat.mul_succ];lia
theorem k3 {xs:List Str} (h:∀x∈xs,x.length≤1000) (hl:xs.length≤1000) {H:MH} {d:D} {ws:List (Nat×MO)} (e:cZ d H=some (xs.map D.str,ws)):lz (.str " ") [d] H=some (.str (Str.join (Str.ofString " ") xs),H):=by
 unfold lz;dsimp only;rw [e];walk_at "ag";rw [kF];walk_at "ag";have:=qS h;have c:(Str.ofString " ").length=1:=by decide+kernel
 rw [if_pos (by rw [c];lia)]
theorem zl {r:Row} {h:MH} (hr:shR r):fE [aR r] h=some (.str (bB r),h):=by
 have cb:(Str.ofString " ").length=1:=by decide+kernel
 cases r with
 | either a b=>rw [aR];kernel_rfl
 | again a=>rw [aR];kernel_rfl
 | say w=>
  have a:=hr.1;refine dC (bV ?_);rw [aR];walk_at "r";refine ⟨true,by kernel_rfl,fun _=>?_,fun z=>(nomatch z)⟩;walk_at "r";refine rv (bu (by rw [show (Str.ofString "say ").length=4 by decide+kernel];lia)) ?_;walk_at "r";rfl
 | call d ts=>
  have hd:=hr.1.1;have hl:=hr.2.1;have e1:bC [none] (cU (eOp fIx (ae 0) (eK (.int 2)))) (gN 0) cN (eFn aZ (ab (ae 0) aj)) (entry 1 [.tup [.str "call",.str d,.tup (ts.map bz)]]) h=some (ts.map fun t=>.str (gW t),h):=
   lg (t:=[]) (o:=none) bz (fun t=>.str (gW t)) (d:=.tup (ts.map bz)) rfl rfl rfl (by lia) fun t ht=>eQ (hr.2.2 t ht)
  refine dC (bV ?_);rw [aR];walk_at "r";refine ⟨false,by kernel_rfl,fun z=>(nomatch z),fun _=>?_⟩;walk_at "r";refine ⟨true,by kernel_rfl,fun _=>?_,fun z=>(nomatch z)⟩;walk_at "ah";refine ⟨rfl,p6 (sO (p5 (rv (a:=([.str "call",.str d],h)) (by kernel_rfl) (p5 (rv e1 ?_)))))⟩;refine rv (a:=(.lv ((Str.ofString "call"::d::ts.map gW).map D.str),h)) ?_ (t9 (rv (k3 ?_ ?_ (ws:=[]) rfl) ?_))
  ·rw [List.map_cons,List.map_cons,List.map_map];simp only [aG,qy,dB,Option.bind_some,List.length_map,List.length_cons,List.length_nil];rw [if_pos (by rw [show sizeLine=16777216 from rfl];lia)];rfl
  ·intro x hx;rcases List.mem_cons.mp hx with rfl | hx
   ·decide+kernel
   ·rcases List.mem_cons.mp hx with rfl | hx
    ·lia
    ·obtain ⟨t,ht,rfl⟩:=List.mem_map.mp hx;have:=(fo (hr.2.2 t ht)).1
     lia
  ·simp;lia
  ·walk_at "r";rfl
 | all ls b=>
  have hl:=hr.1;have e1:bC [none] (cU (eOp fIx (ae 0) (eK (.int 1)))) (gN 0) cN (eFn bx (ab (ae 0) aj)) (entry 1 [.tup [.str "all",.tup (ls.map aI),.tup (bY b)]]) h=some (ls.map fun t=>.str (fg t),h):=
   lg (t:=[]) (o:=none) aI (fun t=>.str (fg t)) (d:=.tup (ls.map aI)) rfl rfl rfl (by lia) fun t ht=>gD (hr.2.1 t ht)
  refine dC (bV ?_);rw [aR];walk_at "aa";refine ⟨true,by kernel_rfl,fun _=>?_,fun z=>(nomatch z)⟩;walk_at "ah";refine ⟨rfl,p6 (sO (p5 (rv (a:=([.str "all"],h)) (by kernel_rfl) (p5 (rv e1 ?_)))))⟩;refine rv (a:=(.lv ((Str.ofString "all"::ls.map fg).map D.str),h)) ?_ (t9 (rv (k3 ?_ ?_ (ws:=[]) rfl) ?_))
  ·rw [List.map_cons,List.map_map];simp only [aG,qy,dB,Option.bind_some,List.length_map,List.length_cons,List.length_nil];rw [if_pos (by rw [show sizeLine=16777216 from rfl];lia)];rfl
  ·intro x hx;rcases List.mem_cons.mp hx with rfl | hx
   ·decide+kernel
   ·obtain ⟨t,ht,rfl⟩:=List.mem_map.mp hx;have:=(fU (hr.2.1 t ht)).1
    lia
  ·simp;lia
  ·walk_at "r";rfl
 | within l b=>
  have a:=(fU hr).1;refine dC (bV ?_);rw [aR];walk_at "aa";refine ⟨false,by kernel_rfl,fun z=>(nomatch z),fun _=>?_⟩;walk_at "r";refine rv (a:=(.bl true,h)) (by kernel_rfl) ?_;walk_at "r";refine ⟨true,rfl,fun _=>?_,fun z=>(nomatch z)⟩;walk_at "r";refine rv (bu (by decide+kernel)) ?_;walk_at "r";refine rv (gD hr) (rv (bu (by rw [PySem.Str.length_append,cb,show (Str.ofString "within").length=6 by decide+kernel];lia)) ?_);walk_at "r";rfl
 | ask l b e=>
  have a:=(fU hr).1;refine dC (bV ?_);rw [aR];walk_at "aa";refine ⟨false,by kernel_rfl,fun z=>(nomatch z),fun _=>?_⟩;walk_at "r";refine rv (a:=(.bl true,h)) (by kernel_rfl) ?_;walk_at "r";refine ⟨true,rfl,fun _=>?_,fun z=>(nomatch z)⟩;walk_at "r";refine rv (bu (by decide+kernel)) ?_;walk_at "r";refine rv (gD hr) (rv (bu (by rw [PySem.Str.length_append,cb,show (Str.ofString "ask").length=3 by decide+kernel];lia)) ?_);walk_at "r";rfl
 | by_ s t a b c=>
  have l1:=(fo hr.1).1;have l2:=(fo hr.2).1;have l3:(Str.ofString "by ").length=3:=by decide+kernel
  refine dC (bV ?_);rw [aR];walk_at "aa";refine ⟨false,by kernel_rfl,fun z=>(nomatch z),fun _=>?_⟩;walk_at "r";refine rv (a:=(.bl false,h)) (by kernel_rfl) ?_;walk_at "r";refine ⟨false,rfl,fun z=>(nomatch z),fun _=>?_⟩;walk_at "r";refine ⟨true,by kernel_rfl,fun _=>?_,fun z=>(nomatch z)⟩;walk_at "r";refine rv (eQ hr.1) (rv (bu (by lia)) ?_);walk_at "r";refine rv (bu (by rw [PySem.Str.length_append,cb];lia)) ?_;walk_at "r";refine rv (eQ hr.2) (rv (bu (by rw [PySem.Str.length_append,PySem.Str.length_append,cb];lia)) ?_);walk_at "r";rfl
end Mi
namespace Pg
open PySem Sm L2
abbrev Ln:=Int×Str
noncomputable def lnD (x:Ln):D:=.tup [.int x.1,.str x.2]
noncomputable def orL (n:Nat):Ln:=((n:Int),Str.ofString "or")
noncomputable def fk (n:Nat):Ln:=((n:Int),Str.ofString "end")
noncomputable def bI (g:Nat->List Row->List Ln) (n:Nat):Nat->Nat->List (List Row)->List Ln
 | _,_,[]=>[]
 | j,k,a::r=>(if j=0 then [] else [orL n])++g k a++bI g n (j+1) (k+av a) r
noncomputable def dG (g:Nat->List Row->List Ln) (k:Nat) (r:Row):List Ln:=((k:Int),bB r)::(bI g k 0 (k+1) (ao r)++(if ao r=[] then [] else [fk k]))
noncomputable def cE (g:Nat->List Row->List Ln):Nat->List Row->List Ln
 | _,[]=>[]
 | k,r::rs=>dG g k r++cE g (k+cnt r) rs
noncomputable def lnL:Nat->Nat->List Row->List Ln
 | 0=>fun _ _=>[]
 | f+1=>cE (lnL f)
def shL:Nat->List Row->Prop
 | 0,_=>True
 | f+1,l=>∀r∈l,shR r∧∀t∈ao r,shL f t
theorem m3 (g:Nat->List Row->List Ln) (n:Nat) (a:List Row):∀(j k:Nat) (x:List (List Row)),bI g n j k (x++[a])=bI g n j k x++((if j+x.length=0 then [] else [orL n])++g (k+(x.map av).sum) a)
 | j,k,[]=>by simp [bI]
 | j,k,y::x=>by
  rw [List.cons_append,bI,bI,m3 g n a (j+1) (k+av y) x];simp only [List.append_assoc,List.length_cons,List.map_cons,List.sum_cons];rw [show j+1+x.length=j+(x.length+1) by lia,show k+av y+(x.map av).sum=k+(av y+(x.map av).sum) by lia]
theorem mZ (g:Nat->List Row->List Ln) (r:Row):∀(k:Nat) (x:List Row),cE g k (x++[r])=cE g k x++dG g (k+av x) r
 | k,[]=>by simp [cE,av]
 | k,y::x=>by
  rw [List.cons_append,cE,cE,mZ g r (k+cnt y) x,List.append_assoc];rw [show av (y::x)=cnt y+av x by simp [av],Nat.add_assoc]
theorem vw {l:List Row} {i:Nat} {r:Row} (e:l[i]?=some r):av (l.take (i+1))=av (l.take i)+cnt r∧l.take (i+1)=l.take i++[r]:=by
 have h:l.take (i+1)=l.take i++[r]:=by rw [List.take_add_one,e];rfl
 exact ⟨by rw [h,ki];simp [av],h⟩
theorem qC (l:List Row) (i:Nat):av (l.take i)≤av l:=by
 have:=ki (l.take i) (l.drop i);rw [List.take_append_drop] at this
 lia
end Pg
namespace Mi
open PySem Sm L2 Pg
noncomputable def tR:Row->Int
 | .say _=>2
 | .call _ _=>3
 | .within _ _=>2
 | .all _ _=>2
 | .ask _ _ _=>2
 | .by_ _ _ _ _ _=>3
 | .either _ _=>1
 | .again _=>1
theorem nr (r:Row) (h:MH):Bu (.dv [(.inr (Str.ofString "say"),.int 2),(.inr (Str.ofString "call"),.int 3),(.inr (Str.ofString "by"),.int 3),(.inr (Str.ofString "either"),.int 1),(.inr (Str.ofString "again"),.int 1)]) [.str (bN r),.int 2] h=some (.int (tR r),h)∧r8 (aR r) (some (tR r)) none h=some (.tup ((ao r).map td),h):=by
 cases r <;> (rw [aR];exact ⟨by kernel_rfl,by kernel_rfl⟩)
theorem uR (r:Row) (h:MH):fIx (aR r) (.int 0) h=some (.str (bN r),h):=by
 cases r <;> (rw [aR];rfl)
theorem t6 {x:D} {b:Bool} {h:MH}:∃v:Int,k5 [.bl b] h=some (.int v,h)∧tD (.lv [x]) (.int v) h=some (.lv (if b then [x] else []),h):=by
 cases b
 ·exact ⟨0,rfl,rfl⟩
 ·exact ⟨1,rfl,rfl⟩
theorem yo {h g:MH} {n:Nat} {o:MO} (hn:h.length≤n):(h++g).set n o=h++g.set (n-h.length) o:=List.set_append_right _ _ hn
theorem get_set {h:MH} {n:Nat} {o o':MO} (e:h[n]?=some o'):(h.set n o)[n]?=some o:=List.getElem?_set_self (List.getElem?_eq_some_iff.mp e).1
theorem j6 {h:MH} {n:Nat} {xs:List D} (e:h[n]?=some (.lst xs)):dB (.ob n) h=some xs:=by unfold dB;dsimp only;rw [e]
theorem xi (r:Row):(ao r).length≤3:=by cases r <;> simp [ao]
theorem gE {g:Nat->List Row->List Ln} (hg:∀k a,(g k a).length≤5*av a) (n:Nat):∀(j k:Nat) (x:List (List Row)),(bI g n j k x).length≤5*(x.map av).sum+x.length
 | _,_,[]=>by simp [bI]
 | j,k,a::r=>by
  have h1:=hg k a;have h2:=gE hg n (j+1) (k+av a) r;rw [bI,List.length_append,List.length_append,List.map_cons,List.sum_cons,List.length_cons];have h3:(if j=0 then ([]:List Ln) else [orL n]).length≤1:=by split <;> simp
  lia
theorem vb {g:Nat->List Row->List Ln} (hg:∀k a,(g k a).length≤5*av a) (k:Nat) (r:Row):(dG g k r).length≤5*cnt r:=by
 have h2:=gE hg k 0 (k+1) (ao r);have h4:=xi r;have h3:(if ao r=[] then ([]:List Ln) else [fk k]).length≤1:=by split <;> simp
 rw [dG,List.length_cons,List.length_append,eh]
 lia
theorem jx {g:Nat->List Row->List Ln} (hg:∀k a,(g k a).length≤5*av a):∀(k:Nat) (l:List Row),(cE g k l).length≤5*av l
 | _,[]=>by simp [cE]
 | k,r::rs=>by
  have h1:=vb hg k r;have h2:=jx hg (k+cnt r) rs;rw [cE,List.length_append,show av (r::rs)=cnt r+av rs by simp [av]]
  lia
theorem fx:∀(f k:Nat) (l:List Row),(lnL f k l).length≤5*av l
 | 0,_,_=>by simp [lnL]
 | f+1,k,l=>jx (fx f) k l
theorem oU:∀(f:Nat) (l:List Row) (k:Nat) (h:MH),bh l≤f->shL f l->k+av l≤1000->Rn (bw f [.tup (bY l),.int (k:Int)] h) fun p=>∃(n:Nat) (g:MH),p=(.tup [.ob n,.int ((k+av l:Nat):Int)],h++g)∧(h++g)[n]?=some (.lst ((lnL f k l).map lnD))
 | 0,l,k,h,hn,_,_=>by
  exfalso;cases l with
  | nil=>rw [bh] at hn;lia
  | cons r rs=>rw [bh] at hn;lia
 | f+1,l,k,h,hn,hs,hk=>by
  unfold bw;refine bV ?_;walk_at "r";refine ⟨_,_,rfl,?_⟩;walk_at "af";rw [fT];refine cT (fun i δ h'=>∃(n:Nat) (g:MH) (o4 o5 o6 o7 o8 o9 o10:Option D),δ=[some (.tup (l.map aR)),some (.int (k:Int)),some (.ob n),some (.int ((k+av (l.take i):Nat):Int)),o4,o5,o6,o7,o8,o9,o10]∧h'=h++g∧h.length≤n∧(h++g)[n]?=some (.lst ((cE (lnL f) k (l.take i)).map lnD)))
   ⟨h.length,[.lst []],_,_,_,_,_,_,_,rfl,rfl,Nat.le_refl _,by simp [cE]⟩ (fun _ _ _ _ _=>rfl) ?_ ?_
  ·rintro i x δ h' hx ⟨n,g,o4,o5,o6,o7,o8,o9,o10,rfl,rfl,hnl,hat⟩;rw [List.getElem?_map] at hx;obtain ⟨r,er,rfl⟩:=Option.map_eq_some_iff.mp hx;obtain ⟨hsr,hsl⟩:=hs r (List.mem_of_getElem? er);obtain ⟨hc1,ht1⟩:=vw er;have hcl:=qC l (i+1);have hcr:=eh r;have hnr:=iL (List.mem_of_getElem? er);generalize hK:k+av (l.take i)=K at*;generalize hX:(cE (lnL f) k (l.take i))=X at*;have hXl:X.length≤5000:=by have:=jx (fx f) k (l.take i);rw [hX] at this;lia
   walk_at "ah";refine ⟨cL hat,?_⟩;walk_at "r";refine rv (zl hsr) ?_;walk_at "r";refine rv (cK hat (by rw [List.length_map,show sizeLine=16777216 from rfl];lia)) ?_;have hat1:=get_set (o:=.lst (X.map lnD++[.tup [.int (K:Int),.str (bB r)]])) hat;rw [yo hnl] at hat1 ⊢;generalize g.set (n-h.length) _=g1 at hat1 ⊢;walk_at "r";refine yD (rv (a:=(.dv [(.inr (Str.ofString "say"),.int 2),(.inr (Str.ofString "call"),.int 3),(.inr (Str.ofString "by"),.int 3),(.inr (Str.ofString "either"),.int 1),(.inr (Str.ofString "again"),.int 1)],h++g1)) (by kernel_rfl) ⟨rfl,?_⟩);walk_at "r";refine rv (uR r _) ?_;walk_at "r";refine rv (nr r _).1 ?_;walk_at "r";refine ⟨_,rfl,?_⟩;walk_at "r";refine rv (nr r _).2 ?_;walk_at "r";refine jX ?_;walk_at "r";refine ⟨_,_,_,rfl,rfl,?_⟩;refine cT (fun j δ h'=>∃(n':Nat) (g':MH) (o8 o9 o10:Option D),δ=[some (.tup (l.map aR)),some (.int (k:Int)),some (.ob n'),some (.int ((K+1+(((ao r).take j).map av).sum:Nat):Int)),some (aR r),some (.int (K:Int)),some (.int (tR r)),some (.tup ((ao r).map td)),o8,o9,o10]∧h'=h++g'∧h.length≤n'∧(h++g')[n']?=some (.lst ((X++((K:Int),bB r)::bI (lnL f) K 0 (K+1) ((ao r).take j)).map lnD)))
    ⟨n,g1,_,_,_,rfl,rfl,hnl,by rw [hat1,List.map_append];rfl⟩ (fun _ _ _ _ _=>rfl) ?_ ?_
   ·rintro j y δ h' hy ⟨n',g',o8,o9,o10,rfl,rfl,hnl',hat'⟩;obtain ⟨t,et,rfl⟩:=kd hy;have htm:=List.mem_of_getElem? et;have hj:j < 3:=by have:=xi r;have:=(List.getElem?_eq_some_iff.mp et).1;lia
    have hst:(((ao r).take (j+1)).map av).sum=(((ao r).take j).map av).sum+av t∧(ao r).take (j+1)=(ao r).take j++[t]:=by
     have e:(ao r).take (j+1)=(ao r).take j++[t]:=by rw [List.take_add_one,et];rfl
     exact ⟨by rw [e];simp,e⟩
    have hsle:(((ao r).take (j+1)).map av).sum≤((ao r).map av).sum:=by
     have:=congrArg (fun z=>(z.map av).sum) (List.take_append_drop (j+1) (ao r));simp only [List.map_append,List.sum_append] at this
     lia
    have hlen:=gE (fx f) K 0 (K+1) ((ao r).take j);have hlt:((ao r).take j).length≤3:=by rw [List.length_take];lia
    have hln:=fx f (K+1+(((ao r).take j).map av).sum) t;generalize hY:bI (lnL f) K 0 (K+1) ((ao r).take j)=Y at*;walk_at "r";obtain ⟨v,hv,hrep⟩:=t6 (x:=.tup [.int (K:Int),.str (Str.ofString "or")]) (b:=decide (0 < (j:Int))) (h:=h++g');refine p8 ?_;walk_at "r";refine rv hv (rv hrep ⟨_,_,j6 hat',rfl,?_,?_⟩)
    ·rw [List.length_map,List.length_append,List.length_cons,show sizeLine=16777216 from rfl]
     split <;> simp <;> lia
    have e1:(if decide (0 < (j:Int))=true then [D.tup [.int (K:Int),.str (Str.ofString "or")]] else [])=(if j=0 then ([]:List Ln) else [orL K]).map lnD:=by
     by_cases z:j=0
     ·subst z;rfl
     ·rw [if_pos (decide_eq_true (by lia)),if_neg z];rfl
    rw [e1,←List.map_append];have hO:(if j=0 then ([]:List Ln) else [orL K]).length≤1:=by split <;> simp
    generalize hOO:(if j=0 then ([]:List Ln) else [orL K])=O at*;generalize hZ:(X++((K:Int),bB r)::Y)++O=Z at*;have hZl:Z.length≤20000:=by rw [←hZ,List.length_append,List.length_append,List.length_cons];lia
    walk_at "r";obtain ⟨_,e2,n2,g2,rfl,hat2⟩:=oU f t (K+1+(((ao r).take j).map av).sum) ((h++g')++[.lst (Z.map lnD)]) (by have:=iK htm;lia) (hsl t htm) (by lia);refine rv e2 ?_;have hat3:((h++g')++[.lst (Z.map lnD)]++g2)[(h++g').length]?=some (.lst (Z.map lnD)):=by
     rw [List.getElem?_append_left (by simp)];simp
    walk_at "r";refine p8 ?_;walk_at "r";refine ⟨_,_,j6 hat3,j6 hat2,?_,?_⟩
    ·rw [List.length_map,List.length_map,show sizeLine=16777216 from rfl];lia
    rw [hst.1,←Nat.add_assoc (K+1)];refine ⟨_,g'++[.lst (Z.map lnD)]++g2++[.lst (Z.map lnD++(lnL f (K+1+(((ao r).take j).map av).sum) t).map lnD)],_,_,_,rfl,?_,?_,?_⟩
    ·show h++g'++_++g2++_=_;simp only [List.append_assoc]
    ·show h.length≤(h++g'++_++g2).length;simp only [List.length_append];lia
    rw [hst.2,m3,hY,Nat.zero_add,List.length_take,Nat.min_eq_left (by have:=(List.getElem?_eq_some_iff.mp et).1;lia),hOO];rw [show X++((K:Int),bB r)::(Y++(O++lnL f (K+1+(((ao r).take j).map av).sum) t))=Z++lnL f (K+1+(((ao r).take j).map av).sum) t by rw [←hZ];simp];rw [List.map_append];simp
   ·rintro δ h' ⟨n',g',o8,o9,o10,rfl,rfl,hnl',hat'⟩;rw [cq,List.length_map,List.take_length] at hat' ⊢;have hlen:=gE (fx f) K 0 (K+1) (ao r);have h3:=xi r;generalize hY:bI (lnL f) K 0 (K+1) (ao r)=Y at*;walk_at "r";obtain ⟨v,hv,hrep⟩:=t6 (x:=.tup [.int (K:Int),.str (Str.ofString "end")]) (b:=decide (0 < ((ao r).length:Int))) (h:=h++g');refine p8 ?_;walk_at "r";rw [List.length_map];refine rv hv (rv hrep ⟨_,_,j6 hat',rfl,?_,?_⟩)
    ·rw [List.length_map,List.length_append,List.length_cons,show sizeLine=16777216 from rfl]
     split <;> simp <;> lia
    have e1:(if decide (0 < ((ao r).length:Int))=true then [D.tup [.int (K:Int),.str (Str.ofString "end")]] else [])=(if ao r=[] then ([]:List Ln) else [fk K]).map lnD:=by
     cases ao r with
     | nil=>rfl
     | cons y q=>rw [if_pos (decide_eq_true (by simp)),if_neg (by simp)];rfl
    rw [e1,←List.map_append];walk_at "r";rw [show k+av (l.take (i+1))=K+1+((ao r).map av).sum by lia];refine ⟨_,g'++[_],_,_,_,_,_,_,_,rfl,List.append_assoc _ _ _,?_,?_⟩
    ·show h.length≤(h++g').length;simp only [List.length_append];lia
    ·rw [ht1,mZ,hX,hK,dG,hY,←List.append_assoc h g'];simp
  ·rintro δ h' ⟨n,g,o4,o5,o6,o7,o8,o9,o10,rfl,rfl,hnl,hat⟩;walk_at "r";rw [List.length_map,List.take_length] at hat ⊢;exact ⟨n,g,rfl,hat⟩
end Mi
namespace Pg
open PySem Sm L2
noncomputable def bL (d:dW):Str:=Str.join (Str.ofString " ") (Str.ofString "deed"::d.1::d.2.1)
noncomputable def noL (x:Str):Ln:=(-1,x)
noncomputable def bp (f:Nat):Nat->List dW->List Ln
 | _,[]=>[]
 | k,d::ds=>noL (bL d)::(lnL f k d.2.2++(noL (Str.ofString "end")::bp f (k+av d.2.2) ds))
noncomputable def lnP (P:Prog):List Ln:=noL (Str.join (Str.ofString " ") (Str.ofString "locks"::P.names))::bp 8 0 P.deeds
structure ShP (P:Prog):Prop where
 fit:Fit P
 dl:P.deeds.length≤6
 nl:P.names.length≤6
 nm:∀x∈P.names,Sh 8 x
 dd:∀d∈P.deeds,Sh 8 d.1∧d.2.1.length≤3∧(∀x∈d.2.1,Sh 8 x)∧shL 8 d.2.2
 ct:(P.deeds.map fun d=>av d.2.2).sum≤900
noncomputable def ej (ds:List dW):Nat:=(ds.map fun d=>av d.2.2).sum
theorem lC (f:Nat) (d:dW):∀(k:Nat) (x:List dW),bp f k (x++[d])=bp f k x++(noL (bL d)::(lnL f (k+ej x) d.2.2++[noL (Str.ofString "end")]))
 | k,[]=>by simp [bp,ej]
 | k,y::x=>by
  rw [List.cons_append,bp,bp,lC f d (k+av y.2.2) x];simp [ej,Nat.add_assoc]
theorem tJ {d:dW} (h:Sh 8 d.1) (hl:d.2.1.length≤3) (hp:∀x∈d.2.1,Sh 8 x):Sh 100 (bL d):=by
 refine (Sh.join (n:=8) f6 fun x hx=>?_).up (by simp only [List.length_cons];lia);rcases List.mem_cons.mp hx with rfl | hx
 ·exact ⟨by decide+kernel,by decide+kernel⟩
 ·rcases List.mem_cons.mp hx with rfl | hx
  ·exact h
  ·exact hp x hx
theorem iB (f:Nat):∀(k:Nat) (x:List dW),(bp f k x).length≤5*ej x+2*x.length
 | k,[]=>by simp [bp]
 | k,y::x=>by
  have h1:=Mi.fx f k y.2.2;have h2:=iB f (k+av y.2.2) x;rw [bp,List.length_cons,List.length_append,List.length_cons,List.length_cons];simp only [ej,List.map_cons,List.sum_cons] at h2 ⊢
  lia
end Pg
namespace Mi
open PySem Sm L2 Pg
theorem oV {H g:MH} {d:D} (h1:∀n,d≠.ob n) (h2:clD H.length d=true):leave H d (H++g)=some (d,H):=by
 have h3:sE H.length (H++g) d=d:=by
  cases d with
  | ob n=>exact absurd rfl (h1 n)
  | _=>rfl
 unfold leave;rw [h3,List.take_append_of_le_length (Nat.le_refl _),List.take_length,h2,pD];rfl
theorem xR (n:Nat):∀xs:List Ln,clL n (xs.map lnD)=true
 | []=>rfl
 | x::r=>by rw [List.map_cons];show (true&&true&&clL n _)=true;rw [xR n r];rfl
theorem nz {xs ys:List D} {d:D} {h:MH} (e:dB d h=some ys) (hl:xs.length+ys.length≤1000000):aG (.lv xs) d h=some (.lv (xs++ys),h):=by
 unfold aG qy;cases d <;> first | (cases e;done) | skip
 all_goals
  simp only [dB,Option.bind_some] at e ⊢
  first
   | (rw [e];dsimp only [Option.bind_some];rw [if_pos (by rw [show sizeLine=16777216 from rfl];lia)])
   | (cases e;rw [if_pos (by rw [show sizeLine=16777216 from rfl];lia)])
theorem xm {P:Prog} (hP:ShP P) (h:MH):eT [eN P] h=some (.lv ((lnP P).map lnD),h):=by
 have dl:=hP.dl;have nl:=hP.nl;have ct:=hP.ct;have hj:∀(x:Str) (ys:List Str) (H:MH),x.length≤8->ys.length≤6->(∀y∈ys,Sh 8 y)->lz (.str " ") [.tup ((x::ys).map D.str)] H=some (.str (Str.join (Str.ofString " ") (x::ys)),H):=fun x ys H hx hl hy=>by
  refine k3 (ws:=[]) (fun z hz=>?_) (by simp;lia) rfl;rcases List.mem_cons.mp hz with rfl | hz
  ·lia
  ·have:=(hy z hz).1;lia
 refine dC (jW ?_);walk_at "ah";refine ⟨rfl,?_⟩;walk_at "r";refine rv (a:=(.tup (P.names.map D.str),h)) rfl ?_;refine rv (zO (by simp;lia)) ?_;walk_at "r";refine rv (hj (Str.ofString "locks") P.names h (by decide+kernel) nl hP.nm) ?_;walk_at "r";refine ⟨_,_,rfl,?_⟩;walk_at "r";refine mQ ?_;walk_at "r";refine rv (a:=(.tup (P.deeds.map gS),h)) rfl ?_;refine ⟨_,_,rfl,?_⟩;refine cT (fun i δ h'=>∃(g:MH) (o3 o4 o5 o6:Option D),δ=[some (eN P),some (.lv ((noL (Str.join (Str.ofString " ") (Str.ofString "locks"::P.names))::bp 8 0 (P.deeds.take i)).map lnD)),some (.int ((ej (P.deeds.take i):Nat):Int)),o3,o4,o5,o6]∧h'=h++g)
  ⟨[],_,_,_,_,rfl,by simp⟩ (fun _ _ _ _ _=>rfl) ?_ ?_
 ·rintro i x δ h' hx ⟨g,o3,o4,o5,o6,rfl,rfl⟩;rw [List.getElem?_map] at hx;obtain ⟨d,ed,rfl⟩:=Option.map_eq_some_iff.mp hx;obtain ⟨s1,s2,s3,s4⟩:=hP.dd d (List.mem_of_getElem? ed);have nd:=hP.fit.nd d (List.mem_of_getElem? ed);have htk:P.deeds.take (i+1)=P.deeds.take i++[d]:=by rw [List.take_add_one,ed];rfl
  have hc1:ej (P.deeds.take (i+1))=ej (P.deeds.take i)+av d.2.2:=by rw [htk];simp [ej]
  have hcl:ej (P.deeds.take (i+1))≤900:=by
   have:=congrArg ej (List.take_append_drop (i+1) P.deeds);simp only [ej,List.map_append,List.sum_append] at this ⊢
   lia
  have hlen:=iB 8 0 (P.deeds.take i);have hli:=fx 8 (ej (P.deeds.take i)) d.2.2;have htl:(P.deeds.take i).length≤6:=by rw [List.length_take];lia
  generalize hL:noL (Str.join (Str.ofString " ") (Str.ofString "locks"::P.names))::bp 8 0 (P.deeds.take i)=L;have hLl:L.length≤6000:=by rw [←hL,List.length_cons];lia
  generalize hK:ej (P.deeds.take i)=K at*;obtain ⟨nm,ps,rows⟩:=d;dsimp only at s1 s2 s3 s4 nd hc1 hli;show Rn (gT 3 _ (.tup [.str nm,.tup (ps.map D.str),.tup (bY rows)]) _ _) _;walk_at "r";obtain ⟨_,e2,n2,g2,rfl,hat2⟩:=oU 8 rows K (h++g) (by lia) s4 (by lia);refine rv e2 ?_;walk_at "ah";refine ⟨rfl,?_⟩;walk_at "r";refine rv (zO (by simp;lia)) ?_;walk_at "r";refine rv (hj (Str.ofString "deed") (nm::ps) _ (by decide+kernel) (by simp;lia) (by intro y hy;rcases List.mem_cons.mp hy with rfl | hy;exact s1;exact s3 y hy)) ?_;walk_at "r";refine rv (nz (ys:=[lnD (noL (bL (nm,ps,rows)))]) rfl (by simp;lia)) ?_;walk_at "r";refine rv (nz (j6 hat2) (by simp;lia)) ?_;walk_at "r";refine rv (nz (ys:=[lnD (noL (Str.ofString "end"))]) rfl (by simp;lia)) ?_;walk_at "r";rw [hc1,show noL (Str.join (Str.ofString " ") (Str.ofString "locks"::P.names))::bp 8 0 (P.deeds.take (i+1))=L++[noL (bL (nm,ps,rows))]++lnL 8 K rows++[noL (Str.ofString "end")] by rw [htk,lC,←hL,Nat.zero_add,hK];simp];rw [List.map_append,List.map_append,List.map_append];exact ⟨g++g2,_,_,_,_,rfl,List.append_assoc _ _ _⟩
 ·rintro δ h' ⟨g,o3,o4,o5,o6,rfl,rfl⟩;walk_at "r";rw [List.length_map,List.take_length];exact rv (oV (fun n z=>(nomatch z)) (xR _ _)) rfl
end Mi
namespace Pg
open PySem Sm L2
noncomputable def gR (w:Str):Bool:=!((Str.ofString "say"==w)||(Str.ofString "call"==w))
noncomputable def iW (x:Str):Bool:=match Txt.split x (Str.ofString " ") with
 | w::_=>gR w
 | []=>true
noncomputable def runM:Nat->Nat->List Ln->Option (Nat×Nat)
 | d,n,[]=>some (d,n)
 | d,n,x::r=>if x.2=Str.ofString "or" then (if d=0 then none else runM d n r) else if x.2=Str.ofString "end" then (if d=0 then none else runM (d-1) n r) else runM (if iW x.2 then d+1 else d) (if d=0 then n else n+1) r
theorem bO:∀(a b:List Ln) (d n:Nat),runM d n (a++b)=(runM d n a).bind fun p=>runM p.1 p.2 b
 | [],b,d,n=>rfl
 | x::a,b,d,n=>by
  rw [List.cons_append,runM,runM]
  split
  ·split
   ·rfl
   ·exact bO a b d n
  ·split
   ·split
    ·rfl
    ·exact bO a b (d-1) n
   ·exact bO a b _ _
theorem lZ:∀(a:List Ln) (d n d' n':Nat),runM d n a=some (d',n')->d'≤d+a.length∧n'≤n+a.length
 | [],d,n,d',n',e=>by cases e;exact ⟨Nat.le_refl _,Nat.le_refl _⟩
 | x::a,d,n,d',n',e=>by
  rw [runM] at e;rw [List.length_cons]
  split at e
  ·split at e
   ·cases e
   ·have:=lZ a _ _ _ _ e;lia
  ·split at e
   ·split at e
    ·cases e
    ·have:=lZ a _ _ _ _ e;lia
   ·have:=lZ a _ _ _ _ e
    split at this <;> split at this <;> lia
end Pg
namespace Mi
open PySem Sm L2 Pg
theorem qT (L:List Ln) (hl:L.length≤100000) (h:MH):dy [.lv (L.map lnD)] h=some (.lv (L.map fun x=>.str x.2),h):=by
 have e1:bC [none,none] (cU (ae 0)) g2 cN (ae 1) (entry 1 [.lv (L.map lnD)]) h=some (L.map fun x=>.str x.2,h):=
  vG (o:=none) (o2:=none) (t:=[]) (fun x:Ln=>.int x.1) (fun x=>.str x.2) (fun x=>.str x.2) (d:=.lv (L.map lnD)) rfl rfl rfl hl fun x _=>rfl
 exact dC (bV (wC (p5 (rv e1 rfl))))
theorem qr {n:Nat} (hn:0 < n):ixN n (-1)=some (n-1):=by
 unfold ixN;rw [if_neg (by decide),if_pos (by lia)];congr 1
 lia
theorem uH {cs:List Int} (hn:0 < cs.length):∃z,atI (cs.map D.int) (-1)=some (.int z):=by
 unfold atI;rw [List.length_map,qr hn];exact ⟨cs[cs.length-1]'(by lia),by simp only [Option.bind_some,List.getElem?_map];rw [List.getElem?_eq_getElem (by lia)];rfl⟩
theorem z7 {a:D} {xs:List D} {h:MH}:r8 (.lv (a::xs)) (some 1) none h=some (.lv xs,h):=by
 show some (D.lv (cutD (a::xs) (some ((1:Nat):Int)) none),h)=_;unfold cutD;rw [HT.rl,HT.t4,Nat.min_eq_left (by simp)];simp
theorem uX (w:Str) (h:MH):fJ (.str w) (.tup [.str "say",.str "call"]) h=some (.bl (gR w),h):=by
 have h1:∀x:Str,PyData.eqv (.str x) (.str w)=(x==w):=fun x=>by simp [PyData.eqv]
 show some (D.bl (!(([PyData.str (Str.ofString "say"),PyData.str (Str.ofString "call")]).any fun b=>PyData.eqv b (.str w))),h)=_;simp only [List.any_cons,List.any_nil,h1,Bool.or_false];rfl
theorem CC {cs:List Int} {p:Nat} {z:Int}:(cs.map D.int).set p (.int z)=(cs.set p z).map D.int:=by rw [List.map_set]
theorem mX (x0:Ln) (L:List Ln) (hl:L.length≤10000) (hs:∀x∈L,Sh 1000 x.2) (d n:Nat) (hr:runM 0 0 L=some (d,n)) (h:MH):∃m dp:Int,ck [.lv ((x0::L).map fun x=>.str x.2)] h=some (.tup [.int m,.int dp,.int (n:Int)],h):=by
 have e:Rn (ck [.lv ((x0::L).map fun x=>.str x.2)] h) fun p=>∃m dp:Int,p=(.tup [.int m,.int dp,.int (n:Int)],h):=by
  refine jW ?_;walk_at "r";refine mQ ?_;walk_at "r";refine ⟨_,rfl,?_⟩;walk_at "r";refine rv z7 ⟨_,_,rfl,?_⟩;refine cT (fun i δ h'=>∃(cs:List Int) (m dp:Int) (n':Nat) (o5 o6:Option D),δ=[some (.lv ((x0::L).map fun x=>.str x.2)),some (.ob h.length),some (.int m),some (.int dp),some (.int (n':Int)),o5,o6]∧h'=h++[.lst (cs.map D.int)]∧runM 0 0 (L.take i)=some (cs.length,n'))
   ⟨[],0,0,0,_,_,rfl,rfl,rfl⟩ (fun _ _ _ _ _=>rfl) ?_ ?_
  ·rintro i x δ h' hx ⟨cs,m,dp,n',o5,o6,rfl,rfl,hrun⟩;rw [List.getElem?_map] at hx;obtain ⟨y,ey,rfl⟩:=Option.map_eq_some_iff.mp hx;have hy:=hs y (List.mem_of_getElem? ey);have hi:i < L.length:=(List.getElem?_eq_some_iff.mp ey).1;have htk:L.take (i+1)=L.take i++[y]:=by rw [List.take_add_one,ey];rfl
   have hle:=lZ _ _ _ _ _ hrun;rw [List.length_take] at hle;have hstep:∃p,runM cs.length n' [y]=some p∧runM 0 0 (L.take (i+1))=some p:=by
    have h1:runM 0 0 (L.take (i+1))=runM cs.length n' [y]:=by rw [htk,bO,hrun];rfl
    have h2:=bO (L.take (i+1)) (L.drop (i+1)) 0 0;rw [List.take_append_drop,hr] at h2;cases h3:runM 0 0 (L.take (i+1)) with
    | none=>rw [h3] at h2;cases h2
    | some p=>exact ⟨p,by rw [←h1,h3],rfl⟩
   obtain ⟨p,hp,hp'⟩:=hstep;obtain ⟨w,q,hsp⟩:∃w q,Txt.split y.2 (Str.ofString " ")=w::q:=by
    have:=PyProof.Rows.split_pos y.2 (Str.ofString " ");cases hh:Txt.split y.2 (Str.ofString " ") with
    | nil=>rw [hh] at this;simp at this
    | cons w q=>exact ⟨w,q,rfl⟩
   have hop:iW y.2=gR w:=by unfold iW;rw [hsp]
   rw [runM,runM] at hp;have hat:=iR (H:=h) (a:=.lst (cs.map D.int)) rfl;walk_at "ah";refine ⟨rfl,?_⟩;walk_at "r";refine rv (mD hy) ?_;rw [hsp];walk_at "r";refine rv (show fIx (.lv ((w::q).map D.str)) (.int ((0:Nat):Int)) _=_ from bK (x:=w) rfl) ?_;walk_at "ae"
   ·have z:=eq_of_beq z;rw [if_pos z] at hp;have hc:0 < cs.length:=by
     by_cases c:cs.length=0
     ·rw [if_pos c] at hp;cases hp
     ·lia
    rw [if_neg (by lia)] at hp;cases hp;walk_at "r";refine rv (kc hat (by rw [List.length_map];exact qr hc)) ?_;rw [rg rfl,CC];walk_at "r";exact ⟨_,m,dp,n',_,_,rfl,rfl,by rw [hp',List.length_set]⟩
   ·have z0:y.2≠Str.ofString "or":=by intro e;rw [e,beq_self_eq_true] at z;cases z
    rw [if_neg z0] at hp;walk_at "ae"
    ·have z:=eq_of_beq z;rw [if_pos z] at hp;have hc:0 < cs.length:=by
      by_cases c:cs.length=0
      ·rw [if_pos c] at hp;cases hp
      ·lia
     rw [if_neg (by lia)] at hp;cases hp;walk_at "ah";refine ⟨cL hat,?_⟩;walk_at "r";refine rv (a:=(.int (cs[cs.length-1]'(by lia)),h++[.lst (cs.dropLast.map D.int)])) ?_ ?_
     ·unfold zc;dsimp only;rw [hat];dsimp only;rw [List.length_map,List.getElem?_map,List.getElem?_eq_getElem (by lia)];simp only [Option.map_some];rw [rg rfl,List.map_dropLast]
     ·walk_at "r";exact ⟨_,m,dp,n',_,_,rfl,rfl,by rw [hp',List.length_dropLast]⟩
    ·have z1:y.2≠Str.ofString "end":=by intro e;rw [e,beq_self_eq_true] at z;cases z
     rw [if_neg z1,hop] at hp;cases hp;refine iV (Rn.imp (Q:=fun r=>∃(cs':List Int) (m':Int),r=(Fl.nx,[some (.lv ((x0::L).map fun x=>.str x.2)),some (.ob h.length),some (.int m'),some (.int dp),some (.int ((if cs.length=0 then n' else n'+1:Nat):Int)),some (.str y.2),some (.str w)],h++[.lst (cs'.map D.int)])∧cs'.length=cs.length) ?_ ?_)
     ·walk_at "r";refine rv (pd hat) ⟨_,rfl,fun z=>?_,fun z=>?_⟩
      ·have hc:0 < cs.length:=by cases cs with | nil=>cases z | cons _ _=>simp
       obtain ⟨v,hv⟩:=uH hc;walk_at "r";refine rv (fK hat hv) ?_;walk_at "r";refine rv (kc hat (by rw [List.length_map];exact qr hc)) ?_;rw [rg rfl,CC];have hc2:0 < (cs.set (cs.length-1) (v+1)).length:=by rw [List.length_set];exact hc
       obtain ⟨v2,hv2⟩:=uH hc2;have hat2:=iR (H:=h) (a:=.lst ((cs.set (cs.length-1) (v+1)).map D.int)) rfl;walk_at "r";refine rv (fK hat2 hv2) ?_;walk_at "r";refine rv (gG _ _ _) ?_;walk_at "r";refine ⟨_,_,rfl,?_⟩;rw [if_neg (by lia)];exact ⟨_,_,rfl,List.length_set⟩
      ·have hc:cs=[]:=by cases cs with | nil=>rfl | cons _ _=>cases z
       subst hc;walk_at "r";exact ⟨[],m,rfl,rfl⟩
     ·rintro _ ⟨cs',m',rfl,hl'⟩;have hat':=iR (H:=h) (a:=.lst (cs'.map D.int)) rfl;show Rn _ _;walk_at "r";refine rv (uX w _) ?_;walk_at "ae"
      ·rw [if_pos z] at hp';walk_at "ah";refine ⟨cL hat',?_⟩;walk_at "r";refine rv (cK hat' (by rw [List.length_map,show sizeLine=16777216 from rfl];lia)) ?_;rw [rg rfl];have hat3:=iR (H:=h) (a:=.lst (cs'.map D.int++[D.int 0])) rfl;walk_at "r";refine rv (qx hat3) ?_;walk_at "r";refine rv (gG _ _ _) ?_;exact ⟨cs'++[0],m',_,_,_,_,rfl,by rw [List.map_append];rfl,by rw [hp',List.length_append,hl'];rfl⟩
      ·rw [if_neg (by rw [z];simp)] at hp';walk_at "r";exact ⟨cs',m',dp,_,_,_,rfl,rfl,by rw [hp',hl']⟩
  ·rintro δ h' ⟨cs,m,dp,n',o5,o6,rfl,rfl,hrun⟩;rw [List.length_map,List.take_length,hr] at hrun;cases hrun;walk_at "r";exact rv (oV (fun n z=>(nomatch z)) rfl) ⟨m,dp,rfl⟩
 obtain ⟨p,e1,m,dp,rfl⟩:=e;exact ⟨m,dp,e1⟩
end Mi
namespace Pg
open PySem Sm L2
noncomputable def hdB (x:Ln):Bool:=decide (0≤x.1)&&!((Str.ofString "or"==x.2)||(Str.ofString "end"==x.2))
noncomputable def hds (L:List Ln):List Int:=(L.filter hdB).map (·.1)
theorem bJ (a b:List Ln):hds (a++b)=hds a++hds b:=by unfold hds;rw [List.filter_append,List.map_append]
noncomputable def rng (a b:Nat):List Int:=(List.range (b-a)).map fun i=>((a+i:Nat):Int)
theorem fP (a:Nat):rng a a=[]:=by simp [rng]
theorem jT {a b:Nat} (h:a < b):rng a b=(a:Int)::rng (a+1) b:=by
 unfold rng;rw [show b-a=(b-(a+1))+1 by lia,List.range_succ_eq_map,List.map_cons,List.map_map];congr 1;refine List.map_congr_left fun i _=>?_;show ((a+(i+1):Nat):Int)=((a+1+i:Nat):Int)
 lia
theorem gr {b c:Nat} (h2:b≤c):∀(j a:Nat),b-a=j->a≤b->rng a b++rng b c=rng a c
 | 0,a,e,h=>by rw [show a=b by lia,fP,List.nil_append]
 | j+1,a,e,h=>by
  rw [jT (show a < b by lia),jT (show a < c by lia),List.cons_append,gr h2 j (a+1) (by lia) (by lia)]
theorem Bf (n:Nat):hdB (orL n)=false:=by
 unfold hdB orL;simp
theorem zt (n:Nat):hdB (fk n)=false:=by
 unfold hdB fk;simp
theorem BI (n:Nat):hds [orL n]=[]:=by unfold hds;rw [List.filter_cons,Bf];rfl
theorem uu (n:Nat):hds [fk n]=[]:=by unfold hds;rw [List.filter_cons,zt];rfl
structure Sg (N k c:Nat) (L:List Ln):Prop where
 nm:∀x∈L,x.1=(N:Int)∨((k:Int)≤x.1∧x.1 < k+c)
 hd:hds L=rng k (k+c)
 rn:∀d m,1≤d->runM d m L=some (d,m+c)
theorem Sg.nil {N k:Nat}:Sg N k 0 []:=⟨fun x h=>(nomatch h),by rw [Nat.add_zero,fP];rfl,fun d m _=>rfl⟩
theorem Sg.app {N k c c':Nat} {A B:List Ln} (a:Sg N k c A) (b:Sg N (k+c) c' B):Sg N k (c+c') (A++B):=by
 refine ⟨fun x hx=>?_,?_,fun d m hd=>?_⟩
 ·rcases List.mem_append.mp hx with h | h
  ·have:=a.nm x h;lia
  ·have:=b.nm x h;lia
 ·rw [bJ,a.hd,b.hd,←Nat.add_assoc];exact gr (by lia) _ _ rfl (by lia)
 ·rw [bO,a.rn d m hd];show runM d (m+c) B=_;rw [b.rn d _ hd,Nat.add_assoc]
theorem Sg.or {N k:Nat} (n:Nat) (h:n=N):Sg N k 0 [orL n]:=by
 subst h;refine ⟨fun x hx=>.inl (by rw [List.mem_singleton.mp hx];rfl),by rw [BI,Nat.add_zero,fP],fun d m hd=>?_⟩;rw [runM,if_pos (show (orL n).2=Str.ofString "or" from rfl),if_neg (by lia)];rfl
theorem Sg.mono {N N' k c:Nat} {L:List Ln} (a:Sg N k c L) (h:k≤N∧N < k+c):Sg N' k c L:=⟨fun x hx=>by have:=a.nm x hx;lia,a.hd,a.rn⟩
theorem kU (r:Row):ao r=[]↔gR (bN r)=false:=by
 have hw:∀w∈[Str.ofString "within",Str.ofString "all",Str.ofString "ask",Str.ofString "by",Str.ofString "either",Str.ofString "again"],gR w=true:=by decide+kernel
 have hw':∀w∈[Str.ofString "say",Str.ofString "call"],gR w=false:=by decide+kernel
 cases r <;> simp only [ao,bN]
 case say=>simp [hw' (Str.ofString "say") (by simp)]
 case call=>simp [hw' (Str.ofString "call") (by simp)]
 case within=>simp [hw (Str.ofString "within") (by simp)]
 case all=>simp [hw (Str.ofString "all") (by simp)]
 case ask=>simp [hw (Str.ofString "ask") (by simp)]
 case by_=>simp [hw (Str.ofString "by") (by simp)]
 case either=>simp [hw (Str.ofString "either") (by simp)]
 case again=>simp [hw (Str.ofString "again") (by simp)]
theorem pM {g:Nat->List Row->List Ln} {N:Nat}:∀(x:List (List Row)) (j k:Nat),(∀k,∀t∈x,Sg N k (av t) (g k t))->Sg N k (x.map av).sum (bI g N j k x)
 | [],j,k,h=>Sg.nil
 | t::x,j,k,h=>by
  have h1:Sg N k 0 (if j=0 then [] else [orL N]):=by
   by_cases z:j=0
   ·rw [if_pos z];exact Sg.nil
   ·rw [if_neg z];exact Sg.or N rfl
  have h2:=h1.app (h k t (.head _));rw [Nat.zero_add] at h2;have h3:=h2.app (pM x (j+1) (k+av t) fun k u hu=>h k u (.tail _ hu));rw [bI,List.map_cons,List.sum_cons];exact h3
theorem wc {g:Nat->List Row->List Ln} {k:Nat} {r:Row} (hr:shR r) (h:∀k',∀t∈ao r,Sg k k' (av t) (g k' t)):Sg k k (cnt r) (dG g k r):=by
 have hl:=pM (g:=g) (N:=k) (ao r) 0 (k+1) h;obtain ⟨n1,n2⟩:=qv r hr;have n1':bB r≠Str.ofString "or":=by intro e;rw [e,beq_self_eq_true] at n1;cases n1
 have n2':bB r≠Str.ofString "end":=by intro e;rw [e,beq_self_eq_true] at n2;cases n2
 have hop:iW (bB r)=gR (bN r):=by
  obtain ⟨q,e⟩:=jC r hr;unfold iW;rw [e]
 have hc:=eh r;have hh:hdB ((k:Int),bB r)=true:=by
  unfold hdB;rw [decide_eq_true (by lia),Bool.true_and];have a1:(Str.ofString "or"==bB r)=false:=by rw [beq_eq_false_iff_ne];exact Ne.symm n1'
  have a2:(Str.ofString "end"==bB r)=false:=by rw [beq_eq_false_iff_ne];exact Ne.symm n2'
  dsimp only;rw [a1,a2];rfl
 unfold dG;refine ⟨fun x hx=>?_,?_,fun d m hd=>?_⟩
 ·rcases List.mem_cons.mp hx with rfl | hx
  ·exact .inl rfl
  ·rcases List.mem_append.mp hx with hx | hx
   ·have:=hl.nm x hx;lia
   ·left
    split at hx
    ·cases hx
    ·rw [List.mem_singleton.mp hx];rfl
 ·show hds ([((k:Int),bB r)]++(bI g k 0 (k+1) (ao r)++(if ao r=[] then [] else [fk k])))=_;rw [bJ,bJ,hl.hd];have e1:hds [((k:Int),bB r)]=[(k:Int)]:=by unfold hds;rw [List.filter_cons,hh];rfl
  have e2:hds (if ao r=[] then [] else [fk k])=[]:=by
   split
   ·rfl
   ·exact uu k
  rw [e1,e2,List.append_nil,jT (show k < k+cnt r by lia),hc];rw [show k+1+((ao r).map av).sum=k+(1+((ao r).map av).sum) by lia];rfl
 ·rw [runM,if_neg n1',if_neg n2',if_neg (show ¬d=0 by lia),hop,bO]
  by_cases z:ao r=[]
  ·rw [if_pos z,(kU r).mp z,if_neg (by simp),hl.rn d _ hd,z,hc,z];rfl
  ·have z1:gR (bN r)=true:=by
    cases e:gR (bN r) with
    | true=>rfl
    | false=>exact absurd ((kU r).mpr e) z
   rw [if_neg z,z1,if_pos rfl,hl.rn (d+1) _ (by lia)];show runM (d+1) _ [fk k]=_;rw [runM,if_neg (show ¬(fk k).2=Str.ofString "or" from by show ¬Str.ofString "end"=Str.ofString "or";decide+kernel),if_pos (show (fk k).2=Str.ofString "end" from rfl),if_neg (by lia),hc];show some _=some _;congr 2
   lia
theorem tZ {g:Nat->List Row->List Ln}:∀(l:List Row) (k N:Nat),(∀r∈l,shR r)->(∀k' N',∀r∈l,∀t∈ao r,Sg N' k' (av t) (g k' t))->Sg N k (av l) (cE g k l)
 | [],k,N,_,_=>by rw [cE,show av []=0 by simp [av]];exact Sg.nil
 | r::rs,k,N,h1,h2=>by
  have hc:=eh r;have a:=(wc (g:=g) (k:=k) (h1 r (.head _)) fun k' t ht=>h2 k' k r (.head _) t ht).mono (N':=N) ⟨Nat.le_refl _,by lia⟩;have b:=tZ rs (k+cnt r) N (fun r hr=>h1 r (.tail _ hr)) fun k' N' r hr=>h2 k' N' r (.tail _ hr);rw [cE,show av (r::rs)=cnt r+av rs by simp [av]];exact a.app b
theorem lO:∀(f:Nat) (l:List Row) (k N:Nat),bh l≤f->shL f l->Sg N k (av l) (lnL f k l)
 | 0,l,k,N,hn,_=>by
  exfalso;cases l with
  | nil=>rw [bh] at hn;lia
  | cons r rs=>rw [bh] at hn;lia
 | f+1,l,k,N,hn,hs=>tZ l k N (fun r hr=>(hs r hr).1) fun k' N' r hr t ht=>lO f t k' N' (by have:=iL hr;have:=iK ht;lia) ((hs r hr).2 t ht)
def Dec (k c n:Nat) (L:List Ln) (r:Row) (f:Nat):Prop:=∃(pre post:List Ln) (e:Nat),L=pre++(dG (lnL f) n r++post)∧(∀x∈pre,x.1≠(n:Int))∧(∀x∈post,x.1≠(n:Int))∧k≤n∧n+cnt r≤k+c∧hds pre=rng k n∧hds post=rng (n+cnt r) (k+c)∧(∀d m,1≤d->runM d m pre=some (d+e,m+(n-k)))∧(∀d m,1≤d->runM (d+e) m post=some (d,m+(k+c-(n+cnt r))))
theorem cnt_pos' (r:Row):1≤cnt r:=by have:=eh r;lia
theorem Dec.left {k0 c0 c n N f:Nat} {A L:List Ln} {r:Row} (D:Dec (k0+c0) c n L r f) (a:Sg N k0 c0 A) (hN:N≠n):Dec k0 (c0+c) n (A++L) r f:=by
 obtain ⟨pre,post,e,rfl,h1,h2,h3,h4,h5,h6,h7,h8⟩:=D;refine ⟨A++pre,post,e,by rw [List.append_assoc],fun x hx=>?_,h2,by lia,by lia,?_,by rw [h6,Nat.add_assoc],fun d m hd=>?_,fun d m hd=>?_⟩
 ·rcases List.mem_append.mp hx with z | z
  ·have:=a.nm x z;lia
  ·exact h1 x z
 ·rw [bJ,a.hd,h5];exact gr (by lia) _ _ rfl (by lia)
 ·rw [bO,a.rn d m hd];show runM d (m+c0) pre=_;rw [h7 d _ hd];congr 2
  lia
 ·rw [h8 d m hd];congr 2
  lia
theorem Dec.right {k c c' n N f:Nat} {L B:List Ln} {r:Row} (D:Dec k c n L r f) (b:Sg N (k+c) c' B) (hN:N≠n):Dec k (c+c') n (L++B) r f:=by
 obtain ⟨pre,post,e,rfl,h1,h2,h3,h4,h5,h6,h7,h8⟩:=D;have hp:=cnt_pos' r;refine ⟨pre,post++B,e,by simp only [List.append_assoc],h1,fun x hx=>?_,h3,by lia,h5,?_,h7,fun d m hd=>?_⟩
 ·rcases List.mem_append.mp hx with z | z
  ·exact h2 x z
  ·have:=b.nm x z;lia
 ·rw [bJ,b.hd,h6,←Nat.add_assoc k];exact gr (by lia) _ _ rfl (by lia)
 ·rw [bO,h8 d m hd];show runM d _ B=_;rw [b.rn d _ hd];congr 2
  lia
theorem Dec.self {k f:Nat} {r:Row}:Dec k (cnt r) k (dG (lnL f) k r) r f:=
 ⟨[],[],0,by simp,fun x h=>(nomatch h),fun x h=>(nomatch h),Nat.le_refl _,Nat.le_refl _,by rw [fP];rfl,by rw [fP];rfl,fun d m _=>by rw [Nat.sub_self];rfl,fun d m _=>by rw [Nat.sub_self];rfl⟩
theorem Dec.wrap {k c n f:Nat} {L:List Ln} {r r0:Row} (D:Dec (k+1) c n L r f) (h0:shR r0) (hl:ao r0≠[]) (hk:k < n):Dec k (1+c) n (((k:Int),bB r0)::(L++[fk k])) r f:=by
 obtain ⟨pre,post,e,rfl,h1,h2,h3,h4,h5,h6,h7,h8⟩:=D;obtain ⟨n1,n2⟩:=qv r0 h0;have n1':bB r0≠Str.ofString "or":=by intro e;rw [e,beq_self_eq_true] at n1;cases n1
 have n2':bB r0≠Str.ofString "end":=by intro e;rw [e,beq_self_eq_true] at n2;cases n2
 have hop:iW (bB r0)=true:=by
  obtain ⟨q,e⟩:=jC r0 h0;unfold iW;rw [e];show gR (bN r0)=true;cases e:gR (bN r0) with
  | true=>rfl
  | false=>exact absurd ((kU r0).mpr e) hl
 have hh:hdB ((k:Int),bB r0)=true:=by
  unfold hdB;rw [decide_eq_true (by lia),Bool.true_and];have a1:(Str.ofString "or"==bB r0)=false:=by rw [beq_eq_false_iff_ne];exact Ne.symm n1'
  have a2:(Str.ofString "end"==bB r0)=false:=by rw [beq_eq_false_iff_ne];exact Ne.symm n2'
  dsimp only;rw [a1,a2];rfl
 have e1:hds [((k:Int),bB r0)]=[(k:Int)]:=by unfold hds;rw [List.filter_cons,hh];rfl
 refine ⟨((k:Int),bB r0)::pre,post++[fk k],e+1,by simp only [List.append_assoc,List.cons_append],fun x hx=>?_,fun x hx=>?_,by lia,by lia,?_,?_,fun d m hd=>?_,fun d m hd=>?_⟩
 ·rcases List.mem_cons.mp hx with rfl | z
  ·show (k:Int)≠n;lia
  ·exact h1 x z
 ·rcases List.mem_append.mp hx with z | z
  ·exact h2 x z
  ·rw [List.mem_singleton.mp z];show (k:Int)≠n;lia
 ·show hds ([((k:Int),bB r0)]++pre)=_;rw [bJ,e1,h5,jT hk];rfl
 ·rw [bJ,uu,h6,List.append_nil,show k+1+c=k+(1+c) by lia]
 ·rw [runM,if_neg n1',if_neg n2',if_neg (show ¬d=0 by lia),hop,if_pos rfl,h7 (d+1) _ (by lia)];congr 2 <;> lia
 ·rw [bO,show d+(e+1)=(d+1)+e by lia,h8 (d+1) m (by lia)];show runM (d+1) _ [fk k]=_;rw [runM,if_neg (show ¬(fk k).2=Str.ofString "or" from by show ¬Str.ofString "end"=Str.ofString "or";decide+kernel),if_pos (show (fk k).2=Str.ofString "end" from rfl),if_neg (by lia)];show some _=some _;congr 2
  lia
def At (f:Nat) (x:Option (List Nat×Row)) (r:Row):Prop:=(∃path,x=some (path,r))∧shR r∧(∀t∈ao r,shL f t∧bh t≤f)∧f≤8
theorem si {f N:Nat} (ih:∀(l:List Row) (k n:Nat),k≤n->n < k+av l->bh l≤f->shL f l->∃r f',Dec k (av l) n (lnL f k l) r f'∧∀a i,At f' (aM a i l)[n-k]? r):
  ∀(x:List (List Row)) (j k n:Nat),N < k->k≤n->n < k+(x.map av).sum->(∀t∈x,bh t≤f∧shL f t)->∃r f',Dec k (x.map av).sum n (bI (lnL f) N j k x) r f'∧∀p i,At f' (cS p i x)[n-k]? r
 | [],j,k,n,hN,h1,h2,_=>by simp at h2;lia
 | t::x,j,k,n,hN,h1,h2,hx=>by
  rw [List.map_cons,List.sum_cons] at h2 ⊢;have ho:Sg N k 0 (if j=0 then [] else [orL N]):=by
   by_cases z:j=0
   ·rw [if_pos z];exact Sg.nil
   ·rw [if_neg z];exact Sg.or N rfl
  obtain ⟨t1,t2⟩:=hx t (.head _);have hr:=pM (g:=lnL f) (N:=N) x (j+1) (k+av t) fun k u hu=>lO f u k N (hx u (.tail _ hu)).1 (hx u (.tail _ hu)).2;rw [bI]
  by_cases z:n < k+av t
  ·obtain ⟨r,f',D,hA⟩:=ih t k n h1 z t1 t2;have D1:=Dec.left (k0:=k) (c0:=0) D ho (by lia);rw [Nat.zero_add] at D1;refine ⟨r,f',D1.right hr (by lia),fun p i=>?_⟩;rw [cS,List.getElem?_append_left (by rw [aL];lia)];exact hA _ _
  ·obtain ⟨r,f',D,hA⟩:=si (N:=N) ih x (j+1) (k+av t) n (by lia) (by lia) (by lia) fun u hu=>hx u (.tail _ hu);have hs:=ho.app (lO f t k N t1 t2);rw [Nat.zero_add] at hs;refine ⟨r,f',D.left hs (by lia),fun p i=>?_⟩;rw [cS,List.getElem?_append_right (by rw [aL];lia),aL,show n-k-av t=n-(k+av t) by lia];exact hA _ _
theorem xK:∀(f:Nat),f≤8->∀(l:List Row) (k n:Nat),k≤n->n < k+av l->bh l≤f->shL f l->∃r f',Dec k (av l) n (lnL f k l) r f'∧∀a i,At f' (aM a i l)[n-k]? r
 | 0,_,l,k,n,_,_,hn,_=>by
  exfalso;cases l with
  | nil=>rw [bh] at hn;lia
  | cons r rs=>rw [bh] at hn;lia
 | f+1,_,[],k,n,h1,h2,_,_=>by simp [av] at h2;lia
 | f+1,hf,r0::rs,k,n,h1,h2,hn,hs=>by
  have hc0:av (r0::rs)=cnt r0+av rs:=by simp [av]
  have hn0:=iL (lot:=r0::rs) (r:=r0) (.head _);have hnr:bh rs≤f+1:=by rw [bh] at hn;lia
  have hsr:shL (f+1) rs:=fun r hr=>hs r (.tail _ hr);obtain ⟨s1,s2⟩:=hs r0 (.head _);have hcl:=eh r0;have hb:∀N,Sg N (k+cnt r0) (av rs) (lnL (f+1) (k+cnt r0) rs):=fun N=>lO (f+1) rs (k+cnt r0) N hnr hsr;have hx:∀t∈ao r0,bh t≤f∧shL f t:=fun t ht=>⟨by have:=iK ht;lia,s2 t ht⟩;rw [hc0] at h2 ⊢;show ∃r f',Dec k _ n (dG (lnL f) k r0++lnL (f+1) (k+cnt r0) rs) r f'∧_
  by_cases z:n=k
  ·subst z;refine ⟨r0,f,Dec.self.right (hb (n+1)) (by lia),fun a i=>?_⟩;rw [Nat.sub_self,aM];exact ⟨⟨_,rfl⟩,s1,fun t ht=>⟨(hx t ht).2,(hx t ht).1⟩,by lia⟩
  ·by_cases z2:n < k+cnt r0
   ·obtain ⟨r,f',D,hA⟩:=si (N:=k) (fun l k n=>xK f (by lia) l k n) (ao r0) 0 (k+1) n (by lia) (by lia) (by lia) hx;have hl:ao r0≠[]:=by intro e;rw [e] at hcl;simp at hcl;lia
    have D1:=D.wrap s1 hl (by lia);rw [←hcl] at D1;refine ⟨r,f',?_,fun a i=>?_⟩
    ·rw [show dG (lnL f) k r0=((k:Int),bB r0)::(bI (lnL f) k 0 (k+1) (ao r0)++[fk k]) by rw [dG,if_neg hl]];exact D1.right (hb (n+1)) (by lia)
    ·have hlen:(dm (a++[i]) r0).length=cnt r0-1:=by have:=jm (a++[i]) r0;lia
     rw [aM,show n-k=(n-(k+1))+1 by lia,List.getElem?_cons_succ,List.getElem?_append_left (by lia),oM];exact hA _ _
   ·obtain ⟨r,f',D,hA⟩:=xK (f+1) hf rs (k+cnt r0) n (by lia) (by lia) hnr hsr;have hs0:Sg (n+1) k (cnt r0) (dG (lnL f) k r0):=(wc (g:=lnL f) (k:=k) s1 fun k' t ht=>lO f t k' k (hx t ht).1 (hx t ht).2).mono ⟨Nat.le_refl _,by lia⟩;refine ⟨r,f',D.left hs0 (by lia),fun a i=>?_⟩;have hlen:(dm (a++[i]) r0).length=cnt r0-1:=by have:=jm (a++[i]) r0;lia
    rw [aM,show n-k=(n-(k+cnt r0))+(cnt r0-1)+1 by lia,List.getElem?_cons_succ,List.getElem?_append_right (by lia),hlen,show n-(k+cnt r0)+(cnt r0-1)-(cnt r0-1)=n-(k+cnt r0) by lia];exact hA _ _
theorem jD (x:Str):hds [noL x]=[]:=by
 unfold hds;rw [List.filter_cons,show hdB (noL x)=false by unfold hdB noL;rw [decide_eq_false (by show ¬(0:Int)≤-1;decide)];rfl];rfl
theorem nB (d:dW) (m:Nat) (L:List Ln):runM 0 m (noL (bL d)::L)=runM 1 m L:=by
 obtain ⟨rest,e⟩:=kZ (Str.ofString "deed") (d.1::d.2.1) (by simp);have e':(bL d).cps.toList=(Str.ofString "deed").cps.toList++32::rest:=e;rw [show (Str.ofString "deed").cps.toList=[100,101,101,100] by decide+kernel] at e';have n1:bL d≠Str.ofString "or":=by intro z;rw [z,show (Str.ofString "or").cps.toList=[111,114] by decide+kernel] at e';cases e'
 have n2:bL d≠Str.ofString "end":=by intro z;rw [z,show (Str.ofString "end").cps.toList=[101,110,100] by decide+kernel] at e';cases e'
 obtain ⟨q,hq⟩:=lq (x:=bL d) (w:=[100,101,101,100]) (by decide) (.inr e');have ho:iW (bL d)=true:=by unfold iW;rw [hq];show gR (mkS [100,101,101,100])=true;decide+kernel
 rw [runM,if_neg (show ¬(noL (bL d)).2=Str.ofString "or" from n1),if_neg (show ¬(noL (bL d)).2=Str.ofString "end" from n2)];show runM (if iW (bL d)=true then 0+1 else 0) (if 0=0 then m else m+1) L=_;rw [ho];rfl
theorem qA (d m:Nat) (L:List Ln):runM (d+1) m (noL (Str.ofString "end")::L)=runM d m L:=by
 rw [runM,if_neg (show ¬(noL (Str.ofString "end")).2=Str.ofString "or" from by show ¬Str.ofString "end"=Str.ofString "or";decide+kernel),if_pos (show (noL (Str.ofString "end")).2=Str.ofString "end" from rfl),if_neg (by lia)];rfl
def okD (d:dW):Prop:=bh d.2.2≤8∧shL 8 d.2.2
theorem pj (d:dW) (ds:List dW):ej (d::ds)=av d.2.2+ej ds:=by simp [ej]
structure SgD (k c:Nat) (L:List Ln):Prop where
 nm:∀x∈L,x.1=-1∨((k:Int)≤x.1∧x.1 < k+c)
 hd:hds L=rng k (k+c)
 rn:∀m,runM 0 m L=some (0,m+c)
theorem Aa:∀(ds:List dW) (k:Nat),(∀d∈ds,okD d)->SgD k (ej ds) (bp 8 k ds)
 | [],k,_=>⟨fun x h=>(nomatch h),by show _=rng k (k+0);rw [Nat.add_zero,fP];rfl,fun m=>rfl⟩
 | d::ds,k,h=>by
  have a:=lO 8 d.2.2 k 0 (h d (.head _)).1 (h d (.head _)).2;have a':=fun N=>lO 8 d.2.2 k N (h d (.head _)).1 (h d (.head _)).2;have b:=Aa ds (k+av d.2.2) fun d hd=>h d (.tail _ hd);rw [bp,pj];refine ⟨fun x hx=>?_,?_,fun m=>?_⟩
  ·rcases List.mem_cons.mp hx with rfl | hx
   ·exact .inl rfl
   ·rcases List.mem_append.mp hx with z | z
    ·have:=(a' (k+av d.2.2+1)).nm x z;have:=(a' (k+av d.2.2+2)).nm x z
     lia
    ·rcases List.mem_cons.mp z with rfl | z
     ·exact .inl rfl
     ·have:=b.nm x z;lia
  ·show hds ([noL (bL d)]++(lnL 8 k d.2.2++([noL (Str.ofString "end")]++bp 8 (k+av d.2.2) ds)))=_;rw [bJ,bJ,bJ,jD,jD,a.hd,b.hd,List.nil_append,List.nil_append,←Nat.add_assoc];exact gr (by lia) _ _ rfl (by lia)
  ·rw [nB,bO,a.rn 1 m (Nat.le_refl _)];show runM (0+1) _ (noL _::_)=_;rw [qA,b.rn,Nat.add_assoc]
def EJ (k c n:Nat) (L:List Ln) (r:Row) (f:Nat):Prop:=∃(pre post:List Ln) (d:Nat),L=pre++(dG (lnL f) n r++post)∧(∀x∈pre,x.1≠(n:Int))∧(∀x∈post,x.1≠(n:Int))∧n+cnt r≤k+c∧hds pre=rng k n∧hds post=rng (n+cnt r) (k+c)∧1≤d∧(∀m,runM 0 m pre=some (d,m+(n-k)))∧(∀m,runM d m post=some (0,m+(k+c-(n+cnt r))))
theorem zQ:∀(ds:List dW) (k n i:Nat),k≤n->n < k+ej ds->(∀d∈ds,okD d)->∃r f,EJ k (ej ds) n (bp 8 k ds) r f∧(∃j path,(placesFrom i ds)[n-k]?=some (j,path,r))∧shR r∧(∀t∈ao r,shL f t∧bh t≤f)∧f≤8
 | [],k,n,i,h1,h2,_=>by simp [ej] at h2;lia
 | d::ds,k,n,i,h1,h2,h=>by
  have o:=h d (.head _);have b:=Aa ds (k+av d.2.2) fun d hd=>h d (.tail _ hd);rw [pj] at h2 ⊢;rw [bp]
  by_cases z:n < k+av d.2.2
  ·obtain ⟨r,f,⟨pre,post,e,hL,g1,g2,g3,g4,g5,g6,g7,g8⟩,hA⟩:=xK 8 (Nat.le_refl _) d.2.2 k n h1 z o.1 o.2;have hp:=cnt_pos' r;obtain ⟨⟨path,hpath⟩,s1,s2⟩:=hA [] 0;refine ⟨r,f,⟨noL (bL d)::pre,post++(noL (Str.ofString "end")::bp 8 (k+av d.2.2) ds),1+e,by rw [hL];simp only [List.append_assoc,List.cons_append],fun x hx=>?_,fun x hx=>?_,by lia,?_,?_,by lia,fun m=>?_,fun m=>?_⟩,⟨i,path,?_⟩,s1,s2⟩
   ·rcases List.mem_cons.mp hx with rfl | hx
    ·show (-1:Int)≠n;lia
    ·exact g1 x hx
   ·rcases List.mem_append.mp hx with y | y
    ·exact g2 x y
    ·rcases List.mem_cons.mp y with rfl | y
     ·show (-1:Int)≠n;lia
     ·have:=b.nm x y;lia
   ·show hds ([noL (bL d)]++pre)=_;rw [bJ,jD,g5];rfl
   ·show hds (post++([noL (Str.ofString "end")]++bp 8 (k+av d.2.2) ds))=_;rw [bJ,bJ,jD,g6,b.hd,List.nil_append,←Nat.add_assoc k];exact gr (by lia) _ _ rfl (by lia)
   ·rw [nB,g7 1 m (Nat.le_refl _)]
   ·rw [bO,g8 1 m (Nat.le_refl _)];show runM (0+1) _ (noL _::_)=_;rw [qA,b.rn];congr 2
    lia
   ·rw [placesFrom,List.getElem?_append_left (by rw [List.length_map,aL];lia),List.getElem?_map,hpath];rfl
  ·obtain ⟨r,f,⟨pre,post,e,hL,g1,g2,g3,g4,g5,g6,g7,g8⟩,⟨j,path,hpath⟩,s1,s2⟩:=zQ ds (k+av d.2.2) n (i+1) (by lia) (by lia) fun d hd=>h d (.tail _ hd);have a:=lO 8 d.2.2 k (n+1) o.1 o.2;have a':=lO 8 d.2.2 k (n+2) o.1 o.2;refine ⟨r,f,⟨noL (bL d)::(lnL 8 k d.2.2++(noL (Str.ofString "end")::pre)),post,e,by rw [hL];simp only [List.append_assoc,List.cons_append],fun x hx=>?_,g2,by lia,?_,?_,g6,fun m=>?_,fun m=>?_⟩,⟨j,path,?_⟩,s1,s2⟩
   ·rcases List.mem_cons.mp hx with rfl | hx
    ·show (-1:Int)≠n;lia
    ·rcases List.mem_append.mp hx with y | y
     ·have:=a.nm x y;have:=a'.nm x y;lia
     ·rcases List.mem_cons.mp y with rfl | y
      ·show (-1:Int)≠n;lia
      ·exact g1 x y
   ·show hds ([noL (bL d)]++(lnL 8 k d.2.2++([noL (Str.ofString "end")]++pre)))=_;rw [bJ,bJ,bJ,jD,jD,a.hd,g4,List.nil_append,List.nil_append];exact gr (by lia) _ _ rfl (by lia)
   ·rw [g5,Nat.add_assoc]
   ·rw [nB,bO,a.rn 1 m (Nat.le_refl _)];show runM (0+1) _ (noL _::_)=_;rw [qA,g7];congr 2
    lia
   ·rw [g8];congr 2
    lia
   ·rw [placesFrom,List.getElem?_append_right (by rw [List.length_map,aL];lia),List.length_map,aL,show n-k-av d.2.2=n-(k+av d.2.2) by lia];exact hpath
noncomputable def outF (n:Int):Bool->List Ln->List Ln
 | _,[]=>[]
 | b,x::r=>if x.1=n then outF n (!(x.2==Str.ofString "or")) r else if b then x::outF n b r else outF n b r
theorem iz {n:Int}:∀(A B:List Ln),(∀x∈A,x.1≠n)->outF n true (A++B)=A++outF n true B
 | [],B,_=>rfl
 | x::A,B,h=>by rw [List.cons_append,outF,if_neg (h x (.head _)),if_pos rfl,iz A B fun y hy=>h y (.tail _ hy)];rfl
theorem rB {n:Int}:∀(A B:List Ln),(∀x∈A,x.1≠n)->outF n false (A++B)=outF n false B
 | [],B,_=>rfl
 | x::A,B,h=>by rw [List.cons_append,outF,if_neg (h x (.head _)),if_neg (by simp),rB A B fun y hy=>h y (.tail _ hy)]
theorem ud (n:Nat) (b:Bool) (L:List Ln):outF n b (fk n::L)=outF n true L:=by
 rw [outF,if_pos (show (fk n).1=(n:Int) from rfl),show (!((fk n).2==Str.ofString "or"))=true by show (!(Str.ofString "end"==Str.ofString "or"))=true;decide+kernel]
theorem A9 (n:Nat) (b:Bool) (L:List Ln):outF n b (orL n::L)=outF n false L:=by
 rw [outF,if_pos (show (orL n).1=(n:Int) from rfl),show (!((orL n).2==Str.ofString "or"))=false by show (!(Str.ofString "or"==Str.ofString "or"))=false;rw [beq_self_eq_true];rfl]
theorem y2 {n f:Nat} {r:Row} {b:List Row} {gone:List (List Row)} {post:List Ln} (hr:shR r) (hl:∀t∈ao r,shL f t∧bh t≤f) (hb:ao r=b::gone) (hg:gone.length≤1) (hp:∀x∈post,x.1≠(n:Int)):outF n true (dG (lnL f) n r++post)=lnL f (n+1) b++post:=by
 obtain ⟨n1,n2⟩:=qv r hr;have hseg:∀t∈ao r,∀k,n < k->∀x∈lnL f k t,x.1≠(n:Int):=fun t ht k hk x hx=>by
  have a:=(lO f t k (n+1) (hl t ht).2 (hl t ht).1).nm x hx;have a':=(lO f t k (n+2) (hl t ht).2 (hl t ht).1).nm x hx
  lia
 have hpost:outF n true post=post:=by have:=iz (n:=n) post [] hp;simpa [outF] using this
 rw [dG,if_neg (by rw [hb];simp),List.cons_append,outF,if_pos rfl];dsimp only;rw [n1,hb,bI,if_pos rfl,List.nil_append];show outF n true _=_;cases gone with
 | nil=>
  rw [bI,List.append_nil,List.append_assoc,iz _ _ (hseg b (by rw [hb];exact .head _) _ (by lia))];congr 1;show outF n true (fk n::post)=_;rw [ud,hpost]
 | cons e g=>
  obtain rfl:g=[]:=by cases g with | nil=>rfl | cons _ _=>simp at hg
  rw [bI,bI,if_neg (by simp),List.append_nil,List.append_assoc,List.append_assoc,iz _ _ (hseg b (by rw [hb];exact .head _) _ (by lia))];congr 1;show outF n true (orL n::(lnL f (n+1+av b) e++(fk n::post)))=_;rw [A9,rB _ _ (hseg e (by rw [hb];exact .tail _ (.head _)) _ (by lia)),ud,hpost]
end Pg
namespace Sm
open PySem L2
theorem ph {α:Type} {c:TM} {e:EM} {h:MH} {t:DS} (A B f:α->D) (p:α->Bool):∀(xs:List α) (o o2:Option D),(∀x∈xs,c (some (A x)::some (B x)::t) h=some (p x,h))->(∀x∈xs,p x=true->e (some (A x)::some (B x)::t) h=some (f x,h))->bG [] g2 c e (xs.map fun x=>.tup [A x,B x]) (o::o2::t) h=some ((xs.filter p).map f,h)
 | [],o,o2,_,_=>rfl
 | x::r,o,o2,hc,he=>by
  have e2:=ph A B f p r (some (A x)) (some (B x)) (fun y hy=>hc y (List.mem_cons_of_mem _ hy)) fun y hy=>he y (List.mem_cons_of_mem _ hy);show ((c (some (A x)::some (B x)::t) h).bind fun q=>if q.1=true then (e (some (A x)::some (B x)::t) q.2).bind fun y=>(bG [] g2 c e (r.map fun x=>.tup [A x,B x]) (some (A x)::some (B x)::t) y.2).map fun z=>(y.1::z.1,z.2) else bG [] g2 c e (r.map fun x=>.tup [A x,B x]) (some (A x)::some (B x)::t) q.2)=_;rw [hc x List.mem_cons_self];walk_at "ag"
  by_cases z:p x=true
  ·rw [if_pos z,he x List.mem_cons_self z];walk_at "ag";rw [e2,List.filter_cons,if_pos z];rfl
  ·rw [if_neg z,e2,List.filter_cons,if_neg z]
theorem nO {α:Type} {caps:List (Option Nat)} {ei e:EM} {c:TM} {δ t:DS} {o o2:Option D} {h:MH} {d:D} {xs:List α} (A B f:α->D) (p:α->Bool) (hi:ei δ h=some (d,h)) (hs:cZ d h=some (xs.map fun x=>.tup [A x,B x],[])) (hc:kl caps δ=o::o2::t) (hl:xs.length≤100000) (ht:∀x∈xs,c (some (A x)::some (B x)::t) h=some (p x,h)) (he:∀x∈xs,p x=true->e (some (A x)::some (B x)::t) h=some (f x,h)):
  bC caps (cU ei) g2 c e δ h=some ((xs.filter p).map f,h):=by
 unfold bC cU;rw [hi];walk_at "ag";rw [hs];dsimp only [Option.map_some,Option.bind_some];rw [hc,ph A B f p xs o o2 ht he];walk_at "ag";rw [if_pos (by have:=List.length_filter_le p xs;rw [List.length_map,show sizeLine=16777216 from rfl];lia)]
end Sm
namespace Mi
open PySem Sm L2 Pg
theorem Ba (L:List Ln) (hl:L.length≤10000) (n:Int) (h:MH):gM [.lv (L.map lnD),.int n] h=some (.lv ((outF n true L).map lnD),h):=by
 refine dC (jW ?_);walk_at "r";refine ⟨_,_,rfl,?_⟩;walk_at "af";have key:∀(i:Nat),i≤L.length->(outF n true (L.take i)).length≤i:=fun i hi=>by
  have:∀(A:List Ln) (b:Bool),(outF n b A).length≤A.length:=fun A=>by
   induction A with
   | nil=>intro b;simp [outF]
   | cons x A ih=>
    intro b;rw [outF]
    split
    ·have:=ih (!(x.2==Str.ofString "or"));simp;lia
    ·split
     ·have:=ih b;simp;lia
     ·have:=ih b;simp;lia
  have:=this (L.take i) true;rw [List.length_take] at this
  lia
 refine cT (fun i δ h'=>∃(X:List Ln) (b:Bool) (o4 o5:Option D),δ=[some (.lv (L.map lnD)),some (.int n),some (.ob h.length),some (.bl b),o4,o5]∧h'=h++[.lst (X.map lnD)]∧X.length≤i∧X++outF n b (L.drop i)=outF n true L)
  ⟨[],true,_,_,rfl,rfl,Nat.le_refl _,rfl⟩ (fun _ _ _ _ _=>rfl) ?_ ?_
 ·rintro i x δ h' hx ⟨X,b,o4,o5,rfl,rfl,hX,hout⟩;rw [List.getElem?_map] at hx;obtain ⟨y,ey,rfl⟩:=Option.map_eq_some_iff.mp hx;have hi:i < L.length:=(List.getElem?_eq_some_iff.mp ey).1;have hd:L.drop i=y::L.drop (i+1):=by rw [List.drop_eq_getElem_cons hi,(List.getElem?_eq_some_iff.mp ey).2]
  rw [hd,outF] at hout;obtain ⟨a,w⟩:=y;dsimp only at hout;have hat:=iR (H:=h) (a:=.lst (X.map lnD)) rfl;show Rn (gT 2 _ (.tup [.int a,.str w]) _ _) _;walk_at "ae"
  ·have z:=eq_of_beq z;rw [if_pos z] at hout;walk_at "r";refine ⟨_,rfl,fun y=>?_,fun y=>?_⟩
   ·rw [y] at hout;walk_at "r";exact ⟨X,false,_,_,rfl,rfl,by lia,hout⟩
   ·rw [y] at hout;walk_at "r";refine ⟨_,rfl,fun _=>?_,fun y=>?_⟩
    ·walk_at "r";exact ⟨X,true,_,_,rfl,rfl,by lia,hout⟩
    ·rw [z,beq_self_eq_true] at y;cases y
  ·have z0:a≠n:=by intro e;rw [e,beq_self_eq_true] at z;cases z
   rw [if_neg z0] at hout;walk_at "r";refine ⟨fun y=>(nomatch y),fun _=>?_⟩;walk_at "r";refine ⟨_,rfl,fun y=>absurd (eq_of_beq y) z0,fun _=>?_⟩;walk_at "r";refine ⟨b,rfl,fun y=>?_,fun y=>?_⟩
   ·rw [if_pos y] at hout;walk_at "ah";refine ⟨cL hat,?_⟩;walk_at "r";refine rv (cK hat (by rw [List.length_map,show sizeLine=16777216 from rfl];lia)) ?_;rw [rg rfl];walk_at "r";exact ⟨X++[(a,w)],b,_,_,rfl,by rw [List.map_append];rfl,by simp;lia,by rw [List.append_assoc];exact hout⟩
   ·rw [if_neg (by rw [y];simp)] at hout;walk_at "r";exact ⟨X,b,_,_,rfl,rfl,by lia,hout⟩
 ·rintro δ h' ⟨X,b,o4,o5,rfl,rfl,hX,hout⟩;rw [List.length_map,List.drop_length,outF,List.append_nil] at hout;walk_at "r";rw [←hout];exact rv (kY (xR _ _)) rfl
end Mi
namespace Pg
open PySem Sm L2
noncomputable def qb (n c g o:Nat):Int:=if o < n then (o:Int) else if o < n+c then (o:Int)+1 else (o:Int)+1+(g:Int)
noncomputable def lkR:Row->Bool
 | .within _ _=>true
 | .all _ _=>true
 | .ask _ _ _=>true
 | _=>false
theorem xl {r:Row} (h:lkR r=true):∃b gone,ao r=b::gone∧gone.length≤1:=by
 cases r <;> first | (cases h;done) | exact ⟨_,_,rfl,by simp⟩
end Pg
namespace Mi
open PySem Sm L2 Pg
theorem xf (w:Str) (h:MH):fJ (.str w) (.tup [.str "or",.str "end"]) h=some (.bl (!((Str.ofString "or"==w)||(Str.ofString "end"==w))),h):=by
 have h1:∀x:Str,PyData.eqv (.str x) (.str w)=(x==w):=fun x=>by simp [PyData.eqv]
 show some (D.bl (!(([PyData.str (Str.ofString "or"),PyData.str (Str.ofString "end")]).any fun b=>PyData.eqv b (.str w))),h)=_;simp only [List.any_cons,List.any_nil,h1,Bool.or_false]
theorem xr {L:List Ln} (hl:L.length≤10000) {δ:DS} {h:MH} (hd:δ[6]?=some (some (.lv (L.map lnD)))):bC [none,none] (cU (ae 6)) g2 (Sm.iQ (aH (eOp fGe (ae 0) (eK (.int 0)))) (aH (eOp fJ (ae 1) (eFn aW (ab (eK (.str "or")) (ab (eK (.str "end")) aj)))))) (ae 0) δ h=some ((hds L).map D.int,h):=by
 have e:ae 6 δ h=some (.lv (L.map lnD),h):=by unfold ae;rw [hd];rfl
 have:=nO (caps:=[none,none]) (o:=none) (o2:=none) (t:=[]) (xs:=L) (δ:=δ) (h:=h) (c:=Sm.iQ (aH (eOp fGe (ae 0) (eK (.int 0)))) (aH (eOp fJ (ae 1) (eFn aW (ab (eK (.str "or")) (ab (eK (.str "end")) aj)))))) (e:=ae 0) (fun x:Ln=>.int x.1) (fun x=>.str x.2) (fun x=>.int x.1) hdB e rfl rfl (by lia) (fun x _=>?_) (fun x _ _=>rfl)
 ·rw [this];unfold hds;rw [List.map_map];rfl
 ·refine dC (wz ?_);walk_at "ae"
  ·walk_at "r";refine rv (xf x.2 h) ?_;refine ⟨_,rfl,?_⟩;unfold hdB;rw [z,Bool.true_and]
  ·unfold hdB;rw [z,Bool.false_and]
theorem yj {L pre post:List Ln} {n:Nat} {r:Row} (hr:shR r) (hL:L=pre++(((n:Int),bB r)::post)) (hp:∀x∈pre,x.1≠(n:Int)) (hl:L.length≤10000) (h:MH):fC [.lv (L.map lnD),.int (n:Int)] h=some (.str (bN r),h):=by
 have hf:L.filter (fun x=>x.1==(n:Int))=((n:Int),bB r)::post.filter (fun x=>x.1==(n:Int)):=by
  rw [hL,List.filter_append,List.filter_eq_nil_iff.mpr (fun x hx=>by simpa using hp x hx),List.nil_append,List.filter_cons,if_pos (by simp)]
 have e1:bC [none,none,some 1] (cU (ae 0)) g2 (aH (eOp cx (ae 0) (ae 2))) (ae 1) (entry 2 [.lv (L.map lnD),.int (n:Int)]) h=some (((L.filter (fun x=>x.1==(n:Int))).map fun x=>.str x.2),h):=
  nO (o:=none) (o2:=none) (t:=[some (.int (n:Int))]) (fun x:Ln=>.int x.1) (fun x=>.str x.2) (fun x=>.str x.2) (fun x=>x.1==(n:Int)) (d:=.lv (L.map lnD)) rfl rfl rfl (by lia) (fun x _=>rfl) fun x _ _=>rfl
 obtain ⟨q,hq⟩:=jC r hr;refine dC (bV (wC (sO (yD (sO (p5 (rv e1 ?_)))))));rw [hf,List.map_cons];walk_at "r";refine rv (show fIx (.lv ((((n:Int),bB r)::post.filter (fun x=>x.1==(n:Int))).map fun x=>D.str x.2)) (.int ((0:Nat):Int)) _=_ from bK (x:=((n:Int),bB r)) rfl) ⟨rfl,?_⟩;walk_at "r";refine rv (mD ((rW hr).up (by decide))) ?_;rw [hq];walk_at "r";refine rv (show fIx (.lv ((bN r::q).map D.str)) (.int ((0:Nat):Int)) _=_ from bK (x:=bN r) rfl) ?_;walk_at "r"
theorem tf {P:Prog} (hP:Fit P) {n j:Nat} {path:List Nat} {r:Row} (hn:(placesFrom 0 P.deeds)[n]?=some (j,path,r)) (hk:lkR r=true) (hs:shR r) (h:MH):cX [eN P,.int (n:Int)] h=some (.tup [qm j,fS path,aR r],h):=by
 have hlt:n < (placesFrom 0 P.deeds).length:=(List.getElem?_eq_some_iff.mp hn).1;have e1:gK [eN P,.int (n:Int)] h=some (.tup [qm j,fS path,aR r],h):=by
  refine dC (bV ?_);walk_at "r";refine rv (rA hP h) ?_;have ec:nA fLe fLt (eK (D.int 0)) (ae 1) (eFn c5 (ab (ae 2) aj)) (List.set (entry 3 [eN P,D.int (n:Int)]) 2 (some (D.lv ((placesFrom 0 P.deeds).map jo)))) h=some (.bl true,h):=by
   refine dC (wG (rv rfl (rv (a:=(.int (n:Int),h)) rfl (rv rfl ⟨_,rfl,?_⟩))));rw [if_pos (decide_eq_true (show (0:Int)≤n by lia))];refine rv (a:=(.int ((placesFrom 0 P.deeds).map jo).length,h)) rfl (rv rfl ?_);rw [List.length_map];show (D.bl (decide ((n:Int) < (placesFrom 0 P.deeds).length)),h)=_;rw [decide_eq_true (show (n:Int) < (placesFrom 0 P.deeds).length by lia)]
  refine vP (iV (wA (sN (wH (rv ec ⟨true,rfl,?_⟩)))));refine ⟨fun z=>(nomatch z),fun _=>?_⟩;walk_at "r";refine rv (bK hn) ?_;walk_at "r";rfl
 have e2:∃x xs,gL [aR r] h=some (.tup (x::xs),h):=by
  cases r with
  | within l b=>rw [aR];exact ⟨aI l,[],by kernel_rfl⟩
  | ask l b e=>rw [aR];exact ⟨aI l,[],by kernel_rfl⟩
  | all ls b=>
   obtain ⟨l0,ls0,rfl⟩:∃l0 ls0,ls=l0::ls0:=by
    cases ls with
    | nil=>exact absurd rfl hs.2.2
    | cons a b=>exact ⟨a,b,rfl⟩
   rw [aR,List.map_cons];exact ⟨aI l0,ls0.map aI,by kernel_rfl⟩
  | _=>cases hk
 obtain ⟨x,xs,e2⟩:=e2;refine dC (bV ?_);walk_at "r";refine rv e1 ?_;walk_at "r";refine rv e2 ⟨true,rfl,fun z=>(nomatch z),fun _=>?_⟩;walk_at "r"
theorem Bn {P:Prog} (hP:Fit P) {n j:Nat} {path:List Nat} {r:Row} {b:List Row} {gone:List (List Row)} (hn:(placesFrom 0 P.deeds)[n]?=some (j,path,r)) (hk:lkR r=true) (hs:shR r) (hb:ao r=b::gone) (hg:gone.length≤1) (hl:∀t∈ao r,bh t≤8) (hc:cnt r≤1000) (o:Nat) (h:MH):eR [eN P,.int (n:Int),.int (o:Int)] h=some (.int (qb n (av b) (gone.map av).sum o),h):=by
 have hcl:=eh r;rw [hb,List.map_cons,List.sum_cons] at hcl;have hlen:∀(t:List Row) (H:MH),t∈ao r->av t≤1000->bP 8 [.tup (bY t),.tup []] H=some (.lv ((aM [] 0 t).map jY),H):=fun t H ht hc=>jq 8 t [] H (hl t ht) hc (by decide);refine dC (bV ?_);walk_at "r";refine rv (tf hP hn hk hs h) ?_;walk_at "ae"
 ·have z:(o:Int) < n:=of_decide_eq_true z;walk_at "r";unfold qb;rw [if_pos (by lia)]
 ·have z:¬(o:Int) < n:=of_decide_eq_false z;walk_at "r";refine rv (j7 r h) ?_;rw [hb,List.map_cons];refine rv (a:=([some (eN P),some (.int (n:Int)),some (.int (o:Int)),some (qm j),some (fS path),some (aR r),some (td b),some (.lv (gone.map td))],h)) rfl ?_;walk_at "r";refine rv (hlen b h (by rw [hb];exact .head _) (by lia)) ?_;walk_at "r";rw [List.length_map,aL];refine ⟨_,rfl,fun y=>?_,fun y=>?_⟩
  ·have y:(o:Int) < n+av b:=of_decide_eq_true y;walk_at "r";unfold qb;rw [if_neg (by lia),if_pos (by lia)]
  ·have y:¬(o:Int) < n+av b:=of_decide_eq_false y;walk_at "af";refine rv (kh td (fun t=>.int (av t)) gone none fun t ht=>?_) ⟨by rw [List.length_map,show sizeLine=16777216 from rfl];lia,?_⟩
   ·have hct:av t≤1000:=by
     cases gone with
     | nil=>cases ht
     | cons e g=>
      obtain rfl:g=[]:=by cases g with | nil=>rfl | cons _ _=>simp at hg
      rw [List.mem_singleton.mp ht];simp at hcl
      lia
    refine dC ?_;walk_at "r";refine rv (hlen t h (by rw [hb];exact .tail _ ht) hct) ?_;walk_at "r";rw [List.length_map,aL]
   ·walk_at "r";refine rv (a:=(.int ((gone.map av).sum:Nat),h)) ?_ ?_
    ·cases gone with
     | nil=>rfl
     | cons e g=>
      obtain rfl:g=[]:=by cases g with | nil=>rfl | cons _ _=>simp at hg
      simp at hcl;show (if ([(av e:Int)].length≤1000∧([(av e:Int)].all fun n=>decide (-(2^40)≤n)&&decide (n≤2^40))=true) then some (D.int (fR [(av e:Int)]),h) else none)=_;rw [if_pos ⟨by simp,by simp;lia⟩];simp [fR]
    ·walk_at "r";unfold qb;rw [if_neg (by lia),if_neg (by lia)]
end Mi
namespace Pg
open PySem Sm L2
theorem gc {w:Str} (h:1≤w.length∧w.length≤7∧Mi.low w):Sh 8 w:=⟨by lia,Mi.Bx h.2.2⟩
section
variable {W:Wd} {fl:List Int} {odd:Int} {ps:List Str}
theorem lY (hp:∀w∈ps,Sh 8 w) {t:Term} (h:dQ ps t):shT t:=by
 refine ⟨?_,h.2.1,h.2.2⟩;rcases h.1 with e | e
 ·rw [e];exact ⟨by decide+kernel,by decide+kernel⟩
 ·exact hp _ e
theorem qq (ok:Mi.WdOk W fl odd) (hp:∀w∈ps,Sh 8 w) {l:Lock} (h:eI W ps l):shK l:=⟨gc (ok.sn _ h.1),lY hp h.2⟩
theorem Al (ok:Mi.WdOk W fl odd) (hp:∀w∈ps,Sh 8 w) {n:Nat} {r:Row} (h:br W ps n r):shR r∧∀t∈ao r,bE W ps (n+1) t:=by
 cases r with
 | say w=>
  rw [br] at h;refine ⟨?_,fun t ht=>(nomatch ht)⟩;rcases List.mem_append.mp h with z | z
  ·exact gc (ok.sn _ z)
  ·exact gc (ok.sd _ z)
 | call d ts=>
  rw [br] at h;obtain ⟨⟨j,qs,e1,e2,e3⟩,ht⟩:=h;refine ⟨⟨gc (ok.sd _ (List.mem_of_getElem? e1)),by rw [e3];exact ok.p3 qs (List.mem_of_getElem? e2),fun t h=>lY hp (ht t h)⟩,fun t ht=>(nomatch ht)⟩
 | within l b=>rw [br] at h;exact ⟨qq ok hp h.1,fun t ht=>by rw [List.mem_singleton.mp ht];exact h.2.2.2⟩
 | all ls b=>
  rw [br] at h;exact ⟨⟨h.1.2.1,fun l hl=>qq ok hp (h.1.2.2.2 l hl),by intro e;have:=h.1.1;rw [e] at this;simp at this⟩,fun t ht=>by rw [List.mem_singleton.mp ht];exact h.2.2.2⟩
 | ask l b e=>
  rw [br] at h;refine ⟨qq ok hp h.1,fun t ht=>?_⟩;rcases List.mem_cons.mp ht with rfl | ht
  ·exact h.2.2.2.2.1
  ·rw [List.mem_singleton.mp ht];exact h.2.2.2.2.2
 | by_ s t a b c=>
  rw [br] at h;obtain ⟨h1,h2,_,_,_,_,h3,h4,h5⟩:=h;refine ⟨⟨lY hp h1,lY hp h2⟩,fun t ht=>?_⟩;simp only [ao,List.mem_cons,List.not_mem_nil,or_false] at ht;rcases ht with rfl | rfl | rfl
  ·exact h3
  ·exact h4
  ·exact h5
 | either a b=>
  rw [br] at h;obtain ⟨_,_,_,h3,h4⟩:=h;refine ⟨trivial,fun t ht=>?_⟩;simp only [ao,List.mem_cons,List.not_mem_nil,or_false] at ht;rcases ht with rfl | rfl
  ·exact h3
  ·exact h4
 | again a=>rw [br] at h;exact ⟨trivial,fun t ht=>by rw [List.mem_singleton.mp ht];exact h.2.2⟩
theorem xj (ok:Mi.WdOk W fl odd) (hp:∀w∈ps,Sh 8 w):∀(f n:Nat) (l:List Row),bE W ps n l->shL f l
 | 0,_,_,_=>trivial
 | f+1,n,l,h=>fun r hr=>by
  obtain ⟨a,b⟩:=Al ok hp (oO h r hr);exact ⟨a,fun t ht=>xj ok hp f (n+1) t (b t ht)⟩
theorem yM (ok:Mi.WdOk W fl odd) {m:Nat} {P:Prog} (o:OkP W m P) (hm:m≤60):ShP P:=by
 have fit:=o.fit (by lia) ok.d2;refine ⟨fit,by rw [o.dl];exact ok.d2,by rw [o.nm,(eW W.names).length_eq];exact ok.n2,fun x hx=>?_,fun d hd=>?_,Nat.le_trans o.ct (by lia)⟩
 ·rw [o.nm] at hx;exact gc (ok.sn x ((eW W.names).mem_iff.mp hx))
 ·obtain ⟨j,hj⟩:=List.mem_iff_getElem?.mp hd;obtain ⟨e1,e2,e3,_⟩:=o.dd j d hj;have hps:∀w∈d.2.1,Sh 8 w:=fun w hw=>gc (ok.sp d.2.1 (List.mem_of_getElem? e2) w hw);exact ⟨gc (ok.sd _ (List.mem_of_getElem? e1)),ok.p3 _ (List.mem_of_getElem? e2),hps,xj ok hps 8 1 d.2.2 e3⟩
end
theorem De (n:Nat):Sh 1000 (orL n).2:=show Sh 1000 (Str.ofString "or") from ⟨by decide+kernel,by decide+kernel⟩
theorem xG:Sh 1000 (Str.ofString "end"):=⟨by decide+kernel,by decide+kernel⟩
theorem uf {g:Nat->List Row->List Ln} (n:Nat):∀(x:List (List Row)) (j k:Nat),(∀k,∀t∈x,∀y∈g k t,Sh 1000 y.2)->∀y∈bI g n j k x,Sh 1000 y.2
 | [],j,k,_,y,hy=>(nomatch hy)
 | t::x,j,k,h,y,hy=>by
  rw [bI] at hy;rcases List.mem_append.mp hy with z | z
  ·rcases List.mem_append.mp z with z | z
   ·split at z
    ·cases z
    ·rw [List.mem_singleton.mp z];exact De n
   ·exact h k t (.head _) y z
  ·exact uf n x (j+1) (k+av t) (fun k u hu=>h k u (.tail _ hu)) y z
theorem t5 {g:Nat->List Row->List Ln}:∀(l:List Row) (k:Nat),(∀r∈l,shR r∧∀k,∀t∈ao r,∀y∈g k t,Sh 1000 y.2)->∀y∈cE g k l,Sh 1000 y.2
 | [],k,_,y,hy=>(nomatch hy)
 | r::rs,k,h,y,hy=>by
  rw [cE] at hy;rcases List.mem_append.mp hy with z | z
  ·rw [dG] at z;rcases List.mem_cons.mp z with rfl | z
   ·exact (rW (h r (.head _)).1).up (by decide)
   ·rcases List.mem_append.mp z with z | z
    ·exact uf k (ao r) 0 (k+1) (h r (.head _)).2 y z
    ·split at z
     ·cases z
     ·rw [List.mem_singleton.mp z];exact xG
  ·exact t5 rs (k+cnt r) (fun r hr=>h r (.tail _ hr)) y z
theorem m4:∀(f:Nat) (l:List Row) (k:Nat),shL f l->∀x∈lnL f k l,Sh 1000 x.2
 | 0,l,k,_,x,hx=>(nomatch hx)
 | f+1,l,k,hs,x,hx=>t5 l k (fun r hr=>⟨(hs r hr).1,fun k t ht=>m4 f t k ((hs r hr).2 t ht)⟩) x hx
theorem sh:∀(ds:List dW) (k:Nat),(∀d∈ds,Sh 8 d.1∧d.2.1.length≤3∧(∀x∈d.2.1,Sh 8 x)∧shL 8 d.2.2)->∀x∈bp 8 k ds,Sh 1000 x.2
 | [],k,_,x,hx=>(nomatch hx)
 | d::ds,k,h,x,hx=>by
  obtain ⟨a,b,c,e⟩:=h d (.head _);rw [bp] at hx;rcases List.mem_cons.mp hx with rfl | hx
  ·exact (tJ a b c).up (by decide)
  ·rcases List.mem_append.mp hx with z | z
   ·exact m4 8 d.2.2 k e x z
   ·rcases List.mem_cons.mp z with rfl | z
    ·exact xG
    ·exact sh ds (k+av d.2.2) (fun d hd=>h d (.tail _ hd)) x z
end Pg
namespace Mi
open PySem Sm L2 Pg
theorem rT:∀ns:List Int,PyData.eqvAll (ns.map PyData.int) (ns.map PyData.int)=true
 | []=>by simp [PyData.eqvAll]
 | n::r=>by rw [List.map_cons,PyData.eqvAll,rT r];simp [PyData.eqv]
theorem m9:∀ns:List Int,PyData.depthAll (ns.map PyData.int)≤1
 | []=>by simp [PyData.depthAll]
 | n::r=>by have:=m9 r;simp only [List.map_cons,PyData.depthAll,PyData.depth];lia
theorem fQ:∀ns:List Int,pyL (ns.map D.int)=some (ns.map PyData.int)
 | []=>rfl
 | n::r=>by simp only [List.map_cons,pyL,fQ r,pyD,Option.bind_some,Option.map_some]
theorem y9 (ns:List Int) (h:MH):iS (.lv (ns.map D.int)) (.lv (ns.map D.int)) h=some (.bl false,h):=by
 have:=m9 ns;simp only [iS,eqA,c9,eqD,rdD,fQ,pyD,Option.map_some,Option.bind_some];rw [if_pos ⟨show PyData.depthAll _+1≤64 by lia,show PyData.depthAll _+1≤64 by lia⟩];show some (D.bl (!(PyData.eqv (.list (ns.map PyData.int)) (.list (ns.map PyData.int)))),h)=_;rw [show PyData.eqv (.list (ns.map PyData.int)) (.list (ns.map PyData.int))=true by rw [PyData.eqv];exact rT ns];rfl
theorem vi {n c g N:Nat} (h:n+1+c+g≤N):rng 0 n++(rng (n+1) (n+1+c)++rng (n+1+c+g) N)=(List.range (rng 0 n++(rng (n+1) (n+1+c)++rng (n+1+c+g) N)).length).map fun o=>qb n c g o:=by
 have l1:∀a b,(rng a b).length=b-a:=fun a b=>by simp [rng]
 have ge:∀a b i,i < b-a->(rng a b)[i]?=some ((a+i:Nat):Int):=fun a b i hi=>by unfold rng;rw [List.getElem?_map,List.getElem?_range hi];rfl
 refine List.ext_getElem? fun i=>?_;rw [List.getElem?_map]
 by_cases hi:i < (rng 0 n++(rng (n+1) (n+1+c)++rng (n+1+c+g) N)).length
 ·rw [List.getElem?_range hi];simp only [List.length_append,l1] at hi;show _=some (qb n c g i);unfold qb
  by_cases z:i < n
  ·rw [List.getElem?_append_left (by rw [l1];lia),ge _ _ _ (by lia),if_pos z,Nat.zero_add]
  ·rw [List.getElem?_append_right (by rw [l1];lia),l1,if_neg z]
   by_cases z2:i < n+c
   ·rw [List.getElem?_append_left (by rw [l1];lia),ge _ _ _ (by lia),if_pos z2];congr 1
    lia
   ·rw [List.getElem?_append_right (by rw [l1];lia),l1,ge _ _ _ (by lia),if_neg z2];congr 1
    lia
 ·rw [List.getElem?_eq_none (by lia),List.getElem?_eq_none (by simpa using hi)];rfl
theorem DE {h:MH} {s c R:Nat} {cs:List Int} {Q:D×MH->Prop} (S:St s c cs (R+6200) h) (C:Cl h) (k:∀(W:Wd) (fl:List Int) (odd:Int) (m:Nat) (P:Prog) (h1:MH),m≤60->WdOk W fl odd->OkP W m P->Sb s c cs h R h1->Cl h1->Q (eN P,h1)):Rn (gO [.ob s] h) Q:=by
 refine bV ?_;walk_at "r";refine iZ (R:=R+6198+1) (is:=[4,8,12,20,40,60]) (fun i=>0≤i∧i≤60) (by decide) S.sb fun most h1 hm _ A1=>?_;walk_at "r";refine iZ (R:=R+6198) (is:=[0,2,5,9]) (fun i=>0≤i∧i≤9) (by decide) A1 fun odd h2 ho _ A2=>?_;walk_at "r";obtain ⟨m,rfl⟩:=Int.eq_ofNat_of_zero_le hm.1;refine vB (R:=R) (A2.le (by lia)) (C.but A2.S A2.b) ho.1 (by lia) fun W fl P h3 ok okp A3 C3=>?_;walk_at "r";exact k W fl odd m P h3 (by lia) ok okp A3 C3
theorem Ds (r:Row) (h:MH):fIn (.str (bN r)) (.tup [.str "within",.str "all",.str "ask"]) h=some (.bl (lkR r),h):=by
 cases r <;> kernel_rfl
theorem Cl0 (cs:List Int):Cl [.lst (cs.map D.int),.lst [.int 0,.ob 0,.int 0]]:=by
 intro o ho;rcases List.mem_cons.mp ho with rfl | ho
 ·exact dR _ D.int (fun _=>rfl) _
 ·rw [List.mem_singleton.mp ho];rfl
theorem law_true (ns:List Int) (hn:ns.length≤63):∃h',uI [.ro (ns.map D.int)] []=some (.bl true,h'):=by
 have e:Rn (uI [.ro (ns.map D.int)] []) fun p=>p.1=.bl true:=by
  obtain ⟨cs,ed,S0⟩:=tI ns hn 20000 (by decide);refine bV ?_;walk_at "r";refine rv ed ?_;walk_at "r";refine fH ?_;walk_at "r";refine ⟨2,rfl,by decide,by decide,?_⟩;refine cT (fun i δ h=>∃(v2 v3 v4 v5 v6 v7 v8:Option D),δ=[some (.ro (ns.map D.int)),some (.ob 1),v2,v3,v4,v5,v6,v7,v8]∧St 1 0 cs (20000-6200*i) h∧Cl h)
   ⟨_,_,_,_,_,_,_,rfl,S0,Cl0 cs⟩ (fun _ _ _ _ _=>rfl) ?_ ?_
  ·rintro i x δ h hx ⟨v2,v3,v4,v5,v6,v7,v8,rfl,S,C⟩;have hi:i < 2:=by
    have:=(List.getElem?_eq_some_iff.mp hx).1
    simpa using this
   walk_at "r";refine DE (R:=20000-6200*(i+1)) (S.le (by lia)) C fun W fl odd m P h1 hm ok okp A1 C1=>?_;have hP:=yM ok okp hm;have hD:∀d∈P.deeds,okD d:=fun d hd=>⟨Nat.le_trans (hP.fit.nd d hd) (by decide),(hP.dd d hd).2.2.2⟩;have hct:ej P.deeds≤900:=hP.ct;have hlen:=iB 8 0 P.deeds;have hdl:=hP.dl;have hsh:=sh P.deeds 0 hP.dd;have hsg:=Aa P.deeds 0 hD;have hPl:(lnP P).length≤6000:=by rw [lnP,List.length_cons];lia
   walk_at "r";refine rv (xm hP h1) ?_;walk_at "r";refine fH ?_;walk_at "r";refine rv (qT (lnP P) (by lia) h1) ?_;walk_at "r";obtain ⟨m1,dp1,em⟩:=mX (noL (Str.join (Str.ofString " ") (Str.ofString "locks"::P.names))) (bp 8 0 P.deeds) (by lia) hsh 0 (ej P.deeds) (by rw [hsg.rn 0,Nat.zero_add]) h1;refine rv em ?_;walk_at "r";refine ⟨_,rfl,by lia,by lia,?_⟩;refine cT (fun j δ h=>∃(v5 v6 v7 v8:Option D),δ=[some (.ro (ns.map D.int)),some (.ob 1),some x,some (eN P),some (.lv ((lnP P).map lnD)),v5,v6,v7,v8]∧h=h1)
    ⟨_,_,_,_,rfl,rfl⟩ (fun _ _ _ _ _=>rfl) ?_ ?_
   ·rintro n y δ h' hy ⟨v5,v6,v7,v8,rfl,rfl⟩;rw [List.getElem?_map] at hy;obtain ⟨q,eq,rfl⟩:=Option.map_eq_some_iff.mp hy;have hnlt:n < ej P.deeds:=by have:=(List.getElem?_eq_some_iff.mp eq).1;simpa using this
    obtain rfl:q=n:=by
     have:=(List.getElem?_eq_some_iff.mp eq).2
     simpa using this.symm
    obtain ⟨r,f,⟨pre,post,d,hL,g1,g2,g3,g4,g5,g6,g7,g8⟩,⟨j,path,hpl⟩,hsr,hlots,hf8⟩:=zQ P.deeds 0 q 0 (Nat.zero_le _) (by lia) hD;rw [Nat.sub_zero] at hpl;have hLP:lnP P=(noL (Str.join (Str.ofString " ") (Str.ofString "locks"::P.names))::pre)++(dG (lnL f) q r++post):=by rw [lnP,hL];rfl
    have hpre:∀x∈noL (Str.join (Str.ofString " ") (Str.ofString "locks"::P.names))::pre,x.1≠(q:Int):=fun x hx=>by
     rcases List.mem_cons.mp hx with rfl | hx
     ·show (-1:Int)≠q;lia
     ·exact g1 x hx
    walk_at "r";refine rv (yj hsr (post:=_) (hLP.trans rfl) hpre (by lia) h') ?_;walk_at "r";refine rv (Ds r h') ?_;walk_at "ae"
    ·obtain ⟨b,gone,hb,hg⟩:=xl z;have hcl:=eh r;rw [hb,List.map_cons,List.sum_cons] at hcl;have hbm:b∈ao r:=by rw [hb];exact .head _
     generalize hgs:(gone.map av).sum=gs at*;generalize hloc:noL (Str.join (Str.ofString " ") (Str.ofString "locks"::P.names))=loc at*;have hout:outF q true (lnP P)=loc::(pre++(lnL f (q+1) b++post)):=by rw [hLP,iz _ _ hpre,y2 hsr hlots hb hg g2];rfl
     have hsb:=lO f b (q+1) 0 (hlots b hbm).2 (hlots b hbm).1;have hmem:∀x∈pre++(lnL f (q+1) b++post),Sh 1000 x.2:=fun x hx=>by
      rcases List.mem_append.mp hx with y | y
      ·exact hsh x (by rw [hL];exact List.mem_append_left _ y)
      ·rcases List.mem_append.mp y with y | y
       ·exact m4 f b (q+1) (hlots b hbm).1 x y
       ·exact hsh x (by rw [hL];exact List.mem_append_right _ (List.mem_append_right _ y))
     have hll:(pre++(lnL f (q+1) b++post)).length≤9500:=by
      have h1:=congrArg List.length hL;simp only [List.length_append] at h1 ⊢;have:=fx f (q+1) b
      lia
     have hh0:hds [loc]=[]:=by rw [←hloc];exact jD _
     have hhd:hds (loc::(pre++(lnL f (q+1) b++post)))=rng 0 q++(rng (q+1) (q+1+av b)++rng (q+1+av b+gs) (ej P.deeds)):=by
      show hds ([loc]++(pre++(lnL f (q+1) b++post)))=_;rw [bJ,bJ,bJ,hh0,g4,hsb.hd,g5,List.nil_append,Nat.zero_add,show q+cnt r=q+1+av b+gs by lia]
     have hrun:∃d' n',runM 0 0 (pre++(lnL f (q+1) b++post))=some (d',n'):=by
      rw [bO,g7 0];show ∃d' n',runM d (0+(q-0)) (lnL f (q+1) b++post)=some (d',n');rw [bO,hsb.rn d _ g6];exact ⟨_,_,g8 _⟩
     obtain ⟨d',n',hrun⟩:=hrun;have hold:=vi (n:=q) (c:=av b) (g:=gs) (N:=ej P.deeds) (by lia);rw [←hhd] at hold;have hHl:(hds (loc::(pre++(lnL f (q+1) b++post)))).length≤10000:=by
      unfold hds;rw [List.length_map];have:=List.length_filter_le hdB (loc::(pre++(lnL f (q+1) b++post)));rw [List.length_cons] at this
      lia
     generalize hH:hds (loc::(pre++(lnL f (q+1) b++post)))=H at*;refine iV (wB (Aw (rv (a:=([.lv ((lnP P).map lnD),.int (q:Int)],h')) rfl (rv (Ba (lnP P) (by lia) q h') (vP ?_)))));rw [hout];refine iV (wB (p5 (rv (xr (L:=loc::(pre++(lnL f (q+1) b++post))) (by rw [List.length_cons];lia) rfl) (vP ?_))));rw [hH];walk_at "r";refine rv (qT _ (by rw [List.length_cons];lia) h') ?_;walk_at "r";obtain ⟨m2,dp2,em2⟩:=mX loc (pre++(lnL f (q+1) b++post)) (by lia) hmem d' n' hrun h';refine rv em2 ?_;walk_at "r";refine ⟨_,rfl,fun _=>?_,fun _=>?_⟩
     ·clear em em2 hsh hmem hsg hL g1 g2 g4 g5 g6 g7 g8 hLP hpre hout hrun hll hhd hsb hlen hPl;walk_at "r";refine fH ?_;walk_at "r";refine ⟨(H.length:Int),by rw [List.length_map],by lia,by lia,?_⟩;rw [Int.toNat_natCast];refine rv (kh (t:=[some (.int (q:Int)),some (eN P)]) (fun o:Nat=>D.int (o:Int)) (fun o=>.int (qb q (av b) gs o)) (List.range H.length) none fun o _=>by rw [←hgs];exact Bn hP.fit hpl z hsr hb hg (fun t ht=>Nat.le_trans (hlots t ht).2 hf8) (by lia) o h') ⟨by rw [List.length_map,List.length_range,show sizeLine=16777216 from rfl];lia,?_⟩;have hfm:(List.range H.length).map (fun o=>D.int (qb q (av b) gs o))=H.map D.int:=by
       have:=congrArg (List.map D.int) hold;rw [List.map_map] at this;exact this.symm
      rw [hfm];walk_at "r";refine rv (y9 H h') ?_;walk_at "r";refine ⟨false,rfl,fun y=>(nomatch y),fun _=>?_⟩;have ea:bC [none] (cU (ae 8)) (gN 0) cN (eFn zq (ab (ae 0) (ab (eK (.ty "int")) aj))) [some (.ro (ns.map D.int)),some (.ob 1),some x,some (eN P),some (.lv ((lnP P).map lnD)),some (.int (q:Int)),some (.lv ((loc::(pre++(lnL f (q+1) b++post))).map lnD)),some (.lv (H.map D.int)),some (.lv (H.map D.int))] h'=some (H.map fun _=>.bl true,h'):=
       lg (t:=[]) (o:=none) D.int (fun _=>.bl true) (d:=.lv (H.map D.int)) rfl rfl rfl (by lia) fun y _=>rfl
      refine sN (wy (Aw (p6 (p5 (rv ea (t9 ?_))))));refine rv (zr (fun _=>true) H h') ?_;rw [List.all_eq_true.mpr fun _ _=>rfl];refine ⟨true,rfl,fun y=>(nomatch y),fun _=>?_⟩;walk_at "r";exact ⟨_,_,_,_,rfl,rfl⟩
     ·walk_at "r";exact ⟨_,_,_,_,rfl,rfl⟩
    ·walk_at "r";exact ⟨_,_,_,_,rfl,rfl⟩
   ·rintro δ h' ⟨v5,v6,v7,v8,rfl,rfl⟩;walk_at "r";exact ⟨_,_,_,_,_,_,_,rfl,A1.S,C1⟩
  ·rintro δ h ⟨v2,v3,v4,v5,v6,v7,v8,rfl,S,C⟩;walk_at "r"
 obtain ⟨⟨d,h'⟩,e1,rfl⟩:=e;exact ⟨h',e1⟩
end Mi
open PySem PySem.W PyProof.Rows
theorem Mi.Ez:defOf Mi.view "law"=some (Hd.oH "law" Mi.lu,[]):=by kernel_rfl
theorem Mi.hp:PySem.Program.theDef Mi.pw "law"=some (L2.ke Mi.lu,L2.gH Mi.lu,L2.ay Mi.lu):=by kernel_rfl
theorem PySem.Challenge.cw_neverstuck_k74_old_numbers_holds : PySem.Challenge.rw_neverstuck_k74_old_numbers.Holds := by
 refine holds_law Mi.Ah fun Ah=>?_;refine PySem.W.holds_open (q:=Mi.view) (loose:=["SHAPES"]) (Xt:=Mi.Xt) (XP:=XL Mi.view []) (Yf:=Mi.Yf) (Ya:=Mi.ya) (YP:=fun w h=>Hd.tabAt h "SHAPES"=Mi.ya w) (N:=20000) (d:=Hd.oH "law" Mi.lu) (kwd:=[]) Mi.left (fun _ _ e=>e) (fun _ _ _ y k=>Hd.sF k y) (fun s e=>xl_of s (Bool.and_eq_true_iff.mp e).1) XL.keeps Mi.Ez Mi.hp (by kernel_rfl) (fun s e=>recFacts_of (Bool.and_eq_true_iff.mp e).2) (by kernel_rfl) Ah (by decide+kernel) ⟨rfl,rfl,rfl,rfl,rfl,by decide+kernel⟩ (by w_witness2) ?_;exact Hd.BJ (k:=29) (by kernel_rfl) (by kernel_rfl) ⟨rfl,by decide,by decide⟩ fun w s₀ mg mb h G Y=>Mi.all_mk G.T Y Mi.law_true
